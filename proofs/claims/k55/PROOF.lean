import PyProof.Rows.All
import Wide.All
import OpenK.AllK
import Wide.FinOn
import HandS.ForMost
import HandS.IsInst
import HandS.EndBits
import PyProof.ReprRoads
import HandS.Walk
import HandS.TupAny
import HandS.Style
import HandS.Dict
import KE.KDictPairs
import HandS.ExcInit
import HandS.ExcField
import HandS.TryOnly
import HandS.WordsExc
import HandS.ExcOwn
import HandS.Flow
import KE.KExcIs
import HandS.Lambda
import PyProof.StrBlock2
import HandS.Text
import HandS.Wide
import HandS.TupLe
import PyProof.Rows.IntBool
import HandS.TupLen
import HandS.WordsDict
import HandS.Iter
import KE.GoesEnum
import HandS.Set
import HandS.SetFor
import HandS.More
import HandS.Strs
import HandS.Zip
import HandS.StrMore
import HandS.DictComp
import HandS.Sort
import PyProof.Rows.SortShellAny
import PyProof.SetRoads
import HandS.SortOrd
import HandS.SortRule
import PyProof.Rows.SortKeyStr
import HandS.Star
import KE.KDictDisplayH
import PyProof.AutoSeq1
import HandS.Conv
import KE.SortData
import HandS.DictTup
import HandS.Defaults
import HandS.TupMul
import KE.GoesZip
import KE.GoesMore
import KE.KDictSum
import KE.KEqDict
import HandS.ExcIs
import PySem.Challenge.RW_storeways_k55_merged
set_option Elab.async false
set_option linter.all false
set_option maxRecDepth 100000
set_option maxHeartbeats 4000000
namespace Sw
open PySem PySem.Spec PyProof.Rows L2
/-- repr of data at a place, where no repr is under way -/
def rRepr (K : PySem.W.Frag) : List V → Hp → VK → Prop := fun xs H Q =>
  ∃ (a : Addr) (d : PyData), xs = [.ref a] ∧ Dp K H (.ref a) d ∧ d.showable = true ∧ d.hasDict = false ∧ d.depth ≤ 60 ∧ d.shown.length ≤ sizeLine ∧ Q (.str d.shown) H
theorem call_repr {X : Cx} (hg : X.A.guards = some []) (hu : X.A.units + 64 < cLine) : CallR X (.builtin "repr") (rRepr X.K) := by
  intro pins s σ H xs us Q I r h
  obtain ⟨a, d, rfl, hd, h1, h2, h3, h4, q⟩ := h
  cases r with
  | cons r0 r1 =>
    cases r1
    cases (show _ = Value.ref a from r0)
    obtain ⟨as, rd⟩ := Dp.reads I d _ _ hd rfl
    exact repr_of_reads' rd h1 (PyData.noDict_hsm h2) hg (by omega) (fun b o e => e) (fun h' u tk k => ⟨.str d.shown, H, I.kept k, ⟨u, rfl⟩, q⟩) h4
end Sw
set_option maxRecDepth 100000
set_option maxHeartbeats 4000000
namespace Sw
open PySem PySem.Spec PyProof.Rows L2
theorem same_new {H : Hp} {p : Addr} {o : HO} (h : H p = none) : Same H (upd H p o) := fun b x e => by
  rw [upd_ne (ne_of_none e h)]
  exact e
/-- a text's signs as its walk's items -/
theorem walk_signs {z : Str} : Walk (Its z) z.cps.size (fun _ => True) (YAt (z.cps.toList.map fun c => V.str ⟨#[c]⟩)) := by
  refine ⟨walk_str.goes, walk_str.stops, fun i H x H' hi hg y => ?_⟩
  obtain ⟨rfl, c, hc, rfl⟩ := walk_str.yields i H x H' hi hg y
  refine ⟨rfl, ?_⟩
  rw [List.getElem?_map, Array.getElem?_toList, hc]
  rfl
end Sw
set_option maxRecDepth 100000
set_option maxHeartbeats 4000000
namespace Sw
open PySem PySem.Spec PyProof.Rows L2
mutual
/-- leaves: ints at most M, texts of ASCII; no dict -/
def leaf (M : Nat) : PyData → Bool
  | .none | .bool _ => true
  | .int i => decide (i.natAbs ≤ M)
  | .str x => x.cps.toList.all (fun c => decide (c < 128))
  | .list xs | .tuple xs => leafAll M xs
  | .dict _ => false
def leafAll (M : Nat) : List PyData → Bool
  | [] => true
  | x :: xs => leaf M x && leafAll M xs
end
mutual
/-- no list or tuple in it is longer than l -/
def lens (l : Nat) : PyData → Bool
  | .none | .bool _ | .int _ | .str _ => true
  | .list xs | .tuple xs => decide (xs.length ≤ l) && lensAll l xs
  | .dict _ => false
def lensAll (l : Nat) : List PyData → Bool
  | [] => true
  | x :: xs => lens l x && lensAll l xs
end
mutual
/-- at least as much as its text is long -/
def wt : PyData → Nat
  | .none | .bool _ => 5
  | .int _ => 250
  | .str x => 10 * x.length + 5
  | .list xs | .tuple xs => wtAll xs + 5
  | .dict _ => 0
def wtAll : List PyData → Nat
  | [] => 0
  | x :: xs => wt x + 2 + wtAll xs
end
theorem leaf_str {M : Nat} {x : Str} : leaf M (.str x) = true ↔ ∀ c ∈ x.cps.toList, c < 128 := by
  simp only [leaf, List.all_eq_true, decide_eq_true_eq]
theorem leafAll_iff {M : Nat} : ∀ {xs : List PyData}, leafAll M xs = true ↔ ∀ x ∈ xs, leaf M x = true
  | [] => by simp [leafAll]
  | x :: xs => by simp [leafAll, leafAll_iff (xs := xs)]
theorem lensAll_iff {l : Nat} : ∀ {xs : List PyData}, lensAll l xs = true ↔ ∀ x ∈ xs, lens l x = true
  | [] => by simp [lensAll]
  | x :: xs => by simp [lensAll, lensAll_iff (xs := xs)]
theorem depthAll_iff {n : Nat} : ∀ {xs : List PyData}, PyData.depthAll xs ≤ n ↔ ∀ x ∈ xs, x.depth ≤ n
  | [] => by simp [PyData.depthAll]
  | x :: xs => by simp [PyData.depthAll, depthAll_iff (xs := xs), Nat.max_le]
theorem depth_tuple {n : Nat} {xs : List PyData} : (PyData.tuple xs).depth ≤ n + 1 ↔ ∀ x ∈ xs, x.depth ≤ n := by
  simp [PyData.depth, depthAll_iff]
theorem depth_list {n : Nat} {xs : List PyData} : (PyData.list xs).depth ≤ n + 1 ↔ ∀ x ∈ xs, x.depth ≤ n := by
  simp [PyData.depth, depthAll_iff]
mutual
theorem leaf_noDict {M : Nat} : ∀ d : PyData, leaf M d = true → d.hasDict = false
  | .none, _ => by simp [PyData.hasDict]
  | .bool _, _ => by simp [PyData.hasDict]
  | .int _, _ => by simp [PyData.hasDict]
  | .str _, _ => by simp [PyData.hasDict]
  | .list xs, h => by simpa [PyData.hasDict] using leafAll_noDict xs (by simpa [leaf] using h)
  | .tuple xs, h => by simpa [PyData.hasDict] using leafAll_noDict xs (by simpa [leaf] using h)
  | .dict _, h => by simp [leaf] at h
theorem leafAll_noDict {M : Nat} : ∀ xs : List PyData, leafAll M xs = true → PyData.hasDictAll xs = false
  | [], _ => by simp [PyData.hasDictAll]
  | x :: xs, h => by
    have h' : leaf M x = true ∧ leafAll M xs = true := by simpa [leafAll] using h
    simp [PyData.hasDictAll, leaf_noDict x h'.1, leafAll_noDict xs h'.2]
end
mutual
theorem leaf_canLay {M : Nat} : ∀ d : PyData, leaf M d = true → d.canLay0 = true
  | .none, _ => by simp [PyData.canLay0]
  | .bool _, _ => by simp [PyData.canLay0]
  | .int _, _ => by simp [PyData.canLay0]
  | .str x, h => by
    have h' := leaf_str.mp h
    simp only [PyData.canLay0, PyData.strOk, Array.all_eq_true_iff_forall_mem, decide_eq_true_eq]
    intro c hc
    have := h' c (by simpa using hc)
    omega
  | .list xs, h => by simpa [PyData.canLay0] using leafAll_canLay xs (by simpa [leaf] using h)
  | .tuple xs, h => by simpa [PyData.canLay0] using leafAll_canLay xs (by simpa [leaf] using h)
  | .dict _, h => by simp [leaf] at h
theorem leafAll_canLay {M : Nat} : ∀ xs : List PyData, leafAll M xs = true → PyData.canLayAll0 xs = true
  | [], _ => by simp [PyData.canLayAll0]
  | x :: xs, h => by
    have h' : leaf M x = true ∧ leafAll M xs = true := by simpa [leafAll] using h
    simp [PyData.canLayAll0, leaf_canLay x h'.1, leafAll_canLay xs h'.2]
end
mutual
theorem leaf_shows {M : Nat} (hM : M < 2 ^ 1920) : ∀ d : PyData, leaf M d = true → d.showable = true
  | .none, _ => by simp [PyData.showable]
  | .bool _, _ => by simp [PyData.showable]
  | .int i, h => by
    have h' : i.natAbs ≤ M := by simpa [leaf] using h
    simp only [PyData.showable, decide_eq_true_eq]
    exact log2_small (Nat.lt_of_le_of_lt h' hM)
  | .str x, h => by simp [PyData.showable]
  | .list xs, h => by simpa [PyData.showable] using leafAll_shows hM xs (by simpa [leaf] using h)
  | .tuple xs, h => by simpa [PyData.showable] using leafAll_shows hM xs (by simpa [leaf] using h)
  | .dict _, h => by simp [leaf] at h
theorem leafAll_shows {M : Nat} (hM : M < 2 ^ 1920) : ∀ xs : List PyData, leafAll M xs = true → PyData.showableAll xs = true
  | [], _ => by simp [PyData.showableAll]
  | x :: xs, h => by
    have h' : leaf M x = true ∧ leafAll M xs = true := by simpa [leafAll] using h
    simp [PyData.showableAll, leaf_shows hM x h'.1, leafAll_shows hM xs h'.2]
end
mutual
theorem shown_wt {M : Nat} (hM : M < 10 ^ 240) : ∀ d : PyData, leaf M d = true → d.shown.length ≤ wt d
  | .none, _ => by simp only [PyData.shown, wt]; decide +kernel
  | .bool b, _ => by cases b <;> (simp only [PyData.shown, wt]; decide +kernel)
  | .int i, h => by
    have h' : i.natAbs ≤ M := by simpa [leaf] using h
    have e := int_text_length_le10 (k := 240) (by decide) (Nat.lt_of_le_of_lt h' hM)
    simp only [PyData.shown, wt]
    rw [PySem.ofString_length]
    omega
  | .str x, h => by
    have h' := leaf_str.mp h
    have e := StrLaws.reprText_len x (fun c hc => by have := h' c hc; omega)
    simp only [PyData.shown, wt]
    omega
  | .list xs, h => by
    have e1 := listText_len_le (PyData.shownAll xs)
    have e2 := shownAll_wt hM xs (by simpa [leaf] using h)
    rw [PyData.shownAll_length] at e1
    simp only [PyData.shown, wt]
    omega
  | .tuple xs, h => by
    have e1 := tupleText_len_le (PyData.shownAll xs)
    have e2 := shownAll_wt hM xs (by simpa [leaf] using h)
    rw [PyData.shownAll_length] at e1
    simp only [PyData.shown, wt]
    omega
  | .dict _, h => by simp [leaf] at h
theorem shownAll_wt {M : Nat} (hM : M < 10 ^ 240) : ∀ xs : List PyData, leafAll M xs = true → ((PyData.shownAll xs).map (·.length)).sum + 2 * xs.length ≤ wtAll xs
  | [], _ => by simp [PyData.shownAll, wtAll]
  | x :: xs, h => by
    have h' : leaf M x = true ∧ leafAll M xs = true := by simpa [leafAll] using h
    have e1 := shown_wt hM x h'.1
    have e2 := shownAll_wt hM xs h'.2
    simp only [PyData.shownAll, wtAll, List.map_cons, List.sum_cons, List.length_cons]
    omega
end
mutual
theorem leaf_mono {M N : Nat} (h : M ≤ N) : ∀ d : PyData, leaf M d = true → leaf N d = true
  | .none, _ => by simp [leaf]
  | .bool _, _ => by simp [leaf]
  | .int i, e => by
    have e' : i.natAbs ≤ M := by simpa [leaf] using e
    simp only [leaf, decide_eq_true_eq]; omega
  | .str _, e => by simpa [leaf] using e
  | .list xs, e => by simpa [leaf] using leafAll_mono h xs (by simpa [leaf] using e)
  | .tuple xs, e => by simpa [leaf] using leafAll_mono h xs (by simpa [leaf] using e)
  | .dict _, e => by simp [leaf] at e
theorem leafAll_mono {M N : Nat} (h : M ≤ N) : ∀ xs : List PyData, leafAll M xs = true → leafAll N xs = true
  | [], _ => by simp [leafAll]
  | x :: xs, e => by
    have e' : leaf M x = true ∧ leafAll M xs = true := by simpa [leafAll] using e
    simp [leafAll, leaf_mono h x e'.1, leafAll_mono h xs e'.2]
end
mutual
theorem lens_mono {k l : Nat} (h : k ≤ l) : ∀ d : PyData, lens k d = true → lens l d = true
  | .none, _ => by simp [lens]
  | .bool _, _ => by simp [lens]
  | .int _, _ => by simp [lens]
  | .str _, _ => by simp [lens]
  | .list xs, e => by
    have e' : xs.length ≤ k ∧ lensAll k xs = true := by simpa [lens] using e
    simp only [lens, Bool.and_eq_true, decide_eq_true_eq]
    exact ⟨by omega, lensAll_mono h xs e'.2⟩
  | .tuple xs, e => by
    have e' : xs.length ≤ k ∧ lensAll k xs = true := by simpa [lens] using e
    simp only [lens, Bool.and_eq_true, decide_eq_true_eq]
    exact ⟨by omega, lensAll_mono h xs e'.2⟩
  | .dict _, e => by simp [lens] at e
theorem lensAll_mono {k l : Nat} (h : k ≤ l) : ∀ xs : List PyData, lensAll k xs = true → lensAll l xs = true
  | [], _ => by simp [lensAll]
  | x :: xs, e => by
    have e' : lens k x = true ∧ lensAll k xs = true := by simpa [lensAll] using e
    simp [lensAll, lens_mono h x e'.1, lensAll_mono h xs e'.2]
end
/-- data of this size: ints at most M, sequences at most l long, n deep, B heavy -/
structure Fit (M l n B : Nat) (d : PyData) : Prop where
  lf : leaf M d = true
  ln : lens l d = true
  dp : d.depth ≤ n
  wg : wt d ≤ B
theorem Fit.mono {M l n B M' l' n' B' : Nat} {d : PyData} (h : Fit M l n B d) (h1 : M ≤ M') (h2 : l ≤ l') (h3 : n ≤ n') (h4 : B ≤ B') : Fit M' l' n' B' d :=
  ⟨leaf_mono h1 d h.lf, lens_mono h2 d h.ln, Nat.le_trans h.dp h3, Nat.le_trans h.wg h4⟩
theorem Fit.none {M l n B : Nat} (h : 5 ≤ B) : Fit M l n B .none := ⟨rfl, rfl, Nat.zero_le _, h⟩
theorem Fit.bool {M l n B : Nat} {b : Bool} (h : 5 ≤ B) : Fit M l n B (.bool b) := ⟨rfl, rfl, Nat.zero_le _, h⟩
theorem Fit.int {M l n B : Nat} {i : Int} (hi : i.natAbs ≤ M) (h : 250 ≤ B) : Fit M l n B (.int i) := ⟨by simpa [leaf] using hi, rfl, Nat.zero_le _, h⟩
theorem Fit.str {M l n B : Nat} {x : Str} (hx : ∀ c ∈ x.cps.toList, c < 128) (h : 10 * x.length + 5 ≤ B) : Fit M l n B (.str x) := ⟨leaf_str.mpr hx, rfl, Nat.zero_le _, h⟩
theorem Fit.tup {M l n B : Nat} {xs : List PyData} (hl : xs.length ≤ l) (h : ∀ x ∈ xs, leaf M x = true ∧ lens l x = true ∧ x.depth ≤ n) (hw : wtAll xs + 5 ≤ B) : Fit M l (n + 1) B (.tuple xs) :=
  ⟨by simpa [leaf] using leafAll_iff.mpr fun x hx => (h x hx).1, by simp only [lens, Bool.and_eq_true, decide_eq_true_eq]; exact ⟨hl, lensAll_iff.mpr fun x hx => (h x hx).2.1⟩, depth_tuple.mpr fun x hx => (h x hx).2.2, by simpa [wt] using hw⟩
theorem Fit.lst {M l n B : Nat} {xs : List PyData} (hl : xs.length ≤ l) (h : ∀ x ∈ xs, leaf M x = true ∧ lens l x = true ∧ x.depth ≤ n) (hw : wtAll xs + 5 ≤ B) : Fit M l (n + 1) B (.list xs) :=
  ⟨by simpa [leaf] using leafAll_iff.mpr fun x hx => (h x hx).1, by simp only [lens, Bool.and_eq_true, decide_eq_true_eq]; exact ⟨hl, lensAll_iff.mpr fun x hx => (h x hx).2.1⟩, depth_list.mpr fun x hx => (h x hx).2.2, by simpa [wt] using hw⟩
theorem Fit.shaped {M l n B : Nat} {d : PyData} (h : Fit M l n B d) (hn : n ≤ 64) : SeqAt.shaped d = true := by
  unfold SeqAt.shaped
  rw [leaf_canLay d h.lf, Bool.true_and, decide_eq_true_eq]
  exact Nat.le_trans h.dp hn
end Sw
set_option maxRecDepth 100000
set_option maxHeartbeats 4000000
namespace Sw
open PySem PySem.Spec PyProof.Rows L2
/-- a def of the text, how it binds, where it stands -/
structure Df (K : PySem.W.Frag) (mg : Str → Option Value) (x : Str) (st : Stmt) (ps : List Str) (f : Addr) (fd : FuncData) : Prop where
  fn : Fun K x x st f fd
  bd : Binds K fd ps []
  gl : mg x = some (.ref f)
def okSign (c : Nat) : Bool := decide (97 ≤ c) && decide (c ≤ 122)
end Sw
set_option maxRecDepth 100000
set_option maxHeartbeats 4000000
namespace Pm
open PySem PySem.Spec PyProof.Rows L2 Sw
abbrev tupB (its : List Value) : Obj := { cls := .type "tuple", data := .seq its.toArray }
/-- a new tuple is laid -/
def NewT (xs : List V) (H : Hp) (Q : V → Hp → Prop) : Prop := (∀ p, H p = none → Q (.ref p) (upd H p (.tup xs))) ∨ ∀ p its, H p = none → Q (.ref p) (upd H p (.frz (tupB its) (.tup xs)))
/-- one that has nothing beside its items -/
def PlT (K : PySem.W.Frag) (H : Hp) (a : Addr) (xs : List V) : Prop := (∃ its, H a = some (.frz (tupB its) (.tup xs))) ∨ ∃ sl its n, K.lookup a = some ⟨.type "tuple", none, .seq its n, sl⟩ ∧ its.size ≤ sizeLine ∧ Vals xs its.toList
section
variable {X : Cx}
theorem newT_lay {pins : List (Addr × Obj)} {σ : L2.St} {H : Hp} {s : Shared} {xs : List V} {its : List Value} {Q : VK} (I : Inv X pins σ H s) (r : Vals xs its) (hz : xs.length ≤ sizeLine) (q : NewT xs H Q) :
    EP X pins σ Q (.ref s.heap.objs.size) { s with heap := s.heap.push (tupB its) } := by
  have hf := I.hok.fresh (Nat.le_refl s.heap.objs.size)
  rcases q with q | q
  · exact ⟨.ref s.heap.objs.size, _, I.laid (t' := s.toks) (o := .tup xs) (fun b ob e => Heap.get?_push_of_some _ e) (Nat.le_refl _) ⟨hz, its, r, IsTup.new _ _⟩, rfl, q _ hf⟩
  · exact ⟨.ref s.heap.objs.size, _, I.laid (t' := s.toks) (o := .frz (tupB its) (.tup xs)) (fun b ob e => Heap.get?_push_of_some _ e) (Nat.le_refl _) ⟨Heap.get?_push_size _ rfl, hz, its, r, IsTup.new _ _⟩, rfl, q _ its hf⟩
/-- a display -/
def tTupN (t : TA) : TE := fun σ H Q => t σ H fun xs H1 => xs.length ≤ sizeLine ∧ NewT xs H1 Q
theorem pe_tupN {es : List Expr} {t : TA} {pos : Pos} {x1} (h : PA X es t) : PE X (.Tuple es x1 pos) (tTupN t) := by
  refine ⟨fun pins s σ H Q I hq => ?_⟩
  refine wpAny_Tuple_spliced (thn (h.run pos pins s σ H _ I hq) fun us s1 ⟨xs, H1, I1, r, z, q⟩ => ⟨by rw [← r.length]; exact z, ?_⟩)
  exact newT_lay I1 r z q
/-- t + u -/
def rCatN (K : PySem.W.Frag) : R2 := fun x y H Q => ∃ a b xs ys, x = .ref a ∧ y = .ref b ∧ SqT K H a xs ∧ SqT K H b ys ∧ xs.length + ys.length ≤ sizeLine ∧
  (xs = [] → Q (.ref b) H) ∧ (xs ≠ [] → ys = [] → Q (.ref a) H) ∧ (xs ≠ [] → ys ≠ [] → NewT (xs ++ ys) H Q)
theorem op_catN : OpR X (binaryOp .Add) (rCatN X.K) := by
  intro pins s σ H x y v u Q I rx ry h
  obtain ⟨a, b, xs, ys, rfl, rfl, ha, hb, hz, q0, q1, q2⟩ := h
  by_cases hx : xs = []
  · exact op_catA pins s σ H _ _ v u Q I rx ry ⟨a, b, xs, ys, rfl, rfl, ha, hb, hz, q0, fun z => absurd hx z, fun z => absurd hx z⟩
  · by_cases hy : ys = []
    · exact op_catA pins s σ H _ _ v u Q I rx ry ⟨a, b, xs, ys, rfl, rfl, ha, hb, hz, q0, q1, fun _ z => absurd hy z⟩
    · cases rx
      cases ry
      obtain ⟨its, r1, p1, _⟩ := I.tuple ha
      obtain ⟨its2, r2, p2, _⟩ := I.tuple hb
      refine HT.cat_tup p1 p2 (fun z => hx (r1.nil_iff.mp z)) (fun z => absurd (r2.nil_iff.mp z) hy) (fun z => ?_) (by rw [← r1.length, ← r2.length]; exact hz)
      exact newT_lay I (r1.append r2) (by rw [List.length_append]; exact hz) (q2 hx hy)
/-- t[lo:hi] -/
def rSlN (K : PySem.W.Frag) : V → Option Int → Option Int → Hp → VK → Prop := fun x lo hi H Q => ∃ a xs, x = .ref a ∧ SqT K H a xs ∧
  (HT.sIx xs.length 0 lo = 0 ∧ HT.sIx xs.length xs.length hi = xs.length → Q (.ref a) H) ∧ (¬ (HT.sIx xs.length 0 lo = 0 ∧ HT.sIx xs.length xs.length hi = xs.length) → NewT (cutV xs lo hi) H Q)
theorem sl_tupN : SlR X (rSlN X.K) := by
  intro pins s σ H x v vl vu lo hi sl Q I rx hs pl pu h
  obtain ⟨a, xs, rfl, hx, q1, q2⟩ := h
  by_cases hw : HT.sIx xs.length 0 lo = 0 ∧ HT.sIx xs.length xs.length hi = xs.length
  · exact sl_tupA pins s σ H _ v vl vu lo hi sl Q I rx hs pl pu ⟨a, xs, rfl, hx, q1, fun z => absurd hw z⟩
  · cases rx
    obtain ⟨its, r, ht, hz⟩ := I.tuple hx
    have hlen : its.toArray.size = xs.length := by rw [List.size_toArray]; exact r.length.symm
    refine ⟨"tuple", _, PyProof.Rows.slot_tuple_getitem.lookup, ht.typeIs, ?_⟩
    refine HT.getItem_tuple_cut ht hs pl pu (by rw [hlen]; exact hw) ?_ (by rw [hlen]; exact hz)
    rw [hlen]
    exact newT_lay I ((r.drop (HT.sIx xs.length 0 lo)).take (HT.sIx xs.length xs.length hi - HT.sIx xs.length 0 lo)) (Nat.le_trans (cutV_length xs lo hi) hz) (q2 hw)
/-- tuple(..) -/
theorem call_tupN : CallR X (.type "tuple") (fun xs H Q => ∃ p ys, xs = [.ref p] ∧ ((SqL X.K H p ys ∧ NewT ys H Q) ∨ (SqT X.K H p ys ∧ Q (.ref p) H))) := by
  intro pins s σ H xs us Q I r h
  obtain ⟨p, ys, rfl, h⟩ := h
  rcases h with ⟨hq, q⟩ | h
  · obtain ⟨u, rfl, rx⟩ := vals1 r
    cases rx
    obtain ⟨its, r', pl, hz⟩ := I.list hq
    have hlen := r'.length
    refine call_tuple_list pl.isList (fun h' kp => ?_) (by simp only [List.size_toArray] <;> omega)
    have I1 : Inv X pins σ H { s with heap := h' } := I.kept (t' := s.toks) kp
    exact newT_lay I1 r' hz q
  · exact call_tuple_of pins s σ H _ us Q I r ⟨p, ys, rfl, .inr h⟩
end
end Pm
namespace Pm
open PySem PySem.Spec
/-- contents of tuples that may be the text's own constants -/
def isCst : List PyData → Bool
  | [.str x] => decide (x = "begin" ∨ x = "address" ∨ x = "operand" ∨ x = "routine" ∨ x = "block")
  | [.str x, .str y] => decide ((x = "store" ∧ y = "call") ∨ (x = "name" ∧ y = "address") ∨ (x = "address" ∧ y = "operand"))
  | [.str x, .str y, .str z] => decide ((x = "go" ∧ y = "if" ∧ z = "call") ∨ (x = "operand" ∧ y = "block" ∧ z = "block"))
  | [.str x, .str y, .str z, .str w] => decide ((x = "+" ∧ y = "-" ∧ z = "*" ∧ w = "<") ∨ (x = "name" ∧ y = "sign" ∧ z = "operand" ∧ w = "operand"))
  | [.str x, .int i, .int j] => decide (x = "main" ∧ i = 0 ∧ j = 0)
  | [.tuple [], .tuple []] => true
  | _ => false
/-- tables of code objects that the text's defs own, and the names of what is in them -/
def tabT : List (Addr × Str) := []
end Pm
set_option maxRecDepth 100000
set_option maxHeartbeats 4000000
namespace Pm
open PySem PySem.Spec PyProof.Rows L2 Sw
inductive Vl where
  | dat (p : PyData)
  | ref (n : Nat)
  | scr (ns : List Int)
  | exo (nm : Str) (fs : List (Str × PyData))
  | fn (nm : Str)
  | lam (f c : Addr) (q : Str) (σ : L2.St) (ρ : List (Option (PyData ⊕ Nat)))
inductive Ob where
  | lst (l : List Vl)
  | dic (t : Bool) (kvs : List (PyData × Vl))
  | ins (c : Str) (fs : List (Str × Vl))
  | tup (l : List Vl)
abbrev Sto := List Ob
abbrev Exn := Str × List (Str × PyData)
inductive R (α : Type) where
  | ok (a : α) (s : Sto)
  | ex (x : Exn) (s : Sto)
  | bad
abbrev Loc := List (Option Vl)
inductive Fl where
  | nx (ρ : Loc) (s : Sto)
  | rt (v : Vl) (s : Sto)
  | bk (ρ : Loc) (s : Sto)
  | ct (ρ : Loc) (s : Sto)
  | ex (x : Exn) (ρ : Loc) (s : Sto)
  | bad
def R.bind {α β : Type} (r : R α) (k : α → Sto → R β) : R β := match r with
  | .ok a s => k a s
  | .ex x s => .ex x s
  | .bad => .bad
/-- into a statement's end -/
def R.to {α : Type} (r : R α) (ρ : Loc) (k : α → Sto → Fl) : Fl := match r with
  | .ok a s => k a s
  | .ex x s => .ex x ρ s
  | .bad => .bad
def Fl.seq (f : Fl) (k : Loc → Sto → Fl) : Fl := match f with
  | .nx ρ s => k ρ s
  | .rt v s => .rt v s
  | .bk ρ s => .bk ρ s
  | .ct ρ s => .ct ρ s
  | .ex x ρ s => .ex x ρ s
  | .bad => .bad
abbrev ME := Loc → Sto → R Vl
abbrev MT := Loc → Sto → R Bool
abbrev MA := Loc → Sto → R (List Vl)
abbrev MS := Loc → Sto → Fl
@[simp] theorem R.bind_ok {α β : Type} (a : α) (s : Sto) (k : α → Sto → R β) : (R.ok a s).bind k = k a s := rfl
@[simp] theorem R.bind_ex {α β : Type} (x : Exn) (s : Sto) (k : α → Sto → R β) : (R.ex x s).bind k = .ex x s := rfl
@[simp] theorem R.bind_bad {α β : Type} (k : α → Sto → R β) : (R.bad : R α).bind k = .bad := rfl
@[simp] theorem R.to_ok {α : Type} (a : α) (s : Sto) (ρ : Loc) (k : α → Sto → Fl) : (R.ok a s).to ρ k = k a s := rfl
@[simp] theorem R.to_ex {α : Type} (x : Exn) (s : Sto) (ρ : Loc) (k : α → Sto → Fl) : (R.ex x s : R α).to ρ k = .ex x ρ s := rfl
@[simp] theorem R.to_bad {α : Type} (ρ : Loc) (k : α → Sto → Fl) : (R.bad : R α).to ρ k = .bad := rfl
@[simp] theorem Fl.seq_nx (ρ : Loc) (s : Sto) (k : Loc → Sto → Fl) : (Fl.nx ρ s).seq k = k ρ s := rfl
@[simp] theorem Fl.seq_rt (v : Vl) (s : Sto) (k : Loc → Sto → Fl) : (Fl.rt v s).seq k = .rt v s := rfl
@[simp] theorem Fl.seq_bk (ρ : Loc) (s : Sto) (k : Loc → Sto → Fl) : (Fl.bk ρ s).seq k = .bk ρ s := rfl
@[simp] theorem Fl.seq_ct (ρ : Loc) (s : Sto) (k : Loc → Sto → Fl) : (Fl.ct ρ s).seq k = .ct ρ s := rfl
@[simp] theorem Fl.seq_ex (x : Exn) (ρ : Loc) (s : Sto) (k : Loc → Sto → Fl) : (Fl.ex x ρ s).seq k = .ex x ρ s := rfl
@[simp] theorem Fl.seq_bad (k : Loc → Sto → Fl) : Fl.bad.seq k = .bad := rfl
/-- it is no table of code objects -/
def NT : HO → Prop
  | .tbl _ => False
  | _ => True
/-- where the store's objects stand (b), and lists that are being made (g) -/
structure Bs where
  b : List Addr
  g : List Addr
/-- the tables of code objects, each with the name that its code objects bear -/
def TabsB (β : Bs) (H : Hp) : Prop := ∀ p ∈ tabT, p.1 ∉ β.b ∧ p.1 ∉ β.g ∧ ∃ ps : Array Value, H p.1 = some (.tbl ps) ∧ TriplesOk ps.toList ∧
  ∀ (pos : Pos) (cv : Value), codeAmong pos ps.toList = some cv → ∃ c, cv = .ref c ∧ H c = some (LamX.CodeO c p.2) ∧ c ∉ β.b ∧ c ∉ β.g
/-- an object that the store doesn't hold -/
def Sd (H : Hp) (β : Bs) (a : Addr) (o : HO) : Prop := H a = some o ∧ a ∉ β.b ∧ a ∉ β.g
/-- a list that the store doesn't hold -/
abbrev Sl (H : Hp) (β : Bs) (a : Addr) (xs : List V) : Prop := Sd H β a (.lst xs)
def keyD : Key → PyData
  | .inl i => .int i
  | .inr x => .str x
def keysD (ks : List Key) : PyData := .tuple (ks.map keyD)
theorem Sd.sq {K : PySem.W.Frag} {H : Hp} {β : Bs} {a : Addr} {xs : List V} (h : Sl H β a xs) : SqL K H a xs := SqL.of h.1
theorem kl_any {K : PySem.W.Frag} {H : Hp} {a : Addr} {xs : List V} (h : SqL K (fun _ => none) a xs) : SqL K H a xs := by
  rcases h with (h | ⟨o, h⟩) | h
  · cases h
  · cases h
  · exact .inr h
/-- the script's list, which nobody turns -/
def Scr (K : PySem.W.Frag) (H : Hp) (a : Addr) (xs : List V) : Prop := (∃ o, H a = some (.frz o (.lst xs))) ∨ SqL K (fun _ => none) a xs
theorem Scr.sq {K : PySem.W.Frag} {H : Hp} {a : Addr} {xs : List V} (h : Scr K H a xs) : SqL K H a xs := by
  rcases h with ⟨o, h⟩ | h
  · exact .inl (.inr ⟨o, h⟩)
  · exact kl_any h
/-- a pair of a text and something -/
def isO1 : PyData → Bool
  | .tuple [.str _, _] => true
  | .tuple [.tuple [.str _, .int _], .int _] => true
  | .tuple [.tuple [.str _, .int _], .tuple [.str _, .int _, .int _]] => true
  | _ => false
def isO (ds : List PyData) : Bool := ds.all isO1
/-- a tuple where it stands: one of pairs of texts and numbers has nothing beside its items -/
def TupA (K : PySem.W.Frag) (H : Hp) (a : Addr) (ds : List PyData) (xs : List V) : Prop := if isO ds = true then PlT K H a xs else if isCst ds = true then SqT K H a xs else H a = some (.tup xs)
theorem TupA.sqt {K : PySem.W.Frag} {H : Hp} {a : Addr} {ds : List PyData} {xs : List V} (h : TupA K H a ds xs) : SqT K H a xs := by
  unfold TupA at h
  split at h
  · rcases h with ⟨its, h⟩ | ⟨sl, its, n, lk, hz, hv⟩
    · exact .inl (.inr ⟨_, h⟩)
    · exact .inr ⟨_, its, n, lk, rfl, rfl, hz, hv⟩
  · split at h
    · exact h
    · exact SqT.of h
theorem TupA.tup {K : PySem.W.Frag} {H : Hp} {a : Addr} {ds : List PyData} {xs : List V} (h : TupA K H a ds xs) (e : isO ds = false) (e2 : isCst ds = false) : H a = some (.tup xs) := by
  unfold TupA at h
  rwa [if_neg (by rw [e]; decide), if_neg (by rw [e2]; decide)] at h
theorem TupA.of {K : PySem.W.Frag} {H : Hp} {a : Addr} {ds : List PyData} {xs : List V} (e : isO ds = false) (h : H a = some (.tup xs)) : TupA K H a ds xs := by
  unfold TupA
  rw [if_neg (by rw [e]; decide)]
  split
  · exact SqT.of h
  · exact h
/-- one of the text's own -/
theorem TupA.cst {K : PySem.W.Frag} {H : Hp} {a : Addr} {ds : List PyData} {xs : List V} (e : isO ds = false) (e2 : isCst ds = true) (h : SqT K (fun _ => none) a xs) : TupA K H a ds xs := by
  unfold TupA
  rw [if_neg (by rw [e]; decide), if_pos e2]
  rcases h with (h | ⟨o, h⟩) | h
  · cases h
  · cases h
  · exact .inr h
theorem TupA.keep {K : PySem.W.Frag} {H H' : Hp} {a : Addr} {ds : List PyData} {xs : List V} (t : ∀ xs, H a = some (.tup xs) → H' a = some (.tup xs)) (f : ∀ o u, H a = some (.frz o u) → H' a = some (.frz o u)) (h : TupA K H a ds xs) : TupA K H' a ds xs := by
  unfold TupA at h ⊢
  split at h
  · rename_i e; rw [if_pos e]; exact h.imp (fun ⟨its, h⟩ => ⟨its, f _ _ h⟩) id
  · rename_i e
    rw [if_neg e]
    split at h
    · rename_i e2
      rw [if_pos e2]
      rcases h with (h | ⟨o, h⟩) | h
      · exact .inl (.inl (t _ h))
      · exact .inl (.inr ⟨o, f _ _ h⟩)
      · exact .inr h
    · rename_i e2; rw [if_neg e2]; exact t _ h
mutual
inductive Dq (K : PySem.W.Frag) (H : Hp) (β : Bs) : V → PyData → Prop
  | non : Dq K H β .non .none
  | bl (b : Bool) : Dq K H β (.bl b) (.bool b)
  | int (i : Int) : Dq K H β (.int i) (.int i)
  | str {x : Str} (h : x.length ≤ sizeLine) : Dq K H β (.str x) (.str x)
  | lst {a : Addr} {xs : List V} {ds : List PyData} : Sl H β a xs → ds.length ≤ sizeLine → DqAll K H β xs ds → Dq K H β (.ref a) (.list ds)
  | tup {a : Addr} {xs : List V} {ds : List PyData} : TupA K H a ds xs → ds.length ≤ sizeLine → DqAll K H β xs ds → Dq K H β (.ref a) (.tuple ds)
  | dic {a : Addr} {ks : List (Key × V)} {kvs : List (PyData × PyData)} : Sd H β a (.dK ks) → DqKv K H β Key keyD ks kvs → Dq K H β (.ref a) (.dict kvs)
  | dit {a : Addr} {ks : List (List Key × V)} {kvs : List (PyData × PyData)} : Sd H β a (.dT ks) → DqKv K H β (List Key) keysD ks kvs → Dq K H β (.ref a) (.dict ((.none, .none) :: kvs))
inductive DqAll (K : PySem.W.Frag) (H : Hp) (β : Bs) : List V → List PyData → Prop
  | nil : DqAll K H β [] []
  | cons {v : V} {vs : List V} {d : PyData} {ds : List PyData} : Dq K H β v d → DqAll K H β vs ds → DqAll K H β (v :: vs) (d :: ds)
inductive DqKv (K : PySem.W.Frag) (H : Hp) (β : Bs) : (κ : Type) → (κ → PyData) → List (κ × V) → List (PyData × PyData) → Prop
  | nil {κ : Type} {f : κ → PyData} : DqKv K H β κ f [] []
  | cons {κ : Type} {f : κ → PyData} {k : κ} {v : V} {d : PyData} {ks : List (κ × V)} {kvs : List (PyData × PyData)} : Dq K H β v d → DqKv K H β κ f ks kvs → DqKv K H β κ f ((k, v) :: ks) ((f k, d) :: kvs)
end
mutual
/-- what stands by itself, in another heap, beside other objects of the store -/
theorem Dq.tr {K : PySem.W.Frag} {H H' : Hp} {β β' : Bs} (sd : ∀ a o, NT o → Sd H β a o → Sd H' β' a o) (tq : ∀ a ds xs, TupA K H a ds xs → TupA K H' a ds xs) : ∀ {v : V} {d : PyData}, Dq K H β v d → Dq K H' β' v d
  | _, _, .non => .non
  | _, _, .bl b => .bl b
  | _, _, .int i => .int i
  | _, _, .str h => .str h
  | _, _, .lst h l r => .lst (sd _ _ trivial h) l (DqAll.tr sd tq r)
  | _, _, .tup h l r => .tup (tq _ _ _ h) l (DqAll.tr sd tq r)
  | _, _, .dic h r => .dic (sd _ _ trivial h) (DqKv.tr sd tq r)
  | _, _, .dit h r => .dit (sd _ _ trivial h) (DqKv.tr sd tq r)
theorem DqAll.tr {K : PySem.W.Frag} {H H' : Hp} {β β' : Bs} (sd : ∀ a o, NT o → Sd H β a o → Sd H' β' a o) (tq : ∀ a ds xs, TupA K H a ds xs → TupA K H' a ds xs) : ∀ {vs : List V} {ds : List PyData}, DqAll K H β vs ds → DqAll K H' β' vs ds
  | _, _, .nil => .nil
  | _, _, .cons h r => .cons (Dq.tr sd tq h) (DqAll.tr sd tq r)
theorem DqKv.tr {K : PySem.W.Frag} {H H' : Hp} {β β' : Bs} (sd : ∀ a o, NT o → Sd H β a o → Sd H' β' a o) (tq : ∀ a ds xs, TupA K H a ds xs → TupA K H' a ds xs) : ∀ {κ : Type} {f : κ → PyData} {ks : List (κ × V)} {kvs : List (PyData × PyData)}, DqKv K H β κ f ks kvs → DqKv K H' β' κ f ks kvs
  | _, _, _, _, .nil => .nil
  | _, _, _, _, .cons h r => .cons (Dq.tr sd tq h) (DqKv.tr sd tq r)
end
/-- from (β, H) on to (β', H'): the store's objects may turn, new ones may come, all else stands -/
structure Step (β : Bs) (H : Hp) (β' : Bs) (H' : Hp) : Prop where
  pre : β.b <+: β'.b
  gsub : ∀ a ∈ β.g, a ∈ β'.g
  gam : ∀ a ∈ β'.g, a ∈ β.g ∨ H a = none
  new : ∀ a ∈ β'.b, a ∈ β.b ∨ H a = none
  keep : ∀ a o, NT o → H a = some o → a ∉ β.b → H' a = some o
  tups : ∀ a xs, H a = some (.tup xs) → H' a = some (.tup xs)
  frzs : ∀ a o u, H a = some (.frz o u) → H' a = some (.frz o u)
  liv : ∀ a o, H a = some o → ∃ o', H' a = some o'
  tbs : TabsB β H → TabsB β' H'
theorem Step.refl (β : Bs) (H : Hp) : Step β H β H := ⟨List.prefix_refl _, fun _ h => h, fun _ h => .inl h, fun _ h => .inl h, fun _ _ _ h _ => h, fun _ _ h => h, fun _ _ _ h => h, fun _ o h => ⟨o, h⟩, id⟩
theorem Step.trans {β β1 β2 : Bs} {H H1 H2 : Hp} (a : Step β H β1 H1) (b : Step β1 H1 β2 H2) : Step β H β2 H2 := by
  refine ⟨a.pre.trans b.pre, fun x hx => b.gsub x (a.gsub x hx), fun x hx => ?_, fun x hx => ?_, fun x o nt e n => ?_, fun x xs e => b.tups x xs (a.tups x xs e), fun x o u e => b.frzs x o u (a.frzs x o u e), fun x o e => by
    obtain ⟨o', e'⟩ := a.liv x o e
    exact b.liv x o' e', fun t => b.tbs (a.tbs t)⟩
  · rcases b.gam x hx with h | h
    · exact a.gam x h
    · cases e : H x with
      | none => exact .inr rfl
      | some o =>
        obtain ⟨o', e'⟩ := a.liv x o e
        rw [e'] at h; cases h
  · rcases b.new x hx with h | h
    · exact a.new x h
    · by_cases hb : x ∈ β.b
      · exact .inl hb
      · cases e : H x with
        | none => exact .inr rfl
        | some o =>
          obtain ⟨o', e'⟩ := a.liv x o e
          rw [e'] at h; cases h
  · refine b.keep x o nt (a.keep x o nt e n) fun hx => ?_
    rcases a.new x hx with h | h
    · exact n h
    · rw [e] at h; cases h
theorem TabsB.same {β : Bs} {H H' : Hp} (t : TabsB β H) (h : Same H H') : TabsB β H' := fun p hp => by
  obtain ⟨n1, n2, ps, e, ht, ha⟩ := t p hp
  refine ⟨n1, n2, ps, h _ _ e, ht, fun pos cv hc => ?_⟩
  obtain ⟨c, ec, hcc, m1, m2⟩ := ha pos cv hc
  exact ⟨c, ec, h _ _ hcc, m1, m2⟩
theorem TabsB.put {β : Bs} {H : Hp} {p : Addr} {o : HO} (hp : p ∈ β.b ∨ p ∈ β.g) (t : TabsB β H) : TabsB β (upd H p o) := fun p' hp' => by
  obtain ⟨n1, n2, ps, e, ht, ha⟩ := t p' hp'
  have ne : ∀ {a : Addr}, a ∉ β.b → a ∉ β.g → a ≠ p := fun m1 m2 z => hp.elim (fun h => m1 (z ▸ h)) fun h => m2 (z ▸ h)
  refine ⟨n1, n2, ps, by rw [upd_ne (ne n1 n2)]; exact e, ht, fun pos cv hc => ?_⟩
  obtain ⟨c, ec, hcc, m1, m2⟩ := ha pos cv hc
  exact ⟨c, ec, by rw [upd_ne (ne m1 m2)]; exact hcc, m1, m2⟩
theorem TabsB.mono {β β' : Bs} {H : Hp} (hb : ∀ x ∈ β'.b, x ∈ β.b ∨ x ∈ β.g ∨ H x = none) (hg : ∀ x ∈ β'.g, x ∈ β.b ∨ x ∈ β.g ∨ H x = none) (t : TabsB β H) : TabsB β' H := fun p' hp' => by
  obtain ⟨n1, n2, ps, e, ht, ha⟩ := t p' hp'
  have ne : ∀ {a : Addr} {x : HO}, H a = some x → a ∉ β.b → a ∉ β.g → a ∉ β'.b ∧ a ∉ β'.g := fun {a x} e m1 m2 =>
    ⟨fun z => (hb a z).elim m1 fun z => z.elim m2 fun z => (by rw [e] at z; cases z), fun z => (hg a z).elim m1 fun z => z.elim m2 fun z => (by rw [e] at z; cases z)⟩
  refine ⟨(ne e n1 n2).1, (ne e n1 n2).2, ps, e, ht, fun pos cv hc => ?_⟩
  obtain ⟨c, ec, hcc, m1, m2⟩ := ha pos cv hc
  exact ⟨c, ec, hcc, (ne hcc m1 m2).1, (ne hcc m1 m2).2⟩
theorem Step.same {β : Bs} {H H' : Hp} (h : Same H H') : Step β H β H' := ⟨List.prefix_refl _, fun _ h => h, fun _ h => .inl h, fun _ h => .inl h, fun a o _ e _ => h a o e, fun a xs e => h a _ e, fun a o u e => h a _ e, fun a o e => ⟨o, h a o e⟩, fun t => t.same h⟩
theorem Step.lay {β : Bs} {H : Hp} {p : Addr} {o : HO} (h : H p = none) : Step β H β (upd H p o) := Step.same (same_new h)
def Bs.push (β : Bs) (p : Addr) : Bs := ⟨β.b ++ [p], β.g⟩
theorem Step.push {β : Bs} {H : Hp} {p : Addr} {o : HO} (h : H p = none) : Step β H (β.push p) (upd H p o) := by
  refine ⟨List.prefix_append _ _, fun _ h => h, fun _ h => .inl h, fun a ha => ?_, fun a x _ e _ => same_new h a x e, fun a xs e => same_new h a _ e, fun a o u e => same_new h a _ e, fun a o e => ⟨o, same_new h a o e⟩, fun t p' hp => ?_⟩
  rotate_left
  · obtain ⟨n1, n2, ps, e, ht, ha⟩ := t.same (same_new (o := o) h) p' hp
    have np : ∀ {a : Addr} {x : HO}, H a = some x → a ∉ β.b → a ∉ β.b ++ [p] := fun {a x} e n z => by
      rcases List.mem_append.mp z with z | z
      · exact n z
      · rw [show a = p by simpa using z, h] at e; cases e
    obtain ⟨m1, m2, ps', e', ht', ha'⟩ := t p' hp
    refine ⟨np e' m1, m2, ps', same_new h _ _ e', ht', fun pos cv hc => ?_⟩
    obtain ⟨c, ec, hcc, k1, k2⟩ := ha' pos cv hc
    exact ⟨c, ec, same_new h _ _ hcc, np hcc k1, k2⟩
  rcases List.mem_append.mp (show a ∈ β.b ++ [p] from ha) with h1 | h1
  · exact .inl h1
  · have : a = p := by simpa using h1
    exact .inr (by rw [this]; exact h)
/-- what the store holds is no tuple, and not locked -/
def Own : HO → Prop
  | .tup _ => False
  | .frz _ _ => False
  | _ => True
theorem Step.put {β : Bs} {H : Hp} {p : Addr} {o o' : HO} (hp : p ∈ β.b) (h : H p = some o') (ht : Own o') : Step β H β (upd H p o) := by
  refine ⟨List.prefix_refl _, fun _ h => h, fun _ h => .inl h, fun _ h => .inl h, fun a x _ e n => ?_, fun a xs e => ?_, fun a x u e => ?_, fun a x e => ?_, fun t p' hp' => ?_⟩
  rotate_right
  · obtain ⟨n1, n2, ps, e, ht, ha⟩ := t p' hp'
    refine ⟨n1, n2, ps, by rw [upd_ne (fun z => n1 (by rw [z]; exact hp))]; exact e, ht, fun pos cv hc => ?_⟩
    obtain ⟨c, ec, hcc, m1, m2⟩ := ha pos cv hc
    exact ⟨c, ec, by rw [upd_ne (fun z => m1 (by rw [z]; exact hp))]; exact hcc, m1, m2⟩
  · rw [upd_ne (fun z => n (by rw [z]; exact hp))]; exact e
  · rw [upd_ne (ne_of e h fun z => by rw [← z] at ht; exact ht)]; exact e
  · rw [upd_ne (ne_of e h fun z => by rw [← z] at ht; exact ht)]; exact e
  · by_cases z : a = p
    · exact ⟨o, by rw [z, upd_same]⟩
    · exact ⟨x, by rw [upd_ne z]; exact e⟩
section
variable {K : PySem.W.Frag} {H H' : Hp} {β β' : Bs}
theorem Step.out (s : Step β H β' H') {a : Addr} {o : HO} (h : H a = some o) (n : a ∉ β.b) : a ∉ β'.b := fun hx => by
  rcases s.new a hx with z | z
  · exact n z
  · rw [h] at z; cases z
theorem Step.outg (s : Step β H β' H') {a : Addr} {o : HO} (h : H a = some o) (n : a ∉ β.g) : a ∉ β'.g := fun hx => by
  rcases s.gam a hx with z | z
  · exact n z
  · rw [h] at z; cases z
theorem Step.sd {a : Addr} {o : HO} (s : Step β H β' H') (nt : NT o) (h : Sd H β a o) : Sd H' β' a o := ⟨s.keep a _ nt h.1 h.2.1, s.out h.1 h.2.1, s.outg h.1 h.2.2⟩
theorem Step.sl {a : Addr} {xs : List V} (s : Step β H β' H') (h : Sl H β a xs) : Sl H' β' a xs := s.sd trivial h
theorem Step.scr {a : Addr} {xs : List V} (s : Step β H β' H') (h : Scr K H a xs) : Scr K H' a xs := by
  rcases h with ⟨o, h⟩ | h
  · exact .inl ⟨o, s.frzs _ _ _ h⟩
  · exact .inr h
theorem Step.sqt {a : Addr} {xs : List V} (s : Step β H β' H') (h : SqT K H a xs) : SqT K H' a xs := by
  rcases h with (h | ⟨o, h⟩) | h
  · exact .inl (.inl (s.tups _ _ h))
  · exact .inl (.inr ⟨o, s.frzs _ _ _ h⟩)
  · exact .inr h
end
theorem Step.tupA {K : PySem.W.Frag} {H H' : Hp} {β β' : Bs} {a : Addr} {ds : List PyData} {xs : List V} (s : Step β H β' H') (h : TupA K H a ds xs) : TupA K H' a ds xs := h.keep (fun xs => s.tups a xs) fun o u => s.frzs a o u
theorem Step.dq {K : PySem.W.Frag} {H H' : Hp} {β β' : Bs} (s : Step β H β' H') {v : V} {d : PyData} (h : Dq K H β v d) : Dq K H' β' v d := h.tr (fun _ _ n h => s.sd n h) fun _ _ _ h => s.tupA h
theorem Step.dqs {K : PySem.W.Frag} {H H' : Hp} {β β' : Bs} (s : Step β H β' H') {vs : List V} {ds : List PyData} (h : DqAll K H β vs ds) : DqAll K H' β' vs ds := h.tr (fun _ _ n h => s.sd n h) fun _ _ _ h => s.tupA h
/-- as Step, but what is in the making may change -/
structure StepW (β : Bs) (H : Hp) (β' : Bs) (H' : Hp) : Prop where
  pre : β.b <+: β'.b
  gam : ∀ a ∈ β'.g, a ∈ β.g ∨ H a = none
  new : ∀ a ∈ β'.b, a ∈ β.b ∨ H a = none
  keep : ∀ a o, NT o → H a = some o → a ∉ β.b → a ∉ β.g → H' a = some o
  tups : ∀ a xs, H a = some (.tup xs) → H' a = some (.tup xs)
  frzs : ∀ a o u, H a = some (.frz o u) → H' a = some (.frz o u)
  tbs : TabsB β H → TabsB β' H'
theorem Step.w {β β' : Bs} {H H' : Hp} (s : Step β H β' H') : StepW β H β' H' := ⟨s.pre, s.gam, s.new, fun a o nt h n _ => s.keep a o nt h n, s.tups, s.frzs, s.tbs⟩
section
variable {K : PySem.W.Frag} {H H' : Hp} {β β' : Bs}
theorem StepW.out (s : StepW β H β' H') {a : Addr} {o : HO} (h : H a = some o) (n : a ∉ β.b) : a ∉ β'.b := fun hx => by
  rcases s.new a hx with z | z
  · exact n z
  · rw [h] at z; cases z
theorem StepW.outg (s : StepW β H β' H') {a : Addr} {o : HO} (h : H a = some o) (n : a ∉ β.g) : a ∉ β'.g := fun hx => by
  rcases s.gam a hx with z | z
  · exact n z
  · rw [h] at z; cases z
theorem StepW.sd {a : Addr} {o : HO} (s : StepW β H β' H') (nt : NT o) (h : Sd H β a o) : Sd H' β' a o := ⟨s.keep a _ nt h.1 h.2.1 h.2.2, s.out h.1 h.2.1, s.outg h.1 h.2.2⟩
theorem StepW.sl {a : Addr} {xs : List V} (s : StepW β H β' H') (h : Sl H β a xs) : Sl H' β' a xs := s.sd trivial h
theorem StepW.scr {a : Addr} {xs : List V} (s : StepW β H β' H') (h : Scr K H a xs) : Scr K H' a xs := by
  rcases h with ⟨o, h⟩ | h
  · exact .inl ⟨o, s.frzs _ _ _ h⟩
  · exact .inr h
theorem StepW.sqt {a : Addr} {xs : List V} (s : StepW β H β' H') (h : SqT K H a xs) : SqT K H' a xs := by
  rcases h with (h | ⟨o, h⟩) | h
  · exact .inl (.inl (s.tups _ _ h))
  · exact .inl (.inr ⟨o, s.frzs _ _ _ h⟩)
  · exact .inr h
theorem StepW.tupA {a : Addr} {ds : List PyData} {xs : List V} (s : StepW β H β' H') (h : TupA K H a ds xs) : TupA K H' a ds xs := h.keep (fun xs => s.tups a xs) fun o u => s.frzs a o u
theorem StepW.dq (s : StepW β H β' H') {v : V} {d : PyData} (h : Dq K H β v d) : Dq K H' β' v d := h.tr (fun _ _ n h => s.sd n h) fun _ _ _ h => s.tupA h
theorem StepW.dqs (s : StepW β H β' H') {vs : List V} {ds : List PyData} (h : DqAll K H β vs ds) : DqAll K H' β' vs ds := h.tr (fun _ _ n h => s.sd n h) fun _ _ _ h => s.tupA h
theorem StepW.trans {β1 β2 : Bs} {H1 H2 : Hp} (a : StepW β H β1 H1) (b : Step β1 H1 β2 H2) (liv : ∀ a o, H a = some o → ∃ o', H1 a = some o') : StepW β H β2 H2 := by
  refine ⟨a.pre.trans b.pre, fun x hx => ?_, fun x hx => ?_, fun x o nt e n m => b.keep x o nt (a.keep x o nt e n m) (a.out e n), fun x xs e => b.tups x xs (a.tups x xs e), fun x o u e => b.frzs x o u (a.frzs x o u e), fun t => b.tbs (a.tbs t)⟩
  · rcases b.gam x hx with h | h
    · exact a.gam x h
    · refine .inr ?_
      cases e : H x with
      | none => rfl
      | some o => obtain ⟨o', e'⟩ := liv x o e; rw [h] at e'; cases e'
  · rcases b.new x hx with h | h
    · exact a.new x h
    · refine .inr ?_
      cases e : H x with
      | none => rfl
      | some o => obtain ⟨o', e'⟩ := liv x o e; rw [h] at e'; cases e'
end
mutual
theorem Dq.dp {K : PySem.W.Frag} {H : Hp} {β : Bs} : ∀ {v : V} {d : PyData}, d.hasDict = false → Dq K H β v d → Dp K H v d
  | _, _, _, .non => .non
  | _, _, _, .bl b => .bl b
  | _, _, _, .int i => .int i
  | _, _, _, .str _ => .str _
  | _, _, n, .lst h _ r => .lst h.sq (DqAll.dp (by simpa [PyData.hasDict] using n) r)
  | _, _, n, .tup h _ r => .tup h.sqt (DqAll.dp (by simpa [PyData.hasDict] using n) r)
  | _, _, n, .dic _ _ => by simp [PyData.hasDict] at n
  | _, _, n, .dit _ _ => by simp [PyData.hasDict] at n
theorem DqAll.dp {K : PySem.W.Frag} {H : Hp} {β : Bs} : ∀ {vs : List V} {ds : List PyData}, PyData.hasDictAll ds = false → DqAll K H β vs ds → DpAll K H vs ds
  | _, _, _, .nil => .nil
  | _, _, n, .cons h r => by
    simp only [PyData.hasDictAll, Bool.or_eq_false_iff] at n
    exact .cons (Dq.dp n.1 h) (DqAll.dp n.2 r)
end
mutual
theorem noDict_lay : ∀ d : PyData, d.canLay0 = true → d.hasDict = false
  | .none, _ => rfl
  | .bool _, _ => rfl
  | .int _, _ => rfl
  | .str _, _ => rfl
  | .list xs, h => by
    simp only [PyData.hasDict]
    exact noDicts_lay xs (by simpa [PyData.canLay0] using h)
  | .tuple xs, h => by
    simp only [PyData.hasDict]
    exact noDicts_lay xs (by simpa [PyData.canLay0] using h)
  | .dict _, h => by simp [PyData.canLay0] at h
theorem noDicts_lay : ∀ xs : List PyData, PyData.canLayAll0 xs = true → PyData.hasDictAll xs = false
  | [], _ => rfl
  | x :: xs, h => by
    simp only [PyData.canLayAll0, Bool.and_eq_true] at h
    simp only [PyData.hasDictAll, noDict_lay x h.1, noDicts_lay xs h.2, Bool.or_self]
end
theorem noDict_sh {d : PyData} (h : SeqAt.shaped d = true) : d.hasDict = false := by
  unfold SeqAt.shaped at h
  rw [Bool.and_eq_true] at h
  exact noDict_lay d h.1
theorem DqAll.len {K : PySem.W.Frag} {H : Hp} {β : Bs} : ∀ {vs : List V} {ds : List PyData}, DqAll K H β vs ds → vs.length = ds.length
  | _, _, .nil => rfl
  | _, _, .cons _ r => by rw [List.length_cons, List.length_cons, DqAll.len r]
theorem DqAll.get {K : PySem.W.Frag} {H : Hp} {β : Bs} : ∀ {vs : List V} {ds : List PyData} {i : Nat} {v : V}, DqAll K H β vs ds → vs[i]? = some v → ∃ d, ds[i]? = some d ∧ Dq K H β v d
  | _, _, _, _, .nil, e => by simp at e
  | _, _, 0, _, .cons h _, e => by simp at e; subst e; exact ⟨_, rfl, h⟩
  | _, _, i + 1, v, .cons _ r, e => by
    obtain ⟨d, h1, h2⟩ := DqAll.get (i := i) (v := v) r (by simpa using e)
    exact ⟨d, by simpa using h1, h2⟩
theorem DqAll.get' {K : PySem.W.Frag} {H : Hp} {β : Bs} {vs : List V} {ds : List PyData} {i : Nat} {d : PyData} (h : DqAll K H β vs ds) (e : ds[i]? = some d) : ∃ v, vs[i]? = some v ∧ Dq K H β v d := by
  have hl := h.len
  obtain ⟨hi, _⟩ := List.getElem?_eq_some_iff.mp e
  have hv : i < vs.length := by omega
  obtain ⟨d', h1, h2⟩ := h.get (List.getElem?_eq_getElem hv)
  rw [e] at h1
  cases h1
  exact ⟨_, List.getElem?_eq_getElem hv, h2⟩
theorem DqAll.append {K : PySem.W.Frag} {H : Hp} {β : Bs} : ∀ {vs us : List V} {ds es : List PyData}, DqAll K H β vs ds → DqAll K H β us es → DqAll K H β (vs ++ us) (ds ++ es)
  | _, _, _, _, .nil, r => r
  | _, _, _, _, .cons h t, r => .cons h (DqAll.append t r)
theorem DqAll.take {K : PySem.W.Frag} {H : Hp} {β : Bs} : ∀ {vs : List V} {ds : List PyData} (n : Nat), DqAll K H β vs ds → DqAll K H β (vs.take n) (ds.take n)
  | _, _, 0, _ => .nil
  | _, _, _ + 1, .nil => .nil
  | _, _, n + 1, .cons h t => .cons h (DqAll.take n t)
theorem DqAll.drop {K : PySem.W.Frag} {H : Hp} {β : Bs} : ∀ {vs : List V} {ds : List PyData} (n : Nat), DqAll K H β vs ds → DqAll K H β (vs.drop n) (ds.drop n)
  | _, _, 0, h => h
  | _, _, _ + 1, .nil => .nil
  | _, _, n + 1, .cons _ t => DqAll.drop n t
/-- an exception that is being looked at: where it stands, its class, its dict -/
abbrev Exo := Option (Addr × Value × Option Addr)
structure Cf where
  K : PySem.W.Frag
  mg : Str → Option Value
  z : Exo
abbrev Cf.o (G : Cf) : Cf := ⟨G.K, G.mg, none⟩
/-- an exception: its class by name, its fields -/
def RX (G : Cf) (H : Hp) (β : Bs) (x : Exn) (c : Value) (d : Option Addr) : Prop := ∃ (C dd : Addr) (xs : List (Str × V)), G.mg x.1 = some (.ref C) ∧ c = .ref C ∧ d = some dd ∧ H dd = some (.xd xs) ∧ dd ∉ β.b ∧
  Paired (fun (p : Str × PyData) (q : Str × V) => p.1 = q.1 ∧ Dq G.K H β q.2 p.2) x.2 xs
theorem Step.rx {G : Cf} {H H' : Hp} {β β' : Bs} {x : Exn} {c : Value} {d : Option Addr} (s : Step β H β' H') (h : RX G H β x c d) : RX G H' β' x c d := by
  obtain ⟨C, dd, xs, h1, h2, h3, h4, h5, h6⟩ := h
  exact ⟨C, dd, xs, h1, h2, h3, s.keep _ _ trivial h4 h5, s.out h4 h5, Paired.mapP h6 fun p q z => ⟨z.1, s.dq z.2⟩⟩
/-- what a lambda has caught -/
def CapR (K : PySem.W.Frag) (H : Hp) (β : Bs) (ρ : List (Option (PyData ⊕ Nat))) (σ : L2.St) : Prop := ρ.length = σ.length ∧ ∀ (i : Nat) (x : PyData ⊕ Nat), ρ[i]? = some (some x) → ∃ u, σ[i]? = some (some u) ∧
  (match x with
   | .inl p => Dq K H β u p
   | .inr n => ∃ a, β.b[n]? = some a ∧ u = .ref a)
theorem CapR.map {K : PySem.W.Frag} {H H' : Hp} {β β' : Bs} (dq : ∀ u p, Dq K H β u p → Dq K H' β' u p) (hb : ∀ (n : Nat) (a : Addr), β.b[n]? = some a → β'.b[n]? = some a) {ρ : List (Option (PyData ⊕ Nat))} {σ : L2.St} (h : CapR K H β ρ σ) : CapR K H' β' ρ σ := ⟨h.1, fun i x e => by
  obtain ⟨u, h1, h2⟩ := h.2 i x e
  refine ⟨u, h1, ?_⟩
  cases x with
  | inl p => exact dq _ _ h2
  | inr n =>
    obtain ⟨a, e, q⟩ := h2
    exact ⟨a, hb _ _ e, q⟩⟩
theorem Step.cap {K : PySem.W.Frag} {H H' : Hp} {β β' : Bs} (s : Step β H β' H') {ρ : List (Option (PyData ⊕ Nat))} {σ : L2.St} (h : CapR K H β ρ σ) : CapR K H' β' ρ σ := ⟨h.1, fun i x e => by
  obtain ⟨u, h1, h2⟩ := h.2 i x e
  refine ⟨u, h1, ?_⟩
  cases x with
  | inl p => exact s.dq h2
  | inr n =>
    obtain ⟨a, e, q⟩ := h2
    obtain ⟨t, ht⟩ := s.pre
    refine ⟨a, ?_, q⟩
    rw [← ht, List.getElem?_append_left (List.getElem?_eq_some_iff.mp e).1]
    exact e⟩
/-- a value -/
def Rv (G : Cf) (H : Hp) (β : Bs) : Vl → V → Prop
  | .dat p, v => Dq G.K H β v p
  | .ref n, v => ∃ a, β.b[n]? = some a ∧ v = .ref a
  | .scr ns, v => ∃ a, v = .ref a ∧ Scr G.K H a (ns.map V.int)
  | .exo nm fs, v => ∃ a c d, G.z = some (a, c, d) ∧ v = .ref a ∧ RX G H β (nm, fs) c d
  | .fn nm, v => ∃ a, G.mg nm = some (.ref a) ∧ v = .ref a
  | .lam f c q σ ρ, v => v = .ref f ∧ H c = some (LamX.CodeO c q) ∧ (c ∉ β.b ∧ c ∉ β.g) ∧ CapR G.K H β ρ σ
/-- it is no exception -/
def noX : Vl → Bool
  | .exo _ _ => false
  | _ => true
theorem Rv.up {G : Cf} {H : Hp} {β : Bs} : ∀ {v : Vl} {u : V}, Rv G.o H β v u → Rv G H β v u
  | .dat _, _, h => h
  | .ref _, _, h => h
  | .scr _, _, h => h
  | .exo _ _, _, ⟨_, _, _, e, _⟩ => by cases e
  | .fn _, _, h => h
  | .lam _ _ _ _ _, _, h => h
theorem Rv.dn {G : Cf} {H : Hp} {β : Bs} : ∀ {v : Vl} {u : V}, noX v = true → Rv G H β v u → Rv G.o H β v u
  | .dat _, _, _, h => h
  | .ref _, _, _, h => h
  | .scr _, _, _, h => h
  | .exo _ _, _, e, _ => by cases e
  | .fn _, _, _, h => h
  | .lam _ _ _ _ _, _, _, h => h
theorem Step.rv {G : Cf} {H H' : Hp} {β β' : Bs} (s : Step β H β' H') : ∀ {v : Vl} {u : V}, Rv G H β v u → Rv G H' β' v u
  | .dat _, _, h => s.dq h
  | .scr _, _, ⟨a, e, q⟩ => ⟨a, e, s.scr q⟩
  | .exo _ _, _, ⟨a, c, d, e, q, r⟩ => ⟨a, c, d, e, q, s.rx r⟩
  | .fn _, _, h => h
  | .lam _ _ _ _ _, _, ⟨e, h, n, r⟩ => ⟨e, s.keep _ _ trivial h n.1, ⟨s.out h n.1, s.outg h n.2⟩, s.cap r⟩
  | .ref n, _, ⟨a, e, q⟩ => by
    obtain ⟨t, ht⟩ := s.pre
    refine ⟨a, ?_, q⟩
    rw [← ht, List.getElem?_append_left (List.getElem?_eq_some_iff.mp e).1]
    exact e
def Rvs (G : Cf) (H : Hp) (β : Bs) : List Vl → List V → Prop := Paired (Rv G H β)
theorem Step.rvs {G : Cf} {H H' : Hp} {β β' : Bs} (s : Step β H β' H') : ∀ {vs : List Vl} {us : List V}, Rvs G H β vs us → Rvs G H' β' vs us
  | _, _, .nil => .nil
  | _, _, .cons h r => .cons (s.rv h) (Step.rvs s r)
theorem Rvs.up {G : Cf} {H : Hp} {β : Bs} : ∀ {vs : List Vl} {us : List V}, Rvs G.o H β vs us → Rvs G H β vs us
  | _, _, .nil => .nil
  | _, _, .cons h r => .cons (Rv.up h) (Rvs.up r)
theorem Rvs.dn {G : Cf} {H : Hp} {β : Bs} : ∀ {vs : List Vl} {us : List V}, vs.all noX = true → Rvs G H β vs us → Rvs G.o H β vs us
  | _, _, _, .nil => .nil
  | v :: vs, _, e, .cons h r => by
    rw [List.all_cons, Bool.and_eq_true] at e
    exact .cons (Rv.dn e.1 h) (Rvs.dn e.2 r)
theorem Rvs.len {G : Cf} {H : Hp} {β : Bs} {vs : List Vl} {us : List V} (h : Rvs G H β vs us) : vs.length = us.length := Paired.length h
theorem Rvs.get {G : Cf} {H : Hp} {β : Bs} : ∀ {vs : List Vl} {us : List V} {i : Nat} {u : V}, Rvs G H β vs us → us[i]? = some u → ∃ v, vs[i]? = some v ∧ Rv G H β v u
  | _, _, _, _, .nil, e => by simp at e
  | _, _, 0, _, .cons h _, e => by simp at e; subst e; exact ⟨_, rfl, h⟩
  | _, _, i + 1, u, .cons _ r, e => by
    obtain ⟨d, h1, h2⟩ := Rvs.get (i := i) (u := u) r (by simpa using e)
    exact ⟨d, by simpa using h1, h2⟩
theorem Rvs.get' {G : Cf} {H : Hp} {β : Bs} {vs : List Vl} {us : List V} {i : Nat} {v : Vl} (h : Rvs G H β vs us) (e : vs[i]? = some v) : ∃ u, us[i]? = some u ∧ Rv G H β v u := by
  have hl := h.len
  obtain ⟨hi, _⟩ := List.getElem?_eq_some_iff.mp e
  have hv : i < us.length := by omega
  obtain ⟨d', h1, h2⟩ := h.get (List.getElem?_eq_getElem hv)
  rw [e] at h1
  cases h1
  exact ⟨_, List.getElem?_eq_getElem hv, h2⟩
theorem Rvs.append {G : Cf} {H : Hp} {β : Bs} : ∀ {vs ws : List Vl} {us xs : List V}, Rvs G H β vs us → Rvs G H β ws xs → Rvs G H β (vs ++ ws) (us ++ xs)
  | _, _, _, _, .nil, r => r
  | _, _, _, _, .cons h t, r => .cons h (Rvs.append t r)
theorem Rvs.set {G : Cf} {H : Hp} {β : Bs} {v : Vl} {u : V} (r : Rv G H β v u) : ∀ {vs : List Vl} {us : List V} (i : Nat), Rvs G H β vs us → Rvs G H β (vs.set i v) (us.set i u)
  | _, _, _, .nil => .nil
  | _, _, 0, .cons _ t => .cons r t
  | _, _, i + 1, .cons q t => .cons q (Rvs.set r i t)
theorem Rvs.dats {G : Cf} {H : Hp} {β : Bs} : ∀ {ds : List PyData} {us : List V}, DqAll G.K H β us ds → Rvs G H β (ds.map Vl.dat) us
  | _, _, .nil => .nil
  | _, _, .cons h t => .cons h (Rvs.dats t)
theorem Rvs.undats {G : Cf} {H : Hp} {β : Bs} : ∀ {ds : List PyData} {us : List V}, Rvs G H β (ds.map Vl.dat) us → DqAll G.K H β us ds
  | [], _, .nil => .nil
  | _ :: _, _, .cons h t => .cons h (Rvs.undats t)
/-- all of a list are data -/
def datas : List Vl → Option (List PyData)
  | [] => some []
  | .dat p :: r => (datas r).map (p :: ·)
  | .ref _ :: _ => none
  | .scr _ :: _ => none
  | .exo _ _ :: _ => none
  | .fn _ :: _ => none
  | .lam _ _ _ _ _ :: _ => none
theorem datas_eq : ∀ {vs : List Vl} {ds : List PyData}, datas vs = some ds → vs = ds.map Vl.dat
  | [], ds, h => by
    have : [] = ds := by simpa [datas] using h
    subst this
    rfl
  | .dat p :: r, ds, h => by
    cases e : datas r with
    | none => simp [datas, e] at h
    | some l =>
      have : p :: l = ds := by simpa [datas, e] using h
      subst this
      rw [datas_eq e]
      rfl
  | .ref _ :: _, ds, h => by simp [datas] at h
  | .scr _ :: _, ds, h => by simp [datas] at h
  | .exo _ _ :: _, ds, h => by simp [datas] at h
  | .fn _ :: _, ds, h => by simp [datas] at h
  | .lam _ _ _ _ _ :: _, ds, h => by simp [datas] at h
@[simp] theorem datas_map : ∀ ds : List PyData, datas (ds.map Vl.dat) = some ds
  | [] => rfl
  | d :: ds => by simp [datas, datas_map ds]
def RO (G : Cf) (H : Hp) (β : Bs) (a : Addr) : Ob → Prop
  | .lst l => l.length ≤ sizeLine ∧ ∃ xs, H a = some (.lst xs) ∧ Rvs G.o H β l xs
  | .dic false kvs => ∃ ks : List (Key × V), H a = some (.dK ks) ∧ Paired (fun (p : PyData × Vl) (q : Key × V) => p.1 = keyD q.1 ∧ Rv G.o H β p.2 q.2) kvs ks
  | .dic true kvs => ∃ ks : List (List Key × V), H a = some (.dT ks) ∧ Paired (fun (p : PyData × Vl) (q : List Key × V) => p.1 = keysD q.1 ∧ Rv G.o H β p.2 q.2) kvs ks
  | .ins c fs => ∃ (C dx : Addr) (xs : List (Str × V)), G.mg c = some (.ref C) ∧ H a = some (.ins C dx xs) ∧ H dx = some (.own a) ∧ dx ∉ β.b ∧ Paired (fun (p : Str × Vl) (q : Str × V) => p.1 = q.1 ∧ Rv G.o H β p.2 q.2) fs xs
  | .tup l => l.length ≤ sizeLine ∧ ∃ xs, H a = some (.tup xs) ∧ Rvs G.o H β l xs
/-- a tuple that holds objects of the store -/
def isTp : Ob → Bool
  | .tup _ => true
  | _ => false
theorem RO.own {G : Cf} {H : Hp} {β : Bs} {a : Addr} {o : Ob} (h : RO G H β a o) : ∃ x, H a = some x ∧ (isTp o = false → Own x) := by
  cases o with
  | lst l => obtain ⟨_, xs, e, _⟩ := h; exact ⟨_, e, fun _ => trivial⟩
  | dic t l => cases t <;> (obtain ⟨xs, e, _⟩ := h; exact ⟨_, e, fun _ => trivial⟩)
  | ins c l => obtain ⟨_, _, xs, _, e, _⟩ := h; exact ⟨_, e, fun _ => trivial⟩
  | tup l => obtain ⟨_, xs, e, _⟩ := h; exact ⟨_, e, fun z => by cases z⟩
theorem RO.ownN {G : Cf} {H : Hp} {β : Bs} {a : Addr} {o : Ob} (h : RO G H β a o) : ∃ x, H a = some x ∧ NT x := by
  cases o with
  | lst l => obtain ⟨_, xs, e, _⟩ := h; exact ⟨_, e, trivial⟩
  | dic t l => cases t <;> (obtain ⟨xs, e, _⟩ := h; exact ⟨_, e, trivial⟩)
  | ins c l => obtain ⟨_, _, xs, _, e, _⟩ := h; exact ⟨_, e, trivial⟩
  | tup l => obtain ⟨_, xs, e, _⟩ := h; exact ⟨_, e, trivial⟩
theorem RO.step {G : Cf} {H H' : Hp} {β β' : Bs} {a : Addr} {o : Ob} (s : Step β H β' H') (ha : H' a = H a) (h : RO G H β a o) : RO G H' β' a o := by
  cases o with
  | tup l => obtain ⟨hl, xs, e, r⟩ := h; exact ⟨hl, xs, by rw [ha]; exact e, s.rvs r⟩
  | lst l => obtain ⟨hl, xs, e, r⟩ := h; exact ⟨hl, xs, by rw [ha]; exact e, s.rvs r⟩
  | dic t l => cases t <;> (obtain ⟨xs, e, r⟩ := h; exact ⟨xs, by rw [ha]; exact e, Paired.mapP r fun p q z => ⟨z.1, s.rv z.2⟩⟩)
  | ins c l =>
    obtain ⟨C, dx, xs, hm, e, hd, n, r⟩ := h
    exact ⟨C, dx, xs, hm, by rw [ha]; exact e, s.keep _ _ trivial hd n, s.out hd n, Paired.mapP r fun p q z => ⟨z.1, s.rv z.2⟩⟩
structure RelS (G : Cf) (β : Bs) (s : Sto) (H : Hp) : Prop where
  len : β.b.length = s.length
  nd : β.b.Nodup
  ob : ∀ (n : Nat) (o : Ob) (a : Addr), s[n]? = some o → β.b[n]? = some a → RO G H β a o
  gs : ∀ a ∈ β.g, (∃ o, H a = some o) ∧ a ∉ β.b
  tb : TabsB β H
theorem RelS.own {G : Cf} {β : Bs} {s : Sto} {H : Hp} (h : RelS G β s H) {a : Addr} (ha : a ∈ β.b) : ∃ x, H a = some x ∧ NT x := by
  obtain ⟨n, hn, e⟩ := List.getElem_of_mem ha
  have hs : n < s.length := by rw [← h.len]; exact hn
  exact (h.ob n _ a (List.getElem?_eq_getElem hs) (by rw [List.getElem?_eq_getElem hn, e])).ownN
theorem RelS.nin {G : Cf} {β : Bs} {s : Sto} {H : Hp} (h : RelS G β s H) {p : Addr} (hp : H p = none) : p ∉ β.b := fun z => by
  obtain ⟨x, e, _⟩ := h.own z
  rw [hp] at e; cases e
theorem RelS.nig {G : Cf} {β : Bs} {s : Sto} {H : Hp} (h : RelS G β s H) {p : Addr} (hp : H p = none) : p ∉ β.g := fun z => by
  obtain ⟨⟨x, e⟩, _⟩ := h.gs p z
  rw [hp] at e; cases e
/-- all that stood stands -/
theorem RelS.same {G : Cf} {β : Bs} {s : Sto} {H H' : Hp} (h : RelS G β s H) (e : Same H H') : RelS G β s H' :=
  ⟨h.len, h.nd, fun n o a h1 h2 => by
    have r := h.ob n o a h1 h2
    obtain ⟨x, hx, _⟩ := r.own
    exact r.step (Step.same e) (by rw [hx]; exact e _ _ hx), fun a ha => by
    obtain ⟨⟨o, ho⟩, n⟩ := h.gs a ha
    exact ⟨⟨o, e _ _ ho⟩, n⟩, h.tb.same e⟩
theorem RelS.push {G : Cf} {β : Bs} {s : Sto} {H : Hp} {p : Addr} {o : HO} {ob : Ob} (h : RelS G β s H) (hp : H p = none) (r : RO G (upd H p o) (β.push p) p ob) : RelS G (β.push p) (s ++ [ob]) (upd H p o) := by
  have hn := h.nin hp
  refine ⟨by simp [Bs.push, h.len], ?_, fun n x a h1 h2 => ?_, fun a ha => ?_, (Step.push hp).tbs h.tb⟩
  · show (β.b ++ [p]).Nodup
    rw [List.nodup_append]
    exact ⟨h.nd, by simp, fun a ha b hb => by
      have : b = p := by simpa using hb
      subst this
      exact fun z => hn (z ▸ ha)⟩
  · have h2 : (β.b ++ [p])[n]? = some a := h2
    by_cases hlt : n < s.length
    · rw [List.getElem?_append_left hlt] at h1
      rw [List.getElem?_append_left (by rw [h.len]; exact hlt)] at h2
      have r := h.ob n x a h1 h2
      obtain ⟨y, hy, _⟩ := r.own
      exact r.step (Step.push hp) (by rw [upd_ne (ne_of_none hy hp)])
    · have hlt2 : n < (s ++ [ob]).length := (List.getElem?_eq_some_iff.mp h1).1
      have : n = s.length := by simp at hlt2; omega
      subst this
      rw [List.getElem?_append_right (Nat.le_refl _), Nat.sub_self] at h1
      rw [← h.len, List.getElem?_append_right (Nat.le_refl _), Nat.sub_self] at h2
      cases h1; cases h2
      exact r
  · obtain ⟨⟨x, hx⟩, n⟩ := h.gs a ha
    refine ⟨⟨x, by rw [upd_ne (ne_of_none hx hp)]; exact hx⟩, fun z => ?_⟩
    rcases List.mem_append.mp (show a ∈ β.b ++ [p] from z) with z | z
    · exact n z
    · have : a = p := by simpa using z
      rw [this, hp] at hx; cases hx
theorem RelS.put {G : Cf} {β : Bs} {s : Sto} {H : Hp} {n : Nat} {a : Addr} {o : HO} {ob ob' : Ob} (h : RelS G β s H) (hs : s[n]? = some ob') (ha : β.b[n]? = some a) (r : RO G (upd H a o) β a ob) (htp : isTp ob' = false := by rfl) : RelS G β (s.set n ob) (upd H a o) := by
  have hm : a ∈ β.b := List.mem_of_getElem? ha
  obtain ⟨y, hy, ho⟩ := (h.ob n ob' a hs ha).own
  have ho := ho htp
  refine ⟨by simp [h.len], h.nd, fun m x b h1 h2 => ?_, fun b hb => ?_, (Step.put hm hy ho).tbs h.tb⟩
  · by_cases hmn : m = n
    · subst hmn
      rw [List.getElem?_set_self (List.getElem?_eq_some_iff.mp hs).1] at h1
      rw [ha] at h2
      cases h1; cases h2
      exact r
    · rw [List.getElem?_set_ne (Ne.symm hmn)] at h1
      refine (h.ob m x b h1 h2).step (Step.put hm hy ho) (upd_ne fun z => hmn ?_)
      subst z
      obtain ⟨i1, e1⟩ := List.getElem?_eq_some_iff.mp ha
      obtain ⟨i2, e2⟩ := List.getElem?_eq_some_iff.mp h2
      exact (List.getElem_inj h.nd).mp (e2.trans e1.symm)
  · obtain ⟨⟨x, hx⟩, n⟩ := h.gs b hb
    exact ⟨⟨x, by rw [upd_ne (fun z => n (by rw [z]; exact hm))]; exact hx⟩, n⟩
structure RelL (G : Cf) (H : Hp) (β : Bs) (ρ : Loc) (σ : L2.St) : Prop where
  len : ρ.length = σ.length
  at' : ∀ (i : Nat) v, ρ[i]? = some (some v) → ∃ u, σ[i]? = some (some u) ∧ Rv G H β v u
theorem RelL.step {G : Cf} {H H' : Hp} {β β' : Bs} {ρ : Loc} {σ : L2.St} (s : Step β H β' H') (h : RelL G H β ρ σ) : RelL G H' β' ρ σ := ⟨h.len, fun i v e => by
  obtain ⟨u, h1, h2⟩ := h.at' i v e
  exact ⟨u, h1, s.rv h2⟩⟩
theorem RelL.set {G : Cf} {H : Hp} {β : Bs} {ρ : Loc} {σ : L2.St} (h : RelL G H β ρ σ) {i : Nat} {v : Vl} {u : V} (r : Rv G H β v u) : RelL G H β (ρ.set i (some v)) (σ.set i (some u)) := by
  refine ⟨by simp [h.len], fun j w e => ?_⟩
  by_cases hj : j = i
  · subst hj
    by_cases hlt : j < ρ.length
    · rw [List.getElem?_set_self hlt] at e
      cases e
      exact ⟨u, List.getElem?_set_self (by rw [← h.len]; exact hlt), r⟩
    · rw [List.getElem?_eq_none (by simpa using hlt)] at e; cases e
  · rw [List.getElem?_set_ne (Ne.symm hj)] at e
    obtain ⟨x, h1, h2⟩ := h.at' j w e
    exact ⟨x, by rw [List.getElem?_set_ne (Ne.symm hj)]; exact h1, h2⟩
theorem RelL.setN {G : Cf} {H : Hp} {β : Bs} {ρ : Loc} {σ : L2.St} (h : RelL G H β ρ σ) {i : Nat} {x : Option V} : RelL G H β (ρ.set i none) (σ.set i x) := by
  refine ⟨by simp [h.len], fun j w e => ?_⟩
  by_cases hj : j = i
  · subst hj
    by_cases hlt : j < ρ.length
    · rw [List.getElem?_set_self hlt] at e; cases e
    · rw [List.getElem?_eq_none (by simpa using hlt)] at e; cases e
  · rw [List.getElem?_set_ne (Ne.symm hj)] at e
    obtain ⟨y, h1, h2⟩ := h.at' j w e
    exact ⟨y, by rw [List.getElem?_set_ne (Ne.symm hj)]; exact h1, h2⟩
section
variable {α υ : Type}
abbrev Rel (α υ : Type) := Hp → Bs → α → υ → Prop
/-- what is to follow an end -/
def Post (G : Cf) (rel : Rel α υ) (W : WX) (σ : L2.St) (β : Bs) (H : Hp) (Q : υ → Hp → Prop) : R α → Prop
  | .ok v s => ∀ β' H' u, Step β H β' H' → RelS G β' s H' → rel H' β' v u → Q u H'
  | .ex x s => ∀ β' H' c d, Step β H β' H' → RelS G β' s H' → RX G H' β' x c d → W c d σ H'
  | .bad => False
theorem Post.step {G : Cf} {rel : Rel α υ} {W : WX} {σ : L2.St} {β β1 : Bs} {H H1 : Hp} {Q : υ → Hp → Prop} {r : R α} (h : Post G rel W σ β H Q r) (s : Step β H β1 H1) : Post G rel W σ β1 H1 Q r := by
  cases r with
  | ok v st => exact fun β' H' u s' => h β' H' u (s.trans s')
  | ex x st => exact fun β' H' c d s' => h β' H' c d (s.trans s')
  | bad => exact h
theorem Post.bind {α' υ' : Type} {G : Cf} {rel : Rel α υ} {rel' : Rel α' υ'} {W : WX} {σ : L2.St} {β : Bs} {H : Hp} {Q : υ' → Hp → Prop} {Q1 : υ → Hp → Prop} {r : R α} {k : α → Sto → R α'} (h : Post G rel' W σ β H Q (r.bind k))
    (hk : ∀ v s1 β1 H1 u, Step β H β1 H1 → RelS G β1 s1 H1 → rel H1 β1 v u → Post G rel' W σ β1 H1 Q (k v s1) → Q1 u H1) : Post G rel W σ β H Q1 r := by
  cases r with
  | ok v st => exact fun β' H' u s' hs hr => hk v st β' H' u s' hs hr (Post.step (show Post G rel' W σ β H Q (k v st) from h) s')
  | ex x st => exact h
  | bad => exact h
/-- a reading by the machine -/
def tG (G : Cf) (rel : Rel α υ) (W : WX) (f : Loc → Sto → R α) : L2.St → Hp → (υ → Hp → Prop) → Prop := fun σ H Q => ∃ β ρ s, RelL G H β ρ σ ∧ RelS G β s H ∧ Post G rel W σ β H Q (f ρ s)
def PostS (G : Cf) (W : WX) (β : Bs) (H : Hp) (D : Ends) : Fl → Prop
  | .nx ρ s => ∀ β' σ' H', Step β H β' H' → RelL G H' β' ρ σ' → RelS G β' s H' → D.nx σ' H'
  | .rt v s => ∀ β' H' u, Step β H β' H' → RelS G β' s H' → Rv G H' β' v u → D.rt u H'
  | .bk ρ s => ∀ β' σ' H', Step β H β' H' → RelL G H' β' ρ σ' → RelS G β' s H' → D.bk σ' H'
  | .ct ρ s => ∀ β' σ' H', Step β H β' H' → RelL G H' β' ρ σ' → RelS G β' s H' → D.ct σ' H'
  | .ex x ρ s => ∀ β' σ' H' c d, Step β H β' H' → RelL G H' β' ρ σ' → RelS G β' s H' → RX G H' β' x c d → W c d σ' H'
  | .bad => False
theorem PostS.step {G : Cf} {W : WX} {β β1 : Bs} {H H1 : Hp} {D : Ends} {f : Fl} (h : PostS G W β H D f) (s : Step β H β1 H1) : PostS G W β1 H1 D f := by
  cases f with
  | nx ρ st => exact fun β' σ' H' s' => h β' σ' H' (s.trans s')
  | rt v st => exact fun β' H' u s' => h β' H' u (s.trans s')
  | bk ρ st => exact fun β' σ' H' s' => h β' σ' H' (s.trans s')
  | ct ρ st => exact fun β' σ' H' s' => h β' σ' H' (s.trans s')
  | ex x ρ st => exact fun β' σ' H' c d s' => h β' σ' H' c d (s.trans s')
  | bad => exact h
def tS (G : Cf) (W : WX) (f : MS) : TS := fun D σ H => ∃ β ρ s, RelL G H β ρ σ ∧ RelS G β s H ∧ PostS G W β H D (f ρ s)
theorem PostS.to {G : Cf} {rel : Rel α υ} {W : WX} {σ : L2.St} {ρ : Loc} {β : Bs} {H : Hp} {D : Ends} {Q1 : υ → Hp → Prop} {r : R α} {k : α → Sto → Fl} (hl : RelL G H β ρ σ) (h : PostS G W β H D (r.to ρ k))
    (hk : ∀ v s1 β1 H1 u, Step β H β1 H1 → RelS G β1 s1 H1 → rel H1 β1 v u → PostS G W β1 H1 D (k v s1) → Q1 u H1) : Post G rel W σ β H Q1 r := by
  cases r with
  | ok v st => exact fun β' H' u s' hs hr => hk v st β' H' u s' hs hr (PostS.step (show PostS G W β H D (k v st) from h) s')
  | ex x st => exact fun β' H' c d s' hs hx => h β' σ H' c d s' (hl.step s') hs hx
  | bad => exact h
end
end Pm
set_option maxRecDepth 100000
set_option maxHeartbeats 4000000
namespace Pm
open PySem PySem.Spec PyProof.Rows L2 Sw
abbrev cf (X : Cx) (zx : Exo) : Cf := ⟨X.K, X.mg, zx⟩
theorem PE.imp {X : Cx} {e : Expr} {t t' : TE} (h : PE X e t) (i : ∀ σ H Q, t' σ H Q → t σ H Q) : PE X e t' := ⟨fun pins s σ H Q I q => h.run pins s σ H Q I (i σ H Q q)⟩
theorem PT.imp {X : Cx} {e : Expr} {t t' : TT} (h : PT X e t) (i : ∀ σ H Q, t' σ H Q → t σ H Q) : PT X e t' := ⟨fun pins s σ H Q I q => h.run pins s σ H Q I (i σ H Q q)⟩
theorem PW.imp {X : Cx} {e : Expr} {t t' : TT} (h : PW X e t) (i : ∀ σ H Q, t' σ H Q → t σ H Q) : PW X e t' := ⟨fun wh pins s σ H Q I q => h.run wh pins s σ H Q I (i σ H Q q)⟩
theorem PA.imp {X : Cx} {es : List Expr} {t t' : TA} (h : PA X es t) (i : ∀ σ H Q, t' σ H Q → t σ H Q) : PA X es t' := ⟨fun p pins s σ H Q I q => h.run p pins s σ H Q I (i σ H Q q)⟩
theorem PS.imp {X : Cx} {st : Stmt} {t t' : TS} (h : PS X st t) (i : ∀ D σ H, t' D σ H → t D σ H) : PS X st t' := ⟨fun pins s σ H D I q => h.run pins s σ H D I (i D σ H q)⟩
theorem PSs.imp {X : Cx} {st : List Stmt} {t t' : TS} (h : PSs X st t) (i : ∀ D σ H, t' D σ H → t D σ H) : PSs X st t' := ⟨fun pins s σ H D I q => h.run pins s σ H D I (i D σ H q)⟩
/-- the same Bool -/
abbrev rB : Rel Bool Bool := fun _ _ a b => a = b
abbrev DE (X : Cx) (zx : Exo) (W : WX) (e : Expr) (f : ME) : Prop := PE X e (tG (cf X zx) (Rv (cf X zx)) W f)
abbrev DT (X : Cx) (zx : Exo) (W : WX) (e : Expr) (f : MT) : Prop := PT X e (tG (cf X zx) rB W f)
abbrev DW (X : Cx) (zx : Exo) (W : WX) (e : Expr) (f : MT) : Prop := PW X e (tG (cf X zx) rB W f)
abbrev DA (X : Cx) (zx : Exo) (W : WX) (es : List Expr) (f : MA) : Prop := PA X es (tG (cf X zx) (Rvs (cf X zx)) W f)
def mVar (i : Nat) : ME := fun ρ s => match ρ[i]? with
  | some (some v) => .ok v s
  | _ => .bad
def mC (p : PyData) : ME := fun _ s => .ok (.dat p) s
section
variable {X : Cx} {zx : Exo} {W : WX} {a b c : Expr} {f g h : ME} {pos : Pos}
theorem de_var {i : Nat} {x : Str} (hN : X.N[i]? = some x) (hv : Vis X.env.scope x) (hd : (x == ("__debug__" : Str)) = false := by decide) (hcd : (x == ("__classdict__" : Str)) = false := by decide) : DE X zx W (.Name x pos) (mVar i) := by
  refine PE.imp (pe_var hN hv hd hcd) fun σ H Q ⟨β, ρ, s, hl, hs, hp⟩ => ?_
  unfold mVar at hp
  split at hp
  · rename_i v e
    obtain ⟨u, h1, h2⟩ := hl.at' i v e
    exact ⟨u, h1, hp β H u (Step.refl _ _) hs h2⟩
  · exact hp.elim
theorem de_int {i : Int} {j} : DE X zx W (.Constant (.int i) j pos) (mC (.int i)) := PE.imp pe_int fun σ H Q ⟨β, ρ, s, hl, hs, hp⟩ => hp β H _ (Step.refl _ _) hs (.int i)
theorem de_bl {i : Bool} {j} : DE X zx W (.Constant (.bool i) j pos) (mC (.bool i)) := PE.imp pe_bl fun σ H Q ⟨β, ρ, s, hl, hs, hp⟩ => hp β H _ (Step.refl _ _) hs (.bl i)
theorem de_non {j} : DE X zx W (.Constant .none j pos) (mC .none) := PE.imp pe_non fun σ H Q ⟨β, ρ, s, hl, hs, hp⟩ => hp β H _ (Step.refl _ _) hs .non
theorem de_str {x : Str} {j} (hx : x.length ≤ 1000 := by decide) : DE X zx W (.Constant (.str x) j pos) (mC (.str x)) := PE.imp pe_str fun σ H Q ⟨β, ρ, s, hl, hs, hp⟩ => hp β H _ (Step.refl _ _) hs (.str (by rw [sizeLine_eq]; omega))
/-- two values, one out; what stood stands -/
def r2 (G : Cf) (ph : Vl → Vl → Sto → Option Vl) : R2 := fun x y H Q => ∃ β s v w z, RelS G β s H ∧ Rv G H β v x ∧ Rv G H β w y ∧ ph v w s = some z ∧ ∀ H' u, Same H H' → Rv G H' β z u → Q u H'
def r1 (G : Cf) (ph : Vl → Sto → Option Vl) : V → Hp → VK → Prop := fun x H Q => ∃ β s v z, RelS G β s H ∧ Rv G H β v x ∧ ph v s = some z ∧ ∀ H' u, Same H H' → Rv G H' β z u → Q u H'
def rn (G : Cf) (ph : List Vl → Sto → Option Vl) : List V → Hp → VK → Prop := fun x H Q => ∃ β s v z, RelS G β s H ∧ Rvs G H β v x ∧ ph v s = some z ∧ ∀ H' u, Same H H' → Rv G H' β z u → Q u H'
def R.of {α : Type} (o : Option α) (s : Sto) : R α := match o with
  | some z => .ok z s
  | none => .bad
@[simp] theorem R.of_some {α : Type} (z : α) (s : Sto) : R.of (some z) s = .ok z s := rfl
@[simp] theorem R.of_none {α : Type} (s : Sto) : (R.of none s : R α) = .bad := rfl
def m2 (ph : Vl → Vl → Sto → Option Vl) (f g : ME) : ME := fun ρ s => (f ρ s).bind fun v s1 => (g ρ s1).bind fun w s2 => R.of (ph v w s2) s2
def m1 (ph : Vl → Sto → Option Vl) (f : ME) : ME := fun ρ s => (f ρ s).bind fun v s1 => R.of (ph v s1) s1
def mn (ph : List Vl → Sto → Option Vl) (f : MA) : ME := fun ρ s => (f ρ s).bind fun v s1 => R.of (ph v s1) s1
theorem post_of {σ : L2.St} {β : Bs} {H : Hp} {s : Sto} {Q : VK} {o : Option Vl} (h : Post (cf X zx) (Rv (cf X zx)) W σ β H Q (R.of o s)) (hs : RelS (cf X zx) β s H) : ∃ z, o = some z ∧ ∀ H' u, Same H H' → Rv (cf X zx) H' β z u → Q u H' := by
  cases o with
  | none => exact h.elim
  | some z => exact ⟨z, rfl, fun H' u sm r => h β H' u (Step.same sm) (hs.same sm) r⟩
theorem tOp_of {ph : Vl → Vl → Sto → Option Vl} {σ : L2.St} {H : Hp} {Q : VK} (q : tG (cf X zx) (Rv (cf X zx)) W (m2 ph f g) σ H Q) : tOp (r2 (cf X zx) ph) (tG (cf X zx) (Rv (cf X zx)) W f) (tG (cf X zx) (Rv (cf X zx)) W g) σ H Q := by
  obtain ⟨β, ρ, s, hl, hs, hp⟩ := q
  refine ⟨β, ρ, s, hl, hs, Post.bind hp fun v s1 β1 H1 u st1 hs1 r1 h1 => ?_⟩
  refine ⟨β1, ρ, s1, hl.step st1, hs1, Post.bind h1 fun w s2 β2 H2 u2 st2 hs2 r2 h2 => ?_⟩
  obtain ⟨z, e, q⟩ := post_of h2 hs2
  exact ⟨β2, s2, v, w, z, hs2, st2.rv r1, r2, e, q⟩
theorem de_op {op : Operator} {ph : Vl → Vl → Sto → Option Vl} (o : OpR X (binaryOp op) (r2 (cf X zx) ph)) (ha : DE X zx W a f) (hb : DE X zx W b g) : DE X zx W (.BinOp a op b pos) (m2 ph f g) := PE.imp (pe_op o ha hb) fun σ H Q q => tOp_of q
theorem de_cmp {op : CmpOp} {ph : Vl → Vl → Sto → Option Vl} (o : OpR X (compareOp op) (r2 (cf X zx) ph)) (ha : DE X zx W a f) (hb : DE X zx W b g) (hm : behindInMarks op b = false) : DE X zx W (.Compare a [op] [b] pos) (m2 ph f g) := PE.imp (pe_cmpR o ha hb hm) fun σ H Q q => tOp_of q
theorem de_ix {ph : Vl → Vl → Sto → Option Vl} (o : IxR X (r2 (cf X zx) ph)) (ha : DE X zx W a f) (hb : DE X zx W b g) (hs : PlainIx b) : DE X zx W (.Subscript a b pos) (m2 ph f g) := PE.imp (pe_ix o ha hb hs) fun σ H Q q => tOp_of q
def aNil : MA := fun _ s => .ok [] s
def aCons (f : ME) (r : MA) : MA := fun ρ s => (f ρ s).bind fun v s1 => (r ρ s1).bind fun vs s2 => .ok (v :: vs) s2
theorem da_nil : DA X zx W [] aNil := PA.imp pa_nil fun σ H Q ⟨β, ρ, s, hl, hs, hp⟩ => hp β H _ (Step.refl _ _) hs .nil
theorem da_cons {es : List Expr} {r : MA} (ha : DE X zx W a f) (hr : DA X zx W es r) (hs : starEach (a :: es) X.env = (false, eval a X.env) :: starEach es X.env := by rfl) : DA X zx W (a :: es) (aCons f r) := PA.imp (pa_cons ha hr hs) fun σ H Q q => by
  obtain ⟨β, ρ, s, hl, hs, hp⟩ := q
  refine ⟨β, ρ, s, hl, hs, Post.bind hp fun v s1 β1 H1 u st1 hs1 r1 h1 => ?_⟩
  refine ⟨β1, ρ, s1, hl.step st1, hs1, Post.bind h1 fun vs s2 β2 H2 u2 st2 hs2 r2 h2 => ?_⟩
  exact h2 β2 H2 _ (Step.refl _ _) hs2 (.cons (st2.rv r1) r2)
theorem tCB_of {ph : List Vl → Sto → Option Vl} {r : MA} {σ : L2.St} {H : Hp} {Q : VK} (q : tG (cf X zx) (Rv (cf X zx)) W (mn ph r) σ H Q) : tCB (rn (cf X zx) ph) (tG (cf X zx) (Rvs (cf X zx)) W r) σ H Q := by
  obtain ⟨β, ρ, s, hl, hs, hp⟩ := q
  refine ⟨β, ρ, s, hl, hs, Post.bind hp fun v s1 β1 H1 u st1 hs1 r1 h1 => ?_⟩
  obtain ⟨z, e, q⟩ := post_of h1 hs1
  exact ⟨β1, s1, v, z, hs1, r1, e, q⟩
theorem de_callB {id : String} {x : Str} {p : Pos} {es : List Expr} {e : Expr} {ph : List Vl → Sto → Option Vl} {r : MA} (hc : CallR X (.builtin id) (rn (cf X zx) ph)) (hg : Gl X x) (hm : X.mg x = none) (hv : bootBuiltins x = some (.builtin id)) (ha : DA X zx W (e :: es) r) (hn : x ≠ "__name__" := by decide) (hdb : (x == ("__debug__" : Str)) = false := by decide)
    (he : starEach (e :: es) X.env = (false, eval e X.env) :: starEach es X.env := by rfl) (hpl : (backTo pos (starEach es X.env)).any (·.1) = false := by rfl) : DE X zx W (.Call (.Name x p) (e :: es) [] pos) (mn ph r) := PE.imp (pe_callB hc hg hm hv ha hn hdb he hpl) fun σ H Q q => tCB_of q
theorem de_callTy {T : String} {x : Str} {p : Pos} {es : List Expr} {e : Expr} {ph : List Vl → Sto → Option Vl} {r : MA} (hc : CallR X (.type T) (rn (cf X zx) ph)) (hg : Gl X x) (hm : X.mg x = none) (hv : bootBuiltins x = some (.type T)) (ha : DA X zx W (e :: es) r) (hn : x ≠ "__name__" := by decide) (hdb : (x == ("__debug__" : Str)) = false := by decide)
    (he : starEach (e :: es) X.env = (false, eval e X.env) :: starEach es X.env := by rfl) (hpl : (backTo pos (starEach es X.env)).any (·.1) = false := by rfl) : DE X zx W (.Call (.Name x p) (e :: es) [] pos) (mn ph r) := PE.imp (pe_callTy hc hg hm hv ha hn hdb he hpl) fun σ H Q q => tCB_of q
def mTup (r : MA) : ME := fun ρ s => (r ρ s).bind fun vs s1 => R.of ((datas vs).bind fun ds => if ds.length ≤ 1000 then some (.dat (.tuple ds)) else none) s1
/-- a list that nobody turns -/
def mLst (r : MA) : ME := fun ρ s => (r ρ s).bind fun vs s1 => R.of ((datas vs).bind fun ds => if ds.length ≤ 1000 then some (.dat (.list ds)) else none) s1
/-- a list of the store -/
def mNew (r : MA) : ME := fun ρ s => (r ρ s).bind fun vs s1 => if vs.length ≤ 1000 ∧ vs.all noX = true then .ok (.ref s1.length) (s1 ++ [.lst vs]) else .bad
theorem thou {n : Nat} (h : n ≤ 1000) : n ≤ sizeLine := by rw [sizeLine_eq]; omega
/-- a new tuple, as data -/
theorem tup_new {K : PySem.W.Frag} {H : Hp} {β : Bs} {xs : List V} {ds : List PyData} {Q : VK} (hz : ds.length ≤ sizeLine) (dx : DqAll K H β xs ds) (q : ∀ H' u, Same H H' → Dq K H' β u (.tuple ds) → Q u H') : NewT xs H Q := by
  by_cases hO : isO ds = true
  · exact .inr fun p its hp => q _ _ (same_new hp) (.tup (by unfold TupA; rw [if_pos hO]; exact .inl ⟨its, upd_same⟩) hz ((Step.lay hp).dqs dx))
  · exact .inl fun p hp => q _ _ (same_new hp) (.tup (TupA.of (by simpa using hO) upd_same) hz ((Step.lay hp).dqs dx))
theorem de_tup {es : List Expr} {r : MA} {x1} (h : DA X zx W es r) : DE X zx W (.Tuple es x1 pos) (mTup r) := PE.imp (pe_tupN h) fun σ H Q q => by
  obtain ⟨β, ρ, s, hl, hs, hp⟩ := q
  refine ⟨β, ρ, s, hl, hs, Post.bind hp fun vs s1 β1 H1 us st1 hs1 r1 h1 => ?_⟩
  obtain ⟨z, e, q⟩ := post_of h1 hs1
  cases ed : datas vs with
  | none => rw [ed] at e; cases e
  | some ds =>
    rw [ed] at e
    have e' : (if ds.length ≤ 1000 then some (Vl.dat (.tuple ds)) else none) = some z := e
    split at e'
    · rename_i hlen
      cases e'
      rw [datas_eq ed] at r1
      have dq := Rvs.undats r1
      have hln := dq.len
      exact ⟨by rw [hln]; exact thou hlen, tup_new (thou hlen) dq q⟩
    · cases e'
theorem de_lst {es : List Expr} {r : MA} (h : DA X zx W es r) : DE X zx W (.List es pos) (mLst r) := PE.imp (pe_lst h) fun σ H Q q => by
  obtain ⟨β, ρ, s, hl, hs, hp⟩ := q
  refine ⟨β, ρ, s, hl, hs, Post.bind hp fun vs s1 β1 H1 us st1 hs1 r1 h1 => ?_⟩
  obtain ⟨z, e, q⟩ := post_of h1 hs1
  cases ed : datas vs with
  | none => rw [ed] at e; cases e
  | some ds =>
    rw [ed] at e
    have e' : (if ds.length ≤ 1000 then some (Vl.dat (.list ds)) else none) = some z := e
    split at e'
    · rename_i hlen
      cases e'
      rw [datas_eq ed] at r1
      have dq := Rvs.undats r1
      have hln := dq.len
      refine ⟨by rw [hln]; exact thou hlen, fun p hp => q _ _ (same_new hp) (Dq.lst ⟨upd_same, hs1.nin hp, hs1.nig hp⟩ (thou hlen) ((Step.lay hp).dqs dq))⟩
    · cases e'
theorem de_new {es : List Expr} {r : MA} (h : DA X zx W es r) : DE X zx W (.List es pos) (mNew r) := PE.imp (pe_lst h) fun σ H Q q => by
  obtain ⟨β, ρ, s, hl, hs, hp⟩ := q
  refine ⟨β, ρ, s, hl, hs, Post.bind hp fun vs s1 β1 H1 us st1 hs1 r1 h1 => ?_⟩
  split at h1
  · rename_i hlen
    have hln := r1.len
    refine ⟨by rw [← hln]; exact thou hlen.1, fun p hp => h1 (β1.push p) _ _ (Step.push hp) (hs1.push hp ⟨thou hlen.1, us, upd_same, (Step.push hp).rvs (Rvs.dn hlen.2 r1)⟩) ⟨p, ?_, rfl⟩⟩
    show (β1.b ++ [p])[s1.length]? = some p
    rw [← hs1.len, List.getElem?_append_right (Nat.le_refl _), Nat.sub_self]
    rfl
  · exact h1.elim
/-- whether a dict's entries are those of one by tuples -/
def isT : List (PyData × PyData) → Bool
  | (.none, .none) :: _ => true
  | _ => false
theorem DqKv.notT {K : PySem.W.Frag} {H : Hp} {β : Bs} {ks : List (Key × V)} {kvs : List (PyData × PyData)} (h : DqKv K H β Key keyD ks kvs) : isT kvs = false := by
  cases h with
  | nil => rfl
  | @cons _ _ k _ _ _ _ _ _ => cases k <;> rfl
theorem DqKv.len {K : PySem.W.Frag} {H : Hp} {β : Bs} : ∀ {κ : Type} {f : κ → PyData} {ks : List (κ × V)} {kvs : List (PyData × PyData)}, DqKv K H β κ f ks kvs → ks.length = kvs.length
  | _, _, _, _, .nil => rfl
  | _, _, _, _, .cons _ r => by rw [List.length_cons, List.length_cons, DqKv.len r]
/-- truth of a value -/
def tru : Vl → Sto → Option Bool
  | .dat .none, _ => some false
  | .dat (.bool b), _ => some b
  | .dat (.int i), _ => some (i != 0)
  | .dat (.str x), _ => some (x.length != 0)
  | .dat (.list l), _ => some (!l.isEmpty)
  | .dat (.tuple l), _ => some (!l.isEmpty)
  | .dat (.dict l), _ => if isT l = true then none else some (!l.isEmpty)
  | .ref n, s => match s[n]? with
    | some (.lst l) => some (!l.isEmpty)
    | some (.dic false l) => some (!l.isEmpty)
    | _ => none
  | .scr _, _ => none
  | .exo _ _, _ => none
  | .fn _, _ => none
  | .lam _ _ _ _ _, _ => none
theorem isEmpty_len {α β : Type} {xs : List α} {ys : List β} (h : xs.length = ys.length) : xs.isEmpty = ys.isEmpty := by
  cases xs <;> cases ys <;> simp_all
theorem tru_V {G : Cf} {H : Hp} {β : Bs} {s : Sto} {v : Vl} {u : V} {k : Bool} (hs : RelS G β s H) (r : Rv G H β v u) (h : tru v s = some k) : TruV G.K u H k := by
  cases v with
  | scr _ => cases h
  | exo _ _ => cases h
  | fn _ => cases h
  | lam _ _ _ _ _ => cases h
  | dat p =>
    cases p with
    | none => cases r; cases h; rfl
    | bool b => cases r; cases h; rfl
    | int i => cases r; cases h; rfl
    | str x =>
      cases r with
      | str hx =>
        have : (x.length != 0) = k := by simpa [tru] using h
        refine ⟨hx, ?_⟩
        rw [← this]
        by_cases h0 : x.length = 0
        · rw [h0]; rfl
        · have h1 : (x.length : Int) ≠ 0 := by omega
          rw [(bne_iff_ne).mpr h0, (bne_iff_ne).mpr h1]
    | list l =>
      cases r with
      | lst hx _ d =>
        have : (!l.isEmpty) = k := by simpa [tru] using h
        exact .inl ⟨_, hx.sq, by rw [← this, isEmpty_len d.len]⟩
    | tuple l =>
      cases r with
      | tup hx _ d =>
        have : (!l.isEmpty) = k := by simpa [tru] using h
        exact .inr (.inl ⟨_, hx.sqt, by rw [← this, isEmpty_len d.len]⟩)
    | dict l =>
      cases r with
      | dic hx d =>
        have : (!l.isEmpty) = k := by simpa [tru, d.notT] using h
        exact .inr (.inr ⟨_, hx.1, by rw [← this, isEmpty_len d.len]⟩)
      | dit hx d => simp [tru, isT] at h
  | ref n =>
    obtain ⟨a, ha, rfl⟩ := r
    cases e : s[n]? with
    | none => simp [tru, e] at h
    | some o =>
      have ro := hs.ob n o a e ha
      cases o with
      | lst l =>
        obtain ⟨_, xs, h1, h2⟩ := ro
        have : (!l.isEmpty) = k := by simpa [tru, e] using h
        exact .inl ⟨_, SqL.of h1, by rw [← this, isEmpty_len h2.len]⟩
      | dic t l =>
        cases t with
        | true => simp [tru, e] at h
        | false =>
          obtain ⟨xs, h1, h2⟩ := ro
          have : (!l.isEmpty) = k := by simpa [tru, e] using h
          exact .inr (.inr ⟨_, h1, by rw [← this, isEmpty_len (Paired.length h2)]⟩)
      | ins c l => simp [tru, e] at h
      | tup l => simp [tru, e] at h
def mTru (f : ME) : MT := fun ρ s => (f ρ s).bind fun v s1 => R.of (tru v s1) s1
/-- a value's truth as a test -/
theorem dt_tru (ha : DE X zx W a f) (he : ∀ whole, isTrue a X.env whole = (do let v ← whole; standAt a.pos; holding [v] (truthy v)) := by intro _; rfl) : DT X zx W a (mTru f) := PT.imp (pt_truth ha he) fun σ H Q q => by
  obtain ⟨β, ρ, s, hl, hs, hp⟩ := q
  refine ⟨β, ρ, s, hl, hs, Post.bind hp fun v s1 β1 H1 u st1 hs1 r1 h1 => ?_⟩
  cases e : tru v s1 with
  | none => rw [e] at h1; exact h1.elim
  | some k =>
    rw [e] at h1
    exact ⟨k, tru_V hs1 r1 e, h1 β1 H1 k (Step.refl _ _) hs1 rfl⟩
/-- a comparison as a test -/
def bool? : Vl → Option Bool
  | .dat (.bool b) => some b
  | _ => none
def mB (f : ME) : MT := fun ρ s => (f ρ s).bind fun v s1 => R.of (bool? v) s1
theorem dt_cmp {op : CmpOp} {ph : Vl → Vl → Sto → Option Vl} (o : OpR X (compareOp op) (r2 (cf X zx) ph)) (ha : DE X zx W a f) (hb : DE X zx W b g) (hm : behindInMarks op b = false) : DT X zx W (.Compare a [op] [b] pos) (mB (m2 ph f g)) := PT.imp (pt_cmpR o ha hb hm) fun σ H Q q => by
  obtain ⟨β, ρ, s, hl, hs, hp⟩ := q
  refine tOp_of (W := W) ⟨β, ρ, s, hl, hs, Post.bind hp fun v s1 β1 H1 u st1 hs1 r1 h1 => ?_⟩
  cases e : bool? v with
  | none => rw [e] at h1; exact h1.elim
  | some k =>
    rw [e] at h1
    cases v with
    | ref n => cases e
    | scr _ => cases e
    | exo _ _ => cases e
    | fn _ => cases e
    | lam _ _ _ _ _ => cases e
    | dat p =>
      cases p with
      | bool b => cases r1; cases e; exact ⟨_, rfl, h1 β1 H1 _ (Step.refl _ _) hs1 rfl⟩
      | _ => cases e
variable {tf tg : MT} {rest : List Expr}
def tAndM (f g : MT) : MT := fun ρ s => (f ρ s).bind fun c s1 => if c = true then g ρ s1 else .ok false s1
def tOrM (f g : MT) : MT := fun ρ s => (f ρ s).bind fun c s1 => if c = true then .ok true s1 else g ρ s1
def tNotM (f : MT) : MT := fun ρ s => (f ρ s).bind fun c s1 => .ok (!c) s1
theorem dw_and1 (ha : DT X zx W a tf) : DW X zx W (.BoolOp .And [a] pos) tf := pw_and1 ha
theorem dw_or1 (ha : DT X zx W a tf) : DW X zx W (.BoolOp .Or [a] pos) tf := pw_or1 ha
theorem dw_and (ha : DT X zx W a tf) (hb : DW X zx W (.BoolOp .And (b :: rest) pos) tg) : DW X zx W (.BoolOp .And (a :: b :: rest) pos) (tAndM tf tg) := PW.imp (pw_and ha hb) fun σ H Q q => by
  obtain ⟨β, ρ, s, hl, hs, hp⟩ := q
  refine ⟨β, ρ, s, hl, hs, Post.bind hp fun v s1 β1 H1 u st1 hs1 r1 h1 => ?_⟩
  cases (show v = u from r1)
  cases v with
  | true => exact iteT ⟨β1, ρ, s1, hl.step st1, hs1, h1⟩
  | false => exact iteF (h1 β1 H1 false (Step.refl _ _) hs1 rfl)
theorem dw_or (ha : DT X zx W a tf) (hb : DW X zx W (.BoolOp .Or (b :: rest) pos) tg) : DW X zx W (.BoolOp .Or (a :: b :: rest) pos) (tOrM tf tg) := PW.imp (pw_or ha hb) fun σ H Q q => by
  obtain ⟨β, ρ, s, hl, hs, hp⟩ := q
  refine ⟨β, ρ, s, hl, hs, Post.bind hp fun v s1 β1 H1 u st1 hs1 r1 h1 => ?_⟩
  cases (show v = u from r1)
  cases v with
  | false => exact iteF ⟨β1, ρ, s1, hl.step st1, hs1, h1⟩
  | true => exact iteT (h1 β1 H1 true (Step.refl _ _) hs1 rfl)
theorem dt_w (h : DW X zx W a tf) : DT X zx W a tf := h.pt
def mAnd (f g : ME) : ME := fun ρ s => (f ρ s).bind fun v s1 => match tru v s1 with
  | some true => g ρ s1
  | some false => .ok v s1
  | none => .bad
def mOr (f g : ME) : ME := fun ρ s => (f ρ s).bind fun v s1 => match tru v s1 with
  | some true => .ok v s1
  | some false => g ρ s1
  | none => .bad
def mNot (f : ME) : ME := fun ρ s => (f ρ s).bind fun v s1 => R.of ((tru v s1).map fun k => .dat (.bool (!k))) s1
def mIf (t : MT) (f g : ME) : ME := fun ρ s => (t ρ s).bind fun c s1 => if c = true then f ρ s1 else g ρ s1
theorem de_if (hc : DT X zx W c tf) (ha : DE X zx W a f) (hb : DE X zx W b g) : DE X zx W (.IfExp c a b pos) (mIf tf f g) := PE.imp (pe_ifExp hc ha hb) fun σ H Q q => by
  obtain ⟨β, ρ, s, hl, hs, hp⟩ := q
  refine ⟨β, ρ, s, hl, hs, Post.bind hp fun v s1 β1 H1 u st1 hs1 r1 h1 => ?_⟩
  cases (show v = u from r1)
  cases v with
  | true => exact iteT ⟨β1, ρ, s1, hl.step st1, hs1, h1⟩
  | false => exact iteF ⟨β1, ρ, s1, hl.step st1, hs1, h1⟩
end
end Pm
set_option maxRecDepth 100000
set_option maxHeartbeats 4000000
namespace Pm
open PySem PySem.Spec PyProof.Rows L2 Sw
abbrev MG := Vl → Loc → Sto → Fl
abbrev MGs := List Vl → Loc → Sto → Fl
/-- what follows a store -/
def PostG (G : Cf) (β : Bs) (H : Hp) (Q : L2.St → Hp → Prop) : Fl → Prop
  | .nx ρ s => ∀ β' σ' H', Step β H β' H' → RelL G H' β' ρ σ' → RelS G β' s H' → Q σ' H'
  | _ => False
theorem PostG.step {G : Cf} {β β1 : Bs} {H H1 : Hp} {Q : L2.St → Hp → Prop} {f : Fl} (h : PostG G β H Q f) (s : Step β H β1 H1) : PostG G β1 H1 Q f := by
  cases f with
  | nx ρ st => exact fun β' σ' H' s' => h β' σ' H' (s.trans s')
  | _ => exact h.elim
def tGt (G : Cf) (g : MG) : TG := fun v σ H Q => ∃ β ρ s x, RelL G H β ρ σ ∧ RelS G β s H ∧ Rv G H β x v ∧ PostG G β H Q (g x ρ s)
def tGts (G : Cf) (g : MGs) : TGs := fun vs σ H Q => ∃ β ρ s xs, RelL G H β ρ σ ∧ RelS G β s H ∧ Rvs G H β xs vs ∧ PostG G β H Q (g xs ρ s)
theorem PG.imp {X : Cx} {e : Expr} {t t' : TG} (h : PG X e t) (i : ∀ v σ H Q, t' v σ H Q → t v σ H Q) : PG X e t' := ⟨fun pins s σ H v u Q I r q => h.run pins s σ H v u Q I r (i v σ H Q q)⟩
theorem PGs.imp {X : Cx} {e : List Expr} {t t' : TGs} (h : PGs X e t) (i : ∀ v σ H Q, t' v σ H Q → t v σ H Q) : PGs X e t' := ⟨fun pins s σ H v u Q I r q => h.run pins s σ H v u Q I r (i v σ H Q q)⟩
abbrev DG (X : Cx) (zx : Exo) (e : Expr) (g : MG) : Prop := PG X e (tGt (cf X zx) g)
abbrev DGs (X : Cx) (zx : Exo) (e : List Expr) (g : MGs) : Prop := PGs X e (tGts (cf X zx) g)
def gSetM (i : Nat) : MG := fun v ρ s => .nx (ρ.set i (some v)) s
def gNilM : MGs := fun vs ρ s => match vs with
  | [] => .nx ρ s
  | _ => .bad
/-- a store, then another -/
def Fl.thn (f : Fl) (k : Loc → Sto → Fl) : Fl := match f with
  | .nx ρ s => k ρ s
  | _ => .bad
@[simp] theorem Fl.thn_nx (ρ : Loc) (s : Sto) (k : Loc → Sto → Fl) : (Fl.nx ρ s).thn k = k ρ s := rfl
def gConsM (g : MG) (r : MGs) : MGs := fun vs ρ s => match vs with
  | v :: vs => (g v ρ s).thn fun ρ1 s1 => r vs ρ1 s1
  | [] => .bad
def gTupM (n : Nat) (r : MGs) : MG := fun v ρ s => match v with
  | .dat (.tuple ds) => if ds.length = n then r (ds.map Vl.dat) ρ s else .bad
  | _ => .bad
section
variable {X : Cx} {zx : Exo} {pos : Pos}
theorem dg_name {i : Nat} {x : Str} (hN : X.N.Nodup) (hi : X.N[i]? = some x) (hx : L2.Loc X.env.scope x) (hf : X.fn x = true ∨ X.env.scope.names.lookup x = some .local := by first | exact .inl rfl | exact .inr rfl | assumption) : DG X zx (.Name x pos) (gSetM i) :=
  PG.imp (pg_name hN hi hx hf) fun v σ H Q ⟨β, ρ, s, x, hl, hs, r, q⟩ => q β _ H (Step.refl _ _) (hl.set r) hs
theorem dgs_nil : DGs X zx [] gNilM := PGs.imp pgs_nil fun vs σ H Q ⟨β, ρ, s, xs, hl, hs, r, q⟩ => by
  cases r with
  | nil => exact ⟨rfl, q β σ H (Step.refl _ _) hl hs⟩
  | cons _ _ => exact q.elim
theorem dgs_cons {e : Expr} {es : List Expr} {g : MG} {r : MGs} (h1 : DG X zx e g) (h2 : DGs X zx es r)
    (hs : (assignEach (e :: es) X.env).map (·.2) = assign e X.env :: (assignEach es X.env).map (·.2) := by rfl) : DGs X zx (e :: es) (gConsM g r) := PGs.imp (pgs_cons h1 h2 hs) fun vs σ H Q ⟨β, ρ, s, xs, hl, hs, rr, q⟩ => by
  cases rr with
  | nil => exact q.elim
  | @cons a b as bs r0 r1 =>
    refine ⟨b, bs, rfl, β, ρ, s, a, hl, hs, r0, ?_⟩
    have q' : PostG (cf X zx) β H Q ((g a ρ s).thn fun ρ1 s1 => r as ρ1 s1) := q
    cases e : g a ρ s with
    | nx ρ1 s1 =>
      rw [e] at q'
      exact fun β' σ' H' st hl' hs' => ⟨β', ρ1, s1, as, hl', hs', st.rvs r1, PostG.step q' st⟩
    | _ => rw [e] at q'; exact q'.elim
theorem dg_tup {es : List Expr} {k : Nat} {r : MGs} {n : Nat} (hc : X.calm = true) (h : DGs X zx es r)
    (hn : (assignEach es X.env).length = n := by rfl) (hst : (assignEach es X.env).findIdx? (·.1) = none := by rfl) : DG X zx (.Tuple es k pos) (gTupM n r) := PG.imp (pg_tup hc h hn hst) fun v σ H Q ⟨β, ρ, s, x, hl, hs, rr, q⟩ => by
  cases x with
  | ref m => exact q.elim
  | scr m => exact q.elim
  | exo m m2 => exact q.elim
  | fn _ => exact q.elim
  | lam _ _ _ _ _ => exact q.elim
  | dat p =>
    cases p with
    | tuple ds =>
      cases rr with
      | @tup a xs _ ht hz d =>
        have q' : PostG (cf X zx) β H Q (if ds.length = n then r (ds.map Vl.dat) ρ s else .bad) := q
        split at q'
        · rename_i e
          exact ⟨a, xs, rfl, ht.sqt, by rw [d.len]; exact e, β, ρ, s, ds.map Vl.dat, hl, hs, Rvs.dats d, q'⟩
        · exact q'.elim
    | _ => exact q.elim
end
section
variable {X : Cx} {zx : Exo} {W : WX} {st : Stmt} {rest : List Stmt} {f g : MS} {e : Expr} {fe : ME} {pos : Pos}
def sSeq (f g : MS) : MS := fun ρ s => (f ρ s).seq g
theorem PostS.seq {G : Cf} {β : Bs} {H : Hp} {D : Ends} {fl : Fl} {k : MS} (h : PostS G W β H D (fl.seq k)) : PostS G W β H { D with nx := tS G W k D } fl := by
  cases fl with
  | nx ρ s => exact fun β' σ' H' st hl hs => ⟨β', ρ, s, hl, hs, PostS.step (show PostS G W β H D (k ρ s) from h) st⟩
  | _ => exact h
def sExpr (f : ME) : MS := fun ρ s => (f ρ s).to ρ fun _ s1 => .nx ρ s1
def sRet (f : ME) : MS := fun ρ s => (f ρ s).to ρ fun v s1 => .rt v s1
def sRetN : MS := fun _ s => .rt (.dat .none) s
def sIf (t : MT) (f g : MS) : MS := fun ρ s => (t ρ s).to ρ fun c s1 => if c = true then f ρ s1 else g ρ s1
def sSet (i : Nat) (f : ME) : MS := fun ρ s => (f ρ s).to ρ fun v s1 => .nx (ρ.set i (some v)) s1
/-- target = value -/
def sAsg (f : ME) (g : MG) : MS := fun ρ s => (f ρ s).to ρ fun v s1 => (g v ρ s1).thn fun ρ2 s2 => .nx ρ2 s2
def sPar (i j : Nat) (r : MA) : MS := fun ρ s => (r ρ s).to ρ fun vs s1 => match vs with
  | [v, w] => .nx ((ρ.set i (some v)).set j (some w)) s1
  | _ => .bad
def sPar3 (i j l : Nat) (r : MA) : MS := fun ρ s => (r ρ s).to ρ fun vs s1 => match vs with
  | [v, w, x] => .nx (((ρ.set i (some v)).set j (some w)).set l (some x)) s1
  | _ => .bad
end
end Pm
set_option maxRecDepth 100000
set_option maxHeartbeats 4000000
namespace Pm
open PySem PySem.Spec PyProof.Rows L2 Sw
structure Src where
  items : List Vl
  at' : Option (Nat × List Vl)
/-- the list of the store that is walked stands as it was -/
def Src.ok (c : Src) (s : Sto) : Prop := match c.at' with
  | none => True
  | some n => s[n.1]? = some (.lst n.2)
@[simp] theorem Src.ok_none (l : List Vl) (s : Sto) : Src.ok ⟨l, none⟩ s = True := rfl
structure WalkM (G : Cf) (J : It) (c : Src) (β0 : Bs) (H0 : Hp) : Prop where
  go : ∀ (i : Nat) β s H, i < c.items.length → StepW β0 H0 β H → RelS G β s H → c.ok s → J.go i H
  stop : ∀ β s H, StepW β0 H0 β H → RelS G β s H → c.ok s → J.stop c.items.length H
  yld : ∀ (i : Nat) β s H x H', i < c.items.length → StepW β0 H0 β H → RelS G β s H → c.ok s → J.yld i H x H' → Same H H' ∧ ∃ v, c.items[i]? = some v ∧ Rv G H' β v x
abbrev MI := Loc → Sto → R Src
abbrev rI (G : Cf) : Rel Src It := fun H β c J => WalkM G J c β H
abbrev DI (X : Cx) (zx : Exo) (W : WX) (tg iter : Expr) (f : MI) : Prop := PI X tg iter (tG (cf X zx) (rI (cf X zx)) W f)
theorem PI.imp {X : Cx} {tg e : Expr} {t t' : TI} (h : PI X tg e t) (i : ∀ σ H R, t' σ H R → t σ H R) : PI X tg e t' := ⟨fun pins s σ H R I q => h.run pins s σ H R I (i σ H R q)⟩
section
variable {G : Cf} {β : Bs} {H : Hp}
theorem walk_dtup {a : Addr} {xs : List V} {ds : List PyData} (ht : SqT G.K H a xs) (d : DqAll G.K H β xs ds) : WalkM G (Itt G.K a) ⟨ds.map Vl.dat, none⟩ β H := by
  have hl := d.len
  refine ⟨fun i β' s H' hi st hs _ => ?_, fun β' s H' st hs _ => ?_, fun i β' s H' x H2 hi st hs _ y => ?_⟩
  · simp only [List.length_map] at hi
    exact ⟨xs, xs[i], st.sqt ht, by simp [show i < xs.length by omega]⟩
  · exact ⟨xs, st.sqt ht, by simp [hl]⟩
  · obtain ⟨rfl, y⟩ := y
    obtain ⟨p, h1, h2⟩ := (st.dqs d).get (y xs (st.sqt ht))
    exact ⟨Same.refl _, .dat p, by simp [h1], h2⟩
theorem walk_dlst {a : Addr} {xs : List V} {ds : List PyData} (ht : Sl H β a xs) (d : DqAll G.K H β xs ds) : WalkM G (Itl G.K a) ⟨ds.map Vl.dat, none⟩ β H := by
  have hl := d.len
  refine ⟨fun i β' s H' hi st hs _ => ?_, fun β' s H' st hs _ => ?_, fun i β' s H' x H2 hi st hs _ y => ?_⟩
  · simp only [List.length_map] at hi
    exact ⟨xs, xs[i], (st.sl ht).sq, by simp [show i < xs.length by omega]⟩
  · exact ⟨xs, (st.sl ht).sq, by simp [hl]⟩
  · obtain ⟨rfl, y⟩ := y
    obtain ⟨p, h1, h2⟩ := (st.dqs d).get (y xs (st.sl ht).sq)
    exact ⟨Same.refl _, .dat p, by simp [h1], h2⟩
theorem walk_ref {n : Nat} {a : Addr} {l : List Vl} (ha : β.b[n]? = some a) : WalkM G (Itl G.K a) ⟨l, some (n, l)⟩ β H := by
  have key : ∀ β' s H', StepW β H β' H' → RelS G β' s H' → Src.ok ⟨l, some (n, l)⟩ s → ∃ xs, H' a = some (.lst xs) ∧ Rvs G H' β' l xs := fun β' s H' st hs ok => by
    obtain ⟨t, ht⟩ := st.pre
    have e : β'.b[n]? = some a := by
      rw [← ht, List.getElem?_append_left (List.getElem?_eq_some_iff.mp ha).1]
      exact ha
    obtain ⟨_, xs, h1, h2⟩ := hs.ob n _ a ok e
    exact ⟨xs, h1, Rvs.up h2⟩
  refine ⟨fun i β' s H' hi st hs ok => ?_, fun β' s H' st hs ok => ?_, fun i β' s H' x H2 hi st hs ok y => ?_⟩
  · obtain ⟨xs, h1, h2⟩ := key β' s H' st hs ok
    have := h2.len
    have hi' : i < l.length := hi
    exact ⟨xs, xs[i], SqL.of h1, by simp [show i < xs.length by omega]⟩
  · obtain ⟨xs, h1, h2⟩ := key β' s H' st hs ok
    exact ⟨xs, SqL.of h1, by rw [← h2.len]; exact Nat.le_refl _⟩
  · obtain ⟨rfl, y⟩ := y
    obtain ⟨xs, h1, h2⟩ := key β' s H2 st hs ok
    obtain ⟨v, h3, h4⟩ := h2.get (y xs (SqL.of h1))
    exact ⟨Same.refl _, v, h3, h4⟩
theorem walk_rng {lo : Int} {n : Nat} : WalkM G (Itr lo n) ⟨(List.range n).map fun i : Nat => Vl.dat (.int (lo + i)), none⟩ β H := by
  refine ⟨fun i β' s H' hi st hs _ => by show i < n; simpa using hi, fun β' s H' st hs _ => by show n ≤ _; simp, fun i β' s H' x H2 hi st hs _ y => ?_⟩
  obtain ⟨rfl, rfl⟩ := y
  have hi : i < n := by simpa using hi
  exact ⟨Same.refl _, .dat (.int (lo + i)), by simp [hi], .int _⟩
theorem walk_sgn {z : Str} : WalkM G (Its z) ⟨z.cps.toList.map fun c => Vl.dat (.str ⟨#[c]⟩), none⟩ β H := by
  have w := walk_signs (z := z)
  refine ⟨fun i β' s H' hi st hs _ => w.goes i H' (by simpa using hi) trivial, fun β' s H' st hs _ => ?_, fun i β' s H' x H2 hi st hs _ y => ?_⟩
  · have := w.stops H' trivial
    simpa using this
  · obtain ⟨rfl, hx⟩ := w.yields i H' x H2 (by simpa using hi) trivial y
    rw [List.getElem?_map] at hx
    obtain ⟨c, hc, rfl⟩ := Option.map_eq_some_iff.mp hx
    exact ⟨Same.refl _, .dat (.str ⟨#[c]⟩), by rw [List.getElem?_map, hc]; rfl, .str (by rw [sizeLine_eq]; show 1 ≤ 16777216; decide)⟩
end
/-- a value that is walked -/
def src : Vl → Sto → Option Src
  | .dat (.tuple ds), _ => some ⟨ds.map Vl.dat, none⟩
  | .dat (.list ds), _ => some ⟨ds.map Vl.dat, none⟩
  | .dat (.str z), _ => some ⟨z.cps.toList.map fun c => Vl.dat (.str ⟨#[c]⟩), none⟩
  | .ref n, s => match s[n]? with
    | some (.lst l) => some ⟨l, some (n, l)⟩
    | _ => none
  | _, _ => none
def iSeq (f : ME) : MI := fun ρ s => (f ρ s).bind fun v s1 => R.of (src v s1) s1
def rgs (lo : Int) (n : Nat) : List Vl := (List.range n).map fun i : Nat => Vl.dat (.int (lo + i))
/-- a number of a word; nothing unfolds the test -/
structure In62 (j : Int) : Prop where
  lo : -(2 ^ 62) ≤ j
  hi : j < 2 ^ 62
open Classical in
noncomputable def iRng1 (r : MA) : MI := fun ρ s => (r ρ s).bind fun vs s1 => match vs with
  | [.dat (.int j)] => if In62 j then .ok ⟨rgs 0 j.toNat, none⟩ s1 else .bad
  | _ => .bad
section
variable {X : Cx} {zx : Exo} {W : WX} {tg e : Expr} {f : ME} {pos p : Pos}
theorem di_seq (ha : DE X zx W e f) : DI X zx W tg e (iSeq f) := by
  refine ⟨fun pins st σ H T I q => ?_⟩
  obtain ⟨β, ρ, s, hl, hs, hp⟩ := q
  have hp' : Post (cf X zx) (rI (cf X zx)) W σ β H T ((f ρ s).bind fun v s1 => R.of (src v s1) s1) := hp
  cases ef : f ρ s with
  | bad => rw [ef] at hp'; exact hp'.elim
  | ex x s1 =>
    rw [ef] at hp'
    exact (pi_tup ha).run pins st σ H T I ⟨β, ρ, s, hl, hs, by rw [ef]; exact hp'⟩
  | ok v s1 =>
    rw [ef] at hp'
    cases v with
    | ref n =>
      cases es : s1[n]? with
      | none => simp [src, es] at hp'; exact hp'.elim
      | some o =>
        cases o with
        | lst l =>
          refine (pi_list ha).run pins st σ H T I ⟨β, ρ, s, hl, hs, ?_⟩
          rw [ef]
          intro β1 H1 u st1 hs1 r1
          obtain ⟨a, hb, rfl⟩ := r1
          obtain ⟨_, xs, h1, h2⟩ := hs1.ob n _ a es hb
          refine ⟨a, rfl, ⟨xs, SqL.of h1⟩, ?_⟩
          have hp2 : Post (cf X zx) (rI (cf X zx)) W σ β H T (R.of (src (.ref n) s1) s1) := hp'
          simp only [src, es, R.of_some] at hp2
          exact hp2 β1 H1 _ st1 hs1 (walk_ref hb)
        | _ => simp [src, es] at hp'; exact hp'.elim
    | scr _ => exact hp'.elim
    | exo _ _ => exact hp'.elim
    | fn _ => exact hp'.elim
    | lam _ _ _ _ _ => exact hp'.elim
    | dat d =>
      cases d with
      | tuple ds =>
        refine (pi_tup ha).run pins st σ H T I ⟨β, ρ, s, hl, hs, ?_⟩
        rw [ef]
        intro β1 H1 u st1 hs1 r1
        cases r1 with
        | @tup a xs _ ht hz d => exact ⟨a, rfl, ⟨xs, ht.sqt⟩, hp' β1 H1 _ st1 hs1 (walk_dtup ht.sqt d)⟩
      | list ds =>
        refine (pi_list ha).run pins st σ H T I ⟨β, ρ, s, hl, hs, ?_⟩
        rw [ef]
        intro β1 H1 u st1 hs1 r1
        cases r1 with
        | @lst a xs _ ht hz d => exact ⟨a, rfl, ⟨xs, ht.sq⟩, hp' β1 H1 _ st1 hs1 (walk_dlst ht d)⟩
      | str z =>
        refine (pi_str ha).run pins st σ H T I ⟨β, ρ, s, hl, hs, ?_⟩
        rw [ef]
        intro β1 H1 u st1 hs1 r1
        cases r1 with
        | str hz => exact ⟨z, rfl, hp' β1 H1 _ st1 hs1 walk_sgn⟩
      | _ => exact hp'.elim
theorem di_range1 {a : Expr} {r : MA} (hg : Gl X "range") (hm : X.mg "range" = none) (ha : DA X zx W [a] r) (hs : starEach [a] X.env = [(false, eval a X.env)] := by rfl) : DI X zx W tg (.Call (.Name "range" p) [a] [] pos) (iRng1 r) := PI.imp (pi_range1 hg hm ha hs) fun σ H T q => by
  obtain ⟨β, ρ, s, hl, hs, hp⟩ := q
  refine ⟨β, ρ, s, hl, hs, Post.bind hp fun vs s1 β1 H1 us st1 hs1 r1 h1 => ?_⟩
  split at h1
  · rename_i j
    split at h1
    · rename_i hj
      cases r1 with
      | cons r0 r1 =>
        cases r1
        cases r0
        exact ⟨j, rfl, hj.1, hj.2, h1 β1 H1 _ (Step.refl _ _) hs1 walk_rng⟩
    · exact h1.elim
  · exact h1.elim
end
/-- an end of a turn -/
def Fl.loop (f : Fl) (k : MS) : Fl := match f with
  | .nx ρ s => k ρ s
  | .ct ρ s => k ρ s
  | .bk ρ s => .nx ρ s
  | .rt v s => .rt v s
  | .ex x ρ s => .ex x ρ s
  | .bad => .bad
@[simp] theorem Fl.loop_nx (ρ : Loc) (s : Sto) (k : MS) : (Fl.nx ρ s).loop k = k ρ s := rfl
@[simp] theorem Fl.loop_ct (ρ : Loc) (s : Sto) (k : MS) : (Fl.ct ρ s).loop k = k ρ s := rfl
@[simp] theorem Fl.loop_bk (ρ : Loc) (s : Sto) (k : MS) : (Fl.bk ρ s).loop k = .nx ρ s := rfl
@[simp] theorem Fl.loop_rt (v : Vl) (s : Sto) (k : MS) : (Fl.rt v s).loop k = .rt v s := rfl
@[simp] theorem Fl.loop_ex (x : Exn) (ρ : Loc) (s : Sto) (k : MS) : (Fl.ex x ρ s).loop k = .ex x ρ s := rfl
@[simp] theorem Fl.loop_bad (k : MS) : Fl.bad.loop k = .bad := rfl
open Classical in
noncomputable def forM (c : Src) (g : MG) (b : MS) : List Vl → MS
  | [], ρ, s => if c.ok s then .nx ρ s else .bad
  | v :: r, ρ, s => if c.ok s then ((g v ρ s).thn b).loop (forM c g b r) else .bad
noncomputable def sFor (it : MI) (g : MG) (b : MS) : MS := fun ρ s => (it ρ s).to ρ fun c s1 => forM c g b c.items ρ s1
end Pm
set_option maxRecDepth 100000
set_option maxHeartbeats 4000000
namespace Pm
open PySem PySem.Spec PyProof.Rows L2 Sw
def Bs.add (β : Bs) (p : Addr) : Bs := ⟨β.b, p :: β.g⟩
section
variable {K : PySem.W.Frag} {G : Cf} {H : Hp} {β : Bs} {p : Addr}
/-- a list, a dict -/
def IsC : HO → Prop
  | .lst _ => True
  | .dK _ => True
  | .dT _ => True
  | _ => False
theorem isC_tup {o : HO} {xs : List V} (h : IsC o) : HO.tup xs ≠ o := fun z => by rw [← z] at h; exact h
theorem isC_frz {o : HO} {q : Obj} {u : HO} (h : IsC o) : HO.frz q u ≠ o := fun z => by rw [← z] at h; exact h
theorem isC_own {o : HO} {a : Addr} (h : IsC o) : HO.own a ≠ o := fun z => by rw [← z] at h; exact h
theorem isC_code {o : HO} {c : Addr} {q : Str} (h : IsC o) : LamX.CodeO c q ≠ o := fun z => by rw [← z] at h; exact h
theorem isC_xd {o : HO} {a : List (Str × V)} (h : IsC o) : HO.xd a ≠ o := fun z => by rw [← z] at h; exact h
/-- it changes -/
structure Gp (β : Bs) (H : Hp) (p : Addr) : Prop where
  mem : p ∈ β.g
  lst : ∃ o, H p = some o ∧ IsC o
theorem Gp.sd {a : Addr} {x : HO} {o : HO} (g : Gp β H p) (h : Sd H β a x) : Sd (upd H p o) β a x := ⟨by rw [upd_ne (fun z => h.2.2 (by rw [z]; exact g.mem))]; exact h.1, h.2⟩
theorem Gp.scr {a : Addr} {xs : List V} {o : HO} (g : Gp β H p) (h : Scr K H a xs) : Scr K (upd H p o) a xs := by
  obtain ⟨ys, hp, hc⟩ := g.lst
  rcases h with ⟨q, h⟩ | h
  · exact .inl ⟨q, by rw [upd_ne (ne_of h hp (isC_frz hc))]; exact h⟩
  · exact .inr h
theorem Gp.tup {a : Addr} {xs : List V} {o : HO} (g : Gp β H p) (h : H a = some (.tup xs)) : upd H p o a = some (.tup xs) := by
  obtain ⟨ys, hp, hc⟩ := g.lst
  rw [upd_ne (ne_of h hp (isC_tup hc))]; exact h
theorem Gp.sqt {a : Addr} {xs : List V} {o : HO} (g : Gp β H p) (h : SqT K H a xs) : SqT K (upd H p o) a xs := by
  obtain ⟨ys, hp, hc⟩ := g.lst
  rcases h with (h | ⟨q, h⟩) | h
  · exact .inl (.inl (by rw [upd_ne (ne_of h hp (isC_tup hc))]; exact h))
  · exact .inl (.inr ⟨q, by rw [upd_ne (ne_of h hp (isC_frz hc))]; exact h⟩)
  · exact .inr h
end
theorem Gp.tupA {K : PySem.W.Frag} {H : Hp} {β : Bs} {p : Addr} {o : HO} (g : Gp β H p) {a : Addr} {ds : List PyData} {xs : List V} (h : TupA K H a ds xs) : TupA K (upd H p o) a ds xs := by
  obtain ⟨ys, hp, hc⟩ := g.lst
  exact h.keep (fun xs h => by rw [upd_ne (ne_of h hp (isC_tup hc))]; exact h) fun q u h => by rw [upd_ne (ne_of h hp (isC_frz hc))]; exact h
theorem Gp.dq {K : PySem.W.Frag} {H : Hp} {β : Bs} {p : Addr} {o : HO} (g : Gp β H p) {v : V} {d : PyData} (h : Dq K H β v d) : Dq K (upd H p o) β v d := h.tr (fun _ _ _ h => g.sd h) fun _ _ _ h => g.tupA h
theorem Gp.dqs {K : PySem.W.Frag} {H : Hp} {β : Bs} {p : Addr} {o : HO} (g : Gp β H p) {vs : List V} {ds : List PyData} (h : DqAll K H β vs ds) : DqAll K (upd H p o) β vs ds := h.tr (fun _ _ _ h => g.sd h) fun _ _ _ h => g.tupA h
section
variable {K : PySem.W.Frag} {G : Cf} {H : Hp} {β : Bs} {p : Addr} {o : HO}
theorem Gp.rx (g : Gp β H p) {x : Exn} {c : Value} {d : Option Addr} (h : RX G H β x c d) : RX G (upd H p o) β x c d := by
  obtain ⟨C, dd, xs, h1, h2, h3, h4, h5, h6⟩ := h
  obtain ⟨ys, hp, hc⟩ := g.lst
  exact ⟨C, dd, xs, h1, h2, h3, by rw [upd_ne (ne_of h4 hp (isC_xd hc))]; exact h4, h5, Paired.mapP h6 fun p q z => ⟨z.1, g.dq z.2⟩⟩
theorem Gp.rv (g : Gp β H p) : ∀ {v : Vl} {u : V}, Rv G H β v u → Rv G (upd H p o) β v u
  | .dat _, _, h => g.dq h
  | .ref _, _, h => h
  | .scr _, _, ⟨a, e, q⟩ => ⟨a, e, g.scr q⟩
  | .exo _ _, _, ⟨a, c, d, e, q, r⟩ => ⟨a, c, d, e, q, g.rx r⟩
  | .fn _, _, h => h
  | .lam _ _ _ _ _, _, ⟨e, h, n, r⟩ => ⟨e, by
      obtain ⟨ys, hp, hc⟩ := g.lst
      rw [upd_ne (ne_of h hp (isC_code hc))]; exact h, n, r.map (fun _ _ h => g.dq h) fun _ _ h => h⟩
theorem Gp.rvs (g : Gp β H p) : ∀ {vs : List Vl} {us : List V}, Rvs G H β vs us → Rvs G (upd H p o) β vs us
  | _, _, .nil => .nil
  | _, _, .cons h r => .cons (g.rv h) (Gp.rvs g r)
theorem Gp.rl (g : Gp β H p) {ρ : Loc} {σ : L2.St} (h : RelL G H β ρ σ) : RelL G (upd H p o) β ρ σ := ⟨h.len, fun i v e => by
  obtain ⟨u, h1, h2⟩ := h.at' i v e
  exact ⟨u, h1, g.rv h2⟩⟩
theorem Gp.ro (g : Gp β H p) {a : Addr} {ob : Ob} (ne : a ≠ p) (nd : ∀ dx, H dx = some (.own a) → dx ≠ p) (h : RO G H β a ob) : RO G (upd H p o) β a ob := by
  cases ob with
  | tup l => obtain ⟨hl, xs, e, r⟩ := h; exact ⟨hl, xs, by rw [upd_ne ne]; exact e, g.rvs r⟩
  | lst l => obtain ⟨hl, xs, e, r⟩ := h; exact ⟨hl, xs, by rw [upd_ne ne]; exact e, g.rvs r⟩
  | dic t l => cases t <;> (obtain ⟨xs, e, r⟩ := h; exact ⟨xs, by rw [upd_ne ne]; exact e, Paired.mapP r fun p q z => ⟨z.1, g.rv z.2⟩⟩)
  | ins c l =>
    obtain ⟨C, dx, xs, hm, e, hd, n, r⟩ := h
    exact ⟨C, dx, xs, hm, by rw [upd_ne ne]; exact e, by rw [upd_ne (nd dx hd)]; exact hd, n, Paired.mapP r fun p q z => ⟨z.1, g.rv z.2⟩⟩
theorem Gp.rs (g : Gp β H p) {s : Sto} (h : RelS G β s H) : RelS G β s (upd H p o) := by
  have np := (h.gs p g.mem).2
  obtain ⟨xs, hp, hc⟩ := g.lst
  refine ⟨h.len, h.nd, fun n ob a h1 h2 => g.ro (fun z => np (by rw [← z]; exact List.mem_of_getElem? h2)) (fun dx hd => ne_of hd hp (isC_own hc)) (h.ob n ob a h1 h2), fun a ha => ?_, h.tb.put (.inr g.mem)⟩
  obtain ⟨⟨x, hx⟩, n⟩ := h.gs a ha
  refine ⟨?_, n⟩
  by_cases z : a = p
  · exact ⟨_, by rw [z, upd_same]⟩
  · exact ⟨x, by rw [upd_ne z]; exact hx⟩
/-- it begins -/
theorem Step.add (h : H p = none) : Step β H (β.add p) (upd H p o) := by
  refine ⟨List.prefix_refl _, fun _ h => List.mem_cons_of_mem _ h, fun a ha => ?_, fun _ h => .inl h, fun a x _ e _ => same_new h a x e, fun a xs e => same_new h a _ e, fun a x u e => same_new h a _ e, fun a x e => ⟨x, same_new h a x e⟩, fun t => (TabsB.mono (β := β) (β' := β.add p) (fun x h => .inl h) (fun x hx => (List.mem_cons.mp (show x ∈ p :: β.g from hx)).elim (fun z => .inr (.inr (by rw [z]; exact h))) fun z => .inr (.inl z)) t).same (same_new h)⟩
  rcases List.mem_cons.mp (show a ∈ p :: β.g from ha) with z | z
  · exact .inr (by rw [z]; exact h)
  · exact .inl z
theorem RelS.add {s : Sto} (h : RelS G β s H) (hp : H p = none) : RelS G (β.add p) s (upd H p o) := by
  refine ⟨h.len, h.nd, fun n ob a h1 h2 => ?_, fun a ha => ?_, (Step.add hp).tbs h.tb⟩
  · have r := h.ob n ob a h1 h2
    obtain ⟨x, hx, _⟩ := r.own
    exact r.step (Step.add hp) (by rw [upd_ne (ne_of_none hx hp)])
  · rcases List.mem_cons.mp (show a ∈ p :: β.g from ha) with z | z
    · rw [z]
      exact ⟨⟨_, upd_same⟩, h.nin hp⟩
    · obtain ⟨⟨x, hx⟩, n⟩ := h.gs a z
      exact ⟨⟨x, by rw [upd_ne (ne_of_none hx hp)]; exact hx⟩, n⟩
end
section
variable {K : PySem.W.Frag} {G : Cf} {H : Hp} {b g g' : List Addr}
theorem Sd.drop {a : Addr} {o : HO} (i : ∀ x ∈ g', x ∈ g) (h : Sd H ⟨b, g⟩ a o) : Sd H ⟨b, g'⟩ a o := ⟨h.1, h.2.1, fun z => h.2.2 (i a z)⟩
end
theorem Dq.drop {K : PySem.W.Frag} {H : Hp} {b g g' : List Addr} (i : ∀ x ∈ g', x ∈ g) {v : V} {d : PyData} (h : Dq K H ⟨b, g⟩ v d) : Dq K H ⟨b, g'⟩ v d := h.tr (fun _ _ _ h => h.drop i) fun _ _ _ h => h
section
variable {K : PySem.W.Frag} {G : Cf} {H : Hp} {b g g' : List Addr}
theorem Rv.drop (i : ∀ x ∈ g', x ∈ g) : ∀ {v : Vl} {u : V}, Rv G H ⟨b, g⟩ v u → Rv G H ⟨b, g'⟩ v u
  | .dat _, _, h => Dq.drop i h
  | .ref _, _, h => h
  | .scr _, _, h => h
  | .exo _ _, _, ⟨a, c, d, e, q, C, dd, xs, h1, h2, h3, h4, h5, h6⟩ => ⟨a, c, d, e, q, C, dd, xs, h1, h2, h3, h4, h5, Paired.mapP h6 fun p q z => ⟨z.1, Dq.drop i z.2⟩⟩
  | .fn _, _, h => h
  | .lam _ _ _ _ _, _, ⟨e, h, n, r⟩ => ⟨e, h, ⟨n.1, fun z => n.2 (i _ z)⟩, r.map (fun _ _ h => Dq.drop i h) fun _ _ h => h⟩
theorem Rvs.drop (i : ∀ x ∈ g', x ∈ g) : ∀ {vs : List Vl} {us : List V}, Rvs G H ⟨b, g⟩ vs us → Rvs G H ⟨b, g'⟩ vs us
  | _, _, .nil => .nil
  | _, _, .cons h r => .cons (Rv.drop i h) (Rvs.drop i r)
theorem RO.drop (i : ∀ x ∈ g', x ∈ g) {a : Addr} {ob : Ob} (h : RO G H ⟨b, g⟩ a ob) : RO G H ⟨b, g'⟩ a ob := by
  cases ob with
  | tup l => obtain ⟨hl, xs, e, r⟩ := h; exact ⟨hl, xs, e, Rvs.drop i r⟩
  | lst l => obtain ⟨hl, xs, e, r⟩ := h; exact ⟨hl, xs, e, Rvs.drop i r⟩
  | dic t l => cases t <;> (obtain ⟨xs, e, r⟩ := h; exact ⟨xs, e, Paired.mapP r fun p q z => ⟨z.1, Rv.drop i z.2⟩⟩)
  | ins c l =>
    obtain ⟨C, dx, xs, hm, e, hd, n, r⟩ := h
    exact ⟨C, dx, xs, hm, e, hd, n, Paired.mapP r fun p q z => ⟨z.1, Rv.drop i z.2⟩⟩
theorem RelS.drop (i : ∀ x ∈ g', x ∈ g) {s : Sto} (h : RelS G ⟨b, g⟩ s H) : RelS G ⟨b, g'⟩ s H := ⟨h.len, h.nd, fun n ob a h1 h2 => (h.ob n ob a h1 h2).drop i, fun a ha => h.gs a (i a ha), TabsB.mono (β := ⟨b, g⟩) (β' := ⟨b, g'⟩) (fun _ h => .inl h) (fun x h => .inr (.inl (i x h))) h.tb⟩
end
def wipeM (ρ : Loc) : List Nat → Loc
  | [] => ρ
  | v :: vs => (wipeM ρ vs).set v none
theorem RelL.wipe {G : Cf} {H : Hp} {β : Bs} {ρ : Loc} {σ : L2.St} (h : RelL G H β ρ σ) : ∀ vs : List Nat, RelL G H β (wipeM ρ vs) (L2.wipe σ vs)
  | [] => h
  | v :: vs => (RelL.wipe h vs).setN
theorem wipe_set {σ : L2.St} {i : Nat} {x : Option V} : ∀ {vs : List Nat}, i ∈ vs → L2.wipe (σ.set i x) vs = L2.wipe σ vs
  | [], h => by cases h
  | v :: vs, h => by
    show (L2.wipe (σ.set i x) vs).set v none = (L2.wipe σ vs).set v none
    by_cases hv : i ∈ vs
    · rw [wipe_set hv]
    · have e : i = v := by
        rcases List.mem_cons.mp h with z | z
        · exact z
        · exact absurd z hv
      subst e
      have go : ∀ (vs : List Nat), i ∉ vs → L2.wipe (σ.set i x) vs = (L2.wipe σ vs).set i x := by
        intro vs
        induction vs with
        | nil => intro _; rfl
        | cons w ws ih =>
          intro hn
          show (L2.wipe (σ.set i x) ws).set w none = ((L2.wipe σ ws).set w none).set i x
          rw [ih (fun z => hn (List.mem_cons_of_mem _ z)), List.set_comm _ _ (fun z => hn (by rw [z]; exact List.mem_cons_self))]
      rw [go vs hv, List.set_set]
theorem wipe_wipe {σ : L2.St} : ∀ {vs ws : List Nat}, (∀ i ∈ ws, i ∈ vs) → L2.wipe (L2.wipe σ ws) vs = L2.wipe σ vs
  | vs, [], _ => rfl
  | vs, w :: ws, h => by
    show L2.wipe ((L2.wipe σ ws).set w none) vs = L2.wipe σ vs
    rw [wipe_set (h w List.mem_cons_self), wipe_wipe fun i hi => h i (List.mem_cons_of_mem _ hi)]
/-- a target of names -/
def GOk (G : Cf) (g : TG) (gm : Vl → Loc → Option Loc) (vs : List Nat) : Prop := ∀ x v σ ρ ρ2 β H (Q : L2.St → Hp → Prop), RelL G H β ρ σ → Rv G H β v x → gm v ρ = some ρ2 → (∀ σ2, RelL G H β ρ2 σ2 → L2.wipe σ2 vs = L2.wipe σ vs → Q σ2 H) → g x σ H Q
open Classical in
noncomputable def compM (c : Src) (gm : Vl → Loc → Option Loc) (t : MT) (e : ME) (ρ0 : Loc) : List Vl → List Vl → Sto → R (List Vl)
  | [], acc, s => if c.ok s then .ok acc s else .bad
  | v :: r, acc, s => if c.ok s then (match gm v ρ0 with
    | none => .bad
    | some ρ2 => match t ρ2 s with
      | .ok true s1 => (match e ρ2 s1 with
        | .ok y s2 => if acc.length < sizeLine then compM c gm t e ρ0 r (acc ++ [y]) s2 else .bad
        | _ => .bad)
      | .ok false s1 => compM c gm t e ρ0 r acc s1
      | _ => .bad) else .bad
noncomputable def mLc0 (it : MI) (gm : Vl → Loc → Option Loc) (t : MT) (e : ME) (vs : List Nat) : Loc → Sto → R (List Vl) := fun ρ s => (it ρ s).bind fun c s1 => compM c gm t e (wipeM ρ vs) c.items [] s1
/-- a list that nobody turns -/
noncomputable def mLc (it : MI) (gm : Vl → Loc → Option Loc) (t : MT) (e : ME) (vs : List Nat) : ME := fun ρ s => (mLc0 it gm t e vs ρ s).bind fun acc s2 => R.of ((datas acc).map fun ds => .dat (.list ds)) s2
abbrev WF : WX := fun _ _ _ _ => False
def tYesM : MT := fun _ s => .ok true s
section
variable {X : Cx} {zx : Exo} {W : WX}
/-- all that a comprehension does -/
theorem lc_go {it : MI} {g : TG} {gm : Vl → Loc → Option Loc} {t : MT} {e : ME} {vs : List Nat} {σ : L2.St} {H : Hp} {Q : VK} (go : GOk (cf X zx) g gm vs)
    (q : ∃ β ρ s, RelL (cf X zx) H β ρ σ ∧ RelS (cf X zx) β s H ∧ Post (cf X zx) (fun H' β' acc (D : Addr) => D ∉ β'.b ∧ D ∉ β'.g ∧ acc.length ≤ sizeLine ∧ ∃ xs, H' D = some (.lst xs) ∧ Rvs (cf X zx) H' β' acc xs) W σ β H (fun D H' => Q (.ref D) H') (mLc0 it gm t e vs ρ s)) :
    tLc (tG (cf X zx) (rI (cf X zx)) W it) g (tG (cf X zx) rB WF t) (tG (cf X zx) (Rv (cf X zx)) WF e) vs σ H Q := by
  obtain ⟨β, ρ, s, hl, hs, hp⟩ := q
  refine ⟨β, ρ, s, hl, hs, Post.bind hp fun c s1 β1 H1 J st1 hs1 wm h1 => ?_⟩
  intro D hD
  have hl1 := hl.step st1
  refine ⟨fun i m H' => m = c.items.length - i ∧ i ≤ c.items.length ∧ ∃ β' s' acc xs, Step β1 H1 β' H' ∧ D ∈ β'.g ∧ (∀ x ∈ β1.g, x ∈ β'.g) ∧ RelS (cf X zx) β' s' H' ∧ RelL (cf X zx) H' β' (wipeM ρ vs) (L2.wipe σ vs) ∧ H' D = some (.lst xs) ∧ acc.length ≤ sizeLine ∧ Rvs (cf X zx) H' β' acc xs ∧
      Post (cf X zx) (fun H' β' acc (D : Addr) => D ∉ β'.b ∧ D ∉ β'.g ∧ acc.length ≤ sizeLine ∧ ∃ xs, H' D = some (.lst xs) ∧ Rvs (cf X zx) H' β' acc xs) W σ β1 H1 (fun D H' => Q (.ref D) H') (compM c gm t e (wipeM ρ vs) (c.items.drop i) acc s'),
    ⟨_, rfl, Nat.zero_le _, β1.add D, s1, [], [], Step.add hD, List.mem_cons_self, fun x hx => List.mem_cons_of_mem _ hx, hs1.add hD, (hl1.wipe vs).step (Step.add hD), upd_same, Nat.zero_le _, .nil, h1⟩, ?_⟩
  rintro i m H' ⟨rfl, hi, β', s', acc, xs, st', hDg, hsub, hs', hl', hDx, hlen, racc, q'⟩
  by_cases hlt : i < c.items.length
  · rw [List.drop_eq_getElem_cons hlt, compM] at q'
    by_cases ok : c.ok s'
    rotate_left
    · rw [if_neg ok] at q'; exact q'.elim
    rw [if_pos ok] at q'
    refine .inr ⟨wm.go i β' s' H' hlt st'.w hs' ok, fun H2 => i + 1 ≤ c.items.length ∧ ∃ β' s' acc xs, Step β1 H1 β' H2 ∧ D ∈ β'.g ∧ (∀ x ∈ β1.g, x ∈ β'.g) ∧ RelS (cf X zx) β' s' H2 ∧ RelL (cf X zx) H2 β' (wipeM ρ vs) (L2.wipe σ vs) ∧ H2 D = some (.lst xs) ∧ acc.length ≤ sizeLine ∧ Rvs (cf X zx) H2 β' acc xs ∧
      Post (cf X zx) (fun H' β' acc (D : Addr) => D ∉ β'.b ∧ D ∉ β'.g ∧ acc.length ≤ sizeLine ∧ ∃ xs, H' D = some (.lst xs) ∧ Rvs (cf X zx) H' β' acc xs) W σ β1 H1 (fun D H' => Q (.ref D) H') (compM c gm t e (wipeM ρ vs) (c.items.drop (i + 1)) acc s'),
      fun H2 h2 => ⟨_, by omega, rfl, h2.1, h2.2⟩, fun x H2 y => ?_⟩
    obtain ⟨sm, v, hv, rv⟩ := wm.yld i β' s' H' x H2 hlt st'.w hs' ok y
    rw [List.getElem?_eq_getElem hlt] at hv
    cases hv
    have st2 : Step β' H' β' H2 := Step.same sm
    generalize c.items[i] = v at q' rv
    cases eg : gm v (wipeM ρ vs) with
    | none => rw [eg] at q'; exact q'.elim
    | some ρ2 =>
      rw [eg] at q'
      dsimp only at q'
      refine go x v _ _ ρ2 β' H2 _ (hl'.step st2) rv eg fun σ2 hl2 ew => ⟨by rw [ew, wipe_wipe fun i hi => hi], β', ρ2, s', hl2, hs'.same sm, ?_⟩
      have fin : ∀ β4 s4 H4, Step β' H2 β4 H4 → RelS (cf X zx) β4 s4 H4 → Step β1 H1 β4 H4 ∧ D ∈ β4.g ∧ (∀ x ∈ β1.g, x ∈ β4.g) ∧ RelL (cf X zx) H4 β4 (wipeM ρ vs) (L2.wipe σ vs) ∧ H4 D = some (.lst xs) ∧ Rvs (cf X zx) H4 β4 acc xs := fun β4 s4 H4 st4 hs4 =>
        ⟨(st'.trans st2).trans st4, st4.gsub D hDg, fun x hx => st4.gsub x (hsub x hx), (hl'.step st2).step st4, st4.keep _ _ trivial (sm _ _ hDx) (hs'.gs D hDg).2, st4.rvs (st2.rvs racc)⟩
      cases et : t ρ2 s' with
      | bad => rw [et] at q'; exact q'.elim
      | ex x1 s3 => rw [et] at q'; exact q'.elim
      | ok b s3 =>
        rw [et] at q'
        intro β3 H3 b' st3 hs3 eb
        cases (show b = b' from eb)
        cases b with
        | false =>
          dsimp only at q'
          refine iteF ?_
          obtain ⟨f1, f2, f3, f4, f5, f6⟩ := fin β3 s3 H3 st3 hs3
          exact ⟨hlt, β3, s3, acc, xs, f1, f2, f3, hs3, f4, f5, hlen, f6, q'⟩
        | true =>
          dsimp only at q'
          refine iteT ⟨β3, ρ2, s3, hl2.step st3, hs3, ?_⟩
          cases ee : e ρ2 s3 with
          | bad => rw [ee] at q'; exact q'.elim
          | ex x1 s4 => rw [ee] at q'; exact q'.elim
          | ok y1 s4 =>
            rw [ee] at q'
            dsimp only at q'
            intro β4 H4 u st4 hs4 ru
            by_cases hal : acc.length < sizeLine
            rotate_left
            · rw [if_neg hal] at q'; exact q'.elim
            rw [if_pos hal] at q'
            obtain ⟨f1, f2, f3, f4, f5, f6⟩ := fin β4 s4 H4 (st3.trans st4) hs4
            refine ⟨xs, f5, by rw [← f6.len]; exact hal, hlt, β4, s4, acc ++ [y1], xs ++ [u], ?_⟩
            have gp : Gp β4 H4 D := ⟨f2, _, f5, trivial⟩
            refine ⟨⟨f1.pre, f1.gsub, f1.gam, f1.new, fun a o nt h n => ?_, fun a o h => ?_, fun a o w h => ?_, fun a o h => ?_, fun t => (f1.tbs t).put (.inr f2)⟩, f2, f3, gp.rs hs4, gp.rl f4, upd_same, by simp; omega, (gp.rvs f6).append (.cons (gp.rv ru) .nil), q'⟩
            · rw [upd_ne (ne_of_none h hD)]; exact f1.keep a o nt h n
            · rw [upd_ne (ne_of_none h hD)]; exact f1.tups a o h
            · rw [upd_ne (ne_of_none h hD)]; exact f1.frzs a o w h
            · rw [upd_ne (ne_of_none h hD)]; exact f1.liv a o h
  · have ei : i = c.items.length := by omega
    subst ei
    rw [List.drop_length, compM] at q'
    by_cases ok : c.ok s'
    rotate_left
    · rw [if_neg ok] at q'; exact q'.elim
    rw [if_pos ok] at q'
    refine .inl ⟨wm.stop β' s' H' st'.w hs' ok, ?_⟩
    have hb : D ∉ β'.b := (hs'.gs D hDg).2
    have stq : Step β1 H1 ⟨β'.b, β1.g⟩ H' := ⟨st'.pre, fun _ h => h, fun _ h => .inl h, st'.new, st'.keep, st'.tups, st'.frzs, st'.liv, fun t => TabsB.mono (β := β') (β' := ⟨β'.b, β1.g⟩) (fun _ h => .inl h) (fun x h => .inr (.inl (hsub x h))) (st'.tbs t)⟩
    exact q' ⟨β'.b, β1.g⟩ H' D stq (RelS.drop (g := β'.g) hsub hs') ⟨hb, hs1.nig hD, hlen, xs, hDx, Rvs.drop (g := β'.g) hsub racc⟩
theorem de_lc {elt tg iter : Expr} {ifs : List Expr} {scope : Scope} {own : List (Str × Nat)} {pos : Pos} {it : MI} {g : TG} {gm : Vl → Loc → Option Loc} {t : MT} {e : ME} (hc : X.calm = true) (hN : X.N.Nodup) (hi : DI X zx W tg iter it) (ok : BlkOk X.N X.env.scope scope own) (go : GOk (cf X zx) g gm (own.map (·.2)))
    (hg : ∀ (s : Shared) (H : Hp) (C : Addr) (cl : List (Str × Addr)) (fp : List Addr), PG (X.blk s H scope (compEnvC scope cl C X.env) fp) tg g) (ht : ∀ (s : Shared) (H : Hp) (C : Addr) (cl : List (Str × Addr)) (fp : List Addr), PTs (X.blk s H scope (compEnvC scope cl C X.env) fp) ifs (tG (cf X zx) rB WF t))
    (he : ∀ (s : Shared) (H : Hp) (C : Addr) (cl : List (Str × Addr)) (fp : List Addr), PE (X.blk s H scope (compEnvC scope cl C X.env) fp) elt (tG (cf X zx) (Rv (cf X zx)) WF e)) (hs : ∀ x, foldedSetIterable iter X.env x = pure x := by intro _; rfl) :
    DE X zx W (.ListComp elt [⟨tg, iter, ifs, 0⟩] scope pos) (mLc it gm t e (own.map (·.2))) := PE.imp (pe_lc hc hN hi ok hg ht he hs) fun σ H Q q => by
  obtain ⟨β, ρ, s, hl, hs, hp⟩ := q
  refine lc_go go ⟨β, ρ, s, hl, hs, Post.bind hp fun acc s1 β1 H1 D st1 hs1 r1 h1 => ?_⟩
  obtain ⟨n1, n2, hlen, xs, hx, rx⟩ := r1
  cases ed : datas acc with
  | none => rw [ed] at h1; exact h1.elim
  | some ds =>
    rw [ed] at h1
    have ea := datas_eq ed
    rw [ea] at rx hlen
    exact h1 β1 H1 _ (Step.refl _ _) hs1 (Dq.lst ⟨hx, n1, n2⟩ (by simpa using hlen) (Rvs.undats rx))
end
end Pm
set_option maxRecDepth 100000
set_option maxHeartbeats 4000000
namespace Pm
open PySem PySem.Spec PyProof.Rows L2 Sw
abbrev MF := List Vl → Sto → R Vl
/-- what a def promises -/
def spD (G : Cf) (n : Nat) (g : MF) : Sp := fun vs H Q E => ∃ β s xs, RelS G β s H ∧ Rvs G H β xs vs ∧ xs.length = n ∧ Post G (Rv G) (fun c d _ H => E c d H) [] β H Q (g xs s)
structure FnD (P : Program) (w : World) (K : PySem.W.Frag) (mg : Str → Option Value) (base : Heap) (k : Nat) (f : Addr) (fd : FuncData) (ps : List Str) (g : MF) : Prop where
  goes : ∀ (A : Around) (outer : List Env) (s : Shared) (H : Hp) (args : Args) (us : List Value) (vs : List V) (Q : VK) (E : XK), A.guards = some [] →
    Room k A → Env0 P w K mg base A outer s H → BindsTo s fd args (ps.zip us) → Vals vs us → spD ⟨K, mg, none⟩ ps.length g vs H Q E → codeAny (model P w) A (.call (.ref f) args) (CR (L2.CX P w) outer P w H s Q E) s
def startM (n : Nat) (xs : List Vl) : Loc := xs.map some ++ List.replicate (n - xs.length) none
def Fl.fin (f : Fl) : R Vl := match f with
  | .nx _ s => .ok (.dat .none) s
  | .rt v s => .ok v s
  | .ex x _ s => .ex x s
  | _ => .bad
@[simp] theorem Fl.fin_nx (ρ : Loc) (s : Sto) : (Fl.nx ρ s).fin = .ok (.dat .none) s := rfl
@[simp] theorem Fl.fin_rt (v : Vl) (s : Sto) : (Fl.rt v s).fin = .ok v s := rfl
@[simp] theorem Fl.fin_ex (x : Exn) (ρ : Loc) (s : Sto) : (Fl.ex x ρ s).fin = .ex x s := rfl
theorem start_rel {G : Cf} {H : Hp} {β : Bs} {N : List Str} {xs : List Vl} {vs : List V} (r : Rvs G H β xs vs) : RelL G H β (startM N.length xs) (start N vs) := by
  have hl := r.len
  refine ⟨by simp [startM, L2.start, hl], fun i v e => ?_⟩
  unfold startM at e
  unfold L2.start
  by_cases hi : i < xs.length
  · rw [List.getElem?_append_left (by simpa using hi), List.getElem?_map] at e
    obtain ⟨y, h1, h2⟩ := Option.map_eq_some_iff.mp e
    cases h2
    obtain ⟨u, h3, h4⟩ := Rvs.get' r h1
    refine ⟨u, ?_, h4⟩
    rw [List.getElem?_append_left (by simp; omega), List.getElem?_map, h3]
    rfl
  · rw [List.getElem?_append_right (by simp; omega)] at e
    have := List.mem_of_getElem? e
    simp at this
section
variable {P : Program} {w : World} {K : PySem.W.Frag} {mg : Str → Option Value} {base : Heap}
theorem FnD.mono {f : Addr} {fd : FuncData} {ps : List Str} {j k : Nat} {g : MF} (F : FnD P w K mg base j f fd ps g) (h : j ≤ k) : FnD P w K mg base k f fd ps g := ⟨fun A outer s H args us vs Q E hg hr => F.goes A outer s H args us vs Q E hg (hr.mono h)⟩
end
theorem RelS.oz {K : PySem.W.Frag} {mg : Str → Option Value} {z z' : Exo} {β : Bs} {s : Sto} {H : Hp} (h : RelS ⟨K, mg, z⟩ β s H) : RelS ⟨K, mg, z'⟩ β s H := ⟨h.len, h.nd, h.ob, h.gs, h.tb⟩
theorem post_oz {K : PySem.W.Frag} {mg : Str → Option Value} {z : Exo} {W : WX} {σ : L2.St} {β : Bs} {H : Hp} {Q : VK} {r : R Vl} (h : Post ⟨K, mg, z⟩ (Rv ⟨K, mg, z⟩) W σ β H Q r) : Post ⟨K, mg, none⟩ (Rv ⟨K, mg, none⟩) (fun c d _ H' => W c d σ H') [] β H Q r := by
  cases r with
  | ok v s => exact fun β' H' u st hs rv => h β' H' u st hs.oz (Rv.up rv)
  | ex x s => exact fun β' H' c d st hs rx => h β' H' c d st hs.oz rx
  | bad => exact h
/-- a call with so many arguments -/
def mCall (n : Nat) (g : MF) (r : MA) : ME := fun ρ s => (r ρ s).bind fun vs s1 => if vs.length = n ∧ vs.all noX = true then g vs s1 else .bad
section
variable {X : Cx} {zx : Exo} {W : WX} {k : Nat} {f : Addr} {fd : FuncData} {ps : List Str} {g : MF} {x : Str} {p pos : Pos} {e : Expr} {es : List Expr} {r : MA}
theorem call_run {pins : List (Addr × Obj)} {σ : L2.St} {H : Hp} {s : Shared} {Q : VK} {us : List Value} {vs : List V} (hG : X.A.guards = some []) (F : FnD X.prog X.w X.K X.mg X.base k f fd ps g) (hr : Room k X.A) (hb : Binds X.K fd ps []) (tk : Takes X W)
    (I : Inv X pins σ H s) (rv : Vals vs us) (h : spD (cf X none) ps.length g vs H Q (fun c d H' => W c d σ H')) : wpAny (model X.prog X.w) X.A (call (.ref f) us) (EP X pins σ Q) X.xe s := by
  have hvl : vs.length = ps.length := by
    obtain ⟨β, s0, xs, _, rx, hlen, _⟩ := h
    rw [← rx.len]; exact hlen
  have bd := hb s us I.kIn (by rw [List.append_nil, ← rv.length]; exact hvl)
  rw [List.append_nil] at bd
  refine wpAny_call (codeAny_mono (F.goes X.A X.stack s H ⟨us, []⟩ us vs Q _ hG hr I.env0 bd rv h) fun fl s' hq => ?_)
  cases fl with
  | error e => exact tk e s' (XE.of_call I (fun _ _ _ h => h) hq)
  | ok fl =>
    cases fl with
    | ret u => exact I.after hq
    | next => exact False.elim hq
    | brk => exact False.elim hq
    | cont => exact False.elim hq
theorem de_call {n : Nat} (hG : X.A.guards = some []) (F : FnD X.prog X.w X.K X.mg X.base k f fd ps g) (hr : Room k X.A) (hb : Binds X.K fd ps []) (tk : Takes X W) (hg : Gl X x) (hm : X.mg x = some (.ref f)) (hk : PySem.W.keepIn X.K (.ref f) = true)
    (ha : DA X zx W (e :: es) r) (hdb : (x == ("__debug__" : Str)) = false := by decide) (he : starEach (e :: es) X.env = (false, eval e X.env) :: starEach es X.env := by rfl) (hpl : (backTo pos (starEach es X.env)).any (·.1) = false := by rfl) (hn : ps.length = n := by rfl) :
    DE X zx W (.Call (.Name x p) (e :: es) [] pos) (mCall n g r) := by
  subst hn
  refine ⟨fun pins s0 σ H Q I hq => ?_⟩
  obtain ⟨β, ρ, s, hl, hs, hp⟩ := hq
  refine wpAny_Call_Name_kw (ld_glob I hg hm (PySem.W.callWith_K (h₀ := X.base) I.ok.mod.kin hk ?_ he hpl) hdb)
  refine thn (ha.run pos pins s0 σ H (fun vs H1 => spD (cf X none) ps.length g vs H1 Q (fun c d H' => W c d σ H')) I ⟨β, ρ, s, hl, hs, Post.bind hp fun vs s1 β1 H1 us st1 hs1 r1 h1 => ?_⟩) fun us s1 hh => ?_
  · split at h1
    · rename_i hlen
      exact ⟨β1, s1, vs, hs1.oz, Rvs.dn (G := cf X zx) hlen.2 r1, hlen.1, post_oz h1⟩
    · exact h1.elim
  · obtain ⟨vs, H1, I1, rv, q⟩ := hh
    exact ⟨I1.kIn, call_run hG F hr hb tk I1 rv q⟩
end
/-- the same ends, where the second one is not bad -/
theorem FnD.imp {P : Program} {w : World} {K : PySem.W.Frag} {mg : Str → Option Value} {base : Heap} {f : Addr} {fd : FuncData} {ps : List Str} {k : Nat} {g g' : MF} (F : FnD P w K mg base k f fd ps g) (h : ∀ xs s, g' xs s ≠ .bad → g xs s = g' xs s) : FnD P w K mg base k f fd ps g' :=
  ⟨fun A outer s H args us vs Q E hg hr e0 bd r ⟨β, s0, xs, hs, rx, hl, hp⟩ => F.goes A outer s H args us vs Q E hg hr e0 bd r ⟨β, s0, xs, hs, rx, hl, by
    rw [h xs s0 (fun z => by rw [z] at hp; exact hp)]
    exact hp⟩⟩
end Pm
set_option maxRecDepth 100000
set_option maxHeartbeats 4000000
namespace Pm
open PySem PySem.Spec PyProof.Rows L2 Sw
section
variable {X : Cx} {zx : Exo}
def rNum (f : Int → Int → Int) : R2 := fun x y H Q => ∃ j, y = .int j ∧ ((∃ i, x = .int i ∧ Q (.int (f i j)) H) ∨ ∃ b : Bool, x = .bl b ∧ Q (.int (f (if b = true then 1 else 0) j)) H)
theorem op_addB : OpR X (binaryOp .Add) (rNum fun i j => i + j) := by
  intro pins s σ H x y v u Q I rx ry h
  obtain ⟨j, rfl, h⟩ := h
  obtain ⟨t', rfl⟩ := ry
  rcases h with ⟨i, rfl, q⟩ | ⟨b, rfl, q⟩
  · obtain ⟨t, rfl⟩ := rx
    exact add_int ⟨.int _, H, I.tok _, ⟨_, rfl⟩, q⟩
  · cases (show v = Value.bool b from rx)
    exact PySem.IntBool.add_bool_int ⟨.int _, H, I.tok _, ⟨_, rfl⟩, q⟩
theorem op_subB : OpR X (binaryOp .Sub) (rNum fun i j => i - j) := by
  intro pins s σ H x y v u Q I rx ry h
  obtain ⟨j, rfl, h⟩ := h
  obtain ⟨t', rfl⟩ := ry
  rcases h with ⟨i, rfl, q⟩ | ⟨b, rfl, q⟩
  · obtain ⟨t, rfl⟩ := rx
    exact sub_int ⟨.int _, H, I.tok _, ⟨_, rfl⟩, q⟩
  · cases (show v = Value.bool b from rx)
    exact PySem.IntBool.sub_bool_int ⟨.int _, H, I.tok _, ⟨_, rfl⟩, q⟩
end
def b2 (b : Bool) : Int := if b = true then 1 else 0
def mil : Nat := 1000000
theorem mil_le {n : Nat} (h : n ≤ mil) : n ≤ sizeLine := by
  have : n ≤ 1000000 := h
  rw [sizeLine_eq]; omega
/-- the items of a list -/
def lsD : Vl → Sto → Option (List PyData)
  | .dat (.list ds), _ => some ds
  | .ref n, s => match s[n]? with
    | some (.lst l) => datas l
    | _ => none
  | _, _ => none
theorem lsD_at {G : Cf} {H : Hp} {β : Bs} {s : Sto} {v : Vl} {u : V} {ds : List PyData} (hs : RelS G β s H) (r : Rv G H β v u) (e : lsD v s = some ds) : ∃ a xs, u = .ref a ∧ H a = some (.lst xs) ∧ DqAll G.K H β xs ds := by
  unfold lsD at e
  split at e
  · cases e
    cases r with
    | lst h hz d => exact ⟨_, _, rfl, h.1, d⟩
  · obtain ⟨a, ha, rfl⟩ := r
    split at e
    · rename_i l hl
      obtain ⟨hz, xs, h1, h2⟩ := hs.ob _ _ a hl ha
      rw [datas_eq e] at h2
      exact ⟨a, xs, rfl, h1, Rvs.undats (Rvs.up h2)⟩
    · cases e
  · cases e
def phAdd : Vl → Vl → Sto → Option Vl
  | .dat (.int i), .dat (.int j), _ => some (.dat (.int (i + j)))
  | .dat (.bool b), .dat (.int j), _ => some (.dat (.int (b2 b + j)))
  | .dat (.str x), .dat (.str y), _ => if x.length + y.length ≤ mil then some (.dat (.str (x ++ y))) else none
  | .dat (.tuple x), .dat (.tuple y), _ => if x.length + y.length ≤ mil then some (.dat (.tuple (x ++ y))) else none
  | .dat (.list x), .dat (.list y), _ => if x.length + y.length ≤ mil then some (.dat (.list (x ++ y))) else none
  | .ref n, w, s => (lsD (.ref n) s).bind fun x => (lsD w s).bind fun y => if x.length + y.length ≤ mil then some (.dat (.list (x ++ y))) else none
  | v, .ref n, s => (lsD v s).bind fun x => (lsD (.ref n) s).bind fun y => if x.length + y.length ≤ mil then some (.dat (.list (x ++ y))) else none
  | _, _, _ => none
def phSub : Vl → Vl → Sto → Option Vl
  | .dat (.int i), .dat (.int j), _ => some (.dat (.int (i - j)))
  | .dat (.bool b), .dat (.int j), _ => some (.dat (.int (b2 b - j)))
  | _, _, _ => none
open Classical in
noncomputable def phMul : Vl → Vl → Sto → Option Vl
  | .dat (.int i), .dat (.int j), _ => if CMul i j ∨ CMulW i j then some (.dat (.int (i * j))) else none
  | .dat (.str z), .dat (.int n), _ => if MulOk z n ∧ (Txt.mul z n).length ≤ mil then some (.dat (.str (Txt.mul z n))) else none
  | _, _, _ => none
open Classical in
noncomputable def phDiv : Vl → Vl → Sto → Option Vl
  | .dat (.int i), .dat (.int j), _ => if 0 < j ∧ j < 1073741824 then some (.dat (.int (i / j))) else none
  | _, _, _ => none
def phMod : Vl → Vl → Sto → Option Vl
  | .dat (.int i), .dat (.int j), _ => if 0 < j then some (.dat (.int (i % j))) else none
  | _, _, _ => none
def phPow : Vl → Vl → Sto → Option Vl
  | .dat (.int i), .dat (.int j), _ => if 0 ≤ j ∧ j ≤ 1000000 ∧ i.natAbs < 2 ^ 64 then some (.dat (.int (i ^ j.toNat))) else none
  | _, _, _ => none
def phNeg : Vl → Sto → Option Vl
  | .dat (.int i), _ => some (.dat (.int (-i)))
  | .dat (.bool b), _ => some (.dat (.int (-(b2 b))))
  | _, _ => none
theorem str_cat_len (x y : Str) : (x ++ y).length = x.length + y.length := by
  show (x.cps ++ y.cps).size = _
  rw [Array.size_append]
  rfl
section
variable {X : Cx} {zx : Exo}
theorem mo_add : OpR X (binaryOp .Add) (r2 (cf X zx) phAdd) := by
  intro pins s σ H x y v u Q I rx ry h
  obtain ⟨β, st, a, b, z, hs, ra, rb, e, q⟩ := h
  unfold phAdd at e
  split at e
  · cases e; cases ra; cases rb
    exact op_add pins s σ H _ _ v u Q I rx ry ⟨_, _, rfl, rfl, q H _ (Same.refl H) (.int _)⟩
  · cases e; cases ra; cases rb
    exact op_addB pins s σ H _ _ v u Q I rx ry ⟨_, rfl, .inr ⟨_, rfl, q H _ (Same.refl H) (.int _)⟩⟩
  · split at e
    · rename_i hl
      cases e
      cases ra with
      | str hx =>
        cases rb with
        | str hy => exact op_add_str pins s σ H _ _ v u Q I rx ry ⟨_, _, rfl, rfl, mil_le hl, q H _ (Same.refl H) (.str (by rw [str_cat_len]; exact mil_le hl))⟩
    · cases e
  · split at e
    · rename_i hl
      cases e
      cases ra with
      | @tup a xs ds hx hz dx =>
        cases rb with
        | @tup b ys es hy hz2 dy =>
          have l1 := dx.len
          have l2 := dy.len
          refine op_catN pins s σ H _ _ v u Q I rx ry ⟨a, b, xs, ys, rfl, rfl, hx.sqt, hy.sqt, by rw [l1, l2]; exact mil_le hl, fun e => ?_, fun _ e => ?_, fun _ _ => ?_⟩
          · subst e
            cases dx
            exact q H _ (Same.refl H) (.tup hy hz2 dy)
          · subst e
            cases dy
            exact q H _ (Same.refl H) (by rw [List.append_nil]; exact .tup hx hz dx)
          · exact tup_new (by rw [List.length_append]; exact mil_le hl) (dx.append dy) q
    · cases e
  · split at e
    · rename_i hl
      cases e
      cases ra with
      | @lst a xs ds hx hz dx =>
        cases rb with
        | @lst b ys es hy hz2 dy =>
          have l1 := dx.len
          have l2 := dy.len
          refine op_cat pins s σ H _ _ v u Q I rx ry ⟨a, b, xs, ys, rfl, rfl, hx.1, hy.1, by rw [l1, l2]; exact mil_le hl, fun p hp => ?_⟩
          exact q _ _ (same_new hp) (.lst ⟨upd_same, hs.nin hp, hs.nig hp⟩ (by rw [List.length_append]; exact mil_le hl) ((Step.lay hp).dqs (dx.append dy)))
    · cases e
  · obtain ⟨d1, e1, e⟩ := Option.bind_eq_some_iff.mp e
    obtain ⟨d2, e2, e⟩ := Option.bind_eq_some_iff.mp e
    split at e
    · rename_i hl
      cases e
      obtain ⟨a, xs, rfl, h1, dx⟩ := lsD_at hs ra e1
      obtain ⟨b, ys, rfl, h2, dy⟩ := lsD_at hs rb e2
      refine op_cat pins s σ H _ _ v u Q I rx ry ⟨a, b, xs, ys, rfl, rfl, h1, h2, by rw [dx.len, dy.len]; exact mil_le hl, fun p hp => ?_⟩
      exact q _ _ (same_new hp) (.lst ⟨upd_same, hs.nin hp, hs.nig hp⟩ (by rw [List.length_append]; exact mil_le hl) ((Step.lay hp).dqs (dx.append dy)))
    · cases e
  · obtain ⟨d1, e1, e⟩ := Option.bind_eq_some_iff.mp e
    obtain ⟨d2, e2, e⟩ := Option.bind_eq_some_iff.mp e
    split at e
    · rename_i hl
      cases e
      obtain ⟨a, xs, rfl, h1, dx⟩ := lsD_at hs ra e1
      obtain ⟨b, ys, rfl, h2, dy⟩ := lsD_at hs rb e2
      refine op_cat pins s σ H _ _ v u Q I rx ry ⟨a, b, xs, ys, rfl, rfl, h1, h2, by rw [dx.len, dy.len]; exact mil_le hl, fun p hp => ?_⟩
      exact q _ _ (same_new hp) (.lst ⟨upd_same, hs.nin hp, hs.nig hp⟩ (by rw [List.length_append]; exact mil_le hl) ((Step.lay hp).dqs (dx.append dy)))
    · cases e
  · cases e
theorem mo_sub : OpR X (binaryOp .Sub) (r2 (cf X zx) phSub) := by
  intro pins s σ H x y v u Q I rx ry h
  obtain ⟨β, st, a, b, z, hs, ra, rb, e, q⟩ := h
  unfold phSub at e
  split at e
  · cases e; cases ra; cases rb
    exact op_sub pins s σ H _ _ v u Q I rx ry ⟨_, _, rfl, rfl, q H _ (Same.refl H) (.int _)⟩
  · cases e; cases ra; cases rb
    exact op_subB pins s σ H _ _ v u Q I rx ry ⟨_, rfl, .inr ⟨_, rfl, q H _ (Same.refl H) (.int _)⟩⟩
  · cases e
theorem op_mulS {X : Cx} : OpR X (binaryOp .Mult) (fun x y H Q => ∃ z n, x = .str z ∧ y = .int n ∧ MulOk z n ∧ Q (.str (Txt.mul z n)) H) := by
  intro pins s σ H x y v u Q I rx ry h
  obtain ⟨z, n, rfl, rfl, ok, q⟩ := h
  obtain ⟨t, rfl⟩ := rx
  obtain ⟨t', rfl⟩ := ry
  exact SB.mul ok fun t2 k => ⟨.str _, H, I.tok k, ⟨_, rfl⟩, q⟩
theorem mo_mul : OpR X (binaryOp .Mult) (r2 (cf X zx) phMul) := by
  intro pins s σ H x y v u Q I rx ry h
  obtain ⟨β, st, a, b, z, hs, ra, rb, e, q⟩ := h
  unfold phMul at e
  split at e
  · split at e
    · rename_i hc
      cases e; cases ra; cases rb
      rcases hc with hc | hc
      · exact op_mul pins s σ H _ _ v u Q I rx ry ⟨_, _, rfl, rfl, hc, q H _ (Same.refl H) (.int _)⟩
      · exact op_mulW pins s σ H _ _ v u Q I rx ry ⟨_, _, rfl, rfl, hc, q H _ (Same.refl H) (.int _)⟩
    · cases e
  · split at e
    · rename_i hc
      cases e; cases ra; cases rb
      exact op_mulS pins s σ H _ _ v u Q I rx ry ⟨_, _, rfl, rfl, hc.1, q H _ (Same.refl H) (.str (mil_le hc.2))⟩
    · cases e
  · cases e
theorem mo_div : OpR X (binaryOp .FloorDiv) (r2 (cf X zx) phDiv) := by
  intro pins s σ H x y v u Q I rx ry h
  obtain ⟨β, st, a, b, z, hs, ra, rb, e, q⟩ := h
  unfold phDiv at e
  split at e
  · split at e
    · rename_i hc
      cases e; cases ra; cases rb
      exact op_fdiv pins s σ H _ _ v u Q I rx ry ⟨_, _, rfl, rfl, hc, q H _ (Same.refl H) (.int _)⟩
    · cases e
  · cases e
theorem mo_mod : OpR X (binaryOp .Mod) (r2 (cf X zx) phMod) := by
  intro pins s σ H x y v u Q I rx ry h
  obtain ⟨β, st, a, b, z, hs, ra, rb, e, q⟩ := h
  unfold phMod at e
  split at e
  · split at e
    · rename_i hc
      cases e; cases ra; cases rb
      exact op_mod pins s σ H _ _ v u Q I rx ry ⟨_, _, rfl, rfl, hc, q H _ (Same.refl H) (.int _)⟩
    · cases e
  · cases e
theorem mo_pow : OpR X (binaryOp .Pow) (r2 (cf X zx) phPow) := by
  intro pins s σ H x y v u Q I rx ry h
  obtain ⟨β, st, a, b, z, hs, ra, rb, e, q⟩ := h
  unfold phPow at e
  split at e
  · split at e
    · rename_i hc
      cases e; cases ra; cases rb
      exact op_pow pins s σ H _ _ v u Q I rx ry ⟨_, _, rfl, rfl, hc, q H _ (Same.refl H) (.int _)⟩
    · cases e
  · cases e
end
/-- data, or a list of the store whose items are data -/
def datL : Vl → Sto → Option PyData
  | .dat p, _ => some p
  | .ref n, s => match s[n]? with
    | some (.lst l) => (datas l).map .list
    | _ => none
  | _, _ => none
theorem datL_at {G : Cf} {H : Hp} {β : Bs} {s : Sto} {v : Vl} {u : V} {d : PyData} (hs : RelS G β s H) (r : Rv G H β v u) (e : datL v s = some d) (hd : d.hasDict = false) : Dp G.K H u d := by
  unfold datL at e
  split at e
  · cases e; exact Dq.dp hd r
  · obtain ⟨a, ha, rfl⟩ := r
    split at e
    · rename_i l hl
      obtain ⟨ds, ed, rfl⟩ := Option.map_eq_some_iff.mp e
      obtain ⟨hz, xs, h1, h2⟩ := hs.ob _ _ a hl ha
      rw [datas_eq ed] at h2
      exact .lst (SqL.of h1) (DqAll.dp (by simpa [PyData.hasDict] using hd) (Rvs.undats (Rvs.up h2)))
    · cases e
  · cases e
def phEq : Vl → Vl → Sto → Option Vl
  | .dat (.str x), .dat (.str y), _ => some (.dat (.bool (decide (x = y))))
  | .dat a, .dat b, _ => if SeqAt.shaped a = true ∧ SeqAt.shaped b = true then some (.dat (.bool (PyData.eqv a b))) else none
  | v, w, s => (datL v s).bind fun a => (datL w s).bind fun b => if SeqAt.shaped a = true ∧ SeqAt.shaped b = true then some (.dat (.bool (PyData.eqv a b))) else none
def phNe : Vl → Vl → Sto → Option Vl
  | .dat (.str x), .dat (.str y), _ => some (.dat (.bool (!decide (x = y))))
  | .dat a, .dat b, _ => if SeqAt.shaped a = true ∧ SeqAt.shaped b = true then some (.dat (.bool (!PyData.eqv a b))) else none
  | v, w, s => (datL v s).bind fun a => (datL w s).bind fun b => if SeqAt.shaped a = true ∧ SeqAt.shaped b = true then some (.dat (.bool (!PyData.eqv a b))) else none
def phCmp (p : Int → Int → Bool) (t : List Nat → List Nat → Bool) : Vl → Vl → Sto → Option Vl
  | .dat (.int i), .dat (.int j), _ => some (.dat (.bool (p i j)))
  | .dat (.str x), .dat (.str y), _ => some (.dat (.bool (t x.cps.toList y.cps.toList)))
  | _, _, _ => none
def phLt := phCmp (fun i j => decide (i < j)) (fun x y => decide (x < y))
def phLe := phCmp (fun i j => decide (i ≤ j)) (fun x y => !decide (y < x))
def phGt := phCmp (fun i j => decide (j < i)) (fun x y => decide (y < x))
def phGe := phCmp (fun i j => decide (j ≤ i)) (fun x y => !decide (x < y))
section
variable {X : Cx} {zx : Exo}
theorem mo_eq (hu : X.A.units + 64 < cLine) : OpR X (compareOp .Eq) (r2 (cf X zx) phEq) := by
  intro pins s σ H x y v u Q I rx ry h
  obtain ⟨β, st, a, b, z, hs, ra, rb, e, q⟩ := h
  unfold phEq at e
  split at e
  · rename_i x1 x2
    cases e; cases ra; cases rb
    exact op_eq pins s σ H _ _ v u Q I rx ry ⟨rfl, by
      have ed : decide (V.str x1 = V.str x2) = decide (x1 = x2) := by simp
      rw [ed]
      exact q H _ (Same.refl H) (.bl _)⟩
  · split at e
    · rename_i hc
      cases e
      exact op_eqD hu pins s σ H _ _ v u Q I rx ry ⟨_, _, Dq.dp (noDict_sh hc.1) ra, Dq.dp (noDict_sh hc.2) rb, hc.1, hc.2, q H _ (Same.refl H) (.bl _)⟩
    · cases e
  · obtain ⟨d1, e1, e⟩ := Option.bind_eq_some_iff.mp e
    obtain ⟨d2, e2, e⟩ := Option.bind_eq_some_iff.mp e
    split at e
    · rename_i hc
      cases e
      exact op_eqD hu pins s σ H _ _ v u Q I rx ry ⟨_, _, datL_at hs ra e1 (noDict_sh hc.1), datL_at hs rb e2 (noDict_sh hc.2), hc.1, hc.2, q H _ (Same.refl H) (.bl _)⟩
    · cases e
theorem mo_ne (hu : X.A.units + 64 < cLine) : OpR X (compareOp .NotEq) (r2 (cf X zx) phNe) := by
  intro pins s σ H x y v u Q I rx ry h
  obtain ⟨β, st, a, b, z, hs, ra, rb, e, q⟩ := h
  unfold phNe at e
  split at e
  · rename_i x1 x2
    cases e; cases ra; cases rb
    exact op_ne pins s σ H _ _ v u Q I rx ry ⟨rfl, by
      have ed : decide (V.str x1 = V.str x2) = decide (x1 = x2) := by simp
      rw [ed]
      exact q H _ (Same.refl H) (.bl _)⟩
  · split at e
    · rename_i hc
      cases e
      exact op_neD hu pins s σ H _ _ v u Q I rx ry ⟨_, _, Dq.dp (noDict_sh hc.1) ra, Dq.dp (noDict_sh hc.2) rb, hc.1, hc.2, q H _ (Same.refl H) (.bl _)⟩
    · cases e
  · obtain ⟨d1, e1, e⟩ := Option.bind_eq_some_iff.mp e
    obtain ⟨d2, e2, e⟩ := Option.bind_eq_some_iff.mp e
    split at e
    · rename_i hc
      cases e
      exact op_neD hu pins s σ H _ _ v u Q I rx ry ⟨_, _, datL_at hs ra e1 (noDict_sh hc.1), datL_at hs rb e2 (noDict_sh hc.2), hc.1, hc.2, q H _ (Same.refl H) (.bl _)⟩
    · cases e
theorem mo_lt : OpR X (compareOp .Lt) (r2 (cf X zx) phLt) := by
  intro pins s σ H x y v u Q I rx ry h
  obtain ⟨β, st, a, b, z, hs, ra, rb, e, q⟩ := h
  unfold phLt phCmp at e
  split at e
  · cases e; cases ra; cases rb
    exact op_lt pins s σ H _ _ v u Q I rx ry ⟨_, _, rfl, rfl, q H _ (Same.refl H) (.bl _)⟩
  · cases e; cases ra; cases rb
    exact op_lt_str pins s σ H _ _ v u Q I rx ry ⟨_, _, rfl, rfl, q H _ (Same.refl H) (.bl _)⟩
  · cases e
theorem mo_gt : OpR X (compareOp .Gt) (r2 (cf X zx) phGt) := by
  intro pins s σ H x y v u Q I rx ry h
  obtain ⟨β, st, a, b, z, hs, ra, rb, e, q⟩ := h
  unfold phGt phCmp at e
  split at e
  · cases e; cases ra; cases rb
    exact op_gt pins s σ H _ _ v u Q I rx ry ⟨_, _, rfl, rfl, q H _ (Same.refl H) (.bl _)⟩
  · cases e; cases ra; cases rb
    exact op_gt_str pins s σ H _ _ v u Q I rx ry ⟨_, _, rfl, rfl, q H _ (Same.refl H) (.bl _)⟩
  · cases e
theorem mo_ge : OpR X (compareOp .GtE) (r2 (cf X zx) phGe) := by
  intro pins s σ H x y v u Q I rx ry h
  obtain ⟨β, st, a, b, z, hs, ra, rb, e, q⟩ := h
  unfold phGe phCmp at e
  split at e
  · cases e; cases ra; cases rb
    exact op_ge pins s σ H _ _ v u Q I rx ry ⟨_, _, rfl, rfl, q H _ (Same.refl H) (.bl _)⟩
  · cases e; cases ra; cases rb
    exact op_ge_str pins s σ H _ _ v u Q I rx ry ⟨_, _, rfl, rfl, q H _ (Same.refl H) (.bl _)⟩
  · cases e
end
end Pm
set_option maxRecDepth 100000
set_option maxHeartbeats 4000000
namespace Pm
open PySem PySem.Spec PyProof.Rows L2 Sw
def keyQ : PyData → Option Key
  | .int i => some (.inl i)
  | .str x => some (.inr x)
  | _ => none
def keyQs : List PyData → Option (List Key)
  | [] => some []
  | d :: r => (keyQ d).bind fun k => (keyQs r).map (k :: ·)
def keysQ : PyData → Option (List Key)
  | .tuple ds => if (isCst ds || isO ds) = true then none else keyQs ds
  | _ => none
@[simp] theorem keyQ_D : ∀ k : Key, keyQ (keyD k) = some k
  | .inl _ => rfl
  | .inr _ => rfl
theorem keysQ_t {ds : List PyData} {ks : List Key} (h : keysQ (.tuple ds) = some ks) : isCst ds = false ∧ isO ds = false ∧ keyQs ds = some ks := by
  have h : (if (isCst ds || isO ds) = true then none else keyQs ds) = some ks := h
  split at h
  · cases h
  · rename_i e
    have e : isCst ds = false ∧ isO ds = false := by simpa using e
    exact ⟨e.1, e.2, h⟩
theorem keyQ_eq {d : PyData} {k : Key} (h : keyQ d = some k) : d = keyD k := by
  unfold keyQ at h
  split at h <;> cases h <;> rfl
theorem keyQs_eq : ∀ {ds : List PyData} {ks : List Key}, keyQs ds = some ks → ds = ks.map keyD
  | [], ks, h => by cases h; rfl
  | d :: ds, ks, h => by
    unfold keyQs at h
    cases e1 : keyQ d with
    | none => rw [e1] at h; cases h
    | some k =>
      rw [e1] at h
      cases e2 : keyQs ds with
      | none => rw [e2] at h; cases h
      | some l =>
        rw [e2] at h
        cases h
        rw [keyQ_eq e1, keyQs_eq e2]
        rfl
theorem keysQ_eq {d : PyData} {ks : List Key} (h : keysQ d = some ks) : d = keysD ks := by
  cases d with
  | tuple ds => exact congrArg PyData.tuple (keyQs_eq (keysQ_t h).2.2)
  | _ => cases h
/-- whether two keys are the same -/
def kA : PyData → PyData → Bool
  | .int i, .int j => decide (i = j)
  | .str x, .str y => decide (x = y)
  | _, _ => false
def kAs : List PyData → List PyData → Bool
  | [], [] => true
  | x :: xs, y :: ys => kA x y && kAs xs ys
  | _, _ => false
def kEq : PyData → PyData → Bool
  | .tuple xs, .tuple ys => kAs xs ys
  | a, b => kA a b
@[simp] theorem kEq_i {i j : Int} : kEq (.int i) (.int j) = decide (i = j) := rfl
@[simp] theorem kEq_s {x y : Str} : kEq (.str x) (.str y) = decide (x = y) := rfl
@[simp] theorem kEq_t {x y : List PyData} : kEq (.tuple x) (.tuple y) = kAs x y := rfl
@[simp] theorem kA_i {i j : Int} : kA (.int i) (.int j) = decide (i = j) := rfl
@[simp] theorem kA_s {x y : Str} : kA (.str x) (.str y) = decide (x = y) := rfl
@[simp] theorem kA_is {i : Int} {y : Str} : kA (.int i) (.str y) = false := rfl
@[simp] theorem kA_si {i : Int} {y : Str} : kA (.str y) (.int i) = false := rfl
@[simp] theorem kAs_nil : kAs [] [] = true := rfl
@[simp] theorem kAs_cons {x y : PyData} {xs ys : List PyData} : kAs (x :: xs) (y :: ys) = (kA x y && kAs xs ys) := rfl
@[simp] theorem kAs_nc {y : PyData} {ys : List PyData} : kAs [] (y :: ys) = false := rfl
@[simp] theorem kAs_cn {y : PyData} {ys : List PyData} : kAs (y :: ys) [] = false := rfl
theorem kA_D : ∀ a b : Key, kA (keyD a) (keyD b) = decide (a = b)
  | .inl i, .inl j => by show decide (i = j) = _; simp
  | .inr i, .inr j => by show decide (i = j) = _; simp
  | .inl i, .inr j => by show false = _; simp
  | .inr i, .inl j => by show false = _; simp
theorem kEq_D (a b : Key) : kEq (keyD a) (keyD b) = decide (a = b) := by
  rw [← kA_D]
  cases a <;> cases b <;> rfl
theorem kAs_D : ∀ a b : List Key, kAs (a.map keyD) (b.map keyD) = decide (a = b)
  | [], [] => by simp
  | [], _ :: _ => by simp
  | _ :: _, [] => by simp
  | x :: xs, y :: ys => by
    rw [List.map_cons, List.map_cons, kAs_cons, kA_D, kAs_D, Bool.eq_iff_iff]
    simp
theorem kEq_Ds (a b : List Key) : kEq (keysD a) (keysD b) = decide (a = b) := kAs_D a b
section
variable {α : Type}
def dLook (kvs : List (PyData × α)) (d : PyData) : Option α := (kvs.find? fun p => kEq p.1 d).map (·.2)
def dHas (kvs : List (PyData × α)) (d : PyData) : Bool := kvs.any fun p => kEq p.1 d
def dPut (kvs : List (PyData × α)) (d : PyData) (v : α) : List (PyData × α) := if dHas kvs d = true then kvs.map (fun p => if kEq p.1 d = true then (p.1, v) else p) else kvs ++ [(d, v)]
def dDrop (kvs : List (PyData × α)) (d : PyData) : List (PyData × α) := kvs.filter fun p => !kEq p.1 d
@[simp] theorem dLook_nil {d : PyData} : dLook ([] : List (PyData × α)) d = none := rfl
theorem dLook_cons {p : PyData × α} {r : List (PyData × α)} {d : PyData} : dLook (p :: r) d = if kEq p.1 d = true then some p.2 else dLook r d := by
  unfold dLook
  rw [List.find?_cons]
  cases kEq p.1 d <;> simp
theorem dHas_look {d : PyData} : ∀ kvs : List (PyData × α), dHas kvs d = (dLook kvs d).isSome
  | [] => rfl
  | p :: r => by
    rw [dLook_cons]
    show (kEq p.1 d || dHas r d) = _
    rw [dHas_look r]
    cases kEq p.1 d <;> simp
end
/-- entries that stand for others, key by key -/
abbrev KvR {κ α : Type} (f : κ → PyData) (R : α → V → Prop) : List (PyData × α) → List (κ × V) → Prop := Paired fun p q => p.1 = f q.1 ∧ R p.2 q.2
theorem DqKv.kv {K : PySem.W.Frag} {H : Hp} {β : Bs} : ∀ {κ : Type} {f : κ → PyData} {ks : List (κ × V)} {kvs : List (PyData × PyData)}, DqKv K H β κ f ks kvs → KvR f (fun d v => Dq K H β v d) kvs ks
  | _, _, _, _, .nil => .nil
  | _, _, _, _, .cons h r => .cons ⟨rfl, h⟩ (DqKv.kv r)
theorem DqKv.of {K : PySem.W.Frag} {H : Hp} {β : Bs} {κ : Type} {f : κ → PyData} : ∀ {ks : List (κ × V)} {kvs : List (PyData × PyData)}, KvR f (fun d v => Dq K H β v d) kvs ks → DqKv K H β κ f ks kvs
  | _, _, .nil => .nil
  | (_, _) :: _, (_, _) :: _, .cons ⟨h1, h2⟩ r => by
    cases h1
    exact .cons h2 (DqKv.of r)
section
variable {κ : Type} [DecidableEq κ] {α : Type} {f : κ → PyData} {R : α → V → Prop}
theorem KvR.look (hf : ∀ a b, kEq (f a) (f b) = decide (a = b)) {k : κ} : ∀ {kvs : List (PyData × α)} {ks : List (κ × V)}, KvR f R kvs ks → (dLook kvs (f k) = none ∧ valV ks k = none) ∨ ∃ a v, dLook kvs (f k) = some a ∧ valV ks k = some v ∧ R a v
  | _, _, .nil => .inl ⟨rfl, rfl⟩
  | p :: ps, q :: qs, .cons ⟨h1, h2⟩ r => by
    rw [dLook_cons, h1, hf]
    by_cases e : q.1 = k
    · rw [valV_pos e, if_pos (decide_eq_true e)]
      exact .inr ⟨_, _, rfl, rfl, h2⟩
    · rw [valV_neg e, if_neg (by simpa using e)]
      exact KvR.look hf r
theorem KvR.has (hf : ∀ a b, kEq (f a) (f b) = decide (a = b)) {k : κ} {kvs : List (PyData × α)} {ks : List (κ × V)} (r : KvR f R kvs ks) : (valV ks k).isSome = dHas kvs (f k) := by
  rw [dHas_look]
  rcases r.look hf (k := k) with ⟨h1, h2⟩ | ⟨a, v, h1, h2, _⟩ <;> rw [h1, h2] <;> rfl
theorem KvR.map_put (hf : ∀ a b, kEq (f a) (f b) = decide (a = b)) {k : κ} {a : α} {v : V} (hr : R a v) : ∀ {kvs : List (PyData × α)} {ks : List (κ × V)}, KvR f R kvs ks → KvR f R (kvs.map fun p => if kEq p.1 (f k) = true then (p.1, a) else p) (ks.map fun q => if q.1 = k then (q.1, v) else q)
  | _, _, .nil => .nil
  | p :: ps, q :: qs, .cons ⟨h1, h2⟩ r => by
    rw [List.map_cons, List.map_cons]
    refine .cons ?_ (KvR.map_put hf hr r)
    rw [h1, hf]
    by_cases e : q.1 = k
    · rw [if_pos (decide_eq_true e), if_pos e]
      exact ⟨rfl, hr⟩
    · rw [if_neg (by simpa using e), if_neg e]
      exact ⟨h1, h2⟩
theorem KvR.put (hf : ∀ a b, kEq (f a) (f b) = decide (a = b)) {k : κ} {a : α} {v : V} (hr : R a v) {kvs : List (PyData × α)} {ks : List (κ × V)} (r : KvR f R kvs ks) : KvR f R (dPut kvs (f k) a) (putK ks k v) := by
  unfold dPut putK
  rw [valV_any, r.has hf]
  by_cases h : dHas kvs (f k) = true
  · rw [if_pos h, if_pos h]
    exact r.map_put hf hr
  · rw [if_neg h, if_neg h]
    exact Paired.snoc r ⟨rfl, hr⟩
theorem KvR.drop (hf : ∀ a b, kEq (f a) (f b) = decide (a = b)) {k : κ} : ∀ {kvs : List (PyData × α)} {ks : List (κ × V)}, KvR f R kvs ks → KvR f R (dDrop kvs (f k)) (dropK ks k)
  | _, _, .nil => .nil
  | p :: ps, q :: qs, .cons ⟨h1, h2⟩ r => by
    have ih := KvR.drop hf (k := k) r
    unfold dDrop dropK at ih ⊢
    rw [List.filter_cons, List.filter_cons, h1, hf]
    by_cases e : q.1 = k
    · rw [if_neg (by simp [e]), if_neg (by simp [e])]
      exact ih
    · rw [if_pos (by simp [e]), if_pos (by simp [e])]
      exact .cons ⟨h1, h2⟩ ih
end
/-- the entries of a dict: whether its keys are tuples, key by value -/
def dOf : Vl → Sto → Option (Bool × List (PyData × Vl))
  | .dat (.dict ((.none, .none) :: l)), _ => some (true, l.map fun p => (p.1, .dat p.2))
  | .dat (.dict l), _ => some (false, l.map fun p => (p.1, .dat p.2))
  | .ref n, s => match s[n]? with
    | some (.dic t l) => some (t, l)
    | _ => none
  | _, _ => none
/-- whether a key is one of that dict's kind -/
def kOk (t : Bool) (d : PyData) : Bool := if t = true then (keysQ d).isSome else (keyQ d).isSome
@[simp] theorem kOk_i {i : Int} : kOk false (.int i) = true := rfl
@[simp] theorem kOk_s {i : Str} : kOk false (.str i) = true := rfl
/-- a dict and its entries -/
inductive DAt (G : Cf) (H : Hp) (β : Bs) : Addr → Bool → List (PyData × Vl) → Prop
  | k {a : Addr} {ks : List (Key × V)} {kvs : List (PyData × Vl)} : H a = some (.dK ks) → KvR keyD (Rv G H β) kvs ks → DAt G H β a false kvs
  | t {a : Addr} {ks : List (List Key × V)} {kvs : List (PyData × Vl)} : H a = some (.dT ks) → KvR keysD (Rv G H β) kvs ks → DAt G H β a true kvs
theorem KvR.dats {G : Cf} {H : Hp} {β : Bs} {κ : Type} {f : κ → PyData} : ∀ {kvs : List (PyData × PyData)} {ks : List (κ × V)}, KvR f (fun d v => Dq G.K H β v d) kvs ks → KvR f (Rv G H β) (kvs.map fun p => (p.1, Vl.dat p.2)) ks
  | _, _, .nil => .nil
  | _, _, .cons h r => .cons h (KvR.dats r)
theorem dOf_at {G : Cf} {H : Hp} {β : Bs} {s : Sto} {v : Vl} {u : V} {t : Bool} {kvs : List (PyData × Vl)} (hs : RelS G β s H) (r : Rv G H β v u) (e : dOf v s = some (t, kvs)) : ∃ a, u = .ref a ∧ DAt G H β a t kvs := by
  unfold dOf at e
  split at e
  · cases e
    cases r with
    | dic h d => exact absurd d.notT (by simp [isT])
    | dit h d => exact ⟨_, rfl, .t h.1 (d.kv.dats)⟩
  · rename_i l hl
    cases e
    cases r with
    | dic h d => exact ⟨_, rfl, .k h.1 (d.kv.dats)⟩
    | dit h d => exact absurd rfl (hl _)
  · obtain ⟨a, ha, rfl⟩ := r
    split at e
    · rename_i t l hl
      cases e
      have ro := hs.ob _ _ a hl ha
      cases t with
      | false =>
        obtain ⟨ks, h1, h2⟩ := ro
        exact ⟨a, rfl, .k h1 (Paired.mapP h2 fun p q z => ⟨z.1, Rv.up z.2⟩)⟩
      | true =>
        obtain ⟨ks, h1, h2⟩ := ro
        exact ⟨a, rfl, .t h1 (Paired.mapP h2 fun p q z => ⟨z.1, Rv.up z.2⟩)⟩
    · cases e
  · cases e
theorem key_V {K : PySem.W.Frag} {H : Hp} {β : Bs} {y : V} {d : PyData} {k : Key} (r : Dq K H β y d) (e : keyQ d = some k) : y = kV k := by
  have := keyQ_eq e
  subst this
  cases k <;> cases r <;> rfl
theorem keys_V {K : PySem.W.Frag} {H : Hp} {β : Bs} : ∀ {ys : List V} {ds : List PyData} {ks : List Key}, DqAll K H β ys ds → keyQs ds = some ks → ys = ks.map kV
  | _, _, _, .nil, e => by cases e; rfl
  | _, d :: ds, ks, .cons h t, e => by
    unfold keyQs at e
    cases e1 : keyQ d with
    | none => rw [e1] at e; cases e
    | some k =>
      rw [e1] at e
      cases e2 : keyQs ds with
      | none => rw [e2] at e; cases e
      | some l =>
        rw [e2] at e
        cases e
        rw [key_V h e1, keys_V t e2]
        rfl
theorem keyT_V {K : PySem.W.Frag} {H : Hp} {β : Bs} {y : V} {d : PyData} {ks : List Key} (r : Dq K H β y d) (e : keysQ d = some ks) : ∃ b, y = .ref b ∧ H b = some (.tup (ks.map kV)) := by
  cases d with
  | tuple ds =>
    cases r with
    | tup h _ q =>
      obtain ⟨e0, eO, e⟩ := keysQ_t e
      have := keys_V q e
      subst this
      exact ⟨_, rfl, h.tup eO e0⟩
  | _ => cases e
/-- what the dict tells of a key -/
theorem DAt.get {G : Cf} {H : Hp} {β : Bs} {a : Addr} {t : Bool} {kvs : List (PyData × Vl)} {y : V} {d : PyData} (h : DAt G H β a t kvs) (r : Dq G.K H β y d) (hk : kOk t d = true) :
    ∃ o, DGet H a y o ∧ ((dLook kvs d = none ∧ o = none) ∨ ∃ z v, dLook kvs d = some z ∧ o = some v ∧ Rv G H β z v) := by
  cases h with
  | k e kv =>
    obtain ⟨k, ek⟩ := Option.isSome_iff_exists.mp (show (keyQ d).isSome = true from hk)
    have := keyQ_eq ek
    have ey := key_V r ek
    subst this ey
    refine ⟨_, DGet.k e, ?_⟩
    rcases kv.look kEq_D (k := k) with h | ⟨z, v, h1, h2, h3⟩
    · exact .inl h
    · exact .inr ⟨z, v, h1, h2, h3⟩
  | t e kv =>
    obtain ⟨k, ek⟩ := Option.isSome_iff_exists.mp (show (keysQ d).isSome = true from hk)
    obtain ⟨b, rfl, eb⟩ := keyT_V r ek
    have := keysQ_eq ek
    subst this
    refine ⟨_, DGet.t e eb, ?_⟩
    rcases kv.look kEq_Ds (k := k) with h | ⟨z, v, h1, h2, h3⟩
    · exact .inl h
    · exact .inr ⟨z, v, h1, h2, h3⟩
end Pm
set_option maxRecDepth 100000
set_option maxHeartbeats 4000000
namespace Pm
open PySem PySem.Spec PyProof.Rows L2 Sw
def fV : PyData → Option V
  | .none => some .non
  | .bool b => some (.bl b)
  | .int i => some (.int i)
  | .str x => some (.str x)
  | _ => none
def fVs : List PyData → Option (List V)
  | [] => some []
  | d :: r => (fV d).bind fun v => (fVs r).map (v :: ·)
theorem fV_eq {K : PySem.W.Frag} {H : Hp} {β : Bs} {u : V} {d : PyData} {v : V} (r : Dq K H β u d) (e : fV d = some v) : u = v ∧ flatV v = true := by
  cases r <;> first | (cases e; exact ⟨rfl, rfl⟩) | cases e
theorem fVs_eq {K : PySem.W.Frag} {H : Hp} {β : Bs} : ∀ {us : List V} {ds : List PyData} {vs : List V}, DqAll K H β us ds → fVs ds = some vs → us = vs ∧ vs.all flatV = true
  | _, _, _, .nil, e => by cases e; exact ⟨rfl, rfl⟩
  | _, d :: ds, vs, .cons h t, e => by
    unfold fVs at e
    cases e1 : fV d with
    | none => rw [e1] at e; cases e
    | some v =>
      rw [e1] at e
      cases e2 : fVs ds with
      | none => rw [e2] at e; cases e
      | some l =>
        rw [e2] at e
        cases e
        obtain ⟨rfl, h1⟩ := fV_eq h e1
        obtain ⟨rfl, h2⟩ := fVs_eq t e2
        exact ⟨rfl, by rw [List.all_cons, h1, h2]; rfl⟩
/-- the items of a tuple, a list -/
def seqD : Vl → Sto → Option (List PyData)
  | .dat (.tuple ds), _ => some ds
  | .dat (.list ds), _ => some ds
  | .ref n, s => match s[n]? with
    | some (.lst l) => datas l
    | _ => none
  | _, _ => none
theorem seqD_at {G : Cf} {H : Hp} {β : Bs} {s : Sto} {v : Vl} {u : V} {ds : List PyData} (hs : RelS G β s H) (r : Rv G H β v u) (e : seqD v s = some ds) : ∃ a xs, u = .ref a ∧ (SqL G.K H a xs ∨ TupA G.K H a ds xs) ∧ DqAll G.K H β xs ds ∧ ds.length ≤ sizeLine := by
  unfold seqD at e
  split at e
  · cases e
    cases r with
    | tup h hz d => exact ⟨_, _, rfl, .inr h, d, hz⟩
  · cases e
    cases r with
    | lst h hz d => exact ⟨_, _, rfl, .inl h.sq, d, hz⟩
  · obtain ⟨a, ha, rfl⟩ := r
    split at e
    · rename_i l hl
      obtain ⟨hz, xs, h1, h2⟩ := hs.ob _ _ a hl ha
      rw [datas_eq e] at h2 hz
      exact ⟨a, xs, rfl, .inl (SqL.of h1), Rvs.undats (Rvs.up h2), by simpa using hz⟩
    · cases e
  · cases e
def phIn (neg : Bool) : Vl → Vl → Sto → Option Vl
  | .dat x, c, s => match dOf c s with
    | some (t, kvs) => if kOk t x = true then some (.dat (.bool (if neg = true then !dHas kvs x else dHas kvs x))) else none
    | none => (fV x).bind fun vx => (seqD c s).bind fun ds => (fVs ds).map fun vs => .dat (.bool (if neg = true then !inV vx vs else inV vx vs))
  | _, _, _ => none
section
variable {X : Cx} {zx : Exo}
theorem in_key {neg : Bool} {H : Hp} {x y : V} {Q : VK} (h : r2 (cf X zx) (phIn neg) x y H Q) : rIn X.K neg x y H Q ∨ ∃ a o, y = .ref a ∧ DGet H a x o ∧ Q (.bl (if neg = true then !o.isSome else o.isSome)) H := by
  obtain ⟨β, st, a, b, z, hs, ra, rb, e, q⟩ := h
  cases a with
  | ref n => cases e
  | scr n => cases e
  | exo _ _ => cases e
  | fn _ => cases e
  | lam _ _ _ _ _ => cases e
  | dat x =>
    have e : (match dOf b st with
      | some (t, kvs) => if kOk t x = true then some (Vl.dat (.bool (if neg = true then !dHas kvs x else dHas kvs x))) else none
      | none => (fV x).bind fun vx => (seqD b st).bind fun ds => (fVs ds).map fun vs => Vl.dat (.bool (if neg = true then !inV vx vs else inV vx vs))) = some z := e
    split at e
    · rename_i t kvs ed
      split at e
      · rename_i hk
        cases e
        obtain ⟨a, rfl, da⟩ := dOf_at hs rb ed
        obtain ⟨o, g, l⟩ := da.get ra hk
        refine .inr ⟨a, o, rfl, g, ?_⟩
        have eo : o.isSome = dHas kvs x := by
          rw [dHas_look]
          rcases l with ⟨h1, h2⟩ | ⟨w, v, h1, h2, _⟩ <;> rw [h1, h2] <;> rfl
        rw [eo]
        exact q H _ (Same.refl H) (.bl _)
      · cases e
    refine .inl ?_
    cases e1 : fV x with
    | none => rw [e1] at e; cases e
    | some vx =>
      cases e2 : seqD b st with
      | none => rw [e1, e2] at e; cases e
      | some ds =>
        cases e3 : fVs ds with
        | none => rw [e1, e2] at e; simp [e3] at e
        | some vs =>
          rw [e1, e2] at e
          simp only [Option.bind_some, e3, Option.map_some, Option.some.injEq] at e
          subst e
          obtain ⟨rfl, f1⟩ := fV_eq ra e1
          obtain ⟨p, xs, rfl, h1, h2, _⟩ := seqD_at hs rb e2
          obtain ⟨rfl, f2⟩ := fVs_eq h2 e3
          exact ⟨p, _, rfl, h1.imp id TupA.sqt, f1, f2, q H _ (Same.refl H) (.bl _)⟩
theorem mo_in (hu : X.A.units + 64 < cLine) : OpR X (compareOp .In) (r2 (cf X zx) (phIn false)) := fun pins s σ H x y v u Q I rx ry h => by
  rcases in_key h with h | ⟨a, o, rfl, g, q⟩
  · exact op_in_seq pins s σ H x y v u Q I rx ry h
  · cases (show u = Value.ref a from ry)
    exact d_in (by omega) I g rx fun s' I' => ⟨.bl o.isSome, H, I', rfl, q⟩
theorem mo_notIn (hu : X.A.units + 64 < cLine) : OpR X (compareOp .NotIn) (r2 (cf X zx) (phIn true)) := fun pins s σ H x y v u Q I rx ry h => by
  rcases in_key h with h | ⟨a, o, rfl, g, q⟩
  · exact op_notIn_seq pins s σ H x y v u Q I rx ry h
  · cases (show u = Value.ref a from ry)
    exact d_notIn (by omega) I g rx fun s' I' => ⟨.bl (!o.isSome), H, I', rfl, q⟩
end
def phIx : Vl → Vl → Sto → Option Vl
  | .dat (.tuple ds), .dat (.int i), _ => (atI ds i).map Vl.dat
  | .dat (.list ds), .dat (.int i), _ => (atI ds i).map Vl.dat
  | .dat (.str z), .dat (.int i), _ => (atI z.cps.toList i).map fun c => Vl.dat (.str ⟨#[c]⟩)
  | .ref n, .dat d, s => match s[n]? with
    | some (.lst l) => match d with
      | .int i => atI l i
      | _ => none
    | some (.dic t kvs) => if kOk t d = true then dLook kvs d else none
    | _ => none
  | .dat (.dict l), .dat d, s => match dOf (.dat (.dict l)) s with
    | some (t, kvs) => if kOk t d = true then dLook kvs d else none
    | none => none
  | _, _, _ => none
theorem atI_dq {K : PySem.W.Frag} {H : Hp} {β : Bs} {xs : List V} {ds : List PyData} {i : Int} {d : PyData} (h : DqAll K H β xs ds) (e : atI ds i = some d) : ∃ v, atI xs i = some v ∧ Dq K H β v d := by
  unfold atI at e ⊢
  rw [h.len]
  cases ei : ixN ds.length i with
  | none => rw [ei] at e; cases e
  | some j =>
    rw [ei] at e
    obtain ⟨v, h1, h2⟩ := h.get' (show ds[j]? = some d from e)
    exact ⟨v, h1, h2⟩
theorem atI_rv {G : Cf} {H : Hp} {β : Bs} {xs : List V} {ds : List Vl} {i : Int} {d : Vl} (h : Rvs G H β ds xs) (e : atI ds i = some d) : ∃ v, atI xs i = some v ∧ Rv G H β d v := by
  unfold atI at e ⊢
  rw [← h.len]
  cases ei : ixN ds.length i with
  | none => rw [ei] at e; cases e
  | some j =>
    rw [ei] at e
    obtain ⟨v, h1, h2⟩ := h.get' (show ds[j]? = some d from e)
    exact ⟨v, h1, h2⟩
section
variable {X : Cx} {zx : Exo}
theorem ix_dict (hu : X.A.units + 64 < cLine) : IxR X (fun x y H Q => ∃ a v, x = .ref a ∧ DGet H a y (some v) ∧ Q v H) := by
  intro value slice pins s σ H x y v u Q I rx ry h hsub
  obtain ⟨a, w, rfl, g, q⟩ := h
  obtain rfl : v = Value.ref a := rx
  exact tail_any (dict_typeIs I g) PySem.F.slot_dict_getitem.lookup (d_getItem (by omega) I g ry fun w' s' I' rw' => ⟨w, H, I', rw', q⟩) hsub
theorem mx_ix (hu : X.A.units + 64 < cLine) : IxR X (r2 (cf X zx) phIx) := by
  intro value slice pins s σ H x y v u Q I rx ry h hsub
  obtain ⟨β, st, a, b, z, hs, ra, rb, e, q⟩ := h
  unfold phIx at e
  split at e
  · obtain ⟨d, h1, rfl⟩ := Option.map_eq_some_iff.mp e
    cases rb
    cases ra with
    | @tup p xs _ hx hz dx =>
      obtain ⟨w, h2, h3⟩ := atI_dq dx h1
      exact ix_tup value slice pins s σ H _ _ v u Q I rx ry ⟨p, xs, _, w, rfl, rfl, hx.sqt, h2, q H _ (Same.refl H) h3⟩ hsub
  · obtain ⟨d, h1, rfl⟩ := Option.map_eq_some_iff.mp e
    cases rb
    cases ra with
    | @lst p xs _ hx hz dx =>
      obtain ⟨w, h2, h3⟩ := atI_dq dx h1
      exact ix_list value slice pins s σ H _ _ v u Q I rx ry ⟨p, xs, _, w, rfl, rfl, hx.sq, h2, q H _ (Same.refl H) h3⟩ hsub
  · obtain ⟨c, h1, rfl⟩ := Option.map_eq_some_iff.mp e
    cases rb
    cases ra with
    | str hz => exact ix_str value slice pins s σ H _ _ v u Q I rx ry ⟨_, _, c, rfl, rfl, hz, h1, q H _ (Same.refl H) (.str (by rw [sizeLine_eq]; show 1 ≤ 16777216; decide))⟩ hsub
  · rename_i n d
    split at e
    · rename_i l hl
      split at e
      · cases rb
        obtain ⟨p, ha, rfl⟩ := ra
        obtain ⟨hz, xs, h1, h2⟩ := hs.ob _ _ p hl ha
        obtain ⟨w, h3, h4⟩ := atI_rv h2 e
        exact ix_list value slice pins s σ H _ _ v u Q I rx ry ⟨p, xs, _, w, rfl, rfl, SqL.of h1, h3, q H _ (Same.refl H) (Rv.up h4)⟩ hsub
      · cases e
    · rename_i t kvs hl
      split at e
      · rename_i hk
        obtain ⟨p, rfl, da⟩ := dOf_at hs ra (show dOf (.ref n) st = some (t, kvs) by simp [dOf, hl])
        obtain ⟨o, g, l⟩ := da.get rb hk
        rcases l with ⟨h1, _⟩ | ⟨w, v2, h1, rfl, rw2⟩
        · rw [h1] at e; cases e
        · rw [h1] at e; cases e
          exact ix_dict hu value slice pins s σ H _ _ v u Q I rx ry ⟨p, v2, rfl, g, q H _ (Same.refl H) rw2⟩ hsub
      · cases e
    · cases e
  · rename_i l d
    split at e
    · rename_i t kvs ed
      split at e
      · rename_i hk
        obtain ⟨p, rfl, da⟩ := dOf_at hs ra ed
        obtain ⟨o, g, l⟩ := da.get rb hk
        rcases l with ⟨h1, _⟩ | ⟨w, v2, h1, rfl, rw2⟩
        · rw [h1] at e; cases e
        · rw [h1] at e; cases e
          exact ix_dict hu value slice pins s σ H _ _ v u Q I rx ry ⟨p, v2, rfl, g, q H _ (Same.refl H) rw2⟩ hsub
      · cases e
    · cases e
  · cases e
end
def cut {α : Type} (xs : List α) (lo hi : Option Int) : List α := (xs.drop (HT.sIx xs.length 0 lo)).take (HT.sIx xs.length xs.length hi - HT.sIx xs.length 0 lo)
theorem cut_len {α : Type} (xs : List α) (lo hi : Option Int) : (cut xs lo hi).length ≤ xs.length := by
  unfold cut
  rw [List.length_take, List.length_drop]
  omega
theorem cut_dq {K : PySem.W.Frag} {H : Hp} {β : Bs} {xs : List V} {ds : List PyData} {lo hi : Option Int} (h : DqAll K H β xs ds) : DqAll K H β (cutV xs lo hi) (cut ds lo hi) := by
  unfold cutV cut
  rw [h.len]
  exact (h.drop _).take _
def phSl : Vl → Option Int → Option Int → Sto → Option Vl
  | .dat (.tuple ds), lo, hi, _ => some (.dat (.tuple (cut ds lo hi)))
  | .dat (.list ds), lo, hi, _ => some (.dat (.list (cut ds lo hi)))
  | .dat (.str z), lo, hi, _ => some (.dat (.str (cutS z lo hi)))
  | .ref n, lo, hi, s => match s[n]? with
    | some (.lst l) => (datas l).map fun ds => .dat (.list (cut ds lo hi))
    | _ => none
  | .scr ns, lo, hi, _ => if ns.length ≤ mil then some (.dat (.list (cut (ns.map PyData.int) lo hi))) else none
  | _, _, _, _ => none
theorem cutS_len (z : Str) (lo hi : Option Int) : (cutS z lo hi).length ≤ z.length := by
  show (((z.cps.toList.drop _).take _).toArray).size ≤ z.cps.size
  simp
  omega
theorem dq_ints {K : PySem.W.Frag} {H : Hp} {β : Bs} : ∀ ns : List Int, DqAll K H β (ns.map V.int) (ns.map PyData.int)
  | [] => .nil
  | n :: ns => .cons (.int n) (dq_ints ns)
def rSl (G : Cf) : V → Option Int → Option Int → Hp → VK → Prop := fun x lo hi H Q => ∃ β s v z, RelS G β s H ∧ Rv G H β v x ∧ phSl v lo hi s = some z ∧ ∀ H' u, Same H H' → Rv G H' β z u → Q u H'
section
variable {X : Cx} {zx : Exo} {W : WX} {e : Expr} {f : ME}
theorem ms_sl : SlR X (rSl (cf X zx)) := by
  intro pins s σ H x v vl vu lo hi sl Q I rx hsl pl pu h
  obtain ⟨β, st, a, z, hs, ra, e, q⟩ := h
  unfold phSl at e
  split at e
  · cases e
    cases ra with
    | @tup p xs ds hx hz dx =>
      refine sl_tupN pins s σ H _ v vl vu lo hi sl Q I rx hsl pl pu ⟨p, xs, rfl, hx.sqt, fun hw => ?_, fun _ => ?_⟩
      · refine q H _ (Same.refl H) ?_
        have l1 := dx.len
        rw [l1] at hw
        unfold cut
        rw [hw.1, hw.2]
        simp only [List.drop_zero, Nat.sub_zero, List.take_length]
        exact .tup hx hz dx
      · exact tup_new (Nat.le_trans (cut_len _ _ _) hz) (cut_dq dx) q
  · cases e
    cases ra with
    | @lst p xs _ hx hz dx =>
      exact sl_list pins s σ H _ v vl vu lo hi sl Q I rx hsl pl pu ⟨p, xs, rfl, hx.sq, fun p2 hp => q _ _ (same_new hp) (.lst ⟨upd_same, hs.nin hp, hs.nig hp⟩ (Nat.le_trans (cut_len _ _ _) hz) ((Step.lay hp).dqs (cut_dq dx)))⟩
  · cases e
    cases ra with
    | str hz => exact sl_str pins s σ H _ v vl vu lo hi sl Q I rx hsl pl pu ⟨_, rfl, hz, q H _ (Same.refl H) (.str (Nat.le_trans (cutS_len _ _ _) hz))⟩
  · split at e
    · rename_i l hl
      cases ed : datas l with
      | none => rw [ed] at e; cases e
      | some ds =>
        rw [ed] at e
        cases e
        obtain ⟨p, ha, rfl⟩ := ra
        obtain ⟨hz, xs, h1, h2⟩ := hs.ob _ _ p hl ha
        rw [datas_eq ed] at h2 hz
        have dx := Rvs.undats h2
        exact sl_list pins s σ H _ v vl vu lo hi sl Q I rx hsl pl pu ⟨p, xs, rfl, SqL.of h1, fun p2 hp => q _ _ (same_new hp) (.lst ⟨upd_same, hs.nin hp, hs.nig hp⟩ (Nat.le_trans (cut_len _ _ _) (by simpa using hz)) ((Step.lay hp).dqs (cut_dq dx)))⟩
    · cases e
  · split at e
    · rename_i hl
      cases e
      obtain ⟨p, rfl, sc⟩ := ra
      exact sl_list pins s σ H _ v vl vu lo hi sl Q I rx hsl pl pu ⟨p, _, rfl, sc.sq, fun p2 hp => q _ _ (same_new hp) (.lst ⟨upd_same, hs.nin hp, hs.nig hp⟩ (Nat.le_trans (cut_len _ _ _) (by rw [List.length_map]; exact mil_le hl)) (cut_dq (dq_ints _)))⟩
    · cases e
  · cases e
abbrev MO := Loc → Sto → R (Option Int)
abbrev rO : Rel (Option Int) (Option Int) := fun _ _ a b => a = b
abbrev DO (X : Cx) (zx : Exo) (W : WX) (e : Option Expr) (f : MO) : Prop := PO X e (tG (cf X zx) rO W f)
theorem PO.imp {X : Cx} {e : Option Expr} {t t' : TO} (h : PO X e t) (i : ∀ σ H Q, t' σ H Q → t σ H Q) : PO X e t' := ⟨fun pins s σ H Q I q => h.run pins s σ H Q I (i σ H Q q)⟩
def oNone : MO := fun _ s => .ok none s
def int? : Vl → Option Int
  | .dat (.int i) => some i
  | _ => none
def oSome (f : ME) : MO := fun ρ s => (f ρ s).bind fun v s1 => R.of ((int? v).map some) s1
theorem do_none : DO X zx W none oNone := PO.imp po_none fun σ H Q ⟨β, ρ, s, hl, hs, hp⟩ => hp β H _ (Step.refl _ _) hs rfl
theorem do_some (h : DE X zx W e f) : DO X zx W (some e) (oSome f) := PO.imp (po_some h) fun σ H Q ⟨β, ρ, s, hl, hs, hp⟩ => by
  refine ⟨β, ρ, s, hl, hs, Post.bind hp fun v s1 β1 H1 u st1 hs1 r1 h1 => ?_⟩
  cases ei : int? v with
  | none => rw [ei] at h1; exact h1.elim
  | some i =>
    rw [ei] at h1
    cases v with
    | ref n => cases ei
    | scr n => cases ei
    | exo _ _ => cases ei
    | fn _ => cases ei
    | lam _ _ _ _ _ => cases ei
    | dat d =>
      cases d with
      | int j => cases ei; cases r1; exact ⟨_, rfl, h1 β1 H1 _ (Step.refl _ _) hs1 rfl⟩
      | _ => cases ei
def mSl (f : ME) (lo hi : MO) : ME := fun ρ s => (f ρ s).bind fun v s1 => (lo ρ s1).bind fun l s2 => (hi ρ s2).bind fun h s3 => R.of (phSl v l h s3) s3
theorem de_slice {lo hi : Option Expr} {fl fh : MO} {p2 pos : Pos} (he : DE X zx W e f) (hl : DO X zx W lo fl) (hu : DO X zx W hi fh) : DE X zx W (.Subscript e (.Slice lo hi none p2) pos) (mSl f fl fh) := PE.imp (pe_slice ms_sl he hl hu) fun σ H Q ⟨β, ρ, s, hl, hs, hp⟩ => by
  refine ⟨β, ρ, s, hl, hs, Post.bind hp fun v s1 β1 H1 u st1 hs1 r1 h1 => ?_⟩
  refine ⟨β1, ρ, s1, hl.step st1, hs1, Post.bind h1 fun l s2 β2 H2 u2 st2 hs2 r2 h2 => ?_⟩
  refine ⟨β2, ρ, s2, (hl.step st1).step st2, hs2, Post.bind h2 fun h s3 β3 H3 u3 st3 hs3 r3 h3 => ?_⟩
  cases (show l = u2 from r2)
  cases (show h = u3 from r3)
  obtain ⟨z, e, q⟩ := post_of h3 hs3
  exact ⟨β3, s3, v, z, hs3, st3.rv (st2.rv r1), e, q⟩
end
def phLen : List Vl → Sto → Option Vl
  | [.dat (.tuple ds)], _ => some (.dat (.int ds.length))
  | [.dat (.list ds)], _ => some (.dat (.int ds.length))
  | [.dat (.str z)], _ => some (.dat (.int z.length))
  | [v], s => match dOf v s with
    | some (_, kvs) => some (.dat (.int kvs.length))
    | none => match v with
      | .ref n => match s[n]? with
        | some (.lst l) => some (.dat (.int l.length))
        | _ => none
      | _ => none
  | _, _ => none
def phTuple : List Vl → Sto → Option Vl
  | [v], s => (seqD v s).map fun ds => .dat (.tuple ds)
  | _, _ => none
def phList : List Vl → Sto → Option Vl
  | [v], s => (seqD v s).map fun ds => .dat (.list ds)
  | _, _ => none
def bls : List PyData → Option (List Bool)
  | [] => some []
  | .bool b :: r => (bls r).map (b :: ·)
  | _ :: _ => none
def phAll : List Vl → Sto → Option Vl
  | [.dat (.list ds)], _ => (bls ds).map fun bs => .dat (.bool (bs.all id))
  | _, _ => none
open Classical in
noncomputable def phRepr : List Vl → Sto → Option Vl
  | [.dat (.tuple ds)], _ => if (PyData.tuple ds).showable = true ∧ (PyData.tuple ds).hasDict = false ∧ (PyData.tuple ds).depth ≤ 60 ∧ (PyData.tuple ds).shown.length ≤ sizeLine then some (.dat (.str (PyData.tuple ds).shown)) else none
  | [.dat (.list ds)], _ => if (PyData.list ds).showable = true ∧ (PyData.list ds).hasDict = false ∧ (PyData.list ds).depth ≤ 60 ∧ (PyData.list ds).shown.length ≤ sizeLine then some (.dat (.str (PyData.list ds).shown)) else none
  | _, _ => none
section
variable {X : Cx} {zx : Exo} {W : WX}
theorem rvs1 {G : Cf} {H : Hp} {β : Bs} {v : Vl} {xs : List V} (r : Rvs G H β [v] xs) : ∃ x, xs = [x] ∧ Rv G H β v x := by
  cases r with
  | cons r0 r1 => cases r1; exact ⟨_, rfl, r0⟩
theorem mc_len : CallR X (.builtin "len") (rn (cf X zx) phLen) := by
  intro pins s σ H xs us Q I rx h
  obtain ⟨β, st, vs, z, hs, rv, e, q⟩ := h
  unfold phLen at e
  split at e
  · cases e
    obtain ⟨x, rfl, r⟩ := rvs1 rv
    cases r with
    | @tup p ys _ hx hz dx => exact call_len_seq pins s σ H _ us Q I rx ⟨p, ys, rfl, .inr (hx.sqt), by rw [dx.len]; exact q H _ (Same.refl H) (.int _)⟩
  · cases e
    obtain ⟨x, rfl, r⟩ := rvs1 rv
    cases r with
    | @lst p ys _ hx hz dx => exact call_len_seq pins s σ H _ us Q I rx ⟨p, ys, rfl, .inl hx.sq, by rw [dx.len]; exact q H _ (Same.refl H) (.int _)⟩
  · cases e
    obtain ⟨x, rfl, r⟩ := rvs1 rv
    cases r with
    | str hz => exact call_len_str pins s σ H _ us Q I rx ⟨_, rfl, hz, q H _ (Same.refl H) (.int _)⟩
  · obtain ⟨x, rfl, r⟩ := rvs1 rv
    split at e
    · rename_i t kvs ed
      cases e
      obtain ⟨p, rfl, da⟩ := dOf_at hs r ed
      cases da with
      | k h1 h2 => exact call_lenD pins s σ H _ us Q I rx ⟨p, _, rfl, h1, by rw [← Paired.length h2]; exact q H _ (Same.refl H) (.int _)⟩
      | t h1 h2 => exact call_len_dT pins s σ H _ us Q I rx ⟨p, _, rfl, h1, by rw [← Paired.length h2]; exact q H _ (Same.refl H) (.int _)⟩
    · split at e
      · obtain ⟨p, ha, rfl⟩ := r
        split at e
        · rename_i l hl
          cases e
          obtain ⟨hz, ys, h1, h2⟩ := hs.ob _ _ p hl ha
          exact call_len_seq pins s σ H _ us Q I rx ⟨p, ys, rfl, .inl (SqL.of h1), by rw [← h2.len]; exact q H _ (Same.refl H) (.int _)⟩
        · cases e
      · cases e
  · cases e
theorem mc_tuple : CallR X (.type "tuple") (rn (cf X zx) phTuple) := by
  intro pins s σ H xs us Q I rx h
  obtain ⟨β, st, vs, z, hs, rv, e, q⟩ := h
  unfold phTuple at e
  split at e
  · obtain ⟨x, rfl, r⟩ := rvs1 rv
    obtain ⟨ds, es, rfl⟩ := Option.map_eq_some_iff.mp e
    · skip
      obtain ⟨p, ys, rfl, h1, dx, hz⟩ := seqD_at hs r es
      refine call_tupN pins s σ H _ us Q I rx ⟨p, ys, rfl, ?_⟩
      rcases h1 with h1 | h1
      · exact .inl ⟨h1, tup_new hz dx q⟩
      · exact .inr ⟨h1.sqt, q H _ (Same.refl H) (.tup h1 hz dx)⟩
  · cases e
theorem mc_list : CallR X (.type "list") (rn (cf X zx) phList) := by
  intro pins s σ H xs us Q I rx h
  obtain ⟨β, st, vs, z, hs, rv, e, q⟩ := h
  unfold phList at e
  split at e
  · obtain ⟨x, rfl, r⟩ := rvs1 rv
    obtain ⟨ds, es, rfl⟩ := Option.map_eq_some_iff.mp e
    · skip
      obtain ⟨p, ys, rfl, h1, dx, hz⟩ := seqD_at hs r es
      exact call_list_of pins s σ H _ us Q I rx ⟨p, ys, rfl, h1.imp id TupA.sqt, fun l hl => q _ _ (same_new hl) (.lst ⟨upd_same, hs.nin hl, hs.nig hl⟩ hz ((Step.lay hl).dqs dx))⟩
  · cases e
theorem mc_repr (hg : X.A.guards = some []) (hu : X.A.units + 64 < cLine) : CallR X (.builtin "repr") (rn (cf X zx) phRepr) := by
  intro pins s σ H xs us Q I rx h
  obtain ⟨β, st, vs, z, hs, rv, e, q⟩ := h
  unfold phRepr at e
  split at e
  · split at e
    · rename_i hc
      cases e
      obtain ⟨x, rfl, r⟩ := rvs1 rv
      have dp := Dq.dp hc.2.1 r
      cases r
      exact call_repr hg hu pins s σ H _ us Q I rx ⟨_, _, rfl, dp, hc.1, hc.2.1, hc.2.2.1, hc.2.2.2, q H _ (Same.refl H) (.str hc.2.2.2)⟩
    · cases e
  · split at e
    · rename_i hc
      cases e
      obtain ⟨x, rfl, r⟩ := rvs1 rv
      have dp := Dq.dp hc.2.1 r
      cases r
      exact call_repr hg hu pins s σ H _ us Q I rx ⟨_, _, rfl, dp, hc.1, hc.2.1, hc.2.2.1, hc.2.2.2, q H _ (Same.refl H) (.str hc.2.2.2)⟩
    · cases e
  · cases e
def phIsi (g : PyData → Bool) : Vl → Sto → Option Vl
  | .dat d, _ => some (.dat (.bool (g d)))
  | _, _ => none
end
end Pm
set_option maxRecDepth 100000
set_option maxHeartbeats 4000000
namespace Sw
open PySem PySem.Spec PyProof.Rows L2
/-- the making of it -/
theorem enum_new {v : Value} {o : Obj} {H : Heap → Prop} (Bg : Begins v o H) :
    Meets (Builtin.«enumerate.__new__» ⟨[.type "enumerate", v], []⟩) (fun _ R s => H s.heap ∧ R (.ok (.ret (.ref (s.heap.push o).objs.size)))
      { s with heap := (s.heap.push o).push { cls := .type "enumerate", data := .fields #[.none, .bool false, .ref s.heap.objs.size, rawInt 0, .none, .none] } }) :=
  .of_wp fun pr w A R s hh => by
    obtain ⟨hp, g, d, tk, os⟩ := s
    obtain ⟨hb, h⟩ := hh
    have sbe := sub_enumerate
    have itr : ∀ {A' : Around} {Er : Value → Shared → Prop} {Q : Value → Shared → Prop}, Q (.ref hp.objs.size) ⟨hp.push o, g, d, tk, os⟩ → wpAny (model pr w) A' (pyIter v) Q Er ⟨hp, g, d, tk, os⟩ := fun q => Bg.iter pr w _ _ ⟨hp, g, d, tk, os⟩ _ hb q
    wp_walk using itr
    refine wpAny_stack_any fun stk => wpAny_pure ?_
    split
    · rename_i cl _ _ _ _ _
      cases (cl == Value.type "enumerate")
      all_goals (wp_walk using itr; exact ⟨_, rfl, h⟩)
    · wp_walk using itr
      exact ⟨_, rfl, h⟩
section
variable {P : Program} {w : World} {A : Around} {Er : Value → Shared → Prop} {s : Shared}
theorem call_enumT {v : Value} {o : Obj} {H : Heap → Prop} {Q : Value → Shared → Prop} (Bg : Begins v o H) (hb : H s.heap)
    (h : ∀ hx, IsEnum hx (s.heap.objs.size + 1) s.heap.objs.size 0 .none → hx.get? s.heap.objs.size = some o → (∀ b u, s.heap.get? b = some u → hx.get? b = some u) → Q (.ref (s.heap.objs.size + 1)) { s with heap := hx }) :
    wpAny (model P w) A (call (.type "enumerate") [v]) Q Er s := by
  refine callType_new F.called_enumerate (by decide) (F.typeCall_enumerate_1 v) (F.newCall_enumerate_1 v) (fun ob => F.args_object_init_2 ob v) F.entry_enumerate_new (enum_new Bg) ⟨hb, ?_⟩
  have sz : (s.heap.push o).objs.size = s.heap.objs.size + 1 := Heap.size_push ..
  have top := Heap.get?_push_size (s.heap.push o) (o := { cls := .type "enumerate", data := .fields #[.none, .bool false, .ref s.heap.objs.size, rawInt 0, .none, .none] }) rfl
  show _ ∧ _
  rw [sz] at top ⊢
  exact ⟨⟨_, top, rfl⟩, h _ top (Heap.get?_push_of_some _ (Heap.get?_push_size _ Bg.free)) fun b u x => Heap.get?_push_of_some _ (Heap.get?_push_of_some _ x)⟩
end
/-- the pairs of it, each a new tuple -/
def ItT (K : PySem.W.Frag) (a : Addr) : It :=
  ⟨fun i H => ∃ (xs : List V) (x : V), SqT K H a xs ∧ xs[i]? = some x,
    fun i H v H' => ∃ T x, v = .ref T ∧ H T = none ∧ H' = upd H T (.tup [.int (i : Nat), x]) ∧ ∀ xs, SqT K H a xs → xs[i]? = some x,
    fun i H => ∃ xs : List V, SqT K H a xs ∧ xs.length = i⟩
theorem not_it {h : Heap} {t it : Addr} {items : Array Value} {i : Nat} (h1 : h.IsTuple t items) (h2 : h.IsTupleIter it t i) : t ≠ it := fun z => by
  obtain ⟨o, ho, hc, _⟩ := h1
  obtain ⟨u, hu, hd, _⟩ := h2
  rw [z, hu] at ho
  cases ho
  rw [hd] at hc
  exact absurd hc (by decide)
theorem not_en {h : Heap} {t e it : Addr} {items : Array Value} {i : Int} {old : Value} (h1 : h.IsTuple t items) (h2 : IsEnum h e it i old) : t ≠ e := fun z => by
  obtain ⟨o, ho, hc, _⟩ := h1
  rw [z, h2] at ho
  cases ho
  exact absurd (show Value.type "enumerate" = Value.type "tuple" from hc) (by decide)
theorem turn_enT {P : Program} {w : World} {K : PySem.W.Frag} {elts : List Expr} {kk : Nat} {tpos : Pos} (a e it : Addr) :
    Turn P w K (.Tuple elts kk tpos) (ItT K a) [e, it] e (fun i h => (∃ old, IsEnum h e it (i : Nat) old) ∧ h.IsTupleIter it a i ∧ e ≠ it) where
  mem := List.mem_cons_self
  obj := by
    rintro i h ⟨⟨old, hE⟩, ⟨o, ho, _, hdt⟩, _⟩ b hb
    simp only [List.mem_cons, List.not_mem_nil, or_false] at hb
    rcases hb with rfl | rfl
    · exact ⟨_, hE, fun v z => nomatch z⟩
    · exact ⟨o, ho, fun v z => by rw [hdt] at z; cases z⟩
  keep := by
    rintro i h h2 ⟨⟨old, hE⟩, hI, hn⟩ kp
    exact ⟨⟨old, kp e (by simp) _ hE⟩, hI.at fun o z => kp it (by simp) o z, hn⟩
  item := by
    intro X hP hw hK hc i pins s σ H Er I fps ⟨⟨old, hE⟩, hI, hn⟩ ⟨xs, x, hq, hx⟩
    subst hP hw hK
    obtain ⟨its, rv, tp, _⟩ := I.tuple hq
    obtain ⟨u, hu, ru⟩ := rv.get hx
    have nt := not_it tp hI
    have ne := not_en tp hE
    have Dr := Draws.tuple (prog := X.prog) (w := X.w) (A := X.A.in1) (by simp [I.ok.hd hc]) it a nt its.toArray
    have lte : e < s.heap.objs.size := Heap.lt_size hE
    have lti : it < s.heap.objs.size := by obtain ⟨_, z, _⟩ := hI; exact Heap.lt_size z
    have hsz : i < its.toArray.size := by
      have := (List.getElem?_eq_some_iff.mp hu).1
      simpa using this
    refine wpAny_pyNext_enum_itemC (i := i) (c := (i : Nat)) Dr hE ⟨hI, tp⟩ hsz hn (by simp only [List.mem_cons, List.not_mem_nil, or_false, not_or]; exact ⟨hn, Ne.symm ne⟩) fun y hx1 tk hy ho hst hT sz kp => ?_
    have eyu : y = u := by
      have h1 : its[i]? = some y := by simpa using hy
      rw [hu] at h1
      exact (Option.some.inj h1).symm
    subst eyu
    refine ⟨_, rfl, wpAny_letOwnedTupleGo_enum (s := { s with heap := hx1, toks := tk + 1 }) ho fun hx2 hE2 sb => ?_⟩
    have nT : s.heap.objs.size ≠ e := Nat.ne_of_gt lte
    have hT2 := (sb.2 _ nT).trans hT
    have kp2 : ∀ b ob, b ∉ [e, it] → s.heap.get? b = some ob → hx2.get? b = some ob := fun b ob hb z => by
      simp only [List.mem_cons, List.not_mem_nil, or_false, not_or] at hb
      exact (sb.2 b hb.1).trans (kp b ob hb.1 hb.2 z)
    have new : ObjOk X.prog X.w (upd H s.heap.objs.size (.tup [.int (i : Nat), x])) hx2 s.heap.objs.size (.tup [.int (i : Nat), x]) := ⟨by show 2 ≤ sizeLine; decide, [.int (i : Nat) tk, y], .cons ⟨_, rfl⟩ (.cons ru .nil), ⟨_, hT2, rfl, _, rfl⟩⟩
    have I1 := I.turnedNew (ch := [e, it]) (h' := hx2) (t' := tk + 1) kp2 fps (Nat.le_refl _) new
    refine ⟨.ref s.heap.objs.size, _, I1, rfl, ⟨_, x, rfl, I.hok.fresh (Nat.le_refl _), rfl, fun zs hz => ?_⟩, ⟨⟨y, ?_⟩, hst.1.at fun o z => (sb.2 it (Ne.symm hn)).trans z, hn⟩, fun b hb => ?_⟩
    · rw [I.tuple_inj hz hq]
      exact hx
    · rw [show ((i + 1 : Nat) : Int) = ((i : Nat) : Int) + 1 by omega]
      exact hE2
    · have lb : b ≠ s.heap.objs.size := by
        simp only [List.mem_cons, List.not_mem_nil, or_false] at hb
        rcases hb with rfl | rfl
        · exact Nat.ne_of_lt lte
        · exact Nat.ne_of_lt lti
      rw [upd_ne lb]
      exact (fps b hb).1
  done := by
    intro X hP hw hK hc i pins s σ H Er I fps ⟨⟨old, hE⟩, hI, hn⟩ ⟨xs, hq, hx⟩
    subst hP hw hK
    obtain ⟨its, rv, tp, _⟩ := I.tuple hq
    have lr := rv.length
    have nt := not_it tp hI
    have Dr := Draws.tuple (prog := X.prog) (w := X.w) (A := X.A.in1) (by simp [I.ok.hd hc]) it a nt its.toArray
    have es : its.toArray.size = i := by simp; omega
    rw [es] at Dr
    obtain ⟨f0, f1, f2, f3, f4, f5⟩ := fps it (by simp)
    exact wpAny_pyNext_enum_endD Dr hE ⟨hI, tp⟩ fun hx1 eb => ⟨rfl, I.turned (t' := s.toks) (fun b o hb z => eb b o hb z) f0 f1 f3 f4 f5⟩
  self := by
    rintro A i s Q Er ⟨⟨old, hE⟩, _⟩ h
    exact wpAny_pyIter_enum hE h
def iEnT (K : PySem.W.Frag) (ta : TA) : TI := fun σ H R => ta σ H fun vs H1 => ∃ a xs, vs = [.ref a] ∧ SqT K H1 a xs ∧ R (ItT K a) H1
theorem pi_enT {X : Cx} {e : Expr} {ta : TA} {p pos tpos : Pos} {elts : List Expr} {kk : Nat} (hg : Gl X "enumerate") (hm : X.mg "enumerate" = none) (ha : PA X [e] ta) (hs : starEach [e] X.env = [(false, eval e X.env)] := by rfl) :
    PI X (.Tuple elts kk tpos) (.Call (.Name "enumerate" p) [e] [] pos) (iEnT X.K ta) := by
  refine ⟨fun pins s σ H R I h => ?_⟩
  refine Call_ (ld_blt I hg hm boot_enumerate (PyProof.Rows.callWith_type1 (thn (ha.run pos pins s σ H _ I h) fun us s1 ⟨vs, H1, I1, rs, q1⟩ => ?_) hs rfl))
  obtain ⟨a, xs, rfl, hq, q⟩ := q1
  obtain ⟨its, rv, tp, _⟩ := I1.tuple hq
  rw [Vals.ref1 rs]
  refine call_enumT (begins_tuple a its.toArray) tp fun hx hE hi kp => wpAny_pyIter_enum hE ?_
  have I2 : Inv X pins σ H1 { s1 with heap := hx } := I1.kept (t' := s1.toks) kp
  refine ⟨s1.heap.objs.size + 1, [s1.heap.objs.size + 1, s1.heap.objs.size], _, _, H1, rfl, I2, turn_enT a (s1.heap.objs.size + 1) s1.heap.objs.size, ⟨⟨.none, hE⟩, ⟨_, hi, rfl, rfl⟩, Nat.succ_ne_self _⟩, fun b hb => ?_, q⟩
  have le : s1.heap.objs.size ≤ b := by
    simp only [List.mem_cons, List.not_mem_nil, or_false] at hb
    rcases hb with z | z
    · rw [z]; exact Nat.le_add_right _ _
    · rw [z]; exact Nat.le_refl _
  exact I1.fpOk le (I1.hok.fresh le)
/-- its walk: each turn has a new pair -/
theorem walk_enT {K : PySem.W.Frag} {a : Addr} {xs : List V} : Walk (ItT K a) xs.length (fun H => SqT K H a xs) (fun i H v H' => ∃ T x, v = .ref T ∧ H T = none ∧ H' = upd H T (.tup [.int (i : Nat), x]) ∧ xs[i]? = some x) :=
  ⟨fun i _ hi q => ⟨xs, xs[i], q, List.getElem?_eq_getElem hi⟩, fun _ q => ⟨xs, q, rfl⟩, fun i H x H' _ q ⟨T, y, e1, e2, e3, e4⟩ => ⟨T, y, e1, e2, e3, e4 xs q⟩⟩
end Sw
set_option maxRecDepth 100000
set_option maxHeartbeats 4000000
namespace Pm
open PySem PySem.Spec PyProof.Rows L2 Sw
def lstAt (s : Sto) (n : Nat) : Option (List Vl) := match s[n]? with
  | some (.lst l) => some l
  | _ => none
theorem lstAt_eq {s : Sto} {n : Nat} {l : List Vl} (h : lstAt s n = some l) : s[n]? = some (.lst l) := by
  unfold lstAt at h
  split at h
  · rename_i e; cases h; exact e
  · cases h
/-- xs.append(e) -/
def mApp (f : ME) (r : MA) : ME := fun ρ s => (f ρ s).bind fun v s1 => match v with
  | .ref n => (match lstAt s1 n with
    | none => .bad
    | some _ => (r ρ s1).bind fun vs s2 => match vs, lstAt s2 n with
      | [w], some l => if l.length < mil ∧ noX w = true then .ok (.dat .none) (s2.set n (.lst (l ++ [w]))) else .bad
      | _, _ => .bad)
  | _ => .bad
/-- xs.extend(e) -/
def mExt (f : ME) (r : MA) : ME := fun ρ s => (f ρ s).bind fun v s1 => match v with
  | .ref n => (match lstAt s1 n with
    | none => .bad
    | some _ => (r ρ s1).bind fun vs s2 => match vs, lstAt s2 n with
      | [.dat (.list ds)], some l => if l.length + ds.length ≤ mil then .ok (.dat .none) (s2.set n (.lst (l ++ ds.map Vl.dat))) else .bad
      | _, _ => .bad)
  | _ => .bad
section
variable {X : Cx} {zx : Exo} {W : WX} {o e : Expr} {f : ME} {r : MA} {apos cpos pos : Pos}
theorem put_lst {β : Bs} {s : Sto} {H : Hp} {n : Nat} {a : Addr} {l l' : List Vl} {xs xs' : List V} (hs : RelS (cf X zx) β s H) (hl : s[n]? = some (.lst l)) (ha : β.b[n]? = some a) (hx : H a = some (.lst xs)) (hz : l'.length ≤ sizeLine) (rv : Rvs (cf X zx).o H β l' xs') :
    Step β H β (upd H a (.lst xs')) ∧ RelS (cf X zx) β (s.set n (.lst l')) (upd H a (.lst xs')) := by
  have st : Step β H β (upd H a (.lst xs')) := Step.put (List.mem_of_getElem? ha) hx trivial
  exact ⟨st, hs.put hl ha ⟨hz, xs', upd_same, st.rvs rv⟩⟩
theorem de_append (ho : DE X zx W o f) (ha : DA X zx W [e] r)
    (hbase : attributeBase o "append" X.env (eval o X.env) = eval o X.env := by rfl)
    (hfew : ((backTo cpos (starEach [e] X.env)).all (fun x => !x.1) && (backToKw cpos (keywordEach [] X.env)).all (fun x => x.1.isSome)
      && decide ([e].length + ([] : List Keyword).length + (if ([] : List Keyword).isEmpty then 0 else 1) < 30)) = true := by rfl)
    (hline : (apos.endLine == cpos.line) = true := by rfl) (hs : starEach [e] X.env = (false, eval e X.env) :: starEach [] X.env := by rfl) (hplain : (backTo cpos (starEach [] X.env)).any (·.1) = false := by rfl) :
    DE X zx W (.Call (.Attribute o "append" apos) [e] [] cpos) (mApp f r) := PE.imp (pe_bm PySem.F.plainAttrs_list PySem.F.slot_list_append PySem.F.type_list_append mt_append ho ha hbase hfew hline hs hplain) fun σ H Q ⟨β, ρ, s, hl, hs, hp⟩ => by
  refine ⟨β, ρ, s, hl, hs, Post.bind hp fun v s1 β1 H1 u st1 hs1 r1 h1 => ?_⟩
  cases v with
  | ref n =>
    obtain ⟨a, hb, rfl⟩ := r1
    cases e1 : lstAt s1 n with
    | none => simp only [e1] at h1; exact h1.elim
    | some l1 =>
      simp only [e1] at h1
      obtain ⟨_, xs, hx, _⟩ := hs1.ob n _ a (lstAt_eq e1) hb
      refine ⟨.inl ⟨rfl, xs, SqL.of hx⟩, β1, ρ, s1, hl.step st1, hs1, Post.bind h1 fun vs s2 β2 H2 us st2 hs2 r2 h2 => ?_⟩
      split at h2
      · rename_i w l e2
        split at h2
        · rename_i hc
          obtain ⟨y, rfl, ry⟩ := rvs1 r2
          obtain ⟨t, ht⟩ := st2.pre
          have hb2 : β2.b[n]? = some a := by
            rw [← ht, List.getElem?_append_left (List.getElem?_eq_some_iff.mp hb).1]
            exact hb
          obtain ⟨hz, xs2, hx2, rv2⟩ := hs2.ob n _ a (lstAt_eq e2) hb2
          obtain ⟨st3, hs3⟩ := put_lst (l' := l ++ [w]) (xs' := xs2 ++ [y]) hs2 (lstAt_eq e2) hb2 hx2 (by rw [List.length_append]; exact mil_le hc.1) (rv2.append (.cons (Rv.dn hc.2 ry) .nil))
          exact ⟨a, xs2, y, rfl, rfl, hx2, by rw [← rv2.len]; exact Nat.lt_of_lt_of_le hc.1 (mil_le (Nat.le_refl _)), h2 β2 _ _ st3 hs3 .non⟩
        · exact h2.elim
      · exact h2.elim
  | _ => exact h1.elim
theorem de_extend (ho : DE X zx W o f) (ha : DA X zx W [e] r)
    (hbase : attributeBase o "extend" X.env (eval o X.env) = eval o X.env := by rfl)
    (hfew : ((backTo cpos (starEach [e] X.env)).all (fun x => !x.1) && (backToKw cpos (keywordEach [] X.env)).all (fun x => x.1.isSome)
      && decide ([e].length + ([] : List Keyword).length + (if ([] : List Keyword).isEmpty then 0 else 1) < 30)) = true := by rfl)
    (hline : (apos.endLine == cpos.line) = true := by rfl) (hs : starEach [e] X.env = (false, eval e X.env) :: starEach [] X.env := by rfl) (hplain : (backTo cpos (starEach [] X.env)).any (·.1) = false := by rfl) :
    DE X zx W (.Call (.Attribute o "extend" apos) [e] [] cpos) (mExt f r) := PE.imp (pe_bm PySem.F.plainAttrs_list PySem.F.slot_list_extend PySem.F.type_list_extend mt_extend ho ha hbase hfew hline hs hplain) fun σ H Q ⟨β, ρ, s, hl, hs, hp⟩ => by
  refine ⟨β, ρ, s, hl, hs, Post.bind hp fun v s1 β1 H1 u st1 hs1 r1 h1 => ?_⟩
  cases v with
  | ref n =>
    obtain ⟨a, hb, rfl⟩ := r1
    cases e1 : lstAt s1 n with
    | none => simp only [e1] at h1; exact h1.elim
    | some l1 =>
      simp only [e1] at h1
      obtain ⟨_, xs, hx, _⟩ := hs1.ob n _ a (lstAt_eq e1) hb
      refine ⟨.inl ⟨rfl, xs, SqL.of hx⟩, β1, ρ, s1, hl.step st1, hs1, Post.bind h1 fun vs s2 β2 H2 us st2 hs2 r2 h2 => ?_⟩
      split at h2
      · rename_i ds l e2
        split at h2
        · rename_i hc
          obtain ⟨y, rfl, ry⟩ := rvs1 r2
          obtain ⟨t, ht⟩ := st2.pre
          have hb2 : β2.b[n]? = some a := by
            rw [← ht, List.getElem?_append_left (List.getElem?_eq_some_iff.mp hb).1]
            exact hb
          obtain ⟨hz, xs2, hx2, rv2⟩ := hs2.ob n _ a (lstAt_eq e2) hb2
          cases ry with
          | @lst p ys _ hy hz2 dy =>
            obtain ⟨st3, hs3⟩ := put_lst (l' := l ++ ds.map Vl.dat) (xs' := xs2 ++ ys) hs2 (lstAt_eq e2) hb2 hx2 (by rw [List.length_append, List.length_map]; exact mil_le hc) (rv2.append (Rvs.dats dy))
            exact ⟨a, p, xs2, ys, rfl, rfl, hx2, hy.1, by rw [← rv2.len, dy.len]; exact mil_le hc, h2 β2 _ _ st3 hs3 .non⟩
        · exact h2.elim
      · exact h2.elim
  | _ => exact h1.elim
/-- xs[i] = v, d[k] = v -/
def putIx (n : Nat) (i v : Vl) (s : Sto) : Option Sto := match s[n]? with
  | some (.lst l) => (match i with
    | .dat (.int k) => (match ixN l.length k with
      | some j => if noX v = true then some (s.set n (.lst (l.set j v))) else none
      | none => none)
    | _ => none)
  | some (.dic t kvs) => (match i with
    | .dat d => if kOk t d = true ∧ noX v = true ∧ kvs.length < mil then some (s.set n (.dic t (dPut kvs d v))) else none
    | _ => none)
  | _ => none
def gSubM (f g : ME) : MG := fun v ρ s => match f ρ s with
  | .ok (.ref n) s1 => (match g ρ s1 with
    | .ok i s2 => (match putIx n i v s2 with
      | some s3 => .nx ρ s3
      | none => .bad)
    | _ => .bad)
  | _ => .bad
def rSetA : V → V → V → Hp → (Hp → Prop) → Prop := fun o i v H Q => rSetL o i v H Q ∨ ∃ a H', o = .ref a ∧ DPut H a i v H' ∧ Q H'
theorem set_any (hu : X.A.units + 1 < cLine) : PSet X rSetA := by
  intro pins s σ H o i v ov iv u Q I ro ri rv h
  rcases h with h | ⟨a, H', rfl, g, q⟩
  · exact set_list pins s σ H o i v ov iv u Q I ro ri rv h
  · cases (show ov = Value.ref a from ro)
    exact d_setItem hu I g ri rv fun s' I' => ⟨H', I', q⟩
theorem put_dic {β : Bs} {s : Sto} {H : Hp} {n : Nat} {a : Addr} {t : Bool} {kvs kvs' : List (PyData × Vl)} {o o' : HO} (hs : RelS (cf X zx) β s H) (hl : s[n]? = some (.dic t kvs)) (ha : β.b[n]? = some a) (hx : H a = some o) (ho : Own o)
    (r : RO (cf X zx) (upd H a o') β a (.dic t kvs')) : Step β H β (upd H a o') ∧ RelS (cf X zx) β (s.set n (.dic t kvs')) (upd H a o') :=
  ⟨Step.put (List.mem_of_getElem? ha) hx ho, hs.put hl ha r⟩
/-- what a store into a part does in the heap -/
theorem putIx_go {β : Bs} {s s3 : Sto} {H : Hp} {n : Nat} {a : Addr} {i v : Vl} {y x : V} (hs : RelS (cf X zx) β s H) (hb : β.b[n]? = some a) (ri : Rv (cf X zx) H β i y) (rx : Rv (cf X zx) H β v x) (h : putIx n i v s = some s3) :
    ∃ H', Step β H β H' ∧ RelS (cf X zx) β s3 H' ∧ ∀ Q : Hp → Prop, Q H' → rSetA (.ref a) y x H Q := by
  unfold putIx at h
  split at h
  · rename_i l el
    split at h
    · rename_i k
      cases ri
      cases ej : ixN l.length k with
      | none => rw [ej] at h; cases h
      | some j =>
        rw [ej] at h
        dsimp only at h
        split at h
        · rename_i hn
          cases h
          obtain ⟨hz, xs2, hx2, rv2⟩ := hs.ob n _ a el hb
          obtain ⟨st3, hs3⟩ := put_lst (l' := l.set j v) (xs' := xs2.set j x) hs el hb hx2 (by rw [List.length_set]; exact hz) (Rvs.set (Rv.dn hn rx) j rv2)
          exact ⟨_, st3, hs3, fun Q q => .inl ⟨a, xs2, k, j, rfl, rfl, hx2, by rw [← rv2.len]; exact ej, q⟩⟩
        · cases h
    · cases h
  · rename_i t kvs el
    split at h
    · rename_i d
      split at h
      · rename_i hc
        cases h
        obtain ⟨hk, hn, hlen⟩ := hc
        have ro := hs.ob n _ a el hb
        have rx' := Rv.dn hn rx
        have hlm : mil ≤ sizeLine := mil_le (Nat.le_refl _)
        cases t with
        | false =>
          obtain ⟨ks, h1, h2⟩ := ro
          obtain ⟨k, ek⟩ := Option.isSome_iff_exists.mp (show (keyQ d).isSome = true from hk)
          have ey := key_V ri ek
          have := keyQ_eq ek
          subst this ey
          have hl2 : ks.length < sizeLine := by rw [← Paired.length h2]; omega
          have h2' : KvR keyD (Rv (cf X zx).o H β) kvs ks := h2
          have st : Step β H β (upd H a (.dK (putK ks k x))) := Step.put (List.mem_of_getElem? hb) h1 trivial
          obtain ⟨st3, hs3⟩ := put_dic (t := false) (kvs' := dPut kvs (keyD k) v) hs el hb h1 trivial ⟨putK ks k x, upd_same, Paired.mapP (KvR.put kEq_D rx' h2') fun p q z => ⟨z.1, st.rv z.2⟩⟩
          exact ⟨_, st3, hs3, fun Q q => .inr ⟨a, _, rfl, DPut.k h1 hl2, q⟩⟩
        | true =>
          obtain ⟨ks, h1, h2⟩ := ro
          obtain ⟨k, ek⟩ := Option.isSome_iff_exists.mp (show (keysQ d).isSome = true from hk)
          obtain ⟨b, rfl, eb⟩ := keyT_V ri ek
          have := keysQ_eq ek
          subst this
          have hl2 : ks.length < sizeLine := by rw [← Paired.length h2]; omega
          have h2' : KvR keysD (Rv (cf X zx).o H β) kvs ks := h2
          have st : Step β H β (upd H a (.dT (putK ks k x))) := Step.put (List.mem_of_getElem? hb) h1 trivial
          obtain ⟨st3, hs3⟩ := put_dic (t := true) (kvs' := dPut kvs (keysD k) v) hs el hb h1 trivial ⟨putK ks k x, upd_same, Paired.mapP (KvR.put kEq_Ds rx' h2') fun p q z => ⟨z.1, st.rv z.2⟩⟩
          exact ⟨_, st3, hs3, fun Q q => .inr ⟨a, _, rfl, DPut.t h1 eb hl2, q⟩⟩
      · cases h
    · cases h
  · cases h
theorem dg_sub {i : Expr} {g : ME} (hu : X.A.units + 64 < cLine) (ho : DE X zx WF o f) (hi : DE X zx WF i g)
    (ha : ∀ v, assign (.Subscript o i pos) X.env v = (do
      let ov ← holding [v] (eval o X.env)
      let iv ← holding [v, ov] (eval i X.env)
      standAt pos
      holding [v, ov, iv] (setItem ov iv v)
      release [v, ov, iv] []) := by intro _; rfl) : DG X zx (.Subscript o i pos) (gSubM f g) := PG.imp (pg_sub ho hi (set_any (by omega)) ha) fun v σ H Q ⟨β, ρ, s, x, hl, hs, rx, q⟩ => by
  refine ⟨β, ρ, s, hl, hs, ?_⟩
  unfold gSubM at q
  cases ef : f ρ s with
  | bad => rw [ef] at q; exact q.elim
  | ex x1 s1 => rw [ef] at q; exact q.elim
  | ok v1 s1 =>
    rw [ef] at q
    cases v1 with
    | ref n =>
      intro β1 H1 u st1 hs1 r1
      obtain ⟨a, hb, rfl⟩ := r1
      refine ⟨β1, ρ, s1, hl.step st1, hs1, ?_⟩
      dsimp only at q
      cases eg : g ρ s1 with
      | bad => rw [eg] at q; exact q.elim
      | ex x1 s2 => rw [eg] at q; exact q.elim
      | ok v2 s2 =>
        rw [eg] at q
        dsimp only at q
        intro β2 H2 u2 st2 hs2 r2
        cases ep : putIx n v2 x s2 with
        | none => rw [ep] at q; exact q.elim
        | some s3 =>
          rw [ep] at q
          dsimp only at q
          obtain ⟨t, ht⟩ := st2.pre
          have hb2 : β2.b[n]? = some a := by
            rw [← ht, List.getElem?_append_left (List.getElem?_eq_some_iff.mp hb).1]
            exact hb
          obtain ⟨H3, st3, hs3, go⟩ := putIx_go hs2 hb2 r2 (st2.rv (st1.rv rx)) ep
          exact go _ (q β2 σ _ ((st1.trans st2).trans st3) (((hl.step st1).step st2).step st3) hs3)
    | _ => exact q.elim
end
def pairs (ds : List PyData) : Nat → List Vl
  | k => match ds with
    | [] => []
    | d :: r => .dat (.tuple [.int k, d]) :: pairs r (k + 1)
theorem pairs_len : ∀ (ds : List PyData) (k : Nat), (pairs ds k).length = ds.length
  | [], _ => rfl
  | d :: r, k => by
    show (pairs r (k + 1)).length + 1 = r.length + 1
    rw [pairs_len r (k + 1)]
theorem pairs_get : ∀ {ds : List PyData} {k i : Nat} {d : PyData}, ds[i]? = some d → (pairs ds k)[i]? = some (.dat (.tuple [.int ((k + i : Nat) : Int), d]))
  | [], _, _, _, h => by simp at h
  | d :: r, k, 0, e, h => by
    have : d = e := by simpa using h
    subst this
    rfl
  | d :: r, k, i + 1, e, h => by
    have h' : r[i]? = some e := by simpa using h
    show (pairs r (k + 1))[i]? = _
    rw [pairs_get h', show k + 1 + i = k + (i + 1) by omega]
def iEn (r : MA) : MI := fun ρ s => (r ρ s).bind fun vs s1 => match vs with
  | [.dat (.tuple ds)] => .ok ⟨pairs ds 0, none⟩ s1
  | _ => .bad
section
variable {X : Cx} {zx : Exo} {W : WX}
theorem di_enT {e : Expr} {r : MA} {p pos tpos : Pos} {elts : List Expr} {kk : Nat} (hg : Gl X "enumerate") (hm : X.mg "enumerate" = none) (ha : DA X zx W [e] r) (hs : starEach [e] X.env = [(false, eval e X.env)] := by rfl) : DI X zx W (.Tuple elts kk tpos) (.Call (.Name "enumerate" p) [e] [] pos) (iEn r) := PI.imp (pi_enT hg hm ha hs) fun σ H T q => by
  obtain ⟨β, ρ, s, hl, hs, hp⟩ := q
  refine ⟨β, ρ, s, hl, hs, Post.bind hp fun vs s1 β1 H1 us st1 hs1 r1 h1 => ?_⟩
  split at h1
  · rename_i ds
    obtain ⟨x, rfl, rx⟩ := rvs1 r1
    cases rx with
    | @tup a xs _ hx hz dx =>
      refine ⟨a, xs, rfl, hx.sqt, h1 β1 H1 _ (Step.refl _ _) hs1 ?_⟩
      have w := walk_enT (K := X.K) (a := a) (xs := xs)
      have hlen := dx.len
      refine ⟨fun i β' s' H' hi st hs' _ => w.goes i H' (by rw [hlen]; simpa [pairs_len] using hi) (st.sqt (hx.sqt)), fun β' s' H' st hs' _ => ?_, fun i β' s' H' x H2 hi st hs' _ y => ?_⟩
      · have := w.stops H' (st.sqt (hx.sqt))
        simpa [pairs_len, hlen] using this
      · obtain ⟨T2, v, rfl, hT, rfl, hv⟩ := w.yields i H' x H2 (by rw [hlen]; simpa [pairs_len] using hi) (st.sqt (hx.sqt)) y
        obtain ⟨d, h1, h2⟩ := (st.dqs dx).get hv
        refine ⟨same_new hT, _, pairs_get h1, ?_⟩
        rw [Nat.zero_add]
        exact Dq.tup (TupA.of rfl upd_same) (thou (by show 2 ≤ 1000; decide)) (.cons (.int _) (.cons ((Step.lay hT).dq h2) .nil))
  · exact h1.elim
end
end Pm
set_option maxRecDepth 100000
set_option maxHeartbeats 4000000
namespace Pm
open PySem PySem.Spec PyProof.Rows L2 Sw
def spIn1 (C : Addr) (f1 : Str) : Sp := fun vs H Q _ => ∃ (a : Addr) (x : V), vs = [.ref a, x] ∧ H a = some (L2.exo a C none) ∧
  ∀ dx, H dx = none → dx ≠ a → Q .non (upd (upd H dx (exd dx [(f1, x)])) a (L2.exo a C (some dx)))
theorem in1 {C : Addr} {f1 : Str} {H1 : Hp} {x : V} {Q : XK} (q : ∀ d, H1 d = none → Q (.ref C) (some d) (upd H1 d (.xd [(f1, x)]))) :
    [x].length ≤ 1000 ∧ ∀ a, H1 a = none → spIn1 C f1 (.ref a :: ([x] ++ [])) (upd H1 a (L2.exo a C none)) (fun v H2 => v = .non ∧ ∃ (d : Addr) (fs : List (Str × V)), H2 a = some (L2.exo a C (some d)) ∧ H2 d = some (exd d fs) ∧ H1 d = none ∧ Q (.ref C) (some d) (upd (L2.del H2 a) d (.xd fs))) (fun _ _ _ => False) := by
  refine ⟨by show 1 ≤ 1000; decide, fun a ha => ⟨a, x, rfl, upd_same, fun dx hdx ne => ⟨rfl, dx, [(f1, x)], upd_same, ?_, ?_, ?_⟩⟩⟩
  · rw [upd_ne ne]; exact upd_same
  · rw [upd_ne ne] at hdx
    exact hdx
  · rw [upd_ne ne] at hdx
    refine cast (congrArg _ ?_) (q dx hdx)
    funext b
    by_cases h1 : b = dx
    · rw [h1, upd_same, upd_same]
    · rw [upd_ne h1, upd_ne h1]
      by_cases h2 : b = a
      · rw [h2, ha]
        exact (L2.del_same).symm
      · rw [L2.del_ne h2, upd_ne h2, upd_ne h1, upd_ne h2]
theorem rvs2 {G : Cf} {H : Hp} {β : Bs} {v w : Vl} {xs : List V} (r : Rvs G H β [v, w] xs) : ∃ x y, xs = [x, y] ∧ Rv G H β v x ∧ Rv G H β w y := by
  cases r with
  | cons r0 r1 =>
    cases r1 with
    | cons r1 r2 => cases r2; exact ⟨_, _, rfl, r0, r1⟩
def sRaise2 (nm f1 f2 : Str) (r : MA) : MS := fun ρ s => (r ρ s).to ρ fun vs s1 => match vs with
  | [.dat x, .dat y] => .ex (nm, [(f2, y), (f1, x)]) ρ s1
  | _ => .bad
theorem RelL.up {K : PySem.W.Frag} {mg : Str → Option Value} {z : Exo} {H : Hp} {β : Bs} {ρ : Loc} {σ : L2.St} (h : RelL ⟨K, mg, none⟩ H β ρ σ) : RelL ⟨K, mg, z⟩ H β ρ σ := ⟨h.len, fun i v e => by
  obtain ⟨u, h1, h2⟩ := h.at' i v e
  exact ⟨u, h1, Rv.up (G := ⟨K, mg, z⟩) h2⟩⟩
end Pm
set_option maxRecDepth 100000
set_option maxHeartbeats 4000000
namespace Pm
open PySem PySem.Spec PyProof.Rows L2 Sw
def refOk (n : Nat) : Vl → Prop
  | .ref m => m < n
  | .lam _ _ _ _ ρ => ∀ (i m : Nat), ρ[i]? = some (some (.inr m)) → m < n
  | _ => True
def obOk (n : Nat) : Ob → Prop
  | .lst l => ∀ v ∈ l, refOk n v
  | .dic _ l => ∀ p ∈ l, refOk n p.2
  | .ins _ l => ∀ p ∈ l, refOk n p.2
  | .tup l => ∀ v ∈ l, refOk n v
def Closed (s : Sto) : Prop := ∀ o ∈ s, obOk s.length o
theorem Dq.sub {K : PySem.W.Frag} {H : Hp} {β β' : Bs} (i : ∀ x ∈ β'.b, x ∈ β.b) (j : ∀ x ∈ β'.g, x ∈ β.g) {v : V} {d : PyData} (h : Dq K H β v d) : Dq K H β' v d := h.tr (fun _ _ _ h => ⟨h.1, fun z => h.2.1 (i _ z), fun z => h.2.2 (j _ z)⟩) fun _ _ _ h => h
theorem DqAll.sub {K : PySem.W.Frag} {H : Hp} {β β' : Bs} (i : ∀ x ∈ β'.b, x ∈ β.b) (j : ∀ x ∈ β'.g, x ∈ β.g) {vs : List V} {ds : List PyData} (h : DqAll K H β vs ds) : DqAll K H β' vs ds := h.tr (fun _ _ _ h => ⟨h.1, fun z => h.2.1 (i _ z), fun z => h.2.2 (j _ z)⟩) fun _ _ _ h => h
def Bs.cut (β : Bs) (n : Nat) : Bs := ⟨β.b.take n, β.g⟩
section
variable {G : Cf} {H : Hp} {β : Bs} {n : Nat}
theorem cut_b : ∀ x ∈ (β.cut n).b, x ∈ β.b := fun x h => List.mem_of_mem_take h
theorem Rv.cut {v : Vl} {u : V} (h : refOk n v) (r : Rv G H β v u) : Rv G H (β.cut n) v u := by
  cases v with
  | dat p => exact Dq.sub (β := β) cut_b (fun _ z => z) r
  | ref m =>
    obtain ⟨a, e, q⟩ := r
    exact ⟨a, by show (β.b.take n)[m]? = some a; rw [List.getElem?_take_of_lt h]; exact e, q⟩
  | scr ns => exact r
  | exo nm fs =>
    obtain ⟨a, c, d, e, q, C, dd, xs, h1, h2, h3, h4, h5, h6⟩ := r
    exact ⟨a, c, d, e, q, C, dd, xs, h1, h2, h3, h4, fun z => h5 (cut_b _ z), Paired.mapP h6 fun p q z => ⟨z.1, Dq.sub (β := β) cut_b (fun _ z => z) z.2⟩⟩
  | fn nm => exact r
  | lam f c q σ ρ =>
    obtain ⟨e, hc, nn, r⟩ := r
    refine ⟨e, hc, ⟨fun z => nn.1 (cut_b _ z), nn.2⟩, r.1, fun i x e => ?_⟩
    obtain ⟨u, h1, h2⟩ := r.2 i x e
    refine ⟨u, h1, ?_⟩
    cases x with
    | inl p => exact Dq.sub (β := β) cut_b (fun _ z => z) h2
    | inr m =>
      obtain ⟨a, e', q⟩ := h2
      exact ⟨a, by show (β.b.take n)[m]? = some a; rw [List.getElem?_take_of_lt (h i m e)]; exact e', q⟩
theorem pair_cut {α : Type} {κ : α → Vl} {γ : Type} {μ : γ → V} {F : α → γ → Prop} : ∀ {l : List α} {m : List γ}, (∀ p ∈ l, refOk n (κ p)) → Paired (fun p q => F p q ∧ Rv G H β (κ p) (μ q)) l m → Paired (fun p q => F p q ∧ Rv G H (β.cut n) (κ p) (μ q)) l m
  | _, _, _, .nil => .nil
  | _, _, h, .cons r t => .cons ⟨r.1, Rv.cut (h _ List.mem_cons_self) r.2⟩ (pair_cut (fun p hp => h p (List.mem_cons_of_mem _ hp)) t)
theorem Rvs.cut : ∀ {vs : List Vl} {us : List V}, (∀ v ∈ vs, refOk n v) → Rvs G H β vs us → Rvs G H (β.cut n) vs us
  | _, _, _, .nil => .nil
  | _, _, h, .cons r t => .cons (Rv.cut (h _ List.mem_cons_self) r) (Rvs.cut (fun p hp => h p (List.mem_cons_of_mem _ hp)) t)
theorem RO.cut {a : Addr} {o : Ob} (h : obOk n o) (r : RO G H β a o) : RO G H (β.cut n) a o := by
  cases o with
  | tup l => obtain ⟨hl, xs, e, r⟩ := r; exact ⟨hl, xs, e, Rvs.cut h r⟩
  | lst l => obtain ⟨hl, xs, e, r⟩ := r; exact ⟨hl, xs, e, Rvs.cut h r⟩
  | dic t l =>
    cases t
    · obtain ⟨xs, e, r⟩ := r; exact ⟨xs, e, pair_cut (κ := fun p : PyData × Vl => p.2) (μ := fun q : Key × V => q.2) (F := fun p q => p.1 = keyD q.1) h r⟩
    · obtain ⟨xs, e, r⟩ := r; exact ⟨xs, e, pair_cut (κ := fun p : PyData × Vl => p.2) (μ := fun q : List Key × V => q.2) (F := fun p q => p.1 = keysD q.1) h r⟩
  | ins c l =>
    obtain ⟨C, dx, xs, hm, e, hd, nn, r⟩ := r
    exact ⟨C, dx, xs, hm, e, hd, fun z => nn (cut_b _ z), pair_cut (κ := fun p : Str × Vl => p.2) (μ := fun q : Str × V => q.2) (F := fun p q => p.1 = q.1) h r⟩
theorem RelS.cut {s1 more : Sto} (h : RelS G β (s1 ++ more) H) (hc : Closed s1) : RelS G (β.cut s1.length) s1 H := by
  have hl := h.len
  rw [List.length_append] at hl
  refine ⟨by show (β.b.take s1.length).length = _; rw [List.length_take]; omega, h.nd.sublist (List.take_sublist _ _), fun m o a h1 h2 => ?_, fun a ha => ?_, TabsB.mono (β := β) (β' := β.cut s1.length) (fun x hx => .inl (cut_b x hx)) (fun x hx => .inr (.inl hx)) h.tb⟩
  · have hm := (List.getElem?_eq_some_iff.mp h1).1
    have h2 : (β.b.take s1.length)[m]? = some a := h2
    rw [List.getElem?_take_of_lt hm] at h2
    exact RO.cut (hc o (List.mem_of_getElem? h1)) (h.ob m o a (by rw [List.getElem?_append_left hm]; exact h1) h2)
  · obtain ⟨h1, h2⟩ := h.gs a ha
    exact ⟨h1, fun z => h2 (cut_b _ z)⟩
theorem Step.cut {β' : Bs} {H' : Hp} (st : Step β H β' H') (h : β.b.length ≤ n) : Step β H (β'.cut n) H' := by
  obtain ⟨t, ht⟩ := st.pre
  refine ⟨⟨t.take (n - β.b.length), ?_⟩, st.gsub, st.gam, fun a ha => st.new a (cut_b a ha), st.keep, st.tups, st.frzs, st.liv, fun t => TabsB.mono (β := β') (β' := β'.cut n) (fun x hx => .inl (cut_b x hx)) (fun x hx => .inr (.inl hx)) (st.tbs t)⟩
  show β.b ++ t.take (n - β.b.length) = β'.b.take n
  rw [← ht, List.take_append, List.take_of_length_le h]
end
end Pm
set_option maxRecDepth 100000
set_option maxHeartbeats 4000000
namespace Pm
open PySem PySem.Spec PyProof.Rows L2 Sw
section
variable {X : Cx} {zx : Exo} {W : WX}
theorem PTs.imp {ifs : List Expr} {t t' : TT} (h : PTs X ifs t) (i : ∀ σ H Q, t' σ H Q → t σ H Q) : PTs X ifs t' := ⟨fun pins s σ H Q I q => h.run pins s σ H Q I (i σ H Q q)⟩
abbrev DTs (X : Cx) (zx : Exo) (W : WX) (ifs : List Expr) (f : MT) : Prop := PTs X ifs (tG (cf X zx) rB W f)
theorem dts_nil : DTs X zx W [] tYesM := PTs.imp pts_nil fun σ H Q ⟨β, ρ, s, hl, hs, hp⟩ => hp β H _ (Step.refl _ _) hs rfl
theorem dts_one {c : Expr} {f : MT} (h : DT X zx W c f) : DTs X zx W [c] f := pts_one h
/-- set(t) of a tuple of numbers -/
def rSetIT (K : PySem.W.Frag) (w : World) : List V → Hp → VK → Prop := fun vs H Q => ∃ (l : Addr) (ns : List Int), vs = [.ref l] ∧ SqT K H l (ns.map V.int) ∧ ns.length ≤ 60 ∧
  ∀ a c, H a = none → c ≤ ns.length → Q (.ref a) (upd H a (SetO w a (fun j => decide (j ∈ ns)) c))
theorem cr_setIT (hc : X.calm = true) : CallR X (.type "set") (rSetIT X.K X.w) := by
  intro pins s σ H vs us Q I r h
  obtain ⟨l, ns, rfl, hl, hn, q⟩ := h
  obtain ⟨its, rv, hp, _⟩ := I.tuple hl
  rw [Vals.ref1 r]
  refine call_set_tupI ns (I.ok.hd hc) hp (by simpa using rv.ints) (by unfold scanBound; omega) ?_
  intro h' tk c hS hcl k
  exact ⟨.ref s.heap.objs.size, _, I.laid (t' := tk) (o := SetO X.w s.heap.objs.size (fun j => decide (j ∈ ns)) c) k (Nat.le_refl _) (setO_new hS), rfl, q _ c (I.hok.fresh (Nat.le_refl _)) hcl⟩
end
def insI (a : Int) : List Int → List Int
  | [] => [a]
  | b :: r => if a < b then a :: b :: r else if a = b then b :: r else b :: insI a r
def risI (ns : List Int) : List Int := ns.foldr insI []
theorem mem_insI {a k : Int} : ∀ {r : List Int}, k ∈ insI a r ↔ k = a ∨ k ∈ r
  | [] => by simp [insI]
  | b :: r => by
    unfold insI
    split
    · simp
    · split
      · rename_i h; subst h; simp
      · rw [List.mem_cons, mem_insI, List.mem_cons]
        constructor
        · rintro (h | h | h)
          · exact .inr (.inl h)
          · exact .inl h
          · exact .inr (.inr h)
        · rintro (h | h | h)
          · exact .inr (.inl h)
          · exact .inl h
          · exact .inr (.inr h)
theorem sorted_insI {a : Int} : ∀ {r : List Int}, r.Pairwise (· < ·) → (insI a r).Pairwise (· < ·)
  | [], _ => by simp [insI]
  | b :: r, h => by
    have hc := List.pairwise_cons.mp h
    unfold insI
    split
    · rename_i hab
      refine List.pairwise_cons.mpr ⟨fun x hx => ?_, h⟩
      rcases List.mem_cons.mp hx with rfl | hx
      · exact hab
      · have := hc.1 x hx
        omega
    · split
      · exact h
      · rename_i h1 h2
        refine List.pairwise_cons.mpr ⟨fun x hx => ?_, sorted_insI hc.2⟩
        rcases mem_insI.mp hx with rfl | hx
        · omega
        · exact hc.1 x hx
theorem mem_risI {k : Int} : ∀ {ns : List Int}, k ∈ risI ns ↔ k ∈ ns
  | [] => Iff.rfl
  | n :: ns => by
    show k ∈ insI n (risI ns) ↔ _
    rw [mem_insI, mem_risI, List.mem_cons]
theorem sorted_risI : ∀ ns : List Int, (risI ns).Pairwise (· < ·)
  | [] => List.Pairwise.nil
  | n :: ns => sorted_insI (sorted_risI ns)
theorem ris_eq : ∀ {xs ys : List Int}, xs.Pairwise (· < ·) → ys.Pairwise (· < ·) → (∀ k, k ∈ xs ↔ k ∈ ys) → xs = ys
  | [], [], _, _, _ => rfl
  | [], y :: ys, _, _, h => by have := (h y).mpr List.mem_cons_self; simp at this
  | x :: xs, [], _, _, h => by have := (h x).mp List.mem_cons_self; simp at this
  | x :: xs, y :: ys, hx, hy, h => by
    have hx' := List.pairwise_cons.mp hx
    have hy' := List.pairwise_cons.mp hy
    have e : x = y := by
      have h1 := (h x).mp List.mem_cons_self
      have h2 := (h y).mpr List.mem_cons_self
      rcases List.mem_cons.mp h1 with h1 | h1
      · exact h1
      · rcases List.mem_cons.mp h2 with h2 | h2
        · exact h2.symm
        · have a := hy'.1 x h1
          have b := hx'.1 y h2
          omega
    subst e
    rw [ris_eq hx'.2 hy'.2 fun k => ?_]
    constructor
    · intro hk
      have := (h k).mp (List.mem_cons_of_mem _ hk)
      rcases List.mem_cons.mp this with z | z
      · have a := hx'.1 k hk
        omega
      · exact z
    · intro hk
      have := (h k).mpr (List.mem_cons_of_mem _ hk)
      rcases List.mem_cons.mp this with z | z
      · have a := hy'.1 k hk
        omega
      · exact z
/-- all of a list are numbers -/
def nums : List PyData → Option (List Int)
  | [] => some []
  | .int i :: r => (nums r).map (i :: ·)
  | _ :: _ => none
theorem nums_eq : ∀ {ds : List PyData} {ns : List Int}, nums ds = some ns → ds = ns.map PyData.int
  | [], ns, h => by
    have : [] = ns := by simpa [nums] using h
    subst this
    rfl
  | d :: r, ns, h => by
    cases d with
    | int i =>
      cases e : nums r with
      | none => simp [nums, e] at h
      | some l =>
        have : i :: l = ns := by simpa [nums, e] using h
        subst this
        rw [nums_eq e]
        rfl
    | _ => simp [nums] at h
@[simp] theorem nums_map : ∀ ns : List Int, nums (ns.map PyData.int) = some ns
  | [] => rfl
  | n :: ns => by simp [nums, nums_map ns]
theorem dq_ints_of {K : PySem.W.Frag} {H : Hp} {β : Bs} : ∀ {ns : List Int} {xs : List V}, DqAll K H β xs (ns.map PyData.int) → xs = ns.map V.int
  | [], [], _ => rfl
  | n :: ns, x :: xs, .cons h t => by
    rw [dq_ints_of t]
    cases h
    rfl
def phSS : List Vl → Sto → Option Vl
  | [.dat (.tuple ds)], _ => (nums ds).bind fun ns => if ns.length ≤ 60 then some (.dat (.list ((risI ns).map PyData.int))) else none
  | _, _ => none
theorem risI_len (ns : List Int) : (risI ns).length ≤ ns.length := by
  have key : ∀ (a : Int) (r : List Int), (insI a r).length ≤ r.length + 1 := by
    intro a r
    induction r with
    | nil => simp [insI]
    | cons b r ih =>
      unfold insI
      split
      · simp
      · split
        · simp
        · simp; omega
  induction ns with
  | nil => exact Nat.le_refl _
  | cons n ns ih =>
    have := key n (risI ns)
    show (insI n (risI ns)).length ≤ ns.length + 1
    omega
section
variable {X : Cx} {zx : Exo} {W : WX}
theorem de_ss {e : Expr} {r : MA} {p p2 pos pos2 : Pos} (hc : X.calm = true) (hgs : Gl X "sorted") (hms : X.mg "sorted" = none) (hgt : Gl X "set") (hmt : X.mg "set" = none) (ha : DA X zx W [e] r)
    (he : starEach [e] X.env = (false, eval e X.env) :: starEach [] X.env := by rfl)
    (hs2 : starEach [Expr.Call (.Name "set" p2) [e] [] pos2] X.env = (false, eval (Expr.Call (.Name "set" p2) [e] [] pos2) X.env) :: starEach [] X.env := by rfl) :
    DE X zx W (.Call (.Name "sorted" p) [.Call (.Name "set" p2) [e] [] pos2] [] pos) (mn phSS r) :=
  PE.imp (pe_callB (cr_sortedSet hc) hgs hms (by decide +kernel) (pa_cons (pe_callTy (cr_setIT hc) hgt hmt (by decide +kernel) ha (by decide) (by decide) he) pa_nil hs2) (by decide) (by decide) hs2) fun σ H Q ⟨β, ρ, s, hl, hs, hp⟩ => by
  refine ⟨β, ρ, s, hl, hs, Post.bind hp fun vs s1 β1 H1 us st1 hs1 r1 h1 => ?_⟩
  obtain ⟨z, ez, q⟩ := post_of h1 hs1
  unfold phSS at ez
  split at ez
  · obtain ⟨ns, en, ez⟩ := Option.bind_eq_some_iff.mp ez
    · have ez : (if ns.length ≤ 60 then some (Vl.dat (.list ((risI ns).map PyData.int))) else none) = some z := ez
      split at ez
      · rename_i hl60
        cases ez
        have := nums_eq en
        subst this
        obtain ⟨x, rfl, rx⟩ := rvs1 r1
        cases rx with
        | @tup a xs _ hx hz dx =>
          have := dq_ints_of dx
          subst this
          refine ⟨a, ns, rfl, hx.sqt, hl60, fun t2 c ht2 hc2 => ?_⟩
          refine ⟨t2, _, c, rfl, upd_same, by omega, fun ms t3 hsd hm hlm ht3 => ?_⟩
          have em : ms = risI ns := ris_eq hsd (sorted_risI ns) fun k => by rw [hm, mem_risI]; simp
          subst em
          have sm := (same_new (o := SetO X.w t2 (fun j => decide (j ∈ ns)) c) ht2).trans (same_new (o := .lst ((risI ns).map V.int)) ht3)
          have hs3 := hs1.same (same_new (o := SetO X.w t2 (fun j => decide (j ∈ ns)) c) ht2)
          refine q _ _ sm (.lst ⟨upd_same, hs3.nin ht3, hs3.nig ht3⟩ ?_ (dq_ints _))
          rw [List.length_map]
          exact thou (Nat.le_trans (risI_len ns) (by omega))
      · cases ez
  · cases ez
end
end Pm
set_option maxRecDepth 100000
set_option maxHeartbeats 4000000
namespace Pm
open PySem PySem.Spec PyProof.Rows L2 Sw
section
variable {ρ : Loc} {s : Sto} {f g h : ME} {r : MA} {t u : MT} {a b : MS}
theorem mVar_ap {i : Nat} : mVar i ρ s = (match ρ[i]? with | some (some v) => .ok v s | _ => .bad) := rfl
@[simp] theorem mVar_at {i : Nat} {v : Vl} (h : ρ[i]? = some (some v)) : mVar i ρ s = .ok v s := by rw [mVar_ap, h]
@[simp] theorem mVar_0 {v : Vl} {l : Loc} : mVar 0 (some v :: l) s = .ok v s := rfl
@[simp] theorem mVar_S {i : Nat} {o : Option Vl} {l : Loc} : mVar (i + 1) (o :: l) s = mVar i l s := rfl
@[simp] theorem mC_ap {p : PyData} : mC p ρ s = .ok (.dat p) s := rfl
@[simp] theorem m2_ap {ph : Vl → Vl → Sto → Option Vl} : m2 ph f g ρ s = (f ρ s).bind fun v s1 => (g ρ s1).bind fun w s2 => R.of (ph v w s2) s2 := rfl
@[simp] theorem m1_ap {ph : Vl → Sto → Option Vl} : m1 ph f ρ s = (f ρ s).bind fun v s1 => R.of (ph v s1) s1 := rfl
@[simp] theorem mn_ap {ph : List Vl → Sto → Option Vl} : mn ph r ρ s = (r ρ s).bind fun v s1 => R.of (ph v s1) s1 := rfl
@[simp] theorem aNil_ap : aNil ρ s = .ok [] s := rfl
@[simp] theorem aCons_ap : aCons f r ρ s = (f ρ s).bind fun v s1 => (r ρ s1).bind fun vs s2 => .ok (v :: vs) s2 := rfl
@[simp] theorem mTup_ap : mTup r ρ s = (r ρ s).bind fun vs s1 => R.of ((datas vs).bind fun ds => if ds.length ≤ 1000 then some (.dat (.tuple ds)) else none) s1 := rfl
@[simp] theorem mLst_ap : mLst r ρ s = (r ρ s).bind fun vs s1 => R.of ((datas vs).bind fun ds => if ds.length ≤ 1000 then some (.dat (.list ds)) else none) s1 := rfl
@[simp] theorem mNew_ap : mNew r ρ s = (r ρ s).bind fun vs s1 => if vs.length ≤ 1000 ∧ vs.all noX = true then .ok (.ref s1.length) (s1 ++ [.lst vs]) else .bad := rfl
@[simp] theorem mTru_ap : mTru f ρ s = (f ρ s).bind fun v s1 => R.of (tru v s1) s1 := rfl
@[simp] theorem mB_ap : mB f ρ s = (f ρ s).bind fun v s1 => R.of (bool? v) s1 := rfl
@[simp] theorem tAnd_ap : tAndM t u ρ s = (t ρ s).bind fun c s1 => if c = true then u ρ s1 else .ok false s1 := rfl
@[simp] theorem tOr_ap : tOrM t u ρ s = (t ρ s).bind fun c s1 => if c = true then .ok true s1 else u ρ s1 := rfl
@[simp] theorem tNot_ap : tNotM t ρ s = (t ρ s).bind fun c s1 => .ok (!c) s1 := rfl
@[simp] theorem tYes_ap : tYesM ρ s = .ok true s := rfl
@[simp] theorem mAnd_ap : mAnd f g ρ s = (f ρ s).bind fun v s1 => match tru v s1 with | some true => g ρ s1 | some false => .ok v s1 | none => .bad := rfl
@[simp] theorem mOr_ap : mOr f g ρ s = (f ρ s).bind fun v s1 => match tru v s1 with | some true => .ok v s1 | some false => g ρ s1 | none => .bad := rfl
@[simp] theorem mNot_ap : mNot f ρ s = (f ρ s).bind fun v s1 => R.of ((tru v s1).map fun k => .dat (.bool (!k))) s1 := rfl
@[simp] theorem mIf_ap : mIf t f g ρ s = (t ρ s).bind fun c s1 => if c = true then f ρ s1 else g ρ s1 := rfl
@[simp] theorem oNone_ap : oNone ρ s = .ok none s := rfl
@[simp] theorem oSome_ap : oSome f ρ s = (f ρ s).bind fun v s1 => R.of ((int? v).map some) s1 := rfl
@[simp] theorem mSl_ap {l h : MO} : mSl f l h ρ s = (f ρ s).bind fun v s1 => (l ρ s1).bind fun l s2 => (h ρ s2).bind fun h s3 => R.of (phSl v l h s3) s3 := rfl
@[simp] theorem mCall_ap {n : Nat} {g : MF} : mCall n g r ρ s = (r ρ s).bind fun vs s1 => if vs.length = n ∧ vs.all noX = true then g vs s1 else .bad := rfl
@[simp] theorem sSeq_ap : sSeq a b ρ s = (a ρ s).seq b := rfl
@[simp] theorem sExpr_ap : sExpr f ρ s = (f ρ s).to ρ fun _ s1 => .nx ρ s1 := rfl
@[simp] theorem sRet_ap : sRet f ρ s = (f ρ s).to ρ fun v s1 => .rt v s1 := rfl
@[simp] theorem sRetN_ap : sRetN ρ s = .rt (.dat .none) s := rfl
@[simp] theorem sIf_ap : sIf t a b ρ s = (t ρ s).to ρ fun c s1 => if c = true then a ρ s1 else b ρ s1 := rfl
@[simp] theorem sSet_ap {i : Nat} : sSet i f ρ s = (f ρ s).to ρ fun v s1 => .nx (ρ.set i (some v)) s1 := rfl
@[simp] theorem sAsg_ap {g : MG} : sAsg f g ρ s = (f ρ s).to ρ fun v s1 => (g v ρ s1).thn fun ρ2 s2 => .nx ρ2 s2 := rfl
@[simp] theorem sPar_ap {i j : Nat} : sPar i j r ρ s = (r ρ s).to ρ fun vs s1 => match vs with | [v, w] => .nx ((ρ.set i (some v)).set j (some w)) s1 | _ => .bad := rfl
@[simp] theorem sPar3_ap {i j l : Nat} : sPar3 i j l r ρ s = (r ρ s).to ρ fun vs s1 => match vs with | [v, w, x] => .nx (((ρ.set i (some v)).set j (some w)).set l (some x)) s1 | _ => .bad := rfl
@[simp] theorem sRaise2_ap {nm f1 f2 : Str} : sRaise2 nm f1 f2 r ρ s = (r ρ s).to ρ fun vs s1 => match vs with | [.dat x, .dat y] => .ex (nm, [(f2, y), (f1, x)]) ρ s1 | _ => .bad := rfl
@[simp] theorem sFor_ap {it : MI} {g : MG} : sFor it g b ρ s = (it ρ s).to ρ fun c s1 => forM c g b c.items ρ s1 := rfl
@[simp] theorem iSeq_ap : iSeq f ρ s = (f ρ s).bind fun v s1 => R.of (src v s1) s1 := rfl
@[simp] theorem gSet_ap {i : Nat} {v : Vl} : gSetM i v ρ s = .nx (ρ.set i (some v)) s := rfl
@[simp] theorem gNil_ap : gNilM [] ρ s = .nx ρ s := rfl
@[simp] theorem gCons_ap {g : MG} {r : MGs} {v : Vl} {vs : List Vl} : gConsM g r (v :: vs) ρ s = (g v ρ s).thn fun ρ1 s1 => r vs ρ1 s1 := rfl
@[simp] theorem gTup_ap {n : Nat} {r : MGs} {ds : List PyData} : gTupM n r (.dat (.tuple ds)) ρ s = if ds.length = n then r (ds.map Vl.dat) ρ s else .bad := rfl
@[simp] theorem iEn_ap : iEn r ρ s = (r ρ s).bind fun vs s1 => match vs with | [.dat (.tuple ds)] => .ok ⟨pairs ds 0, none⟩ s1 | _ => .bad := rfl
@[simp] theorem datas_nil : datas [] = some [] := rfl
@[simp] theorem datas_cons {p : PyData} {l : List Vl} : datas (.dat p :: l) = (datas l).map (p :: ·) := rfl
@[simp] theorem noX_dat {p : PyData} : noX (.dat p) = true := rfl
@[simp] theorem noX_ref {n : Nat} : noX (.ref n) = true := rfl
@[simp] theorem noX_scr {n : List Int} : noX (.scr n) = true := rfl
@[simp] theorem noX_fn {n : Str} : noX (.fn n) = true := rfl
@[simp] theorem bool?_b {k : Bool} : bool? (.dat (.bool k)) = some k := rfl
@[simp] theorem int?_i {i : Int} : int? (.dat (.int i)) = some i := rfl
@[simp] theorem tru_b {k : Bool} : tru (.dat (.bool k)) s = some k := rfl
@[simp] theorem tru_l {l : List PyData} : tru (.dat (.list l)) s = some (!l.isEmpty) := rfl
@[simp] theorem tru_t {l : List PyData} : tru (.dat (.tuple l)) s = some (!l.isEmpty) := rfl
@[simp] theorem tru_n : tru (.dat .none) s = some false := rfl
@[simp] theorem tru_i {i : Int} : tru (.dat (.int i)) s = some (i != 0) := rfl
@[simp] theorem src_t {l : List PyData} : src (.dat (.tuple l)) s = some ⟨l.map Vl.dat, none⟩ := rfl
@[simp] theorem src_l {l : List PyData} : src (.dat (.list l)) s = some ⟨l.map Vl.dat, none⟩ := rfl
@[simp] theorem phIsi_d {g : PyData → Bool} {p : PyData} : phIsi g (.dat p) s = some (.dat (.bool (g p))) := rfl
@[simp] theorem phAdd_i {i j : Int} : phAdd (.dat (.int i)) (.dat (.int j)) s = some (.dat (.int (i + j))) := rfl
@[simp] theorem phSub_i {i j : Int} : phSub (.dat (.int i)) (.dat (.int j)) s = some (.dat (.int (i - j))) := rfl
@[simp] theorem phNeg_i {i : Int} : phNeg (.dat (.int i)) s = some (.dat (.int (-i))) := rfl
@[simp] theorem phLt_i {i j : Int} : phLt (.dat (.int i)) (.dat (.int j)) s = some (.dat (.bool (decide (i < j)))) := rfl
@[simp] theorem phLe_i {i j : Int} : phLe (.dat (.int i)) (.dat (.int j)) s = some (.dat (.bool (decide (i ≤ j)))) := rfl
@[simp] theorem phGt_i {i j : Int} : phGt (.dat (.int i)) (.dat (.int j)) s = some (.dat (.bool (decide (j < i)))) := rfl
@[simp] theorem phGe_i {i j : Int} : phGe (.dat (.int i)) (.dat (.int j)) s = some (.dat (.bool (decide (j ≤ i)))) := rfl
@[simp] theorem phIx_t {ds : List PyData} {i : Int} : phIx (.dat (.tuple ds)) (.dat (.int i)) s = (atI ds i).map Vl.dat := rfl
@[simp] theorem phIx_l {ds : List PyData} {i : Int} : phIx (.dat (.list ds)) (.dat (.int i)) s = (atI ds i).map Vl.dat := rfl
@[simp] theorem phSl_t {ds : List PyData} {l h : Option Int} : phSl (.dat (.tuple ds)) l h s = some (.dat (.tuple (cut ds l h))) := rfl
@[simp] theorem phSl_l {ds : List PyData} {l h : Option Int} : phSl (.dat (.list ds)) l h s = some (.dat (.list (cut ds l h))) := rfl
@[simp] theorem phLen_t {ds : List PyData} : phLen [.dat (.tuple ds)] s = some (.dat (.int ds.length)) := rfl
@[simp] theorem phLen_l {ds : List PyData} : phLen [.dat (.list ds)] s = some (.dat (.int ds.length)) := rfl
@[simp] theorem phTuple_l {ds : List PyData} : phTuple [.dat (.list ds)] s = some (.dat (.tuple ds)) := rfl
@[simp] theorem phTuple_t {ds : List PyData} : phTuple [.dat (.tuple ds)] s = some (.dat (.tuple ds)) := rfl
@[simp] theorem phList_t {ds : List PyData} : phList [.dat (.tuple ds)] s = some (.dat (.list ds)) := rfl
@[simp] theorem phAll_l {ds : List PyData} : phAll [.dat (.list ds)] s = (bls ds).map fun bs => .dat (.bool (bs.all id)) := rfl
@[simp] theorem phAdd_t {x y : List PyData} : phAdd (.dat (.tuple x)) (.dat (.tuple y)) s = if x.length + y.length ≤ mil then some (.dat (.tuple (x ++ y))) else none := rfl
@[simp] theorem wipeM_nil : wipeM ρ [] = ρ := rfl
@[simp] theorem wipeM_cons {v : Nat} {vs : List Nat} : wipeM ρ (v :: vs) = (wipeM ρ vs).set v none := rfl
@[simp] theorem atI_0 {α : Type} {x : α} {l : List α} : atI (x :: l) 0 = some x := by
  unfold atI ixN
  rw [if_pos (Int.le_refl 0), if_pos (by simp)]
  rfl
theorem atI_nat' {α : Type} {l : List α} {n : Nat} : atI l (n : Int) = l[n]? := by
  unfold atI ixN
  rw [if_pos (by omega)]
  by_cases h : n < l.length
  · rw [if_pos (by omega)]
    rfl
  · rw [if_neg (by omega), List.getElem?_eq_none (by omega)]
    rfl
@[simp] theorem atI_1 {α : Type} {x y : α} {l : List α} : atI (x :: y :: l) 1 = some y := atI_nat' (n := 1)
@[simp] theorem atI_2 {α : Type} {x y z : α} {l : List α} : atI (x :: y :: z :: l) 2 = some z := atI_nat' (n := 2)
@[simp] theorem atI_3 {α : Type} {x y z w : α} {l : List α} : atI (x :: y :: z :: w :: l) 3 = some w := atI_nat' (n := 3)
end
end Pm
namespace Pm
open PySem PySem.Spec PyProof.Rows L2 Sw
theorem i62 {n : Nat} (h : n ≤ mil) : In62 (n : Int) := by
  have h : n ≤ 1000000 := h
  constructor
  · exact Int.le_trans (by decide) (Int.natCast_nonneg n)
  · exact Int.lt_of_le_of_lt (Int.ofNat_le.mpr h) (by decide)
end Pm
set_option maxRecDepth 100000
set_option maxHeartbeats 4000000
set_option maxRecDepth 100000
set_option maxHeartbeats 4000000
namespace Pm
open PySem PySem.Spec PyProof.Rows L2 Sw
inductive An (S L : Type) where
  | nx (a : S) (s : Sto)
  | rt (v : Vl) (s : Sto)
  | bk (a : L) (s : Sto)
  | ct (a : L) (s : Sto)
  | ex (x : Exn) (s : Sto)
  | bad
section
variable {α S S' L L' : Type}
def R.an (r : R α) (k : α → Sto → An S L) : An S L := match r with
  | .ok a s => k a s
  | .ex x s => .ex x s
  | .bad => .bad
def An.thn (f : An S L) (k : S → Sto → An S' L) : An S' L := match f with
  | .nx a s => k a s
  | .rt v s => .rt v s
  | .bk a s => .bk a s
  | .ct a s => .ct a s
  | .ex x s => .ex x s
  | .bad => .bad
/-- one that never goes on -/
def An.up (f : An Empty L) : An S L := match f with
  | .rt v s => .rt v s
  | .bk a s => .bk a s
  | .ct a s => .ct a s
  | .ex x s => .ex x s
  | .bad => .bad
def An.fin (f : An Unit Empty) : R Vl := match f with
  | .nx _ s => .ok (.dat .none) s
  | .rt v s => .ok v s
  | .ex x s => .ex x s
  | .bad => .bad
@[simp] theorem R.an_ok (a : α) (s : Sto) (k : α → Sto → An S L) : (R.ok a s).an k = k a s := rfl
@[simp] theorem R.an_ex (x : Exn) (s : Sto) (k : α → Sto → An S L) : (R.ex x s : R α).an k = .ex x s := rfl
@[simp] theorem R.an_bad (k : α → Sto → An S L) : (R.bad : R α).an k = .bad := rfl
@[simp] theorem An.thn_nx (a : S) (s : Sto) (k : S → Sto → An S' L) : (An.nx a s : An S L).thn k = k a s := rfl
@[simp] theorem An.thn_rt (a : Vl) (s : Sto) (k : S → Sto → An S' L) : (An.rt a s : An S L).thn k = .rt a s := rfl
@[simp] theorem An.thn_bk (a : L) (s : Sto) (k : S → Sto → An S' L) : (An.bk a s : An S L).thn k = .bk a s := rfl
@[simp] theorem An.thn_ct (a : L) (s : Sto) (k : S → Sto → An S' L) : (An.ct a s : An S L).thn k = .ct a s := rfl
@[simp] theorem An.thn_ex (a : Exn) (s : Sto) (k : S → Sto → An S' L) : (An.ex a s : An S L).thn k = .ex a s := rfl
@[simp] theorem An.thn_bad (k : S → Sto → An S' L) : (An.bad : An S L).thn k = .bad := rfl
@[simp] theorem An.up_rt (a : Vl) (s : Sto) : (An.rt a s : An Empty L).up = (.rt a s : An S L) := rfl
@[simp] theorem An.up_bk (a : L) (s : Sto) : (An.bk a s : An Empty L).up = (.bk a s : An S L) := rfl
@[simp] theorem An.up_ct (a : L) (s : Sto) : (An.ct a s : An Empty L).up = (.ct a s : An S L) := rfl
@[simp] theorem An.up_ex (a : Exn) (s : Sto) : (An.ex a s : An Empty L).up = (.ex a s : An S L) := rfl
@[simp] theorem An.up_bad : (An.bad : An Empty L).up = (.bad : An S L) := rfl
@[simp] theorem An.fin_nx (a : Unit) (s : Sto) : (An.nx a s).fin = .ok (.dat .none) s := rfl
@[simp] theorem An.fin_rt (a : Vl) (s : Sto) : (An.rt a s).fin = .ok a s := rfl
@[simp] theorem An.fin_ex (a : Exn) (s : Sto) : (An.ex a s).fin = .ex a s := rfl
@[simp] theorem An.fin_bad : An.bad.fin = .bad := rfl
end
inductive LeL : Loc → Loc → Prop where
  | nil : LeL [] []
  | non {o : Option Vl} {l m : Loc} (h : LeL l m) : LeL (none :: l) (o :: m)
  | som {v : Option Vl} {l m : Loc} (h : LeL l m) : LeL (v :: l) (v :: m)
theorem LeL.len {l m : Loc} (h : LeL l m) : l.length = m.length := by
  induction h with
  | nil => rfl
  | non _ ih => simp [ih]
  | som _ ih => simp [ih]
theorem LeL.get {l m : Loc} (h : LeL l m) : ∀ {i : Nat} {v : Vl}, l[i]? = some (some v) → m[i]? = some (some v) := by
  induction h with
  | nil => intro i v e; simp at e
  | non _ ih =>
    intro i v e
    cases i with
    | zero => simp at e
    | succ i => simp at e ⊢; exact ih e
  | som _ ih =>
    intro i v e
    cases i with
    | zero => simpa using e
    | succ i => simp at e ⊢; exact ih e
theorem LeL.refl : ∀ l : Loc, LeL l l
  | [] => .nil
  | _ :: l => .som (LeL.refl l)
theorem RelL.le {G : Cf} {H : Hp} {β : Bs} {ρ ρ' : Loc} {σ : L2.St} (e : LeL ρ' ρ) (h : RelL G H β ρ σ) : RelL G H β ρ' σ := ⟨by rw [e.len, h.len], fun i v q => h.at' i v (e.get q)⟩
/-- what is known of the locals where an exception leaves -/
def ExR (G : Cf) (ox : Option Loc) (H : Hp) (β : Bs) (σ : L2.St) : Prop := match ox with
  | none => True
  | some ρ => RelL G H β ρ σ
def OxLe (ox : Option Loc) (ρ : Loc) : Prop := match ox with
  | none => True
  | some ρx => LeL ρx ρ
theorem ox0 {ρ : Loc} : OxLe none ρ := trivial
theorem OxLe.rel {G : Cf} {H : Hp} {β : Bs} {ρ : Loc} {σ : L2.St} {ox : Option Loc} (e : OxLe ox ρ) (h : RelL G H β ρ σ) : ExR G ox H β σ := by
  cases ox with
  | none => trivial
  | some ρx => exact h.le e
section
variable {α υ S S' L : Type} {G : Cf} {W : WX} {mkS : S → Loc} {mkL : L → Loc} {ox : Option Loc}
def PostN (G : Cf) (W : WX) (mkS : S → Loc) (mkL : L → Loc) (ox : Option Loc) (β : Bs) (H : Hp) (D : Ends) : An S L → Prop
  | .nx a s => ∀ β' σ' H', Step β H β' H' → RelL G H' β' (mkS a) σ' → RelS G β' s H' → D.nx σ' H'
  | .rt v s => ∀ β' H' u, Step β H β' H' → RelS G β' s H' → Rv G H' β' v u → D.rt u H'
  | .bk a s => ∀ β' σ' H', Step β H β' H' → RelL G H' β' (mkL a) σ' → RelS G β' s H' → D.bk σ' H'
  | .ct a s => ∀ β' σ' H', Step β H β' H' → RelL G H' β' (mkL a) σ' → RelS G β' s H' → D.ct σ' H'
  | .ex x s => ∀ β' σ' H' c d, Step β H β' H' → ExR G ox H' β' σ' → RelS G β' s H' → RX G H' β' x c d → W c d σ' H'
  | .bad => False
theorem PostN.step {β β1 : Bs} {H H1 : Hp} {D : Ends} {f : An S L} (h : PostN G W mkS mkL ox β H D f) (s : Step β H β1 H1) : PostN G W mkS mkL ox β1 H1 D f := by
  cases f with
  | nx ρ st => exact fun β' σ' H' s' => h β' σ' H' (s.trans s')
  | rt v st => exact fun β' H' u s' => h β' H' u (s.trans s')
  | bk ρ st => exact fun β' σ' H' s' => h β' σ' H' (s.trans s')
  | ct ρ st => exact fun β' σ' H' s' => h β' σ' H' (s.trans s')
  | ex x st => exact fun β' σ' H' c d s' => h β' σ' H' c d (s.trans s')
  | bad => exact h
/-- a block's reading, its locals at its beginning being ρ -/
def tN (G : Cf) (W : WX) (mkS : S → Loc) (mkL : L → Loc) (ox : Option Loc) (ρ : Loc) (n : Sto → An S L) : TS := fun D σ H => ∃ β s, RelL G H β ρ σ ∧ RelS G β s H ∧ PostN G W mkS mkL ox β H D (n s)
theorem PostN.an {rel : Rel α υ} {σ : L2.St} {ρ : Loc} {β : Bs} {H : Hp} {D : Ends} {Q1 : υ → Hp → Prop} {r : R α} {k : α → Sto → An S L} (hl : RelL G H β ρ σ) (hx : OxLe ox ρ) (h : PostN G W mkS mkL ox β H D (r.an k))
    (hk : ∀ v s1 β1 H1 u, Step β H β1 H1 → RelS G β1 s1 H1 → rel H1 β1 v u → PostN G W mkS mkL ox β1 H1 D (k v s1) → Q1 u H1) : Post G rel W σ β H Q1 r := by
  cases r with
  | ok v st => exact fun β' H' u s' hs hr => hk v st β' H' u s' hs hr (PostN.step (show PostN G W mkS mkL ox β H D (k v st) from h) s')
  | ex x st => exact fun β' H' c d s' hs hx' => h β' σ H' c d s' (hx.rel (hl.step s')) hs hx'
  | bad => exact h
/-- less is asked of what comes behind -/
theorem PostN.up {mk' : S' → Loc} {mk0 : Empty → Loc} {β : Bs} {H : Hp} {D : Ends} {f : An Empty L} (nx' : L2.St → Hp → Prop) (h : PostN G W mk' mkL ox β H D (f.up : An S' L)) : PostN G W mk0 mkL ox β H { D with nx := nx' } f := by
  cases f with
  | nx a s => exact a.elim
  | rt v s => exact h
  | bk a s => exact h
  | ct a s => exact h
  | ex x s => exact h
  | bad => exact h
theorem PostN.thn {mk1 : S → Loc} {mk2 : S' → Loc} {β : Bs} {H : Hp} {D : Ends} {f : An S L} {k : S → Sto → An S' L} (h : PostN G W mk2 mkL ox β H D (f.thn k)) : PostN G W mk1 mkL ox β H { D with nx := fun σ' H' => ∃ a, tN G W mk2 mkL ox (mk1 a) (k a) D σ' H' } f := by
  cases f with
  | nx a s => exact fun β' σ' H' st hl hs => ⟨a, β', s, hl, hs, PostN.step (show PostN G W mk2 mkL ox β H D (k a s) from h) st⟩
  | rt v s => exact h
  | bk a s => exact h
  | ct a s => exact h
  | ex x s => exact h
  | bad => exact h
end
theorem pss_ex {X : Cx} {b : List Stmt} {J : Type} {t : J → TS} (h : ∀ j, PSs X b (t j)) : PSs X b (fun D σ H => ∃ j, t j D σ H) := ⟨fun pins s σ H D I ⟨j, q⟩ => (h j).run pins s σ H D I q⟩
abbrev NSs {S L : Type} (X : Cx) (zx : Exo) (W : WX) (ox : Option Loc) (mkS : S → Loc) (mkL : L → Loc) (ρ : Loc) (b : List Stmt) (n : Sto → An S L) : Prop := PSs X b (tN (cf X zx) W mkS mkL ox ρ n)
abbrev NS {S L : Type} (X : Cx) (zx : Exo) (W : WX) (ox : Option Loc) (mkS : S → Loc) (mkL : L → Loc) (ρ : Loc) (b : Stmt) (n : Sto → An S L) : Prop := PS X b (tN (cf X zx) W mkS mkL ox ρ n)
section
variable {S S' L : Type} {X : Cx} {zx : Exo} {W : WX} {mkS : S → Loc} {mkL : L → Loc} {ox : Option Loc} {ρ : Loc} {st : Stmt} {rest : List Stmt} {e : Expr} {F : ME} {f : Sto → R Vl} {pos : Pos}
theorem nss_nil {a : S} (h : LeL (mkS a) ρ) : NSs X zx W ox mkS mkL ρ [] (fun s => .nx a s) := PSs.imp pss_nil fun D σ H ⟨β, s, hl, hs, q⟩ => q β σ H (Step.refl _ _) (hl.le h) hs
theorem nss_cons {mk1 : S' → Loc} {n1 : Sto → An S' L} {k : S' → Sto → An S L} (h1 : NS X zx W ox mk1 mkL ρ st n1) (h2 : ∀ j, NSs X zx W ox mkS mkL (mk1 j) rest (k j)) : NSs X zx W ox mkS mkL ρ (st :: rest) (fun s => (n1 s).thn k) :=
  PSs.imp (pss_cons h1 (pss_ex h2)) fun D σ H ⟨β, s, hl, hs, q⟩ => ⟨β, s, hl, hs, PostN.thn q⟩
/-- a statement that goes on with all it has -/
theorem nss_step {ρ' : Loc} {n : Sto → An S L} {t : TS} (h1 : PS X st t) (h2 : NSs X zx W ox mkS mkL ρ' rest n) {m : Sto → An S L}
    (h : ∀ D σ H, tN (cf X zx) W mkS mkL ox ρ m D σ H → t { D with nx := tN (cf X zx) W mkS mkL ox ρ' n D } σ H) : NSs X zx W ox mkS mkL ρ (st :: rest) m := PSs.imp (pss_cons h1 h2) h
theorem nss_expr {k : Sto → An S L} (he : DE X zx W e F) (h2 : NSs X zx W ox mkS mkL ρ rest k) (hx : OxLe ox ρ) (hF : ∀ s, F ρ s = f s := by intro _; rfl) (hs : swapsWith e none pos.line X.env = pure false := by rfl) : NSs X zx W ox mkS mkL ρ (.Expr e pos :: rest) (fun s => (f s).an fun _ s1 => k s1) :=
  nss_step (ps_expr he hs) h2 fun D σ H ⟨β, s, hl, hs, q⟩ => ⟨β, ρ, s, hl, hs, by
    rw [hF]
    exact PostN.an hl hx q fun v s1 β1 H1 u st1 hs1 _ h1 => ⟨β1, s1, hl.step st1, hs1, h1⟩⟩
theorem nss_set {i : Nat} {x : Str} {pos' : Pos} {ρ' : Vl → Loc} {k : Vl → Sto → An S L} (hN : X.N.Nodup) (hi : X.N[i]? = some x) (hx : L2.Loc X.env.scope x) (he : DE X zx W e F) (h2 : ∀ v, NSs X zx W ox mkS mkL (ρ' v) rest (k v)) (hox : OxLe ox ρ) (hF : ∀ s, F ρ s = f s := by intro _; rfl) (hρ : ∀ v, ρ.set i (some v) = ρ' v := by intro _; rfl)
    (hs : swapsWith e (some (.Name x pos')) pos.line X.env = pure false := by rfl) (hf : X.fn x = true ∨ X.env.scope.names.lookup x = some .local := by first | exact .inl rfl | exact .inr rfl | assumption) :
    NSs X zx W ox mkS mkL ρ (.Assign [.Name x pos'] e pos :: rest) (fun s => (f s).an fun v s1 => k v s1) :=
  PSs.imp (pss_cons (ps_set hN hi hx he hs hf) (pss_ex h2)) fun D σ H ⟨β, s, hl, hs, q⟩ => ⟨β, ρ, s, hl, hs, by
    rw [hF]
    exact PostN.an hl hox q fun v s1 β1 H1 u st1 hs1 r1 h1 => ⟨v, β1, s1, by rw [← hρ]; exact (hl.step st1).set r1, hs1, h1⟩⟩
theorem nss_par {i j : Nat} {x y : Str} {a b : Expr} {r : MA} {fr : Sto → R (List Vl)} {px py pt : Pos} {kt k2 pt2} {ρ' : Vl → Vl → Loc} {k : Vl → Vl → Sto → An S L} (hc : X.calm = true) (hN : X.N.Nodup) (hi : X.N[i]? = some x) (hj : X.N[j]? = some y) (hij : i ≠ j)
    (hx : X.env.scope.names.lookup x = some .local) (hy : X.env.scope.names.lookup y = some .local) (ha : DA X zx W [a, b] r) (h2 : ∀ v w, NSs X zx W ox mkS mkL (ρ' v w) rest (k v w)) (hox : OxLe ox ρ) (hF : ∀ s, r ρ s = fr s := by intro _; rfl) (hρ : ∀ v w, (ρ.set i (some v)).set j (some w) = ρ' v w := by intro _ _; rfl)
    (hw : swappedStores [.Tuple [.Name x px, .Name y py] kt pt] (.Tuple [a, b] k2 pt2) X.env = pure (some [x, y]) := by rfl)
    (hs : swapsWithSole [.Tuple [.Name x px, .Name y py] kt pt] (.Tuple [a, b] k2 pt2) pos.line X.env = pure false := by rfl) :
    NSs X zx W ox mkS mkL ρ (.Assign [.Tuple [.Name x px, .Name y py] kt pt] (.Tuple [a, b] k2 pt2) pos :: rest) (fun s => (fr s).an fun vs s1 => match vs with | [v, w] => k v w s1 | _ => .bad) :=
  PSs.imp (pss_cons (ps_par hc hN hi hj hij hx hy ha hw hs) (pss_ex fun v => pss_ex (h2 v))) fun D σ H ⟨β, s, hl, hs, q⟩ => ⟨β, ρ, s, hl, hs, by
    rw [hF]
    exact PostN.an hl hox q fun vs s1 β1 H1 us st1 hs1 r1 h1 => by
      cases r1 with
      | nil => exact h1.elim
      | cons r0 r1 =>
        cases r1 with
        | nil => exact h1.elim
        | cons r1 r2 =>
          cases r2 with
          | nil => exact ⟨_, _, rfl, _, _, β1, s1, by rw [← hρ]; exact ((hl.step st1).set r0).set r1, hs1, h1⟩
          | cons _ _ => exact h1.elim⟩
theorem nss_ret (he : DE X zx W e F) (hox : OxLe ox ρ) (hF : ∀ s, F ρ s = f s := by intro _; rfl) : NSs X zx W ox mkS mkL ρ [.Return (some e) pos] (fun s => (f s).an fun v s1 => .rt v s1) :=
  PSs.imp (pss_one (ps_ret he)) fun D σ H ⟨β, s, hl, hs, q⟩ => ⟨β, ρ, s, hl, hs, by
    rw [hF]
    exact PostN.an hl hox q fun v s1 β1 H1 u st1 hs1 r1 h1 => h1 β1 H1 u (Step.refl _ _) hs1 r1⟩
/-- raise -/
def raise2N (nm f1 f2 : Str) (vs : List Vl) (s : Sto) : An S L := match vs with
  | [.dat x, .dat y] => .ex (nm, [(f2, y), (f1, x)]) s
  | _ => .bad
def raise1N (nm f1 : Str) (vs : List Vl) (s : Sto) : An S L := match vs with
  | [.dat x] => .ex (nm, [(f1, x)]) s
  | _ => .bad
@[simp] theorem raise2N_d {nm f1 f2 : Str} {x y : PyData} {s : Sto} : (raise2N nm f1 f2 [.dat x, .dat y] s : An S L) = .ex (nm, [(f2, y), (f1, x)]) s := rfl
@[simp] theorem raise1N_d {nm f1 : Str} {x : PyData} {s : Sto} : (raise1N nm f1 [.dat x] s : An S L) = .ex (nm, [(f1, x)]) s := rfl
/-- a statement that is never come to -/
theorem nss_never : NSs X zx W ox mkS mkL ρ [st] (fun _ => .bad) := PSs.imp (pss_one ps_never) fun D σ H ⟨_, _, _, _, q⟩ => q
theorem nss_ifx {mk0 : Empty → Loc} {c : Expr} {a : List Stmt} {T : MT} {tt : Sto → R Bool} {na : Sto → An Empty L} {nr : Sto → An S L} (hc : DT X zx W c T) (ha : NSs X zx W ox mk0 mkL ρ a na) (hr : NSs X zx W ox mkS mkL ρ rest nr) (hox : OxLe ox ρ) (hT : ∀ s, T ρ s = tt s := by intro _; rfl) :
    NSs X zx W ox mkS mkL ρ (.If c a [] pos :: rest) (fun s => (tt s).an fun k s1 => if k = true then (na s1).up else nr s1) :=
  PSs.imp (pss_cons (ps_if hc ha pss_nil) hr) fun D σ H ⟨β, s, hl, hs, q⟩ => ⟨β, ρ, s, hl, hs, by
    rw [hT]
    exact PostN.an hl hox q fun v s1 β1 H1 u st1 hs1 r1 h1 => by
      cases (show v = u from r1)
      cases v with
      | true => exact iteT ⟨β1, s1, hl.step st1, hs1, PostN.up _ h1⟩
      | false => exact iteF ⟨β1, s1, hl.step st1, hs1, h1⟩⟩
/-- the last one of a block -/
theorem nss_if1 {c : Expr} {a b : List Stmt} {T : MT} {tt : Sto → R Bool} {na nb : Sto → An S L} (hc : DT X zx W c T) (ha : NSs X zx W ox mkS mkL ρ a na) (hb : NSs X zx W ox mkS mkL ρ b nb) (hox : OxLe ox ρ) (hT : ∀ s, T ρ s = tt s := by intro _; rfl) :
    NSs X zx W ox mkS mkL ρ [.If c a b pos] (fun s => (tt s).an fun k s1 => if k = true then na s1 else nb s1) :=
  PSs.imp (pss_one (ps_if hc ha hb)) fun D σ H ⟨β, s, hl, hs, q⟩ => ⟨β, ρ, s, hl, hs, by
    rw [hT]
    exact PostN.an hl hox q fun v s1 β1 H1 u st1 hs1 r1 h1 => by
      cases (show v = u from r1)
      cases v with
      | true => exact iteT ⟨β1, s1, hl.step st1, hs1, h1⟩
      | false => exact iteF ⟨β1, s1, hl.step st1, hs1, h1⟩⟩
end
end Pm
set_option maxRecDepth 100000
set_option maxHeartbeats 4000000
namespace Pm
open PySem PySem.Spec PyProof.Rows L2 Sw
def locOk (n : Nat) : Loc → Prop
  | [] => True
  | none :: l => locOk n l
  | some v :: l => refOk n v ∧ locOk n l
def stoOk (n : Nat) : Sto → Prop
  | [] => True
  | o :: s => obOk n o ∧ stoOk n s
theorem stoOk_iff {n : Nat} : ∀ {s : Sto}, stoOk n s ↔ ∀ o ∈ s, obOk n o
  | [] => by simp [stoOk]
  | o :: s => by simp [stoOk, stoOk_iff]
theorem locOk_get {n : Nat} : ∀ {l : Loc} {i : Nat} {v : Vl}, locOk n l → l[i]? = some (some v) → refOk n v
  | [], _, _, _, e => by simp at e
  | none :: l, 0, _, _, e => by simp at e
  | none :: l, i + 1, v, h, e => locOk_get (l := l) (i := i) h (by simpa using e)
  | some w :: l, 0, v, h, e => by
    have : w = v := by simpa using e
    rw [← this]; exact h.1
  | some w :: l, i + 1, v, h, e => locOk_get (l := l) (i := i) h.2 (by simpa using e)
@[simp] theorem locOk_nil {n : Nat} : locOk n [] = True := rfl
@[simp] theorem locOk_none {n : Nat} {l : Loc} : locOk n (none :: l) = locOk n l := rfl
@[simp] theorem locOk_some {n : Nat} {v : Vl} {l : Loc} : locOk n (some v :: l) = (refOk n v ∧ locOk n l) := rfl
@[simp] theorem stoOk_nil {n : Nat} : stoOk n [] = True := rfl
@[simp] theorem stoOk_cons {n : Nat} {o : Ob} {l : Sto} : stoOk n (o :: l) = (obOk n o ∧ stoOk n l) := rfl
@[simp] theorem refOk_dat {n : Nat} {p : PyData} : refOk n (.dat p) = True := rfl
@[simp] theorem refOk_scr {n : Nat} {p : List Int} : refOk n (.scr p) = True := rfl
@[simp] theorem refOk_fn {n : Nat} {p : Str} : refOk n (.fn p) = True := rfl
@[simp] theorem refOk_ref {n m : Nat} : refOk n (.ref m) = (m < n) := rfl
@[simp] theorem obOk_lst {n : Nat} {l : List Vl} : obOk n (.lst l) = ∀ v ∈ l, refOk n v := rfl
@[simp] theorem obOk_dic {n : Nat} {t : Bool} {l : List (PyData × Vl)} : obOk n (.dic t l) = ∀ v ∈ l, refOk n v.2 := rfl
open Classical in
/-- behind a turn that began with a store of length n -/
noncomputable def tidyN {S S' L : Type} (mk : S → Loc) (n : Nat) (a : S) (s : Sto) (k : S → Sto → An S' L) : An S' L :=
  if s.length = n then k a s else if n ≤ s.length ∧ stoOk n (s.take n) ∧ locOk n (mk a) then k a (s.take n) else k a s
theorem RelL.cut {G : Cf} {H : Hp} {β : Bs} {n : Nat} {ρ : Loc} {σ : L2.St} (h : locOk n ρ) (r : RelL G H β ρ σ) : RelL G H (β.cut n) ρ σ := ⟨r.len, fun i v e => by
  obtain ⟨u, h1, h2⟩ := r.at' i v e
  exact ⟨u, h1, Rv.cut (locOk_get h e) h2⟩⟩
theorem RelS.cutN {G : Cf} {H : Hp} {β : Bs} {s : Sto} {n : Nat} (h : RelS G β s H) (hn : n ≤ s.length) (hc : stoOk n (s.take n)) : RelS G (β.cut n) (s.take n) H := by
  have e : (s.take n).length = n := by rw [List.length_take]; omega
  have h' : RelS G β (s.take n ++ s.drop n) H := by rw [List.take_append_drop]; exact h
  have := RelS.cut h' (fun o ho => by rw [e]; exact stoOk_iff.mp hc o ho)
  rw [e] at this
  exact this
section
variable {S S' L : Type} {G : Cf} {W : WX} {mk : S → Loc} {mkS : S' → Loc} {mkL : L → Loc} {ox : Option Loc}
theorem tidy_go {β β4 : Bs} {H H4 : Hp} {D : Ends} {n : Nat} {a : S} {s4 : Sto} {σ4 : L2.St} {k : S → Sto → An S' L} (q : PostN G W mkS mkL ox β H D (tidyN mk n a s4 k)) (hn : β.b.length ≤ n) (st : Step β H β4 H4) (hl : RelL G H4 β4 (mk a) σ4) (hs : RelS G β4 s4 H4) :
    ∃ β5 s5, Step β H β5 H4 ∧ RelL G H4 β5 (mk a) σ4 ∧ RelS G β5 s5 H4 ∧ PostN G W mkS mkL ox β5 H4 D (k a s5) := by
  unfold tidyN at q
  split at q
  · exact ⟨β4, s4, st, hl, hs, PostN.step q st⟩
  · split at q
    · rename_i h
      have st' := st.cut hn
      exact ⟨β4.cut n, s4.take n, st', hl.cut h.2.2, hs.cutN h.1 h.2.1, PostN.step q st'⟩
    · exact ⟨β4, s4, st, hl, hs, PostN.step q st⟩
noncomputable def An.lp (f : An S S) (mk : S → Loc) (n : Nat) (k : S → Sto → An S L) : An S L := match f with
  | .nx a s => tidyN mk n a s k
  | .ct a s => tidyN mk n a s k
  | .bk a s => tidyN mk n a s fun a s => .nx a s
  | .rt v s => .rt v s
  | .ex x s => .ex x s
  | .bad => .bad
open Classical in
noncomputable def forN (ck : Sto → Prop) (mk : S → Loc) (nb : Vl → S → Sto → An S S) : List Vl → S → Sto → An S L
  | [], a, s => if ck s then .nx a s else .bad
  | v :: r, a, s => if ck s then (nb v a s).lp mk s.length (forN ck mk nb r) else .bad
/-- nothing is asked of the store -/
def okT : Sto → Prop := fun _ => True
theorem src_ok_none {l : List Vl} : Src.ok ⟨l, none⟩ = okT := funext fun _ => rfl
@[simp] theorem forN_nil {mk : S → Loc} {nb : Vl → S → Sto → An S S} {a : S} {s : Sto} : (forN okT mk nb [] a s : An S L) = .nx a s := by
  unfold forN
  exact if_pos trivial
theorem forN_cons {mk : S → Loc} {nb : Vl → S → Sto → An S S} {v : Vl} {r : List Vl} {a : S} {s : Sto} : (forN okT mk nb (v :: r) a s : An S L) = (nb v a s).lp mk s.length (forN okT mk nb r) := by
  rw [forN]
  exact if_pos trivial
@[simp] theorem lp_nx {mk : S → Loc} {n : Nat} {a : S} {s : Sto} {k : S → Sto → An S L} : (An.nx a s : An S S).lp mk n k = tidyN mk n a s k := rfl
@[simp] theorem lp_ct {mk : S → Loc} {n : Nat} {a : S} {s : Sto} {k : S → Sto → An S L} : (An.ct a s : An S S).lp mk n k = tidyN mk n a s k := rfl
@[simp] theorem lp_bk {mk : S → Loc} {n : Nat} {a : S} {s : Sto} {k : S → Sto → An S L} : (An.bk a s : An S S).lp mk n k = tidyN mk n a s fun a s => .nx a s := rfl
@[simp] theorem lp_rt {mk : S → Loc} {n : Nat} {v : Vl} {s : Sto} {k : S → Sto → An S L} : (An.rt v s : An S S).lp mk n k = .rt v s := rfl
@[simp] theorem lp_ex {mk : S → Loc} {n : Nat} {v : Exn} {s : Sto} {k : S → Sto → An S L} : (An.ex v s : An S S).lp mk n k = .ex v s := rfl
@[simp] theorem lp_bad {mk : S → Loc} {n : Nat} {k : S → Sto → An S L} : (An.bad : An S S).lp mk n k = .bad := rfl
theorem tidy_same {mk : S → Loc} {n : Nat} {a : S} {s : Sto} {k : S → Sto → An S' L} (h : s.length = n) : tidyN mk n a s k = k a s := if_pos h
end
section
variable {S' L P : Type} {X : Cx} {zx : Exo} {W : WX} {mk1 : S' → Loc} {mkL : L → Loc} {ox : Option Loc} {ρ : Loc} {body : List Stmt} {pos : Pos}
theorem ns_for {tg iter : Expr} {IT : MI} {it : Sto → R Src} {g : MG} {pat : Vl → Option P} {ρb : P → S' → Loc} {nb : P → S' → Sto → An S' S'} {a0 : S'} (hp : PassesOwn (model X.prog X.w) X.A X.env X.xe) (hc : X.calm = true) (hi : DI X zx W tg iter IT) (hg : DG X zx tg g)
    (hb : ∀ p a, NSs X zx W ox mk1 mk1 (ρb p a) body (nb p a)) (hgp : ∀ v a s, g v (mk1 a) s = (match pat v with | some p => .nx (ρb p a) s | none => .bad)) (h0 : LeL (mk1 a0) ρ) (hox : OxLe ox ρ) (hF : ∀ s, IT ρ s = it s := by intro _; rfl)
    (hs : ∀ x, foldedSetIterable iter X.env x = pure x := by intro _; rfl) :
    NS X zx W ox mk1 mkL ρ (.For tg iter body [] pos) (fun s => (it s).an fun c s1 => forN c.ok mk1 (fun v a s => match pat v with | some p => nb p a s | none => .bad) c.items a0 s1) := PS.imp (ps_for hp hc hi hg (pss_ex fun p => pss_ex fun a => hb p a) hs) fun D σ H ⟨β, s, hl, hs, q⟩ => by
  refine ⟨β, ρ, s, hl, hs, ?_⟩
  rw [hF]
  refine PostN.an hl hox q fun c s1 β1 H1 J st1 hs1 wm h1 => ?_
  generalize hnb : (fun (v : Vl) (a : S') (s : Sto) => (match pat v with | some p => nb p a s | none => An.bad : An S' S')) = nb' at h1
  refine ⟨fun i m σ' H' => m = c.items.length - i ∧ i ≤ c.items.length ∧ ∃ β' a' s', Step β1 H1 β' H' ∧ RelL (cf X zx) H' β' (mk1 a') σ' ∧ RelS (cf X zx) β' s' H' ∧ PostN (cf X zx) W mk1 mkL ox β' H' D (forN c.ok mk1 nb' (c.items.drop i) a' s'),
    ⟨_, rfl, Nat.zero_le _, β1, a0, s1, Step.refl _ _, (hl.step st1).le h0, hs1, h1⟩, ?_⟩
  rintro i m σ' H' ⟨rfl, hi, β', a', s', st', hl', hs', q'⟩
  by_cases hlt : i < c.items.length
  · rw [List.drop_eq_getElem_cons hlt, forN] at q'
    by_cases ok : c.ok s'
    rotate_left
    · rw [if_neg ok] at q'; exact q'.elim
    rw [if_pos ok] at q'
    refine .inr ⟨wm.go i β' s' H' hlt st'.w hs' ok, fun σ2 H2 => i + 1 ≤ c.items.length ∧ ∃ β2 a2 s2, Step β1 H1 β2 H2 ∧ RelL (cf X zx) H2 β2 (mk1 a2) σ2 ∧ RelS (cf X zx) β2 s2 H2 ∧ PostN (cf X zx) W mk1 mkL ox β2 H2 D (forN c.ok mk1 nb' (c.items.drop (i + 1)) a2 s2),
      fun σ2 H2 h2 => ⟨_, by omega, rfl, h2.1, h2.2⟩, fun x H2 y => ?_⟩
    obtain ⟨sm, v, hv, rv⟩ := wm.yld i β' s' H' x H2 hlt st'.w hs' ok y
    rw [List.getElem?_eq_getElem hlt] at hv
    cases hv
    have st2 : Step β' H' β' H2 := Step.same sm
    refine ⟨β', mk1 a', s', _, hl'.step st2, hs'.same sm, rv, ?_⟩
    have q2 := PostN.step q' st2
    generalize c.items[i] = v at q2 ⊢
    rw [← hnb] at q2
    dsimp only at q2
    rw [hgp]
    cases eg : pat v with
    | none => rw [eg] at q2; exact q2.elim
    | some p =>
      rw [eg] at q2
      dsimp only at q2
      rw [hnb] at q2
      intro β3 σ3 H3 st3 hl3 hs3
      have q3 := PostN.step q2 st3
      have hlen : β3.b.length = s'.length := hs3.len
      have tr : ∀ {β4 H4}, Step β3 H3 β4 H4 → Step β1 H1 β4 H4 := fun h => ((st'.trans st2).trans st3).trans h
      refine ⟨p, a', β3, s', hl3, hs3, ?_⟩
      have ongo : ∀ a4 s4, PostN (cf X zx) W mk1 mkL ox β3 H3 D (tidyN mk1 s'.length a4 s4 (forN c.ok mk1 nb' (c.items.drop (i + 1)))) → ∀ β4 σ4 H4, Step β3 H3 β4 H4 → RelL (cf X zx) H4 β4 (mk1 a4) σ4 → RelS (cf X zx) β4 s4 H4 →
          i + 1 ≤ c.items.length ∧ ∃ β2 a2 s2, Step β1 H1 β2 H4 ∧ RelL (cf X zx) H4 β2 (mk1 a2) σ4 ∧ RelS (cf X zx) β2 s2 H4 ∧ PostN (cf X zx) W mk1 mkL ox β2 H4 D (forN c.ok mk1 nb' (c.items.drop (i + 1)) a2 s2) := fun a4 s4 q4 β4 σ4 H4 st4 hl4 hs4 => by
        obtain ⟨β5, s5, st5, hl5, hs5, q5⟩ := tidy_go q4 (Nat.le_of_eq hlen) st4 hl4 hs4
        exact ⟨hlt, β5, a4, s5, tr st5, hl5, hs5, q5⟩
      cases eb : nb p a' s' with
      | nx a4 s4 => rw [eb] at q3; exact ongo a4 s4 q3
      | ct a4 s4 => rw [eb] at q3; exact ongo a4 s4 q3
      | bk a4 s4 =>
        rw [eb] at q3
        intro β4 σ4 H4 st4 hl4 hs4
        obtain ⟨β5, s5, st5, hl5, hs5, q5⟩ := tidy_go (k := fun a s => .nx a s) q3 (Nat.le_of_eq hlen) st4 hl4 hs4
        exact q5 β5 σ4 H4 (Step.refl _ _) hl5 hs5
      | rt v s4 => rw [eb] at q3; exact q3
      | ex x s4 => rw [eb] at q3; exact q3
      | bad => rw [eb] at q3; exact q3
  · have e : i = c.items.length := by omega
    subst e
    rw [List.drop_length, forN] at q'
    by_cases ok : c.ok s'
    rotate_left
    · rw [if_neg ok] at q'; exact q'.elim
    rw [if_pos ok] at q'
    exact .inl ⟨wm.stop β' s' H' st'.w hs' ok, q' β' σ' H' (Step.refl _ _) hl' hs'⟩
end
section
variable {S L : Type}
noncomputable def whileF (mk : S → Loc) (tt : S → Sto → R Bool) (nb : S → Sto → An S S) : Nat → S → Sto → An S L
  | 0, _, _ => .bad
  | n + 1, a, s => (tt a s).an fun c s1 => if c = true then (nb a s1).lp mk s1.length (whileF mk tt nb n) else .nx a s1
open Classical in
noncomputable def whl (mk : S → Loc) (tt : S → Sto → R Bool) (nb : S → Sto → An S S) (a : S) (s : Sto) : An S L := if h : ∃ n, (whileF mk tt nb n a s : An S L) ≠ .bad then whileF mk tt nb h.choose a s else .bad
theorem tidy_mono {mk : S → Loc} {n : Nat} {a : S} {s : Sto} {k k' : S → Sto → An S L} (h : ∀ a s, k a s ≠ .bad → k' a s = k a s) (hb : tidyN mk n a s k ≠ .bad) : tidyN mk n a s k' = tidyN mk n a s k := by
  unfold tidyN at hb ⊢
  split
  · rename_i e; rw [if_pos e] at hb; exact h _ _ hb
  · rename_i e
    rw [if_neg e] at hb
    split
    · rename_i e2; rw [if_pos e2] at hb; exact h _ _ hb
    · rename_i e2; rw [if_neg e2] at hb; exact h _ _ hb
theorem whileF_mono {mk : S → Loc} {tt : S → Sto → R Bool} {nb : S → Sto → An S S} : ∀ {n m : Nat} {a : S} {s : Sto}, n ≤ m → (whileF mk tt nb n a s : An S L) ≠ .bad → (whileF mk tt nb m a s : An S L) = whileF mk tt nb n a s
  | 0, _, _, _, _, h => absurd rfl h
  | n + 1, 0, _, _, h, _ => by omega
  | n + 1, m + 1, a, s, h, hb => by
    rw [whileF] at hb ⊢
    rw [whileF]
    cases et : tt a s with
    | bad => rfl
    | ex x s1 => rfl
    | ok c s1 =>
      rw [et] at hb
      cases c with
      | false => rfl
      | true =>
        simp only [R.an_ok, if_true] at hb ⊢
        have key : ∀ a s, (whileF mk tt nb n a s : An S L) ≠ .bad → (whileF mk tt nb m a s : An S L) = whileF mk tt nb n a s := fun a s hb => whileF_mono (by omega) hb
        cases eb : nb a s1 with
        | nx ρ2 s2 => rw [eb] at hb; exact tidy_mono key hb
        | ct ρ2 s2 => rw [eb] at hb; exact tidy_mono key hb
        | _ => rfl
theorem whl_of {mk : S → Loc} {tt : S → Sto → R Bool} {nb : S → Sto → An S S} {n : Nat} {a : S} {s : Sto} (h : (whileF mk tt nb n a s : An S L) ≠ .bad) : (whl mk tt nb a s : An S L) = whileF mk tt nb n a s := by
  have hx : ∃ n, (whileF mk tt nb n a s : An S L) ≠ .bad := ⟨n, h⟩
  unfold whl
  rw [dif_pos hx]
  rcases Nat.le_total n hx.choose with z | z
  · exact whileF_mono z h
  · exact (whileF_mono z hx.choose_spec).symm
/-- one turn of a while -/
theorem whl_unfold {mk : S → Loc} {tt : S → Sto → R Bool} {nb : S → Sto → An S S} {a : S} {s : Sto} : (whl mk tt nb a s : An S L) = (tt a s).an fun c s1 => if c = true then (nb a s1).lp mk s1.length (whl mk tt nb) else .nx a s1 := by
  have main : ∀ r : An S L, r ≠ .bad → ((whl mk tt nb a s : An S L) = r ↔ ((tt a s).an fun c s1 => if c = true then (nb a s1).lp mk s1.length (whl mk tt nb) else .nx a s1 : An S L) = r) := by
    intro r hr
    constructor
    · intro h
      have hb : (whl mk tt nb a s : An S L) ≠ .bad := by rw [h]; exact hr
      have hx : ∃ n, (whileF mk tt nb n a s : An S L) ≠ .bad := by
        refine Classical.byContradiction fun z => hb ?_
        unfold whl
        rw [dif_neg z]
      obtain ⟨n, hn⟩ := hx
      rw [whl_of hn] at h
      rw [← h]
      cases n with
      | zero => exact absurd rfl hn
      | succ n =>
        rw [whileF] at hn ⊢
        cases et : tt a s with
        | bad => rfl
        | ex x s1 => rfl
        | ok c s1 =>
          rw [et] at hn
          cases c with
          | false => rfl
          | true =>
            simp only [R.an_ok, if_true] at hn ⊢
            have key : ∀ a s, (whileF mk tt nb n a s : An S L) ≠ .bad → (whl mk tt nb a s : An S L) = whileF mk tt nb n a s := fun a s hb => whl_of hb
            cases eb : nb a s1 with
            | nx ρ2 s2 => rw [eb] at hn; exact tidy_mono key hn
            | ct ρ2 s2 => rw [eb] at hn; exact tidy_mono key hn
            | _ => rfl
    · intro h
      -- some number of turns serves
      have : ∃ n, (whileF mk tt nb n a s : An S L) = r := by
        cases et : tt a s with
        | bad => rw [et] at h; exact absurd h.symm hr
        | ex x s1 => rw [et] at h; exact ⟨1, by rw [whileF, et]; exact h⟩
        | ok c s1 =>
          rw [et] at h
          cases c with
          | false => exact ⟨1, by rw [whileF, et]; exact h⟩
          | true =>
            simp only [R.an_ok, if_true] at h
            have go : ∀ a2 s2, (tidyN mk s1.length a2 s2 (whl mk tt nb) : An S L) = r → ∃ n, (tidyN mk s1.length a2 s2 (whileF mk tt nb n) : An S L) = r := by
              intro a2 s2 h2
              unfold tidyN at h2 ⊢
              have ex : ∀ a s, (whl mk tt nb a s : An S L) = r → ∃ n, (whileF mk tt nb n a s : An S L) = r := by
                intro a s h3
                unfold whl at h3
                split at h3
                · rename_i hx; exact ⟨_, h3⟩
                · exact absurd h3.symm hr
              split
              · rename_i e; rw [if_pos e] at h2; exact ex _ _ h2
              · rename_i e
                rw [if_neg e] at h2
                split
                · rename_i e2; rw [if_pos e2] at h2; exact ex _ _ h2
                · rename_i e2; rw [if_neg e2] at h2; exact ex _ _ h2
            cases eb : nb a s1 with
            | nx a2 s2 =>
              rw [eb] at h
              obtain ⟨n, hn⟩ := go a2 s2 h
              exact ⟨n + 1, by rw [whileF, et, R.an_ok, if_pos rfl, eb]; exact hn⟩
            | ct a2 s2 =>
              rw [eb] at h
              obtain ⟨n, hn⟩ := go a2 s2 h
              exact ⟨n + 1, by rw [whileF, et, R.an_ok, if_pos rfl, eb]; exact hn⟩
            | bk a2 s2 => rw [eb] at h; exact ⟨1, by rw [whileF, et, R.an_ok, if_pos rfl, eb]; exact h⟩
            | rt a2 s2 => rw [eb] at h; exact ⟨1, by rw [whileF, et, R.an_ok, if_pos rfl, eb]; exact h⟩
            | ex a2 s2 => rw [eb] at h; exact ⟨1, by rw [whileF, et, R.an_ok, if_pos rfl, eb]; exact h⟩
            | bad => rw [eb] at h; exact absurd h.symm hr
      obtain ⟨n, hn⟩ := this
      rw [← hn]
      exact whl_of (by rw [hn]; exact hr)
  by_cases h : (whl mk tt nb a s : An S L) = .bad
  · rw [h]
    refine Classical.byContradiction fun z => ?_
    have := (main _ (fun e => z e.symm)).mpr rfl
    rw [h] at this
    exact z this
  · exact ((main _ h).mp rfl).symm
end
section
variable {S' L : Type} {X : Cx} {zx : Exo} {W : WX} {mk1 : S' → Loc} {mkL : L → Loc} {ox : Option Loc} {ρ : Loc} {body : List Stmt} {pos : Pos}
theorem ns_while {c : Expr} {T : MT} {tt : S' → Sto → R Bool} {nb : S' → Sto → An S' S'} {a0 : S'} (hp : PassesOwn (model X.prog X.w) X.A X.env X.xe) (hc : DT X zx W c T) (hb : ∀ a, NSs X zx W ox mk1 mk1 (mk1 a) body (nb a)) (h0 : LeL (mk1 a0) ρ) (hox : ∀ a, OxLe ox (mk1 a)) (hT : ∀ a s, T (mk1 a) s = tt a s := by intro _ _; rfl) :
    NS X zx W ox mk1 mkL ρ (.While c body [] pos) (fun s => whl mk1 tt nb a0 s) := PS.imp (ps_while hp hc (pss_ex hb)) fun D σ H ⟨β, s, hl, hs, q⟩ => by
  dsimp only at q
  unfold whl at q
  split at q
  rotate_left
  · exact q.elim
  rename_i hx
  generalize hx.choose = n at q
  refine ⟨fun m σ' H' => ∃ β' a' s', RelL (cf X zx) H' β' (mk1 a') σ' ∧ RelS (cf X zx) β' s' H' ∧ PostN (cf X zx) W mk1 mkL ox β' H' D (whileF mk1 tt nb m a' s'), ⟨n, β, a0, s, hl.le h0, hs, q⟩, ?_⟩
  rintro m σ' H' ⟨β', a', s', hl', hs', q'⟩
  cases m with
  | zero => exact q'.elim
  | succ m =>
    rw [whileF] at q'
    refine ⟨β', mk1 a', s', hl', hs', ?_⟩
    rw [hT]
    refine PostN.an hl' (hox a') q' fun v s1 β1 H1 u st1 hs1 r1 h1 => ?_
    cases (show v = u from r1)
    cases v with
    | false => exact iteF (h1 β1 σ' H1 (Step.refl _ _) (hl'.step st1) hs1)
    | true =>
      have hlen : β1.b.length = s1.length := hs1.len
      refine iteT ⟨fun σ2 H2 => ∃ β2 a2 s2, RelL (cf X zx) H2 β2 (mk1 a2) σ2 ∧ RelS (cf X zx) β2 s2 H2 ∧ PostN (cf X zx) W mk1 mkL ox β2 H2 D (whileF mk1 tt nb m a2 s2), fun σ2 H2 h2 => ⟨m, Nat.lt_succ_self _, h2⟩, a', β1, s1, hl'.step st1, hs1, ?_⟩
      have h1 : PostN (cf X zx) W mk1 mkL ox β1 H1 D ((nb a' s1).lp mk1 s1.length (whileF mk1 tt nb m)) := h1
      have ongo : ∀ a4 s4, PostN (cf X zx) W mk1 mkL ox β1 H1 D (tidyN mk1 s1.length a4 s4 (whileF mk1 tt nb m)) → ∀ β4 σ4 H4, Step β1 H1 β4 H4 → RelL (cf X zx) H4 β4 (mk1 a4) σ4 → RelS (cf X zx) β4 s4 H4 →
          ∃ β2 a2 s2, RelL (cf X zx) H4 β2 (mk1 a2) σ4 ∧ RelS (cf X zx) β2 s2 H4 ∧ PostN (cf X zx) W mk1 mkL ox β2 H4 D (whileF mk1 tt nb m a2 s2) := fun a4 s4 q4 β4 σ4 H4 st4 hl4 hs4 => by
        obtain ⟨β5, s5, st5, hl5, hs5, q5⟩ := tidy_go q4 (Nat.le_of_eq hlen) st4 hl4 hs4
        exact ⟨β5, a4, s5, hl5, hs5, q5⟩
      cases eb : nb a' s1 with
      | nx a4 s4 => rw [eb] at h1; exact ongo a4 s4 h1
      | ct a4 s4 => rw [eb] at h1; exact ongo a4 s4 h1
      | bk a4 s4 =>
        rw [eb] at h1
        intro β4 σ4 H4 st4 hl4 hs4
        obtain ⟨β5, s5, st5, hl5, hs5, q5⟩ := tidy_go (k := fun a s => .nx a s) h1 (Nat.le_of_eq hlen) st4 hl4 hs4
        exact q5 β5 σ4 H4 (Step.refl _ _) hl5 hs5
      | rt v s4 => rw [eb] at h1; exact h1
      | ex x s4 => rw [eb] at h1; exact h1
      | bad => rw [eb] at h1; exact h1
end
end Pm
set_option maxRecDepth 100000
set_option maxHeartbeats 4000000
namespace Pm
open PySem PySem.Spec PyProof.Rows L2 Sw
def okX : Option Vl → Bool
  | some v => noX v
  | none => true
/-- behind a suite no exception is had by a name -/
def An.unx {S L : Type} (mk : S → Loc) (mkL : L → Loc) (f : An S L) : An S L := match f with
  | .nx a s => if (mk a).all okX = true then .nx a s else .bad
  | .rt v s => if noX v = true then .rt v s else .bad
  | .bk a s => if (mkL a).all okX = true then .bk a s else .bad
  | .ct a s => if (mkL a).all okX = true then .ct a s else .bad
  | _ => .bad
@[simp] theorem unx_rt {S L : Type} {mk : S → Loc} {mkL : L → Loc} {v : Vl} {s : Sto} : (An.rt v s : An S L).unx mk mkL = if noX v = true then .rt v s else .bad := rfl
@[simp] theorem unx_nx {S L : Type} {mk : S → Loc} {mkL : L → Loc} {a : S} {s : Sto} : (An.nx a s : An S L).unx mk mkL = if (mk a).all okX = true then .nx a s else .bad := rfl
@[simp] theorem unx_ct {S L : Type} {mk : S → Loc} {mkL : L → Loc} {a : L} {s : Sto} : (An.ct a s : An S L).unx mk mkL = if (mkL a).all okX = true then .ct a s else .bad := rfl
@[simp] theorem unx_bk {S L : Type} {mk : S → Loc} {mkL : L → Loc} {a : L} {s : Sto} : (An.bk a s : An S L).unx mk mkL = if (mkL a).all okX = true then .bk a s else .bad := rfl
def mkU (n : Nat) : Unit → Loc := fun _ => List.replicate n none
def mkE : Empty → Loc := fun a => a.elim
theorem post_finN {G : Cf} {E : XK} {β : Bs} {H : Hp} {Q : VK} {n : Nat} {f : An Unit Empty} (h : Post G (Rv G) (fun c d _ H => E c d H) [] β H Q f.fin) : PostN G (fun c d _ H => E c d H) (mkU n) mkE none β H { nx := fun _ H' => Q .non H', rt := Q } f := by
  cases f with
  | nx a s => exact fun β' σ' H' st _ hs => h β' H' .non st hs .non
  | rt v s => exact h
  | ex x s => exact fun β' σ' H' c d st _ hs r => h β' H' c d st hs r
  | bk a s => exact a.elim
  | ct a s => exact a.elim
  | bad => exact h.elim
/-- a def by its native function -/
def runN (nf : List Vl → Sto → An Unit Empty) : MF := fun xs s => (nf xs s).fin
section
variable {P : Program} {w : World} {K : PySem.W.Frag} {mg : Str → Option Value} {base : Heap}
theorem fnN_of {x qual : Str} {st : Stmt} {f : Addr} {fd : FuncData} {N ps : List Str} {k : Nat} {nf : List Vl → Sto → An Unit Empty} (F : Fun K x qual st f fd) (S : FnScope N ps (defScope st))
    (hb : ∀ (cdv : Value) (A : Around) (outer : List Env) (s : Shared) (H : Hp) (E : XK), A.guards = some [] → Room k (A.deeper (envOfC qual (defScope st) s.heap.objs.size f cdv)) →
      ∀ xs : List Vl, xs.length = ps.length → NSs (cxOf (L2.CX P w) P w K mg base N qual (defScope st) f cdv A outer s H E) none (fun c d _ H => E c d H) none (mkU N.length) mkE (startM N.length xs) (defBody st) (nf xs)) : FnD P w K mg base (k + 1) f fd ps (runN nf) := by
  refine ⟨fun A outer s H args us vs Q E hg hr e0 bd r hsp => ?_⟩
  obtain ⟨oc, od, kV, doc, pm, an, cdv, ct, osl, rfl, lk, hcd⟩ := F.ex
  obtain ⟨β, st0, xs, hs, rx, hlen, hp⟩ := hsp
  have ht := hb cdv A outer s H E hg (hr.deeper _) xs hlen
  have hvl : vs.length = ps.length := by rw [← rx.len]; exact hlen
  have kin : K.In s.heap := e0.mod.kin.keeps fun b o e => (e0.bs b o e).1
  refine codeAny_call_function hr.depth (kin _ _ lk) rfl S.co S.gen rfl (PySem.W.codeRec_of kin hcd) (bd _ _ _ _ ?_)
  refine wpAny_newFunctionEnv_cells S.kind ?_ fun env he s1 x => ?_
  · rintro ⟨n, v⟩ hy
    rcases S.par n (List.of_mem_zip hy).1 with q | q
    · exact .inl q
    · exact .inr ⟨q, PySem.W.cellsFrom_some _ _ _ (.inl q)⟩
  · subst he
    refine ⟨(e0.mod.nolimit.keeps fun b o e => (e0.bs b o e).1).keeps x.toInCall.keep, codeAny_func ?_⟩
    refine wpAny_mono (ht.run [] s1 (start N vs) H { nx := fun _ H' => Q .non H', rt := Q } (inv_start S hr.hd e0 hvl r x) ⟨β, st0, start_rel rx, hs, post_finN hp⟩) (fun fl s' hs => ?_) fun e s' hs => hs
    cases fl with
    | ret u =>
      obtain ⟨v, σ', H', J, rv, q⟩ := hs
      exact ⟨v, H', J.os, J.bare, J.base, J.hok, rv, q⟩
    | next =>
      obtain ⟨σ', H', J, q⟩ := hs
      exact ⟨V.non, H', J.os, J.bare, J.base, J.hok, rfl, q⟩
    | brk =>
      obtain ⟨_, _, _, q⟩ := hs
      exact q.elim
    | cont =>
      obtain ⟨_, _, _, q⟩ := hs
      exact q.elim
end
end Pm
set_option maxRecDepth 100000
set_option maxHeartbeats 4000000
namespace Pm
open PySem PySem.Spec PyProof.Rows L2 Sw
def refsOf : List Vl → List Nat
  | [] => []
  | .ref n :: r => n :: refsOf r
  | .lam _ _ _ _ _ :: r => 0 :: 0 :: refsOf r
  | _ :: r => refsOf r
def renam : Nat → List Vl → List Vl
  | _, [] => []
  | j, .ref _ :: r => .ref j :: renam (j + 1) r
  | j, v :: r => v :: renam j r
def pickS (s : Sto) : List Nat → Option Sto
  | [] => some []
  | n :: r => (s[n]?).bind fun o => (pickS s r).map (o :: ·)
def putB : Sto → List Nat → Sto → Sto
  | s, n :: r, o :: t => putB (s.set n o) r t
  | s, _, _ => s
def dvs (f : Vl → Option PyData) : List Vl → Option (List PyData)
  | [] => some []
  | v :: r => (f v).bind fun d => (dvs f r).map (d :: ·)
def dkv (f : Vl → Option PyData) : List (PyData × Vl) → Option (List (PyData × PyData))
  | [] => some []
  | p :: r => (f p.2).bind fun d => (dkv f r).map ((p.1, d) :: ·)
/-- what a def has laid, as data -/
def deepV (k : Nat) (s : Sto) : Nat → Vl → Option PyData
  | _, .dat p => some p
  | n + 1, .ref m => if m < k then none else match s[m]? with
    | some (.lst l) => (dvs (deepV k s n) l).map .list
    | some (.dic false l) => (dkv (deepV k s n) l).map .dict
    | some (.dic true l) => (dkv (deepV k s n) l).map fun z => .dict ((.none, .none) :: z)
    | some (.tup l) => (dvs (deepV k s n) l).bind fun ds => if isO ds = true then none else some (.tuple ds)
    | _ => none
  | _, _ => none
theorem dkv_dat {f : Vl → Option PyData} (h : ∀ p, f (.dat p) = some p) : ∀ ds : List (PyData × PyData), dkv f (ds.map fun p => (p.1, Vl.dat p.2)) = some ds
  | [] => rfl
  | (a, d) :: ds => by rw [List.map_cons, dkv, h, dkv_dat h ds]; rfl
theorem deep_dat {k n : Nat} {s : Sto} (p : PyData) : deepV k s n (.dat p) = some p := by cases n <;> rfl
theorem deep_dic {k m n : Nat} {s : Sto} {ds : List (PyData × PyData)} (h : s[m]? = some (.dic false (ds.map fun p => (p.1, Vl.dat p.2)))) (hm : ¬ m < k) : deepV k s (n + 1) (.ref m) = some (.dict ds) := by
  unfold deepV
  rw [if_neg hm, h]
  show (dkv (deepV k s n) (ds.map fun p => (p.1, Vl.dat p.2))).map _ = _
  rw [dkv_dat deep_dat]
  rfl
def frV (ks : List Nat) (s2 : Sto) : Vl → Option Vl
  | .dat p => some (.dat p)
  | .ref m => if m < ks.length then (ks[m]?).map Vl.ref else (deepV ks.length s2 4 (.ref m)).map .dat
  | _ => none
open Classical in
noncomputable def frameG (g : MF) : MF := fun xs s => if (refsOf xs).Nodup then (match pickS s (refsOf xs) with
  | none => .bad
  | some s0 => if stoOk 0 s0 then (match g (renam 0 xs) s0 with
    | .ok v s2 => if s0.length ≤ s2.length ∧ stoOk 0 (s2.take s0.length) then R.of (frV (refsOf xs) s2 v) (putB s (refsOf xs) s2) else .bad
    | .ex x s2 => if s0.length ≤ s2.length ∧ stoOk 0 (s2.take s0.length) then .ex x (putB s (refsOf xs) s2) else .bad
    | .bad => .bad) else .bad) else .bad
theorem Dq.conv {K : PySem.W.Frag} {H : Hp} {β β' : Bs} (i : ∀ x, x ∉ β.b → x ∉ β.g → x ∉ β'.b ∧ x ∉ β'.g) {v : V} {d : PyData} (h : Dq K H β v d) : Dq K H β' v d := h.tr (fun _ _ _ h => ⟨h.1, (i _ h.2.1 h.2.2).1, (i _ h.2.1 h.2.2).2⟩) fun _ _ _ h => h
section
variable {K : PySem.W.Frag} {mg : Str → Option Value} {H : Hp} {β β' : Bs}
theorem Rv.conv (i : ∀ x, x ∉ β.b → x ∉ β.g → x ∉ β'.b ∧ x ∉ β'.g) {v : Vl} {u : V} (h : refOk 0 v) (r : Rv ⟨K, mg, none⟩ H β v u) : Rv ⟨K, mg, none⟩ H β' v u := by
  cases v with
  | dat p => exact Dq.conv i r
  | ref m => exact absurd (show m < 0 from h) (Nat.not_lt_zero _)
  | scr ns => exact r
  | exo nm fs => obtain ⟨_, _, _, e, _⟩ := r; cases e
  | fn nm => exact r
  | lam f c q σ ρ =>
    obtain ⟨e, hc, nn, r⟩ := r
    refine ⟨e, hc, i _ nn.1 nn.2, r.1, fun j x e => ?_⟩
    obtain ⟨u, h1, h2⟩ := r.2 j x e
    refine ⟨u, h1, ?_⟩
    cases x with
    | inl p => exact Dq.conv i h2
    | inr m => exact absurd (h j m e) (Nat.not_lt_zero _)
theorem Rvs.conv (i : ∀ x, x ∉ β.b → x ∉ β.g → x ∉ β'.b ∧ x ∉ β'.g) : ∀ {vs : List Vl} {us : List V}, (∀ v ∈ vs, refOk 0 v) → Rvs ⟨K, mg, none⟩ H β vs us → Rvs ⟨K, mg, none⟩ H β' vs us
  | _, _, _, .nil => .nil
  | _, _, h, .cons r t => .cons (Rv.conv i (h _ List.mem_cons_self) r) (Rvs.conv i (fun p hp => h p (List.mem_cons_of_mem _ hp)) t)
theorem pair_conv (i : ∀ x, x ∉ β.b → x ∉ β.g → x ∉ β'.b ∧ x ∉ β'.g) {α : Type} {κ : α → Vl} {γ : Type} {μ : γ → V} {F : α → γ → Prop} : ∀ {l : List α} {m : List γ}, (∀ p ∈ l, refOk 0 (κ p)) → Paired (fun p q => F p q ∧ Rv ⟨K, mg, none⟩ H β (κ p) (μ q)) l m → Paired (fun p q => F p q ∧ Rv ⟨K, mg, none⟩ H β' (κ p) (μ q)) l m
  | _, _, _, .nil => .nil
  | _, _, h, .cons r t => .cons ⟨r.1, Rv.conv i (h _ List.mem_cons_self) r.2⟩ (pair_conv i (fun p hp => h p (List.mem_cons_of_mem _ hp)) t)
theorem RO.conv (i : ∀ x, x ∉ β.b → x ∉ β.g → x ∉ β'.b ∧ x ∉ β'.g) (hx : ∀ x a, H x = some (.own a) → x ∉ β'.b) {a : Addr} {o : Ob} (h : obOk 0 o) (r : RO ⟨K, mg, none⟩ H β a o) : RO ⟨K, mg, none⟩ H β' a o := by
  cases o with
  | tup l => obtain ⟨hl, xs, e, r⟩ := r; exact ⟨hl, xs, e, Rvs.conv i h r⟩
  | lst l => obtain ⟨hl, xs, e, r⟩ := r; exact ⟨hl, xs, e, Rvs.conv i h r⟩
  | dic t l =>
    cases t
    · obtain ⟨xs, e, r⟩ := r; exact ⟨xs, e, pair_conv i (κ := fun p : PyData × Vl => p.2) (μ := fun q : Key × V => q.2) (F := fun p q => p.1 = keyD q.1) h r⟩
    · obtain ⟨xs, e, r⟩ := r; exact ⟨xs, e, pair_conv i (κ := fun p : PyData × Vl => p.2) (μ := fun q : List Key × V => q.2) (F := fun p q => p.1 = keysD q.1) h r⟩
  | ins c l =>
    obtain ⟨C, dx, xs, hm, e, hd, nn, r⟩ := r
    exact ⟨C, dx, xs, hm, e, hd, hx dx a hd, pair_conv i (κ := fun p : Str × Vl => p.2) (μ := fun q : Str × V => q.2) (F := fun p q => p.1 = q.1) h r⟩
end
theorem stoOk_get {n : Nat} : ∀ {s : Sto} {i : Nat} {o : Ob}, stoOk n s → s[i]? = some o → obOk n o := fun h e => stoOk_iff.mp h _ (List.mem_of_getElem? e)
/-- which addresses are handed on -/
def pickA (b : List Addr) (ks : List Nat) : List Addr := ks.filterMap fun n => b[n]?
theorem pick_len {s : Sto} : ∀ {ks : List Nat} {s0 : Sto}, pickS s ks = some s0 → s0.length = ks.length ∧ (∀ n ∈ ks, n < s.length) ∧ ∀ (i n : Nat), ks[i]? = some n → s0[i]? = s[n]?
  | [], s0, h => by
    have : [] = s0 := by simpa [pickS] using h
    subst this
    exact ⟨rfl, (fun n h => by cases h), (fun i n h => by simp at h)⟩
  | n :: r, s0, h => by
    unfold pickS at h
    cases e : s[n]? with
    | none => rw [e] at h; cases h
    | some o =>
      rw [e] at h
      cases e2 : pickS s r with
      | none => rw [e2] at h; cases h
      | some t =>
        rw [e2] at h
        have : o :: t = s0 := by simpa using h
        subst this
        obtain ⟨h1, h2, h3⟩ := pick_len e2
        refine ⟨by simp [h1], fun m hm => ?_, fun i m hi => ?_⟩
        · rcases List.mem_cons.mp hm with rfl | hm
          · exact (List.getElem?_eq_some_iff.mp e).1
          · exact h2 m hm
        · cases i with
          | zero => have : n = m := by simpa using hi
                    subst this; simp [e]
          | succ i => simpa using h3 i m (by simpa using hi)
theorem pickA_get {b : List Addr} : ∀ {ks : List Nat}, (∀ n ∈ ks, n < b.length) → (pickA b ks).length = ks.length ∧ ∀ (i n : Nat), ks[i]? = some n → (pickA b ks)[i]? = b[n]?
  | [], _ => ⟨rfl, fun i n h => by simp at h⟩
  | k :: r, h => by
    have hk := h k List.mem_cons_self
    obtain ⟨h1, h2⟩ := pickA_get (b := b) (ks := r) fun n hn => h n (List.mem_cons_of_mem _ hn)
    have e : pickA b (k :: r) = b[k] :: pickA b r := by
      unfold pickA
      rw [List.filterMap_cons_some (List.getElem?_eq_getElem hk)]
    rw [e]
    refine ⟨by simp [h1], fun i n hi => ?_⟩
    cases i with
    | zero => have : k = n := by simpa using hi
              subst this; simp [List.getElem?_eq_getElem hk]
    | succ i => simpa using h2 i n (by simpa using hi)
theorem pickA_mem {b : List Addr} {ks : List Nat} {a : Addr} (h : a ∈ pickA b ks) : a ∈ b := by
  unfold pickA at h
  obtain ⟨n, _, e⟩ := List.mem_filterMap.mp h
  exact List.mem_of_getElem? e
theorem putB_len : ∀ {ks : List Nat} {s t : Sto}, (putB s ks t).length = s.length
  | [], s, t => by cases t <;> rfl
  | n :: r, s, [] => rfl
  | n :: r, s, o :: t => by
    show (putB (s.set n o) r t).length = _
    rw [putB_len, List.length_set]
theorem putB_get : ∀ {ks : List Nat} {s t : Sto}, ks.Nodup → ks.length ≤ t.length → (∀ n ∈ ks, n < s.length) →
    (∀ (i n : Nat), ks[i]? = some n → (putB s ks t)[n]? = t[i]?) ∧ ∀ n, n ∉ ks → (putB s ks t)[n]? = s[n]?
  | [], s, t, _, _, _ => ⟨fun i n h => by simp at h, fun n _ => by cases t <;> rfl⟩
  | k :: r, s, [], _, hl, _ => by simp at hl
  | k :: r, s, o :: t, hd, hl, hb => by
    have hd' := List.nodup_cons.mp hd
    obtain ⟨h1, h2⟩ := putB_get (ks := r) (s := s.set k o) (t := t) hd'.2 (by simpa using hl) (fun n hn => by rw [List.length_set]; exact hb n (List.mem_cons_of_mem _ hn))
    refine ⟨fun i n hi => ?_, fun n hn => ?_⟩
    · show (putB (s.set k o) r t)[n]? = _
      cases i with
      | zero =>
        have : k = n := by simpa using hi
        subst this
        rw [h2 k hd'.1, List.getElem?_set_self (hb k List.mem_cons_self)]
        rfl
      | succ i => rw [h1 i n (by simpa using hi)]; rfl
    · show (putB (s.set k o) r t)[n]? = _
      rw [h2 n (fun z => hn (List.mem_cons_of_mem _ z)), List.getElem?_set_ne (fun z => hn (by rw [← z]; exact List.mem_cons_self))]
section
variable {K : PySem.W.Frag} {mg : Str → Option Value}
theorem renam_rv {H : Hp} {β β' : Bs} (i : ∀ x, x ∉ β.b → x ∉ β.g → x ∉ β'.b ∧ x ∉ β'.g) : ∀ {xs : List Vl} {us : List V} {j : Nat}, (refsOf xs).Nodup → (∀ (m n : Nat), (refsOf xs)[m]? = some n → β'.b[j + m]? = β.b[n]?) → Rvs ⟨K, mg, none⟩ H β xs us → Rvs ⟨K, mg, none⟩ H β' (renam j xs) us
  | [], _, _, _, _, .nil => .nil
  | .ref n :: xs, _, j, nd, h, .cons r t => by
    obtain ⟨a, e, q⟩ := r
    refine .cons ⟨a, ?_, q⟩ (renam_rv i (xs := xs) (j := j + 1) (List.nodup_cons.mp (show (n :: refsOf xs).Nodup from nd)).2 (fun m k hk => ?_) t)
    · have := h 0 n rfl
      rw [Nat.add_zero] at this
      rw [this]; exact e
    · have := h (m + 1) k (by simpa [refsOf] using hk)
      rw [← this]
      congr 1; omega
  | .dat p :: xs, _, j, nd, h, .cons r t => .cons (Dq.conv i r) (renam_rv i (xs := xs) nd (fun m k hk => h m k (by simpa [refsOf] using hk)) t)
  | .scr p :: xs, _, j, nd, h, .cons r t => .cons r (renam_rv i (xs := xs) nd (fun m k hk => h m k (by simpa [refsOf] using hk)) t)
  | .exo p q :: xs, _, j, nd, h, .cons r t => by obtain ⟨_, _, _, e, _⟩ := r; cases e
  | .fn p :: xs, _, j, nd, h, .cons r t => .cons r (renam_rv i (xs := xs) nd (fun m k hk => h m k (by simpa [refsOf] using hk)) t)
  | .lam _ _ _ _ _ :: xs, _, j, nd, h, .cons r t => absurd (show (0 :: 0 :: refsOf xs).Nodup from nd) (by simp)
theorem renam_len : ∀ {xs : List Vl} {j : Nat}, (renam j xs).length = xs.length
  | [], _ => rfl
  | .ref n :: xs, j => by simp [renam, renam_len]
  | .dat p :: xs, j => by simp [renam, renam_len]
  | .scr p :: xs, j => by simp [renam, renam_len]
  | .exo p q :: xs, j => by simp [renam, renam_len]
  | .fn p :: xs, j => by simp [renam, renam_len]
  | .lam _ _ _ _ _ :: xs, j => by simp [renam, renam_len]
end
theorem dvs_dq {G : Cf} {H : Hp} {β β' : Bs} {f : Vl → Option PyData} (h : ∀ v u d, Rv G H β v u → f v = some d → Dq G.K H β' u d) : ∀ {vs : List Vl} {us : List V} {ds : List PyData}, Rvs G H β vs us → dvs f vs = some ds → DqAll G.K H β' us ds
  | _, _, _, .nil, e => by cases e; exact .nil
  | v :: vs, _, ds, .cons r t, e => by
    unfold dvs at e
    cases e1 : f v with
    | none => rw [e1] at e; cases e
    | some d =>
      rw [e1] at e
      cases e2 : dvs f vs with
      | none => rw [e2] at e; cases e
      | some l =>
        rw [e2] at e
        cases e
        exact .cons (h _ _ _ r e1) (dvs_dq h t e2)
theorem dkv_dq {G : Cf} {H : Hp} {β β' : Bs} {f : Vl → Option PyData} (h : ∀ v u d, Rv G H β v u → f v = some d → Dq G.K H β' u d) {κ : Type} {g : κ → PyData} : ∀ {vs : List (PyData × Vl)} {us : List (κ × V)} {ds : List (PyData × PyData)}, Paired (fun p q => p.1 = g q.1 ∧ Rv G H β p.2 q.2) vs us → dkv f vs = some ds → DqKv G.K H β' κ g us ds
  | _, _, _, .nil, e => by cases e; exact .nil
  | (a, v) :: vs, (b, u) :: us, ds, .cons ⟨ha, r⟩ t, e => by
    unfold dkv at e
    dsimp only at ha e r
    subst ha
    cases e1 : f v with
    | none => rw [e1] at e; cases e
    | some d =>
      rw [e1] at e
      cases e2 : dkv f vs with
      | none => rw [e2] at e; cases e
      | some l =>
        rw [e2] at e
        cases e
        exact .cons (h _ _ _ r e1) (dkv_dq h t e2)
theorem deep_dq {K : PySem.W.Frag} {mg : Str → Option Value} {H : Hp} {β β' : Bs} {s : Sto} {k : Nat} (hs : RelS ⟨K, mg, none⟩ β s H) (hb : ∀ x, x ∉ β.b → x ∉ β.g → x ∉ β'.b ∧ x ∉ β'.g) (ho : ∀ m a, ¬ m < k → β.b[m]? = some a → a ∉ β'.b ∧ a ∉ β'.g) : ∀ (n : Nat) (v : Vl) (u : V) (d : PyData), Rv ⟨K, mg, none⟩ H β v u → deepV k s n v = some d → Dq K H β' u d
  | 0, v, u, d, r, e => by
    cases v with
    | dat p => cases e; exact Dq.conv hb r
    | _ => cases e
  | n + 1, v, u, d, r, e => by
    cases v with
    | dat p => cases e; exact Dq.conv hb r
    | scr _ => cases e
    | exo _ _ => cases e
    | fn _ => cases e
    | lam _ _ _ _ _ => cases e
    | ref m =>
      obtain ⟨a, ha, rfl⟩ := r
      unfold deepV at e
      split at e
      · cases e
      · rename_i hm
        have hsd : ∀ o, H a = some o → Sd H β' a o := fun o h => ⟨h, ho m a hm ha⟩
        split at e
        · rename_i l hl
          obtain ⟨z, h1, h2⟩ := Option.map_eq_some_iff.mp e
          subst h2
          obtain ⟨hz, ys, h3, h4⟩ := hs.ob m _ a hl ha
          have dd := dvs_dq (fun v u d r e => deep_dq hs hb ho n v u d r e) h4 h1
          exact .lst (hsd _ h3) (by rw [← dd.len, ← h4.len]; exact hz) dd
        · rename_i l hl
          obtain ⟨z, h1, h2⟩ := Option.map_eq_some_iff.mp e
          subst h2
          obtain ⟨ys, h3, h4⟩ := hs.ob m _ a hl ha
          exact .dic (hsd _ h3) (dkv_dq (fun v u d r e => deep_dq hs hb ho n v u d r e) h4 h1)
        · rename_i l hl
          obtain ⟨z, h1, h2⟩ := Option.map_eq_some_iff.mp e
          subst h2
          obtain ⟨ys, h3, h4⟩ := hs.ob m _ a hl ha
          exact .dit (hsd _ h3) (dkv_dq (fun v u d r e => deep_dq hs hb ho n v u d r e) h4 h1)
        · rename_i l hl
          obtain ⟨z, h1, h2⟩ := Option.bind_eq_some_iff.mp e
          split at h2
          · cases h2
          · rename_i hO
            cases h2
            obtain ⟨hz, ys, h3, h4⟩ := hs.ob m _ a hl ha
            have dd := dvs_dq (fun v u d r e => deep_dq hs hb ho n v u d r e) h4 h1
            exact .tup (TupA.of (by simpa using hO) h3) (by rw [← dd.len, ← h4.len]; exact hz) dd
        · cases e
theorem FnD.frame {P : Program} {w : World} {K : PySem.W.Frag} {mg : Str → Option Value} {base : Heap} {f : Addr} {fd : FuncData} {ps : List Str} {k : Nat} {g : MF} (F : FnD P w K mg base k f fd ps g) : FnD P w K mg base k f fd ps (frameG g) := by
  refine ⟨fun A outer s H args us vs Q E hg hr e0 bd r ⟨β, s0, xs, hs, rx, hl, hp⟩ => ?_⟩
  unfold frameG at hp
  split at hp
  rotate_left
  · exact hp.elim
  rename_i hnd
  cases hpk : pickS s0 (refsOf xs) with
  | none => rw [hpk] at hp; exact hp.elim
  | some st =>
    rw [hpk] at hp
    dsimp only at hp
    split at hp
    rotate_left
    · exact hp.elim
    rename_i hok
    obtain ⟨hlen, hin, hat⟩ := pick_len hpk
    generalize hks : refsOf xs = ks at *
    have hinb : ∀ n ∈ ks, n < β.b.length := fun n hn => by rw [hs.len]; exact hin n hn
    obtain ⟨hal, hag⟩ := pickA_get hinb
    have hnda : (pickA β.b ks).Nodup := by
      have gen : ∀ ks : List Nat, ks.Nodup → (∀ n ∈ ks, n < β.b.length) → (pickA β.b ks).Nodup := by
        intro ks
        induction ks with
        | nil => intro _ _; exact List.nodup_nil
        | cons k r ih =>
          intro h1 h2
          have h1' := List.nodup_cons.mp h1
          have hk := h2 k List.mem_cons_self
          have e : pickA β.b (k :: r) = β.b[k] :: pickA β.b r := by
            unfold pickA
            rw [List.filterMap_cons_some (List.getElem?_eq_getElem hk)]
          rw [e, List.nodup_cons]
          refine ⟨fun z => ?_, ih h1'.2 fun n hn => h2 n (List.mem_cons_of_mem _ hn)⟩
          unfold pickA at z
          obtain ⟨n, hn, en⟩ := List.mem_filterMap.mp z
          have hn2 := h2 n (List.mem_cons_of_mem _ hn)
          rw [List.getElem?_eq_getElem hn2] at en
          have := (List.getElem_inj hs.nd).mp (Option.some.inj en)
          exact h1'.1 (by rw [← this]; exact hn)
      exact gen ks hnd hinb
    have hconv : ∀ x, x ∉ β.b → x ∉ β.g → x ∉ (⟨pickA β.b ks, (β.b.filter fun a => decide (a ∉ pickA β.b ks)) ++ β.g⟩ : Bs).b ∧ x ∉ (⟨pickA β.b ks, (β.b.filter fun a => decide (a ∉ pickA β.b ks)) ++ β.g⟩ : Bs).g := fun x h1 h2 => by
      refine ⟨fun z => h1 (pickA_mem z), fun z => ?_⟩
      rcases List.mem_append.mp z with z | z
      · exact h1 (List.mem_filter.mp z).1
      · exact h2 z
    generalize hβ' : (⟨pickA β.b ks, (β.b.filter fun a => decide (a ∉ pickA β.b ks)) ++ β.g⟩ : Bs) = β' at hconv
    have hb' : β'.b = pickA β.b ks := by rw [← hβ']
    have hg' : β'.g = (β.b.filter fun a => decide (a ∉ pickA β.b ks)) ++ β.g := by rw [← hβ']
    have notown : ∀ x a, H x = some (.own a) → x ∉ β.b := fun x a e z => by
      obtain ⟨n, hn, en⟩ := List.getElem_of_mem z
      have hn2 : n < s0.length := by rw [← hs.len]; exact hn
      have ro := hs.ob n _ x (List.getElem?_eq_getElem hn2) (by rw [List.getElem?_eq_getElem hn, en])
      generalize s0[n] = o at ro
      cases o with
      | lst l => obtain ⟨_, xs, e2, _⟩ := ro; rw [e] at e2; cases e2
      | dic t l => cases t <;> (obtain ⟨xs, e2, _⟩ := ro; rw [e] at e2; cases e2)
      | ins c l => obtain ⟨_, _, xs, _, e2, _⟩ := ro; rw [e] at e2; cases e2
      | tup l => obtain ⟨_, xs, e2, _⟩ := ro; rw [e] at e2; cases e2
    have tbβ : ∀ {H : Hp}, TabsB β H → TabsB β' H := fun t => TabsB.mono (β := β) (β' := β') (fun x hx => .inl (pickA_mem (by rw [hb'] at hx; exact hx))) (fun x hx => by
      rw [hg'] at hx
      rcases List.mem_append.mp hx with z | z
      · exact .inl (List.mem_filter.mp z).1
      · exact .inr (.inl z)) t
    have hs' : RelS ⟨K, mg, none⟩ β' st H := by
      refine ⟨by rw [hb', hal, hlen], by rw [hb']; exact hnda, fun n o a h1 h2 => ?_, fun a ha => ?_, tbβ hs.tb⟩
      · have hn : n < ks.length := by rw [← hlen]; exact (List.getElem?_eq_some_iff.mp h1).1
        have e1 := hat n _ (List.getElem?_eq_getElem hn)
        have e2 := hag n _ (List.getElem?_eq_getElem hn)
        rw [hb', e2] at h2
        rw [e1] at h1
        refine RO.conv hconv (fun x a2 e z => ?_) (stoOk_get hok (by rw [e1]; exact h1)) (hs.ob _ o a h1 h2)
        rw [hb'] at z
        exact notown x a2 e (pickA_mem z)
      · rw [hg'] at ha
        rcases List.mem_append.mp ha with z | z
        · obtain ⟨z1, z2⟩ := List.mem_filter.mp z
          obtain ⟨x, hx, _⟩ := hs.own z1
          exact ⟨⟨x, hx⟩, by rw [hb']; simpa using z2⟩
        · obtain ⟨h1, h2⟩ := hs.gs a z
          exact ⟨h1, fun y => h2 (pickA_mem (by rw [hb'] at y; exact y))⟩
    have rx' : Rvs ⟨K, mg, none⟩ H β' (renam 0 xs) vs := renam_rv hconv (by rw [hks]; exact hnd) (fun m n hmn => by
      rw [hks] at hmn
      rw [Nat.zero_add, hb']
      exact hag m n hmn) rx
    refine F.goes A outer s H args us vs Q E hg hr e0 bd r ⟨β', st, renam 0 xs, hs', rx', by rw [renam_len]; exact hl, ?_⟩
    -- what follows
    have key : ∀ (s2 : Sto) β2 H', st.length ≤ s2.length → stoOk 0 (s2.take st.length) → Step β' H β2 H' → RelS ⟨K, mg, none⟩ β2 s2 H' → Step β H β H' ∧ RelS ⟨K, mg, none⟩ β (putB s0 ks s2) H' ∧ (∀ x, x ∉ β2.b → x ∉ β2.g → x ∉ β.b ∧ x ∉ β.g) ∧ (∀ m n, ks[m]? = some n → β2.b[m]? = β.b[n]?) := fun s2 β2 H' hl2 hok2 st2 hs2 => by
      have hback : ∀ x, x ∉ β2.b → x ∉ β2.g → x ∉ β.b ∧ x ∉ β.g := fun x h1 h2 => by
        refine ⟨fun z => ?_, fun z => h2 (st2.gsub x (by rw [hg']; exact List.mem_append_right _ z))⟩
        by_cases hx : x ∈ pickA β.b ks
        · obtain ⟨t, ht⟩ := st2.pre
          exact h1 (by rw [← ht, hb']; exact List.mem_append_left _ hx)
        · exact h2 (st2.gsub x (by rw [hg']; exact List.mem_append_left _ (List.mem_filter.mpr ⟨z, by simpa using hx⟩)))
      have stp : Step β H β H' := ⟨List.prefix_refl _, fun _ h => h, fun _ h => .inl h, fun _ h => .inl h, fun a o nt e n => st2.keep a o nt e fun z => n (pickA_mem (by rw [hb'] at z; exact z)), st2.tups, st2.frzs, st2.liv, fun t => TabsB.mono (β := β2) (β' := β) (fun x hx => Classical.byContradiction fun z => (hback x (fun h => z (.inl h)) (fun h => z (.inr (.inl h)))).1 hx) (fun x hx => Classical.byContradiction fun z => (hback x (fun h => z (.inl h)) (fun h => z (.inr (.inl h)))).2 hx) (st2.tbs (tbβ t))⟩
      have hbk : ∀ m n, ks[m]? = some n → β2.b[m]? = β.b[n]? := fun m n hmn => by
        obtain ⟨t, ht⟩ := st2.pre
        have hm : m < ks.length := (List.getElem?_eq_some_iff.mp hmn).1
        rw [← ht, List.getElem?_append_left (by rw [hb', hal]; exact hm), hb', hag m n hmn]
      obtain ⟨pg1, pg2⟩ := putB_get (ks := ks) (s := s0) (t := s2) hnd (by rw [← hlen]; exact hl2) hin
      refine ⟨stp, ⟨by rw [putB_len, hs.len], hs.nd, fun n o a h1 h2 => ?_, fun a ha => ?_, stp.tbs hs.tb⟩, hback, hbk⟩
      · by_cases hn : n ∈ ks
        · obtain ⟨m, hm, em⟩ := List.getElem_of_mem hn
          have e1 : ks[m]? = some n := by rw [List.getElem?_eq_getElem hm, em]
          rw [pg1 m n e1] at h1
          refine RO.conv hback (fun x a2 e z => ?_) (stoOk_get hok2 (by rw [List.getElem?_take_of_lt (by rw [hlen]; exact hm)]; exact h1)) (hs2.ob m o a h1 (by rw [hbk m n e1]; exact h2))
          -- an own dict is none of the store's
          obtain ⟨i, hi, ei⟩ := List.getElem_of_mem z
          obtain ⟨y, hy, hyo⟩ := hs.own z
          by_cases hx : x ∈ pickA β.b ks
          · obtain ⟨t, ht⟩ := st2.pre
            have hx2 : x ∈ β2.b := by rw [← ht, hb']; exact List.mem_append_left _ hx
            obtain ⟨j, hj, ej⟩ := List.getElem_of_mem hx2
            have hj2 : j < s2.length := by rw [← hs2.len]; exact hj
            have ro := hs2.ob j _ x (List.getElem?_eq_getElem hj2) (by rw [List.getElem?_eq_getElem hj, ej])
            generalize s2[j] = o3 at ro
            cases o3 with
            | lst l => obtain ⟨_, xs, e2, _⟩ := ro; rw [e] at e2; cases e2
            | dic t l => cases t <;> (obtain ⟨xs, e2, _⟩ := ro; rw [e] at e2; cases e2)
            | ins c l => obtain ⟨_, _, xs, _, e2, _⟩ := ro; rw [e] at e2; cases e2
            | tup l => obtain ⟨_, xs, e2, _⟩ := ro; rw [e] at e2; cases e2
          · have := st2.keep x y hyo hy (by rw [hb']; exact hx)
            rw [e] at this
            cases this
            exact notown x a2 hy z
        · rw [pg2 n hn] at h1
          have ro := hs.ob n o a h1 h2
          have hna : a ∉ β'.b := fun z => by
            rw [hb'] at z
            obtain ⟨m, hm, em⟩ := List.getElem_of_mem z
            rw [hal] at hm
            have e2 := hag m _ (List.getElem?_eq_getElem hm)
            rw [List.getElem?_eq_getElem (by rw [hal]; exact hm), em, ← h2] at e2
            obtain ⟨i1, q1⟩ := List.getElem?_eq_some_iff.mp h2
            have b1 := hinb _ (List.getElem_mem hm)
            rw [List.getElem?_eq_getElem i1, List.getElem?_eq_getElem b1] at e2
            have := (List.getElem_inj hs.nd).mp (Option.some.inj e2)
            exact hn (by rw [this]; exact List.getElem_mem hm)
          obtain ⟨x, hx, hnt⟩ := ro.ownN
          exact ro.step stp (by rw [st2.keep a x hnt hx hna, hx])
      · obtain ⟨⟨o, ho⟩, hn⟩ := hs.gs a ha
        exact ⟨st2.liv a o ho, hn⟩
    cases eg : g (renam 0 xs) st with
    | bad => rw [eg] at hp; exact hp.elim
    | ex x s2 =>
      rw [eg] at hp
      dsimp only at hp
      split at hp
      rotate_left
      · exact hp.elim
      rename_i hc
      intro β2 H' c d st2 hs2 rx2
      obtain ⟨stp, hsn, hback, _⟩ := key s2 β2 H' hc.1 hc.2 st2 hs2
      refine hp β H' c d stp hsn ?_
      obtain ⟨C, dd, ys, h1, h2, h3, h4, h5, h6⟩ := rx2
      refine ⟨C, dd, ys, h1, h2, h3, h4, fun z => ?_, Paired.mapP h6 fun p q z => ⟨z.1, Dq.conv hback z.2⟩⟩
      obtain ⟨n, hn, en⟩ := List.getElem_of_mem z
      have hn2 : n < (putB s0 ks s2).length := by rw [← hsn.len]; exact hn
      have ro := hsn.ob n _ dd (List.getElem?_eq_getElem hn2) (by rw [List.getElem?_eq_getElem hn, en])
      generalize (putB s0 ks s2)[n] = o at ro
      cases o with
      | lst l => obtain ⟨_, xs, e2, _⟩ := ro; rw [h4] at e2; cases e2
      | dic t l => cases t <;> (obtain ⟨xs, e2, _⟩ := ro; rw [h4] at e2; cases e2)
      | ins c l => obtain ⟨_, _, xs, _, e2, _⟩ := ro; rw [h4] at e2; cases e2
      | tup l => obtain ⟨_, xs, e2, _⟩ := ro; rw [h4] at e2; cases e2
    | ok v s2 =>
      rw [eg] at hp
      dsimp only at hp
      split at hp
      rotate_left
      · exact hp.elim
      rename_i hc
      intro β2 H' u st2 hs2 rv2
      obtain ⟨stp, hsn, hback, hbk⟩ := key s2 β2 H' hc.1 hc.2 st2 hs2
      cases ev : frV ks s2 v with
      | none => rw [ev] at hp; exact hp.elim
      | some z =>
        rw [ev] at hp
        refine hp β H' u stp hsn ?_
        cases v with
        | dat p => cases ev; exact Dq.conv hback rv2
        | scr p => cases ev
        | exo p q => cases ev
        | fn _ => cases ev
        | lam _ _ _ _ _ => cases ev
        | ref m =>
          obtain ⟨a, ha, rfl⟩ := rv2
          unfold frV at ev
          dsimp only at ev
          split at ev
          · rename_i hm
            rw [List.getElem?_eq_getElem hm] at ev
            cases ev
            exact ⟨a, by rw [← hbk m _ (List.getElem?_eq_getElem hm)]; exact ha, rfl⟩
          · obtain ⟨z', ez, rfl⟩ := Option.map_eq_some_iff.mp ev
            refine deep_dq hs2 hback (fun m a hm ha => ?_) 4 (.ref m) (.ref a) z' ⟨a, ha, rfl⟩ ez
            have hag2 : a ∉ β2.g := fun z => (hs2.gs a z).2 (List.mem_of_getElem? ha)
            have hanb : a ∉ β.b := fun z => by
              by_cases hx : a ∈ pickA β.b ks
              · obtain ⟨t, ht⟩ := st2.pre
                obtain ⟨j, hj, ej⟩ := List.getElem_of_mem hx
                have e3 : β2.b[j]? = some a := by rw [← ht, hb', List.getElem?_append_left hj, List.getElem?_eq_getElem hj, ej]
                obtain ⟨i1, q1⟩ := List.getElem?_eq_some_iff.mp e3
                obtain ⟨i2, q2⟩ := List.getElem?_eq_some_iff.mp ha
                have := (List.getElem_inj hs2.nd).mp (q1.trans q2.symm)
                rw [hal] at hj
                omega
              · exact hag2 (st2.gsub a (by rw [hg']; exact List.mem_append_left _ (List.mem_filter.mpr ⟨z, by simpa using hx⟩)))
            exact ⟨hanb, fun z => hag2 (st2.gsub a (by rw [hg']; exact List.mem_append_right _ z))⟩
end Pm
set_option maxRecDepth 100000
set_option maxHeartbeats 4000000
namespace Pm
open PySem PySem.Spec PyProof.Rows L2 Sw
def pV : Vl → Option Vl := some
def pT1 {A : Type} (p : Vl → Option A) : Vl → Option A := fun v => match v with
  | .dat (.tuple [x]) => p (.dat x)
  | _ => none
def pT2 {A B : Type} (p : Vl → Option A) (q : Vl → Option B) : Vl → Option (A × B) := fun v => match v with
  | .dat (.tuple [x, y]) => (p (.dat x)).bind fun a => (q (.dat y)).map fun b => (a, b)
  | _ => none
def pT3 {A B C : Type} (p : Vl → Option A) (q : Vl → Option B) (r : Vl → Option C) : Vl → Option (A × B × C) := fun v => match v with
  | .dat (.tuple [x, y, z]) => (p (.dat x)).bind fun a => (q (.dat y)).bind fun b => (r (.dat z)).map fun c => (a, b, c)
  | _ => none
def pT4 {A B C D : Type} (p : Vl → Option A) (q : Vl → Option B) (r : Vl → Option C) (t : Vl → Option D) : Vl → Option (A × B × C × D) := fun v => match v with
  | .dat (.tuple [x, y, z, w]) => (p (.dat x)).bind fun a => (q (.dat y)).bind fun b => (r (.dat z)).bind fun c => (t (.dat w)).map fun d => (a, b, c, d)
  | _ => none
@[simp] theorem pV_ap {v : Vl} : pV v = some v := rfl
@[simp] theorem pT1_ap {A : Type} {p : Vl → Option A} {x : PyData} : pT1 p (.dat (.tuple [x])) = p (.dat x) := rfl
@[simp] theorem pT2_ap {A B : Type} {p : Vl → Option A} {q : Vl → Option B} {x y : PyData} : pT2 p q (.dat (.tuple [x, y])) = (p (.dat x)).bind fun a => (q (.dat y)).map fun b => (a, b) := rfl
@[simp] theorem pT3_ap {A B C : Type} {p : Vl → Option A} {q : Vl → Option B} {r : Vl → Option C} {x y z : PyData} : pT3 p q r (.dat (.tuple [x, y, z])) = (p (.dat x)).bind fun a => (q (.dat y)).bind fun b => (r (.dat z)).map fun c => (a, b, c) := rfl
@[simp] theorem pT4_ap {A B C D : Type} {p : Vl → Option A} {q : Vl → Option B} {r : Vl → Option C} {t : Vl → Option D} {x y z w : PyData} : pT4 p q r t (.dat (.tuple [x, y, z, w])) = (p (.dat x)).bind fun a => (q (.dat y)).bind fun b => (r (.dat z)).bind fun c => (t (.dat w)).map fun d => (a, b, c, d) := rfl
/-- what a target does -/
def TgP {P : Type} (g : MG) (p : Vl → Option P) (st : P → Loc → Loc) : Prop := ∀ v ρ s, g v ρ s = (match p v with | some x => .nx (st x ρ) s | none => .bad)
theorem tgp_n {i : Nat} : TgP (gSetM i) pV (fun v ρ => ρ.set i (some v)) := fun _ _ _ => rfl
theorem gTup_bad {n : Nat} {r : MGs} {v : Vl} {ρ : Loc} {s : Sto} (h : ∀ ds, v = .dat (.tuple ds) → ds.length ≠ n) : gTupM n r v ρ s = .bad := by
  unfold gTupM
  split
  · rename_i ds
    exact if_neg (h ds rfl)
  · rfl
theorem pT2_none {A B : Type} {p1 : Vl → Option A} {p2 : Vl → Option B} {v : Vl} (h : ¬ ∃ x y, v = .dat (.tuple [x, y])) : pT2 p1 p2 v = none := by
  unfold pT2
  split
  · exact absurd ⟨_, _, rfl⟩ h
  · rfl
theorem tgp_2 {A B : Type} {g1 g2 : MG} {p1 : Vl → Option A} {p2 : Vl → Option B} {st1 : A → Loc → Loc} {st2 : B → Loc → Loc} (h1 : TgP g1 p1 st1) (h2 : TgP g2 p2 st2) : TgP (gTupM 2 (gConsM g1 (gConsM g2 gNilM))) (pT2 p1 p2) (fun p ρ => (st2 p.2 (st1 p.1 ρ))) := fun v ρ s => by
  by_cases hv : ∃ x y, v = .dat (.tuple [x, y])
  · obtain ⟨x, y, rfl⟩ := hv
    show (if 2 = 2 then ((g1 (.dat x) ρ s).thn fun ρ1 s1 => (g2 (.dat y) ρ1 s1).thn fun ρ2 s2 => gNilM [] ρ2 s2) else (.bad : Fl)) = _
    rw [if_pos rfl, h1]
    rw [pT2_ap]
    cases e1 : p1 (.dat x) with
    | none => rfl
    | some a1 =>
      show ((g2 (.dat y) (st1 a1 ρ) s).thn _) = _
      rw [h2]
      dsimp only [Option.bind_some]
      cases e2 : p2 (.dat y) with
      | none => rfl
      | some a2 =>
        rfl
  · rw [pT2_none hv]
    refine gTup_bad fun ds e hl => ?_
    match ds, hl with
    | [x, y], _ => exact hv ⟨x, y, e⟩
def patN {S L P : Type} (o : Option P) (k : P → An S L) : An S L := match o with
  | some p => k p
  | none => .bad
@[simp] theorem patN_some {S L P : Type} (p : P) (k : P → An S L) : patN (some p) k = k p := rfl
@[simp] theorem patN_none {S L P : Type} (k : P → An S L) : patN none k = .bad := rfl
def callN (n : Nat) (g : MF) (vs : List Vl) (s : Sto) : R Vl := if vs.length = n ∧ vs.all noX = true then g vs s else .bad
def tupN (vs : List Vl) : Option Vl := (datas vs).bind fun ds => if ds.length ≤ 1000 then some (.dat (.tuple ds)) else none
def lstN (vs : List Vl) : Option Vl := (datas vs).bind fun ds => if ds.length ≤ 1000 then some (.dat (.list ds)) else none
def newN (vs : List Vl) (s : Sto) : R Vl := if vs.length ≤ 1000 ∧ vs.all noX = true then .ok (.ref s.length) (s ++ [.lst vs]) else .bad
def andN (v : Vl) (s : Sto) (r : R Vl) : R Vl := match tru v s with
  | some true => r
  | some false => .ok v s
  | none => .bad
def orN (v : Vl) (s : Sto) (r : R Vl) : R Vl := match tru v s with
  | some true => .ok v s
  | some false => r
  | none => .bad
def notV (v : Vl) (s : Sto) : Option Vl := (tru v s).map fun k => .dat (.bool (!k))
def optN (o : Option Vl) (s : Sto) : R Vl := match o with
  | some v => .ok v s
  | none => .bad
def appN (v : Vl) (s1 : Sto) (r : Sto → R (List Vl)) : R Vl := match v with
  | .ref n => (match lstAt s1 n with
    | none => .bad
    | some _ => (r s1).bind fun vs s2 => match vs, lstAt s2 n with
      | [w], some l => if l.length < mil ∧ noX w = true then .ok (.dat .none) (s2.set n (.lst (l ++ [w]))) else .bad
      | _, _ => .bad)
  | _ => .bad
def extN (v : Vl) (s1 : Sto) (r : Sto → R (List Vl)) : R Vl := match v with
  | .ref n => (match lstAt s1 n with
    | none => .bad
    | some _ => (r s1).bind fun vs s2 => match vs, lstAt s2 n with
      | [.dat (.list ds)], some l => if l.length + ds.length ≤ mil then .ok (.dat .none) (s2.set n (.lst (l ++ ds.map Vl.dat))) else .bad
      | _, _ => .bad)
  | _ => .bad
@[simp] theorem callN_ap {n : Nat} {g : MF} {vs : List Vl} {s : Sto} : callN n g vs s = if vs.length = n ∧ vs.all noX = true then g vs s else .bad := rfl
@[simp] theorem tupN_ap {vs : List Vl} : tupN vs = (datas vs).bind fun ds => if ds.length ≤ 1000 then some (.dat (.tuple ds)) else none := rfl
@[simp] theorem lstN_ap {vs : List Vl} : lstN vs = (datas vs).bind fun ds => if ds.length ≤ 1000 then some (.dat (.list ds)) else none := rfl
@[simp] theorem newN_ap {vs : List Vl} {s : Sto} : newN vs s = if vs.length ≤ 1000 ∧ vs.all noX = true then .ok (.ref s.length) (s ++ [.lst vs]) else .bad := rfl
@[simp] theorem andN_ap {v : Vl} {s : Sto} {r : R Vl} : andN v s r = (match tru v s with | some true => r | some false => .ok v s | none => .bad) := rfl
@[simp] theorem orN_ap {v : Vl} {s : Sto} {r : R Vl} : orN v s r = (match tru v s with | some true => .ok v s | some false => r | none => .bad) := rfl
@[simp] theorem notV_ap {v : Vl} {s : Sto} : notV v s = (tru v s).map fun k => .dat (.bool (!k)) := rfl
@[simp] theorem optN_some {v : Vl} {s : Sto} : optN (some v) s = .ok v s := rfl
def par2N {S L : Type} (vs : List Vl) (k : Vl → Vl → An S L) : An S L := match vs with
  | [v, w] => k v w
  | _ => .bad
def par3N {S L : Type} (vs : List Vl) (k : Vl → Vl → Vl → An S L) : An S L := match vs with
  | [v, w, u] => k v w u
  | _ => .bad
@[simp] theorem par2N_ap {S L : Type} {v w : Vl} (k : Vl → Vl → An S L) : par2N [v, w] k = k v w := rfl
@[simp] theorem par3N_ap {S L : Type} {v w u : Vl} (k : Vl → Vl → Vl → An S L) : par3N [v, w, u] k = k v w u := rfl
open Classical in
noncomputable def rngN1 (vs : List Vl) (s1 : Sto) : R Src := match vs with
  | [.dat (.int j)] => if In62 j then .ok ⟨rgs 0 j.toNat, none⟩ s1 else .bad
  | _ => .bad
def enN (vs : List Vl) (s1 : Sto) : R Src := match vs with
  | [.dat (.tuple ds)] => .ok ⟨pairs ds 0, none⟩ s1
  | _ => .bad
@[simp] theorem enN_ap {ds : List PyData} {s : Sto} : enN [.dat (.tuple ds)] s = .ok ⟨pairs ds 0, none⟩ s := rfl
theorem rngN1_n {n : Nat} {s : Sto} (h : n ≤ mil) : rngN1 [.dat (.int (n : Int))] s = .ok ⟨rgs 0 n, none⟩ s := by
  unfold rngN1
  simp only []
  rw [if_pos (i62 h), Int.toNat_natCast]
section
variable {S S' L : Type} {X : Cx} {zx : Exo} {W : WX} {mkS : S → Loc} {mkL : L → Loc} {ox : Option Loc} {ρ : Loc} {st : Stmt} {rest : List Stmt} {e : Expr} {F : ME} {f : Sto → R Vl} {pos : Pos}
theorem nss_par2 {i j : Nat} {x y : Str} {a b : Expr} {r : MA} {fr : Sto → R (List Vl)} {px py pt : Pos} {kt k2 pt2} {ρ' : Vl → Vl → Loc} {k : Vl → Vl → Sto → An S L} (hc : X.calm = true) (hN : X.N.Nodup) (hi : X.N[i]? = some x) (hj : X.N[j]? = some y) (hij : i ≠ j)
    (hx : X.env.scope.names.lookup x = some .local) (hy : X.env.scope.names.lookup y = some .local) (ha : DA X zx W [a, b] r) (h2 : ∀ v w, NSs X zx W ox mkS mkL (ρ' v w) rest (k v w)) (hox : OxLe ox ρ) (hF : ∀ s, r ρ s = fr s := by intro _; rfl) (hρ : ∀ v w, (ρ.set i (some v)).set j (some w) = ρ' v w := by intro _ _; rfl)
    (hw : swappedStores [.Tuple [.Name x px, .Name y py] kt pt] (.Tuple [a, b] k2 pt2) X.env = pure (some [x, y]) := by rfl)
    (hs : swapsWithSole [.Tuple [.Name x px, .Name y py] kt pt] (.Tuple [a, b] k2 pt2) pos.line X.env = pure false := by rfl) :
    NSs X zx W ox mkS mkL ρ (.Assign [.Tuple [.Name x px, .Name y py] kt pt] (.Tuple [a, b] k2 pt2) pos :: rest) (fun s => (fr s).an fun vs s1 => par2N vs fun v w => k v w s1) := nss_par hc hN hi hj hij hx hy ha h2 hox hF hρ hw hs
theorem ns_forP {P : Type} {mk1 : S' → Loc} {body : List Stmt} {tg iter : Expr} {IT : MI} {it : Sto → R Src} {g : MG} {pat : Vl → Option P} {stp : P → Loc → Loc} {ρb : P → S' → Loc} {nb : P → S' → Sto → An S' S'} {a0 : S'} (hp : PassesOwn (model X.prog X.w) X.A X.env X.xe) (hc : X.calm = true) (hi : DI X zx W tg iter IT) (hg : DG X zx tg g)
    (hgp : TgP g pat stp) (hb : ∀ p a, NSs X zx W ox mk1 mk1 (ρb p a) body (nb p a)) (h0 : LeL (mk1 a0) ρ) (hox : OxLe ox ρ) (hρ : ∀ p a, stp p (mk1 a) = ρb p a := by intro _ _; rfl) (hF : ∀ s, IT ρ s = it s := by intro _; rfl)
    (hs : ∀ x, foldedSetIterable iter X.env x = pure x := by intro _; rfl) :
    NS X zx W ox mk1 mkL ρ (.For tg iter body [] pos) (fun s => (it s).an fun c s1 => forN c.ok mk1 (fun v a s => patN (pat v) fun p => nb p a s) c.items a0 s1) := by
  have e : (fun (v : Vl) (a : S') (s : Sto) => (patN (pat v) fun p => nb p a s : An S' S')) = fun v a s => (match pat v with | some p => nb p a s | none => .bad) := by
    funext v a s
    cases pat v <;> rfl
  rw [e]
  exact ns_for hp hc hi hg hb (fun v a s => by
    rw [hgp v (mk1 a) s]
    cases pat v with
    | none => rfl
    | some p => dsimp only; rw [hρ]) h0 hox hF hs
/-- what is shown, said -/
theorem nss_at {mkS : S → Loc} {mkL : L → Loc} {ρ : Loc} {n : Sto → An S L} {b : List Stmt} (h : NSs X zx W ox mkS mkL ρ b n) : NSs X zx W ox mkS mkL ρ b n := h
/-- a, b, .. = value -/
theorem nss_asgT {tg : Expr} {g : MG} {P : Type} {pat : Vl → Option P} {stp : P → Loc → Loc} {ρ' : P → Loc} {k : P → Sto → An S L} (he : DE X zx W e F) (hg : DG X zx tg g) (hgp : TgP g pat stp) (h2 : ∀ p, NSs X zx W ox mkS mkL (ρ' p) rest (k p)) (hox : OxLe ox ρ)
    (hρ : ∀ p, stp p ρ = ρ' p := by intro _; rfl) (hF : ∀ s, F ρ s = f s := by intro _; rfl) (hs : swapsWithSole [tg] e pos.line X.env = pure false := by rfl) (hw : swappedStores [tg] e X.env = pure none := by rfl)
    (h1 : (assignEach [tg] X.env).map (·.2) = [assign tg X.env] := by rfl) : NSs X zx W ox mkS mkL ρ (.Assign [tg] e pos :: rest) (fun s => (f s).an fun v s1 => patN (pat v) fun p => k p s1) :=
  PSs.imp (pss_cons (ps_asg he hg hs hw h1) (pss_ex h2)) fun D σ H ⟨β, s, hl, hs, q⟩ => ⟨β, ρ, s, hl, hs, by
    rw [hF]
    refine PostN.an hl hox q fun v s1 β1 H1 u st1 hs1 r1 h1 => ⟨β1, ρ, s1, v, hl.step st1, hs1, r1, ?_⟩
    rw [hgp]
    cases e : pat v with
    | some p =>
      rw [e] at h1
      dsimp only
      rw [hρ]
      exact fun β' σ' H' st' hl' hs' => ⟨p, β', s1, hl', hs', PostN.step h1 st'⟩
    | none => rw [e] at h1; exact h1.elim⟩
/-- what a store into a part does -/
def TgS (ρ : Loc) (g : MG) (u : Vl → Sto → Option Sto) : Prop := ∀ v s, g v ρ s = (match u v s with | some s1 => .nx ρ s1 | none => .bad)
def stoN {S L : Type} (o : Option Sto) (k : Sto → An S L) : An S L := match o with
  | some s => k s
  | none => .bad
@[simp] theorem stoN_some {S L : Type} (s : Sto) (k : Sto → An S L) : stoN (some s) k = k s := rfl
theorem nss_asgS {tg : Expr} {g : MG} {u : Vl → Sto → Option Sto} {k : Sto → An S L} (he : DE X zx W e F) (hg : DG X zx tg g) (hgp : TgS ρ g u) (h2 : NSs X zx W ox mkS mkL ρ rest k) (hox : OxLe ox ρ) (hF : ∀ s, F ρ s = f s := by intro _; rfl) (hs : swapsWithSole [tg] e pos.line X.env = pure false := by rfl) (hw : swappedStores [tg] e X.env = pure none := by rfl)
    (h1 : (assignEach [tg] X.env).map (·.2) = [assign tg X.env] := by rfl) : NSs X zx W ox mkS mkL ρ (.Assign [tg] e pos :: rest) (fun s => (f s).an fun v s1 => stoN (u v s1) k) :=
  PSs.imp (pss_cons (ps_asg he hg hs hw h1) h2) fun D σ H ⟨β, s, hl, hs, q⟩ => ⟨β, ρ, s, hl, hs, by
    rw [hF]
    refine PostN.an hl hox q fun v s1 β1 H1 u1 st1 hs1 r1 h1 => ⟨β1, ρ, s1, v, hl.step st1, hs1, r1, ?_⟩
    rw [hgp]
    cases e : u v s1 with
    | some s2 => rw [e] at h1; exact fun β' σ' H' st' hl' hs' => ⟨β', s2, hl', hs', PostN.step h1 st'⟩
    | none => rw [e] at h1; exact h1.elim⟩
/-- xs[i] = v -/
def subU (o : R Vl) (g : Sto → R Vl) (v : Vl) : Option Sto := match o with
  | .ok (.ref n) s1 => (match g s1 with
    | .ok i s2 => putIx n i v s2
    | _ => none)
  | _ => none
theorem tgs_sub {o i : ME} {fo : Sto → R Vl} {fi : Sto → R Vl} (h1 : ∀ s, o ρ s = fo s := by intro _; rfl) (h2 : ∀ s, i ρ s = fi s := by intro _; rfl) : TgS ρ (gSubM o i) (fun v s => subU (fo s) fi v) := fun v s => by
  have e2 : i ρ = fi := funext h2
  show gSubM o i v ρ s = (match subU (fo s) fi v with | some s1 => .nx ρ s1 | none => .bad)
  unfold gSubM subU
  rw [h1, e2]
  generalize fo s = a
  cases a with
  | ok w s1 =>
    cases w with
    | ref n =>
      dsimp only
      generalize fi s1 = b
      cases b with
      | ok w2 s2 => rfl
      | _ => rfl
    | _ => rfl
  | _ => rfl
/-- xs[i] += e of ints -/
def getI (v i : Vl) (s : Sto) : Option Int := match v, i with
  | .ref n, .dat (.int k) => (lstAt s n).bind fun l => if 0 ≤ k then (match l[k.toNat]? with
    | some (.dat (.int old)) => some old
    | _ => none) else none
  | _, _ => none
def putI (v i y : Vl) (old : Int) (s : Sto) : Option Sto := match v, i, y with
  | .ref n, .dat (.int k), .dat (.int d) => (lstAt s n).bind fun l => if k < l.length then some (s.set n (.lst (l.set k.toNat (.dat (.int (old + d)))))) else none
  | _, _, _ => none
end
end Pm
set_option maxRecDepth 100000
set_option maxHeartbeats 4000000
namespace Pm
open PySem PySem.Spec PyProof.Rows L2 Sw
section
variable {K : PySem.W.Frag} {G : Cf} {H : Hp} {β : Bs} {p : Addr} {o : HO} {g' : List Addr}
theorem Gp.sdm (g : Gp β H p) (hg : ∀ x ∈ g', x ∈ β.g) {a : Addr} {x : HO} (h : Sd H β a x) : Sd (upd H p o) ⟨β.b ++ [p], g'⟩ a x := by
  have ne : a ≠ p := fun z => h.2.2 (by rw [z]; exact g.mem)
  refine ⟨by rw [upd_ne ne]; exact h.1, fun z => ?_, fun z => h.2.2 (hg a z)⟩
  rcases List.mem_append.mp (show a ∈ β.b ++ [p] from z) with z | z
  · exact h.2.1 z
  · exact ne (by simpa using z)
theorem Gp.dqm (g : Gp β H p) (hg : ∀ x ∈ g', x ∈ β.g) {v : V} {d : PyData} (h : Dq K H β v d) : Dq K (upd H p o) ⟨β.b ++ [p], g'⟩ v d := h.tr (fun _ _ _ h => g.sdm hg h) fun _ _ _ h => g.tupA h
theorem Rv.mine (g : Gp β H p) (hg : ∀ x ∈ g', x ∈ β.g) : ∀ {v : Vl} {u : V}, Rv G H β v u → Rv G (upd H p o) ⟨β.b ++ [p], g'⟩ v u
  | .dat _, _, h => g.dqm hg h
  | .ref n, _, ⟨a, e, q⟩ => ⟨a, by
      show (β.b ++ [p])[n]? = some a
      rw [List.getElem?_append_left (List.getElem?_eq_some_iff.mp e).1]
      exact e, q⟩
  | .scr _, _, ⟨a, e, q⟩ => ⟨a, e, g.scr q⟩
  | .exo _ _, _, ⟨a, c, d, e, q, C, dd, xs, h1, h2, h3, h4, h5, h6⟩ => by
    obtain ⟨y, hp, hc⟩ := g.lst
    have ne : dd ≠ p := ne_of h4 hp (isC_xd hc)
    refine ⟨a, c, d, e, q, C, dd, xs, h1, h2, h3, by rw [upd_ne ne]; exact h4, fun z => ?_, Paired.mapP h6 fun p q z => ⟨z.1, g.dqm hg z.2⟩⟩
    rcases List.mem_append.mp (show dd ∈ β.b ++ [p] from z) with z | z
    · exact h5 z
    · exact ne (by simpa using z)
  | .fn _, _, h => h
  | .lam _ c _ _ _, _, ⟨e, h, n, r⟩ => by
    obtain ⟨y, hp, hc⟩ := g.lst
    have ne : c ≠ p := ne_of h hp (isC_code hc)
    refine ⟨e, by rw [upd_ne ne]; exact h, ⟨fun z => ?_, fun z => n.2 (hg _ z)⟩, r.map (fun _ _ h => g.dqm hg h) fun m a e => ?_⟩
    · rcases List.mem_append.mp (show c ∈ β.b ++ [p] from z) with z | z
      · exact n.1 z
      · exact ne (by simpa using z)
    · show (β.b ++ [p])[m]? = some a
      rw [List.getElem?_append_left (List.getElem?_eq_some_iff.mp e).1]
      exact e
theorem Rvs.mine (g : Gp β H p) (hg : ∀ x ∈ g', x ∈ β.g) : ∀ {vs : List Vl} {us : List V}, Rvs G H β vs us → Rvs G (upd H p o) ⟨β.b ++ [p], g'⟩ vs us
  | _, _, .nil => .nil
  | _, _, .cons h r => .cons (Rv.mine g hg h) (Rvs.mine g hg r)
theorem RO.mine (g : Gp β H p) (hg : ∀ x ∈ g', x ∈ β.g) {a : Addr} {ob : Ob} (ne : a ≠ p) (h : RO G H β a ob) : RO G (upd H p o) ⟨β.b ++ [p], g'⟩ a ob := by
  cases ob with
  | tup l => obtain ⟨hl, xs, e, r⟩ := h; exact ⟨hl, xs, by rw [upd_ne ne]; exact e, Rvs.mine g hg r⟩
  | lst l => obtain ⟨hl, xs, e, r⟩ := h; exact ⟨hl, xs, by rw [upd_ne ne]; exact e, Rvs.mine g hg r⟩
  | dic t l => cases t <;> (obtain ⟨xs, e, r⟩ := h; exact ⟨xs, by rw [upd_ne ne]; exact e, Paired.mapP r fun p q z => ⟨z.1, Rv.mine g hg z.2⟩⟩)
  | ins c l =>
    obtain ⟨C, dx, xs, hm, e, hd, n, r⟩ := h
    obtain ⟨y, hp, hc⟩ := g.lst
    have nx : dx ≠ p := ne_of hd hp (isC_own hc)
    refine ⟨C, dx, xs, hm, by rw [upd_ne ne]; exact e, by rw [upd_ne nx]; exact hd, fun z => ?_, Paired.mapP r fun p q z => ⟨z.1, Rv.mine g hg z.2⟩⟩
    rcases List.mem_append.mp (show dx ∈ β.b ++ [p] from z) with z | z
    · exact n z
    · exact nx (by simpa using z)
theorem RelS.mine (g : Gp β H p) {s : Sto} {ob : Ob} (h : RelS G β s H) (hg : ∀ x ∈ g', x ∈ β.g) (r : RO G (upd H p o) ⟨β.b ++ [p], g'⟩ p ob) (hpg : p ∉ g' := by assumption) : RelS G ⟨β.b ++ [p], g'⟩ (s ++ [ob]) (upd H p o) := by
  have np := (h.gs p g.mem).2
  refine ⟨by simp [h.len], ?_, fun n x a h1 h2 => ?_, fun a ha => ?_, TabsB.mono (β := β) (β' := ⟨β.b ++ [p], g'⟩) (fun x hx => ?_) (fun x hx => .inr (.inl (hg x hx))) (h.tb.put (.inr g.mem))⟩
  rotate_right
  · rcases List.mem_append.mp (show x ∈ β.b ++ [p] from hx) with z | z
    · exact .inl z
    · exact .inr (.inl (by rw [show x = p by simpa using z]; exact g.mem))
  · show (β.b ++ [p]).Nodup
    rw [List.nodup_append]
    exact ⟨h.nd, by simp, fun a ha b hb => by
      have : b = p := by simpa using hb
      subst this
      exact fun z => np (z ▸ ha)⟩
  · have h2 : (β.b ++ [p])[n]? = some a := h2
    by_cases hlt : n < s.length
    · rw [List.getElem?_append_left hlt] at h1
      rw [List.getElem?_append_left (by rw [h.len]; exact hlt)] at h2
      exact (h.ob n x a h1 h2).mine g hg fun z => np (by rw [← z]; exact List.mem_of_getElem? h2)
    · have hlt2 : n < (s ++ [ob]).length := (List.getElem?_eq_some_iff.mp h1).1
      have : n = s.length := by simp at hlt2; omega
      subst this
      rw [List.getElem?_append_right (Nat.le_refl _), Nat.sub_self] at h1
      rw [← h.len, List.getElem?_append_right (Nat.le_refl _), Nat.sub_self] at h2
      cases h1; cases h2
      exact r
  · obtain ⟨⟨x, hx⟩, n⟩ := h.gs a (hg a ha)
    have ne : a ≠ p := fun z => hpg (by rw [← z]; exact ha)
    refine ⟨⟨x, by rw [upd_ne ne]; exact hx⟩, fun z => ?_⟩
    rcases List.mem_append.mp (show a ∈ β.b ++ [p] from z) with z | z
    · exact n z
    · exact ne (by simpa using z)
end
def okL (l : List Vl) : Bool := l.all noX
def finN (acc : List Vl) (s : Sto) : R Vl := if okL acc = true then .ok (.ref s.length) (s ++ [.lst acc]) else .bad
noncomputable def mLcN (it : MI) (gm : Vl → Loc → Option Loc) (t : MT) (e : ME) (vs : List Nat) : ME := fun ρ s => (mLc0 it gm t e vs ρ s).bind finN
theorem mLcN_bind {it : MI} {gm : Vl → Loc → Option Loc} {t : MT} {e : ME} {vs : List Nat} {ρ : Loc} {s : Sto} : ((it ρ s).bind fun c s1 => (compM c gm t e (wipeM ρ vs) c.items [] s1).bind finN) = mLcN it gm t e vs ρ s := by
  unfold mLcN mLc0
  cases it ρ s <;> rfl
section
variable {X : Cx} {zx : Exo} {W : WX}
/-- all that a comprehension does -/
theorem lc_goN {it : MI} {g : TG} {gm : Vl → Loc → Option Loc} {t : MT} {e : ME} {vs : List Nat} {σ : L2.St} {H : Hp} {Q : VK} (go : GOk (cf X zx) g gm vs)
    (q : ∃ β ρ s, RelL (cf X zx) H β ρ σ ∧ RelS (cf X zx) β s H ∧ Post (cf X zx) (Rv (cf X zx)) W σ β H Q (mLcN it gm t e vs ρ s)) :
    tLc (tG (cf X zx) (rI (cf X zx)) W it) g (tG (cf X zx) rB WF t) (tG (cf X zx) (Rv (cf X zx)) WF e) vs σ H Q := by
  obtain ⟨β, ρ, s, hl, hs, hp⟩ := q
  refine ⟨β, ρ, s, hl, hs, Post.bind (mLcN_bind.symm ▸ hp) fun c s1 β1 H1 J st1 hs1 wm h1 => ?_⟩
  intro D hD
  have hl1 := hl.step st1
  refine ⟨fun i m H' => m = c.items.length - i ∧ i ≤ c.items.length ∧ ∃ β' s' acc xs, Step β1 H1 β' H' ∧ D ∈ β'.g ∧ (∀ x ∈ β1.g, x ∈ β'.g) ∧ RelS (cf X zx) β' s' H' ∧ RelL (cf X zx) H' β' (wipeM ρ vs) (L2.wipe σ vs) ∧ H' D = some (.lst xs) ∧ acc.length ≤ sizeLine ∧ Rvs (cf X zx) H' β' acc xs ∧
      Post (cf X zx) (Rv (cf X zx)) W σ β1 H1 Q ((compM c gm t e (wipeM ρ vs) (c.items.drop i) acc s').bind finN),
    ⟨_, rfl, Nat.zero_le _, β1.add D, s1, [], [], Step.add hD, List.mem_cons_self, fun x hx => List.mem_cons_of_mem _ hx, hs1.add hD, (hl1.wipe vs).step (Step.add hD), upd_same, Nat.zero_le _, .nil, h1⟩, ?_⟩
  rintro i m H' ⟨rfl, hi, β', s', acc, xs, st', hDg, hsub, hs', hl', hDx, hlen, racc, q'⟩
  by_cases hlt : i < c.items.length
  · rw [List.drop_eq_getElem_cons hlt, compM] at q'
    by_cases ok : c.ok s'
    rotate_left
    · rw [if_neg ok] at q'; exact q'.elim
    rw [if_pos ok] at q'
    refine .inr ⟨wm.go i β' s' H' hlt st'.w hs' ok, fun H2 => i + 1 ≤ c.items.length ∧ ∃ β' s' acc xs, Step β1 H1 β' H2 ∧ D ∈ β'.g ∧ (∀ x ∈ β1.g, x ∈ β'.g) ∧ RelS (cf X zx) β' s' H2 ∧ RelL (cf X zx) H2 β' (wipeM ρ vs) (L2.wipe σ vs) ∧ H2 D = some (.lst xs) ∧ acc.length ≤ sizeLine ∧ Rvs (cf X zx) H2 β' acc xs ∧
      Post (cf X zx) (Rv (cf X zx)) W σ β1 H1 Q ((compM c gm t e (wipeM ρ vs) (c.items.drop (i + 1)) acc s').bind finN),
      fun H2 h2 => ⟨_, by omega, rfl, h2.1, h2.2⟩, fun x H2 y => ?_⟩
    obtain ⟨sm, v, hv, rv⟩ := wm.yld i β' s' H' x H2 hlt st'.w hs' ok y
    rw [List.getElem?_eq_getElem hlt] at hv
    cases hv
    have st2 : Step β' H' β' H2 := Step.same sm
    generalize c.items[i] = v at q' rv
    cases eg : gm v (wipeM ρ vs) with
    | none => rw [eg] at q'; exact q'.elim
    | some ρ2 =>
      rw [eg] at q'
      dsimp only at q'
      refine go x v _ _ ρ2 β' H2 _ (hl'.step st2) rv eg fun σ2 hl2 ew => ⟨by rw [ew, wipe_wipe fun i hi => hi], β', ρ2, s', hl2, hs'.same sm, ?_⟩
      have fin : ∀ β4 s4 H4, Step β' H2 β4 H4 → RelS (cf X zx) β4 s4 H4 → Step β1 H1 β4 H4 ∧ D ∈ β4.g ∧ (∀ x ∈ β1.g, x ∈ β4.g) ∧ RelL (cf X zx) H4 β4 (wipeM ρ vs) (L2.wipe σ vs) ∧ H4 D = some (.lst xs) ∧ Rvs (cf X zx) H4 β4 acc xs := fun β4 s4 H4 st4 hs4 =>
        ⟨(st'.trans st2).trans st4, st4.gsub D hDg, fun x hx => st4.gsub x (hsub x hx), (hl'.step st2).step st4, st4.keep _ _ trivial (sm _ _ hDx) (hs'.gs D hDg).2, st4.rvs (st2.rvs racc)⟩
      cases et : t ρ2 s' with
      | bad => rw [et] at q'; exact q'.elim
      | ex x1 s3 => rw [et] at q'; exact q'.elim
      | ok b s3 =>
        rw [et] at q'
        intro β3 H3 b' st3 hs3 eb
        cases (show b = b' from eb)
        cases b with
        | false =>
          dsimp only at q'
          refine iteF ?_
          obtain ⟨f1, f2, f3, f4, f5, f6⟩ := fin β3 s3 H3 st3 hs3
          exact ⟨hlt, β3, s3, acc, xs, f1, f2, f3, hs3, f4, f5, hlen, f6, q'⟩
        | true =>
          dsimp only at q'
          refine iteT ⟨β3, ρ2, s3, hl2.step st3, hs3, ?_⟩
          cases ee : e ρ2 s3 with
          | bad => rw [ee] at q'; exact q'.elim
          | ex x1 s4 => rw [ee] at q'; exact q'.elim
          | ok y1 s4 =>
            rw [ee] at q'
            dsimp only at q'
            intro β4 H4 u st4 hs4 ru
            by_cases hal : acc.length < sizeLine
            rotate_left
            · rw [if_neg hal] at q'; exact q'.elim
            rw [if_pos hal] at q'
            obtain ⟨f1, f2, f3, f4, f5, f6⟩ := fin β4 s4 H4 (st3.trans st4) hs4
            refine ⟨xs, f5, by rw [← f6.len]; exact hal, hlt, β4, s4, acc ++ [y1], xs ++ [u], ?_⟩
            have gp : Gp β4 H4 D := ⟨f2, _, f5, trivial⟩
            refine ⟨⟨f1.pre, f1.gsub, f1.gam, f1.new, fun a o nt h n => ?_, fun a o h => ?_, fun a o w h => ?_, fun a o h => ?_, fun t => (f1.tbs t).put (.inr f2)⟩, f2, f3, gp.rs hs4, gp.rl f4, upd_same, by simp; omega, (gp.rvs f6).append (.cons (gp.rv ru) .nil), q'⟩
            · rw [upd_ne (ne_of_none h hD)]; exact f1.keep a o nt h n
            · rw [upd_ne (ne_of_none h hD)]; exact f1.tups a o h
            · rw [upd_ne (ne_of_none h hD)]; exact f1.frzs a o w h
            · rw [upd_ne (ne_of_none h hD)]; exact f1.liv a o h
  · have ei : i = c.items.length := by omega
    subst ei
    rw [List.drop_length, compM] at q'
    by_cases ok : c.ok s'
    rotate_left
    · rw [if_neg ok] at q'; exact q'.elim
    rw [if_pos ok] at q'
    refine .inl ⟨wm.stop β' s' H' st'.w hs' ok, ?_⟩
    have hne : ∀ o, H1 D ≠ some o := fun o z => by rw [hD] at z; cases z
    have gp : Gp β' H' D := ⟨hDg, _, hDx, trivial⟩
    have eo : okL acc = true := by
      have q2 := q'
      unfold finN R.bind at q2
      dsimp only at q2
      by_cases h : okL acc = true
      · exact h
      · rw [if_neg h] at q2; exact q2.elim
    have q3 : Post (cf X zx) (Rv (cf X zx)) W σ β1 H1 Q (.ok (.ref s'.length) (s' ++ [.lst acc])) := by
      have q2 := q'
      unfold finN R.bind at q2
      dsimp only at q2
      rwa [if_pos eo] at q2
    have sm : upd H' D (.lst xs) = H' := by
      funext b
      by_cases z : b = D
      · rw [z, upd_same, hDx]
      · rw [upd_ne z]
    have st2 : Step β1 H1 ⟨β'.b ++ [D], β1.g⟩ H' := by
      refine ⟨st'.pre.trans (List.prefix_append _ _), fun _ h => h, fun _ h => .inl h, fun a ha => ?_, st'.keep, st'.tups, st'.frzs, st'.liv, fun t => TabsB.mono (β := β') (β' := ⟨β'.b ++ [D], β1.g⟩) (fun x hx => (List.mem_append.mp (show x ∈ β'.b ++ [D] from hx)).elim (fun z => .inl z) fun z => .inr (.inl (by rw [show x = D by simpa using z]; exact hDg))) (fun x hx => .inr (.inl (hsub x hx))) (st'.tbs t)⟩
      rcases List.mem_append.mp (show a ∈ β'.b ++ [D] from ha) with z | z
      · exact st'.new a z
      · have : a = D := by simpa using z
        exact .inr (by rw [this]; exact hD)
    have hs2 := RelS.mine (o := .lst xs) (g' := β1.g) (hpg := hs1.nig hD) gp hs' hsub (ob := .lst acc) ⟨hlen, xs, upd_same, Rvs.dn (G := cf X zx) eo (Rvs.mine gp hsub racc)⟩
    rw [sm] at hs2
    exact q3 ⟨β'.b ++ [D], β1.g⟩ H' (.ref D) st2 hs2 ⟨D, by
      show (β'.b ++ [D])[s'.length]? = some D
      rw [← hs'.len, List.getElem?_append_right (Nat.le_refl _), Nat.sub_self]
      rfl, rfl⟩
theorem de_lcN {elt tg iter : Expr} {ifs : List Expr} {scope : Scope} {own : List (Str × Nat)} {pos : Pos} {it : MI} {g : TG} {gm : Vl → Loc → Option Loc} {t : MT} {e : ME} (hc : X.calm = true) (hN : X.N.Nodup) (hi : DI X zx W tg iter it) (ok : BlkOk X.N X.env.scope scope own) (go : GOk (cf X zx) g gm (own.map (·.2)))
    (hg : ∀ (s : Shared) (H : Hp) (C : Addr) (cl : List (Str × Addr)) (fp : List Addr), PG (X.blk s H scope (compEnvC scope cl C X.env) fp) tg g) (ht : ∀ (s : Shared) (H : Hp) (C : Addr) (cl : List (Str × Addr)) (fp : List Addr), PTs (X.blk s H scope (compEnvC scope cl C X.env) fp) ifs (tG (cf X zx) rB WF t))
    (he : ∀ (s : Shared) (H : Hp) (C : Addr) (cl : List (Str × Addr)) (fp : List Addr), PE (X.blk s H scope (compEnvC scope cl C X.env) fp) elt (tG (cf X zx) (Rv (cf X zx)) WF e)) (hs : ∀ x, foldedSetIterable iter X.env x = pure x := by intro _; rfl) :
    DE X zx W (.ListComp elt [⟨tg, iter, ifs, 0⟩] scope pos) (mLcN it gm t e (own.map (·.2))) := PE.imp (pe_lc hc hN hi ok hg ht he hs) fun σ H Q q => lc_goN go q
end
end Pm
set_option maxRecDepth 100000
set_option maxHeartbeats 4000000
namespace Pm
open PySem PySem.Spec PyProof.Rows L2 Sw
section
variable {G : Cf} {H : Hp} {β : Bs}
theorem push_ix {s : Sto} (hs : RelS G β s H) (p : Addr) : (β.push p).b[s.length]? = some p := by
  show (β.b ++ [p])[s.length]? = some p
  rw [← hs.len, List.getElem?_append_right (Nat.le_refl _), Nat.sub_self]
  rfl
theorem Rvs.dropLast : ∀ {vs : List Vl} {us : List V}, Rvs G H β vs us → Rvs G H β vs.dropLast us.dropLast
  | _, _, .nil => .nil
  | _, _, .cons h .nil => .nil
  | _, _, .cons h (.cons h2 r) => .cons h (Rvs.dropLast (.cons h2 r))
theorem Rvs.eraseIdx : ∀ {vs : List Vl} {us : List V} (k : Nat), Rvs G H β vs us → Rvs G H β (vs.eraseIdx k) (us.eraseIdx k)
  | _, _, _, .nil => .nil
  | _, _, 0, .cons _ r => r
  | _, _, k + 1, .cons h r => .cons h (Rvs.eraseIdx k r)
end
def mNewD (t : Bool) : ME := fun _ s => .ok (.ref s.length) (s ++ [.dic t []])
def popN (v : Vl) (s1 : Sto) : R Vl := match v with
  | .ref n => (match lstAt s1 n with
    | some l => (match l[l.length - 1]? with
      | some y => .ok y (s1.set n (.lst l.dropLast))
      | none => .bad)
    | none => .bad)
  | _ => .bad
def mPop (f : ME) : ME := fun ρ s => (f ρ s).bind popN
def popAtN (v : Vl) (vs : List Vl) (s2 : Sto) : R Vl := match v, vs with
  | .ref n, [.dat (.int i)] => (match lstAt s2 n with
    | some l => (match ixN l.length i with
      | some k => (match l[k]? with
        | some y => .ok y (s2.set n (.lst (l.eraseIdx k)))
        | none => .bad)
      | none => .bad)
    | none => .bad)
  | _, _ => .bad
def isRl (v : Vl) (s : Sto) : Bool := match v with
  | .ref n => (lstAt s n).isSome
  | _ => false
section
variable {X : Cx} {zx : Exo} {W : WX} {o e e2 : Expr} {f f1 f2 : ME} {r : MA} {apos cpos pos : Pos}
theorem de_newK : DE X zx W (.Dict [] [] pos) (mNewD false) := PE.imp pe_dnewK fun σ H Q ⟨β, ρ, s, hl, hs, hp⟩ p hn => hp (β.push p) _ _ (Step.push hn) (hs.push hn ⟨[], upd_same, .nil⟩) ⟨p, push_ix hs p, rfl⟩
theorem de_pop (ho : DE X zx W o f) (hbase : attributeBase o "pop" X.env (eval o X.env) = eval o X.env := by rfl) (hline : (apos.endLine == cpos.line) = true := by rfl) : DE X zx W (.Call (.Attribute o "pop" apos) [] [] cpos) (mPop f) :=
  PE.imp (pe_bm0 PySem.F.plainAttrs_list PySem.F.slot_list_pop PySem.F.type_list_pop mt_pop ho hbase hline) fun σ H Q ⟨β, ρ, s, hl, hs, hp⟩ => by
  refine ⟨β, ρ, s, hl, hs, Post.bind hp fun v s1 β1 H1 u st1 hs1 r1 h1 => ?_⟩
  unfold popN at h1
  split at h1
  · rename_i n
    obtain ⟨a, hb, rfl⟩ := r1
    split at h1
    · rename_i l el
      split at h1
      · rename_i y ey
        obtain ⟨hz, xs, hx, rv⟩ := hs1.ob n _ a (lstAt_eq el) hb
        obtain ⟨w, hw, ry⟩ := rv.get' ey
        have hd := rv.dropLast
        obtain ⟨st2, hs2⟩ := put_lst (l' := l.dropLast) (xs' := xs.dropLast) hs1 (lstAt_eq el) hb hx (by rw [List.length_dropLast]; omega) hd
        exact ⟨.inl ⟨rfl, xs, SqL.of hx⟩, a, xs, w, rfl, rfl, hx, by rw [← rv.len]; exact hw, h1 β1 _ w st2 hs2 (st2.rv (Rv.up ry))⟩
      · exact h1.elim
    · exact h1.elim
  · exact h1.elim
end
end Pm
set_option maxRecDepth 100000
set_option maxHeartbeats 4000000
namespace Pm
open PySem PySem.Spec PyProof.Rows L2 Sw
section
variable {P : Type}
open Classical in
noncomputable def compP (ok : Sto → Prop) (pat : Vl → Option P) (t : P → Sto → R Bool) (e : P → Sto → R Vl) : List Vl → List Vl → Sto → R (List Vl)
  | [], acc, s => if ok s then .ok acc s else .bad
  | v :: r, acc, s => if ok s then (match pat v with
    | none => .bad
    | some p => match t p s with
      | .ok true s1 => (match e p s1 with
        | .ok y s2 => if acc.length < sizeLine then compP ok pat t e r (acc ++ [y]) s2 else .bad
        | _ => .bad)
      | .ok false s1 => compP ok pat t e r acc s1
      | _ => .bad) else .bad
def gmP (pat : Vl → Option P) (st : P → Loc → Loc) : Vl → Loc → Option Loc := fun v ρ => (pat v).map fun p => st p ρ
theorem compM_P {c : Src} {pat : Vl → Option P} {st : P → Loc → Loc} {t : MT} {e : ME} {ρ0 : Loc} : ∀ (l acc : List Vl) (s : Sto), compM c (gmP pat st) t e ρ0 l acc s = compP c.ok pat (fun p => t (st p ρ0)) (fun p => e (st p ρ0)) l acc s
  | [], acc, s => rfl
  | v :: r, acc, s => by
    rw [compM, compP]
    split
    · unfold gmP
      cases pat v with
      | none => rfl
      | some p =>
        dsimp only [Option.map_some]
        cases t (st p ρ0) s with
        | ok b s1 =>
          cases b with
          | true =>
            dsimp only
            cases e (st p ρ0) s1 with
            | ok y s2 =>
              dsimp only
              split
              · exact compM_P r _ s2
              · rfl
            | ex _ _ => rfl
            | bad => rfl
          | false => exact compM_P r acc s1
        | ex _ _ => rfl
        | bad => rfl
    · rfl
noncomputable def lcP (r : R Src) (pat : Vl → Option P) (t : P → Sto → R Bool) (e : P → Sto → R Vl) : R Vl := r.bind fun c s1 => (compP c.ok pat t e c.items [] s1).bind fun acc s2 => R.of ((datas acc).map fun ds => .dat (.list ds)) s2
noncomputable def lcPN (r : R Src) (pat : Vl → Option P) (t : P → Sto → R Bool) (e : P → Sto → R Vl) : R Vl := r.bind fun c s1 => (compP c.ok pat t e c.items [] s1).bind finN
noncomputable def mLcP (it : MI) (pat : Vl → Option P) (st : P → Loc → Loc) (t : MT) (e : ME) (vs : List Nat) : ME := fun ρ s => lcP (it ρ s) pat (fun p s => t (st p (wipeM ρ vs)) s) (fun p s => e (st p (wipeM ρ vs)) s)
noncomputable def mLcPN (it : MI) (pat : Vl → Option P) (st : P → Loc → Loc) (t : MT) (e : ME) (vs : List Nat) : ME := fun ρ s => lcPN (it ρ s) pat (fun p s => t (st p (wipeM ρ vs)) s) (fun p s => e (st p (wipeM ρ vs)) s)
theorem mLcP_eq {it : MI} {pat : Vl → Option P} {st : P → Loc → Loc} {t : MT} {e : ME} {vs : List Nat} : mLc it (gmP pat st) t e vs = mLcP it pat st t e vs := by
  funext ρ s
  unfold mLc mLc0 mLcP lcP
  cases it ρ s with
  | ok c s1 => simp only [R.bind_ok, compM_P]
  | ex _ _ => rfl
  | bad => rfl
theorem mLcPN_eq {it : MI} {pat : Vl → Option P} {st : P → Loc → Loc} {t : MT} {e : ME} {vs : List Nat} : mLcN it (gmP pat st) t e vs = mLcPN it pat st t e vs := by
  funext ρ s
  unfold mLcN mLc0 mLcPN lcPN
  cases it ρ s with
  | ok c s1 => simp only [R.bind_ok, compM_P]
  | ex _ _ => rfl
  | bad => rfl
end
theorem gokP_n {G : Cf} {i : Nat} {vs : List Nat} (h : i ∈ vs) : GOk G (gName i) (gmP pV (fun v ρ => ρ.set i (some v))) vs := fun x v σ ρ ρ2 β H Q hl r e q => by
  cases e
  exact q _ (hl.set r) (wipe_set h)
theorem gokP_2 {G : Cf} {A B : Type} {vs : List Nat} {g1 g2 : TG} {p1 : Vl → Option A} {p2 : Vl → Option B} {st1 : A → Loc → Loc} {st2 : B → Loc → Loc} (h1 : GOk G g1 (gmP p1 st1) vs) (h2 : GOk G g2 (gmP p2 st2) vs) : GOk G (gTup G.K 2 (gCons g1 (gCons g2 gNil))) (gmP (pT2 p1 p2) (fun p ρ => (st2 p.2 (st1 p.1 ρ)))) vs := fun x v σ ρ ρ2 β H Q hl r e q => by
  by_cases hv : ∃ x y, v = .dat (.tuple [x, y])
  · obtain ⟨d1, d2, rfl⟩ := hv
    unfold gmP at e
    rw [pT2_ap] at e
    cases e1 : p1 (.dat d1) with
    | none => rw [e1] at e; cases e
    | some a1 =>
      cases e2 : p2 (.dat d2) with
      | none => rw [e1, e2] at e; cases e
      | some a2 =>
        rw [e1, e2] at e
        cases e
        cases r with
        | @tup a xs _ ht hz d =>
          cases d with
          | cons r1 d =>
            cases d with
            | cons r2 d =>
              cases d
              exact ⟨a, _, rfl, ht.sqt, rfl, _, _, rfl, h1 _ (.dat d1) σ ρ _ β H _ hl r1 (by unfold gmP; rw [e1]; rfl) fun σ1 hl1 w1 =>
                ⟨_, _, rfl, h2 _ (.dat d2) σ1 _ _ β H _ hl1 r2 (by unfold gmP; rw [e2]; rfl) fun σ2 hl2 w2 => ⟨rfl, q σ2 hl2 (w2.trans w1)⟩⟩⟩
  · unfold gmP at e
    rw [pT2_none hv] at e
    cases e
section
variable {X : Cx} {zx : Exo} {W : WX} {P : Type}
theorem de_lcP {elt tg iter : Expr} {ifs : List Expr} {scope : Scope} {own : List (Str × Nat)} {pos : Pos} {it : MI} {g : TG} {pat : Vl → Option P} {st : P → Loc → Loc} {t : MT} {e : ME} (hc : X.calm = true) (hN : X.N.Nodup) (hi : DI X zx W tg iter it) (ok : BlkOk X.N X.env.scope scope own) (go : GOk (cf X zx) g (gmP pat st) (own.map (·.2)))
    (hg : ∀ (s : Shared) (H : Hp) (C : Addr) (cl : List (Str × Addr)) (fp : List Addr), PG (X.blk s H scope (compEnvC scope cl C X.env) fp) tg g) (ht : ∀ (s : Shared) (H : Hp) (C : Addr) (cl : List (Str × Addr)) (fp : List Addr), PTs (X.blk s H scope (compEnvC scope cl C X.env) fp) ifs (tG (cf X zx) rB WF t))
    (he : ∀ (s : Shared) (H : Hp) (C : Addr) (cl : List (Str × Addr)) (fp : List Addr), PE (X.blk s H scope (compEnvC scope cl C X.env) fp) elt (tG (cf X zx) (Rv (cf X zx)) WF e)) (hs : ∀ x, foldedSetIterable iter X.env x = pure x := by intro _; rfl) :
    DE X zx W (.ListComp elt [⟨tg, iter, ifs, 0⟩] scope pos) (mLcP it pat st t e (own.map (·.2))) := mLcP_eq ▸ de_lc hc hN hi ok go hg ht he hs
theorem de_lcPN {elt tg iter : Expr} {ifs : List Expr} {scope : Scope} {own : List (Str × Nat)} {pos : Pos} {it : MI} {g : TG} {pat : Vl → Option P} {st : P → Loc → Loc} {t : MT} {e : ME} (hc : X.calm = true) (hN : X.N.Nodup) (hi : DI X zx W tg iter it) (ok : BlkOk X.N X.env.scope scope own) (go : GOk (cf X zx) g (gmP pat st) (own.map (·.2)))
    (hg : ∀ (s : Shared) (H : Hp) (C : Addr) (cl : List (Str × Addr)) (fp : List Addr), PG (X.blk s H scope (compEnvC scope cl C X.env) fp) tg g) (ht : ∀ (s : Shared) (H : Hp) (C : Addr) (cl : List (Str × Addr)) (fp : List Addr), PTs (X.blk s H scope (compEnvC scope cl C X.env) fp) ifs (tG (cf X zx) rB WF t))
    (he : ∀ (s : Shared) (H : Hp) (C : Addr) (cl : List (Str × Addr)) (fp : List Addr), PE (X.blk s H scope (compEnvC scope cl C X.env) fp) elt (tG (cf X zx) (Rv (cf X zx)) WF e)) (hs : ∀ x, foldedSetIterable iter X.env x = pure x := by intro _; rfl) :
    DE X zx W (.ListComp elt [⟨tg, iter, ifs, 0⟩] scope pos) (mLcPN it pat st t e (own.map (·.2))) := mLcPN_eq ▸ de_lcN hc hN hi ok go hg ht he hs
/-- name = [comprehension] -/
theorem nss_setLcP {S L : Type} {mkS : S → Loc} {mkL : L → Loc} {ox : Option Loc} {ρ : Loc} {rest : List Stmt} {f : Sto → R Vl} {i : Nat} {y : Str} {py : Pos} {ρ' : Vl → Loc} {k : Vl → Sto → An S L} {elt tg iter : Expr} {ifs : List Expr} {scope : Scope} {own : List (Str × Nat)} {pos spos : Pos} {it : MI} {g : TG} {pat : Vl → Option P} {st : P → Loc → Loc} {t : MT} {e : ME} (hc : X.calm = true) (hN : X.N.Nodup) (hy : X.N[i]? = some y) (hyl : X.env.scope.names.lookup y = some .local)
    (hsw : swapsWith (.ListComp elt [⟨tg, iter, ifs, 0⟩] scope pos) (some (.Name y py)) spos.line X.env = pure true) (hi : DI X zx W tg iter it) (ok : BlkOk X.N X.env.scope scope own) (go : GOk (cf X zx) g (gmP pat st) (own.map (·.2)))
    (hg : ∀ (s : Shared) (H : Hp) (C : Addr) (cl : List (Str × Addr)) (fp : List Addr), PG (X.blk s H scope (compEnvC scope cl C X.env) fp) tg g) (ht : ∀ (s : Shared) (H : Hp) (C : Addr) (cl : List (Str × Addr)) (fp : List Addr), PTs (X.blk s H scope (compEnvC scope cl C X.env) fp) ifs (tG (cf X zx) rB WF t))
    (he : ∀ (s : Shared) (H : Hp) (C : Addr) (cl : List (Str × Addr)) (fp : List Addr), PE (X.blk s H scope (compEnvC scope cl C X.env) fp) elt (tG (cf X zx) (Rv (cf X zx)) WF e)) (h2 : ∀ v, NSs X zx W ox mkS mkL (ρ' v) rest (k v)) (hox : OxLe ox ρ)
    (hs : ∀ x, foldedSetIterable iter X.env x = pure x := by intro _; rfl) (hF : ∀ s, mLcP it pat st t e (own.map (·.2)) ρ s = f s := by intro _; rfl) (hρ : ∀ v, ρ.set i (some v) = ρ' v := by intro _; rfl) :
    NSs X zx W ox mkS mkL ρ (.Assign [.Name y py] (.ListComp elt [⟨tg, iter, ifs, 0⟩] scope pos) spos :: rest) (fun s => (f s).an fun v s1 => k v s1) :=
  PSs.imp (pss_cons (ps_setLc hc hN hy hyl hsw hi ok hg ht he hs) (pss_ex h2)) fun D σ H ⟨β, s, hl, hs, q⟩ => by
  show tLc (tG (cf X zx) (rI (cf X zx)) W it) g (tG (cf X zx) rB WF t) (tG (cf X zx) (Rv (cf X zx)) WF e) (own.map (·.2)) σ H (fun x H1 => ∃ j, tN (cf X zx) W mkS mkL ox (ρ' j) (k j) D (σ.set i (some x)) H1)
  refine lc_go (W := W) go ⟨β, ρ, s, hl, hs, ?_⟩
  have q' : PostN (cf X zx) W mkS mkL ox β H D ((mLc it (gmP pat st) t e (own.map (·.2)) ρ s).an fun v s1 => k v s1) := by rw [mLcP_eq, hF]; exact q
  have hp := PostN.an (rel := Rv (cf X zx)) (Q1 := fun u H' => ∃ v, tN (cf X zx) W mkS mkL ox (ρ' v) (k v) D (σ.set i (some u)) H') hl hox q' fun v s1 β1 H1 u st1 hs1 r1 h1 => ⟨v, β1, s1, by rw [← hρ]; exact (hl.step st1).set r1, hs1, h1⟩
  refine Post.bind hp fun acc s1 β1 H1 D st1 hs1 r1 h1 => ?_
  obtain ⟨n1, n2, hlen, xs, hx, rx⟩ := r1
  cases ed : datas acc with
  | none => rw [ed] at h1; exact h1.elim
  | some ds =>
    rw [ed] at h1
    have ea := datas_eq ed
    rw [ea] at rx hlen
    exact h1 β1 H1 _ (Step.refl _ _) hs1 (Dq.lst ⟨hx, n1, n2⟩ (by simpa using hlen) (Rvs.undats rx))
end
end Pm
set_option maxRecDepth 100000
set_option maxHeartbeats 4000000
namespace Sw
open PySem PySem.Spec PyProof.Rows L2
def Mem1 (w : World) (e : Int × Value) (x : Str) : Prop := ∃ t, e.2 = Value.str x t ∧ e.1 = hashStr w x
/-- the set at a holds the texts L, none twice -/
def TxtSet (w : World) (h : Heap) (a : Addr) (L : List Str) : Prop :=
  ∃ o es ep t, h.get? a = some o ∧ o.ExactSet ∧ o.data = .set es ep t ∧ Paired (Mem1 w) es.toList L ∧ L.Nodup ∧ es.size < scanBound ∧ t.fits es.size = true ∧ Ris t.place.toList ∧
    (w.params.followText "set-order" = true ∨ t.led = true)
theorem TxtSet.at {w : World} {h h' : Heap} {a : Addr} {L : List Str} (R : TxtSet w h a L) (k : ∀ o, h.get? a = some o → h'.get? a = some o) : TxtSet w h' a L := by
  obtain ⟨o, es, ep, t, ho, r⟩ := R
  exact ⟨o, es, ep, t, k o ho, r⟩
end Sw
set_option maxRecDepth 100000
set_option maxHeartbeats 4000000
namespace Sw
open PySem PySem.Spec PyProof.Rows L2
/-- L: what is met in the first i of xs -/
def Met (xs : List Str) (i : Nat) (L : List Str) : Prop := L.length ≤ i ∧ ∀ x, x ∈ L ↔ x ∈ xs.take i
theorem Met.step {xs L L' : List Str} {i : Nat} {x : Str} (g : Met xs i L) (hx : xs[i]? = some x) (h : x ∈ L ∧ L' = L ∨ x ∉ L ∧ L'.Perm (x :: L)) : Met xs (i + 1) L' := by
  have et : xs.take (i + 1) = xs.take i ++ [x] := by rw [List.take_add_one, hx]; rfl
  rcases h with ⟨hm, rfl⟩ | ⟨hm, pm⟩
  · refine ⟨Nat.le_succ_of_le g.1, fun y => ?_⟩
    rw [et, List.mem_append, ← g.2 y]
    constructor
    · exact .inl
    · rintro (h | h)
      · exact h
      · rw [List.mem_singleton.mp h]; exact hm
  · refine ⟨by rw [pm.length_eq, List.length_cons]; exact Nat.succ_le_succ g.1, fun y => ?_⟩
    rw [pm.mem_iff, et, List.mem_append, ← g.2 y, List.mem_cons, List.mem_singleton]
    exact Or.comm
section
variable {P : Program} {w : World} {A : Around} {E : Value → Shared → Prop} {s : Shared}
/-- the object that set.__new__ lays -/
abbrev newSetO (w : World) : Obj := { cls := .type "set", dict := none, data := .set #[] 0 (.fresh 0 0 (!w.params.followText "set-order")) }
end
end Sw
set_option maxRecDepth 100000
set_option maxHeartbeats 4000000
namespace Sw
open PySem PySem.Spec PyProof.Rows L2
end Sw
set_option maxRecDepth 100000
set_option maxHeartbeats 4000000
namespace Sw
open PySem PySem.Spec PyProof.Rows L2
def LtS (a b : Str) : Prop := a.cps.toList < b.cps.toList
theorem LtS.trans {a b c : Str} (h1 : LtS a b) (h2 : LtS b c) : LtS a c := List.lt_trans h1 h2
theorem LtS.irr {a : Str} : ¬ LtS a a := List.lt_irrefl _
theorem LtS.tri {a b : Str} (h : ¬ LtS b a) (hne : a ≠ b) : LtS a b := by
  have h1 : a.cps.toList ≤ b.cps.toList := h
  rcases List.le_iff_lt_or_eq.mp h1 with h2 | h2
  · exact h2
  · exfalso
    apply hne
    cases a with
    | mk x =>
      cases b with
      | mk y =>
        have : x = y := by
          have := congrArg List.toArray h2
          simpa using this
        rw [this]
end Sw
set_option maxRecDepth 100000
set_option maxHeartbeats 4000000
namespace Sw
open PySem PySem.Spec PyProof.Rows L2
abbrev tupO (its : List Value) : Obj := { cls := .type "tuple", data := .seq its.toArray }
def TupF (H : Hp) (a : Addr) (xs : List V) : Prop := ∃ its, H a = some (.frz (tupO its) (.tup xs))
theorem TupF.sq {K : PySem.W.Frag} {H : Hp} {a : Addr} {xs : List V} (h : TupF H a xs) : SqT K H a xs := .inl (.inr ⟨_, h.choose_spec⟩)
theorem TupF.same {H H' : Hp} {a : Addr} {xs : List V} (s : Same H H') (h : TupF H a xs) : TupF H' a xs := ⟨_, s _ _ h.choose_spec⟩
end Sw
set_option maxRecDepth 100000
set_option maxHeartbeats 4000000
namespace Sw
open PySem PySem.Spec PyProof.Rows L2
end Sw
set_option maxRecDepth 100000
set_option maxHeartbeats 4000000
namespace Sw
open PySem PySem.Spec PyProof.Rows L2
theorem nodup_le : ∀ {L xs : List Str}, L.Nodup → (∀ x ∈ L, x ∈ xs) → L.length ≤ xs.length
  | [], xs, _, _ => Nat.zero_le _
  | y :: L, xs, nd, h => by
    rw [List.nodup_cons] at nd
    have hy := h y List.mem_cons_self
    have := nodup_le (L := L) (xs := xs.erase y) nd.2 fun x hx => (List.mem_erase_of_ne (show x ≠ y from fun e => nd.1 (e ▸ hx))).mpr (h x (List.mem_cons_of_mem _ hx))
    rw [List.length_erase_of_mem hy] at this
    have := List.length_pos_of_mem hy
    rw [List.length_cons]
    omega
theorem twice_of : ∀ {xs : List Str}, ¬ xs.Nodup → ∃ x ∈ xs, x ∈ xs.erase x
  | [], h => absurd List.nodup_nil h
  | y :: xs, h => by
    by_cases hy : y ∈ xs
    · exact ⟨y, List.mem_cons_self, by rw [List.erase_cons_head]; exact hy⟩
    · obtain ⟨x, hx, hx2⟩ := twice_of (xs := xs) fun nd => h (List.nodup_cons.mpr ⟨hy, nd⟩)
      have ne : x ≠ y := fun e => hy (e ▸ hx)
      refine ⟨x, List.mem_cons_of_mem _ hx, ?_⟩
      rw [List.erase_cons_tail (by simpa using Ne.symm ne)]
      exact List.mem_cons_of_mem _ hx2
/-- as many in the set as in the list: none twice -/
theorem nodup_iff {L xs : List Str} (nd : L.Nodup) (hl : L.length ≤ xs.length) (h : ∀ x, x ∈ L ↔ x ∈ xs) : L.length = xs.length ↔ xs.Nodup := by
  constructor
  · intro e
    refine Decidable.byContradiction fun hx => ?_
    obtain ⟨x, hx1, hx2⟩ := twice_of hx
    have := nodup_le (L := L) (xs := xs.erase x) nd fun z hz => by
      by_cases ez : z = x
      · rw [ez]; exact hx2
      · exact (List.mem_erase_of_ne ez).mpr ((h z).mp hz)
    rw [List.length_erase_of_mem hx1] at this
    have := List.length_pos_of_mem hx1
    omega
  · intro hx
    have := nodup_le hx fun z hz => (h z).mpr hz
    omega
end Sw
set_option maxRecDepth 100000
set_option maxHeartbeats 4000000
namespace Sw
open PySem PySem.Spec PyProof.Rows L2
def PairSI (h : Heap) (v : Value) (x : Str) (y : Int) : Prop := ∃ a o t u n, v = .ref a ∧ h.get? a = some o ∧ o.cls = .type "tuple" ∧ o.data = .seq #[.str x t, .int y u] n
theorem PairSI.keeps {h h' : Heap} {v : Value} {x : Str} {y : Int} (p : PairSI h v x y) (k : ∀ b o, h.get? b = some o → o.cls = .type "tuple" → h'.get? b = some o) : PairSI h' v x y := by
  obtain ⟨a, o, t, u, n, e, ho, hc, hd⟩ := p
  exact ⟨a, o, t, u, n, e, k _ _ ho hc, hc, hd⟩
end Sw
set_option maxRecDepth 100000
set_option maxHeartbeats 4000000
namespace Pm
open PySem PySem.Spec PyProof.Rows L2 Sw
abbrev MP := Loc → Sto → R (List (Vl × Vl))
abbrev RvPs (G : Cf) : Rel (List (Vl × Vl)) (List (V × V)) := fun H β => Paired fun p q => Rv G H β p.1 q.1 ∧ Rv G H β p.2 q.2
def pNilM : MP := fun _ s => .ok [] s
def pConsM (f g : ME) (r : MP) : MP := fun ρ s => (f ρ s).bind fun k s1 => (g ρ s1).bind fun v s2 => (r ρ s2).bind fun ps s3 => .ok ((k, v) :: ps) s3
def DPs (X : Cx) (zx : Exo) (W : WX) (pos : Pos) (keys : List (Option Expr)) (values : List Expr) (r : MP) : Prop := ∃ trs, PPs X pos keys values trs ∧ ∀ σ H Q, tG (cf X zx) (RvPs (cf X zx)) W r σ H Q → tPairs trs σ H Q
def dMerge (ps : List (PyData × Vl)) : List (PyData × Vl) := ps.foldl (fun acc p => dPut acc p.1 p.2) []
def dMergeD (ps : List (PyData × PyData)) : List (PyData × PyData) := ps.foldl (fun acc p => dPut acc p.1 p.2) []
def pKeys : List (Vl × Vl) → Option (List (PyData × Vl))
  | [] => some []
  | (.dat k, v) :: r => if (keyQ k).isSome = true ∧ noX v = true then (pKeys r).map ((k, v) :: ·) else none
  | _ => none
def pDats : List (Vl × Vl) → Option (List (PyData × PyData))
  | [] => some []
  | (.dat k, .dat v) :: r => if (keyQ k).isSome = true then (pDats r).map ((k, v) :: ·) else none
  | _ => none
def dispN (ps : List (Vl × Vl)) (s : Sto) : R Vl := match pKeys ps with
  | some kvs => if kvs.length ≤ 15 then .ok (.ref s.length) (s ++ [.dic false (dMerge kvs)]) else .bad
  | none => .bad
def dispD (ps : List (Vl × Vl)) : Option Vl := (pDats ps).bind fun kvs => if kvs.length ≤ 15 then some (.dat (.dict (dMergeD kvs))) else none
def mDispN (r : MP) : ME := fun ρ s => (r ρ s).bind dispN
def mDispD (r : MP) : ME := fun ρ s => (r ρ s).bind fun ps s1 => R.of (dispD ps) s1
theorem Step.mine {β β2 : Bs} {H H2 : Hp} {p : Addr} {o o2 : HO} (hp : H p = none) (st : Step (β.add p) (upd H p o) β2 H2) : Step β H ⟨β2.b ++ [p], β.g⟩ (upd H2 p o2) := by
  have f1 : Step β H β2 H2 := (Step.add hp).trans st
  refine ⟨f1.pre.trans (List.prefix_append _ _), fun _ h => h, fun _ h => .inl h, fun a ha => ?_, fun a o nt h n => ?_, fun a o h => ?_, fun a o w h => ?_, fun a o h => ?_, fun t => TabsB.mono (β := β2) (β' := ⟨β2.b ++ [p], β.g⟩) (fun x hx => (List.mem_append.mp (show x ∈ β2.b ++ [p] from hx)).elim (fun z => .inl z) fun z => .inr (.inl (by rw [show x = p by simpa using z]; exact st.gsub p List.mem_cons_self))) (fun x hx => .inr (.inl (f1.gsub x hx))) ((f1.tbs t).put (.inr (st.gsub p List.mem_cons_self)))⟩
  · rcases List.mem_append.mp (show a ∈ β2.b ++ [p] from ha) with z | z
    · exact f1.new a z
    · have : a = p := by simpa using z
      exact .inr (by rw [this]; exact hp)
  · rw [upd_ne (ne_of_none h hp)]; exact f1.keep a o nt h n
  · rw [upd_ne (ne_of_none h hp)]; exact f1.tups a o h
  · rw [upd_ne (ne_of_none h hp)]; exact f1.frzs a o w h
  · rw [upd_ne (ne_of_none h hp)]; exact f1.liv a o h
theorem Step.theirs {β β2 : Bs} {H H2 : Hp} {p : Addr} {o o2 : HO} (hp : H p = none) (st : Step (β.add p) (upd H p o) β2 H2) : Step β H ⟨β2.b, β.g⟩ (upd H2 p o2) := by
  have f1 : Step β H β2 H2 := (Step.add hp).trans st
  refine ⟨f1.pre, fun _ h => h, fun _ h => .inl h, f1.new, fun a o nt h n => ?_, fun a o h => ?_, fun a o w h => ?_, fun a o h => ?_, fun t => TabsB.mono (β := β2) (β' := ⟨β2.b, β.g⟩) (fun x hx => .inl hx) (fun x hx => .inr (.inl (f1.gsub x hx))) ((f1.tbs t).put (.inr (st.gsub p List.mem_cons_self)))⟩
  · rw [upd_ne (ne_of_none h hp)]; exact f1.keep a o nt h n
  · rw [upd_ne (ne_of_none h hp)]; exact f1.tups a o h
  · rw [upd_ne (ne_of_none h hp)]; exact f1.frzs a o w h
  · rw [upd_ne (ne_of_none h hp)]; exact f1.liv a o h
theorem pKeys_kv {G : Cf} {H : Hp} {β : Bs} : ∀ {ps : List (Vl × Vl)} {us : List (V × V)} {kvs : List (PyData × Vl)}, RvPs G H β ps us → pKeys ps = some kvs → ∃ ks : List (Key × V), us = ks.map (fun kv => (kV kv.1, kv.2)) ∧ KvR keyD (Rv G.o H β) kvs ks
  | [], _, kvs, .nil, e => by cases e; exact ⟨[], rfl, .nil⟩
  | p :: ps, u :: us, kvs, .cons h t, e => by
    unfold pKeys at e
    split at e
    · cases ‹p :: ps = []›
    · rename_i k v r ep
      cases ep
      split at e
      · rename_i hc
        cases e2 : pKeys ps with
        | none => rw [e2] at e; cases e
        | some l =>
          rw [e2] at e
          cases e
          obtain ⟨ks, rfl, r2⟩ := pKeys_kv t e2
          obtain ⟨k', ek⟩ := Option.isSome_iff_exists.mp hc.1
          have e3 := key_V h.1 ek
          have e4 := keyQ_eq ek
          obtain ⟨u1, u2⟩ := u
          dsimp only at e3
          subst e3
          exact ⟨(k', u2) :: ks, rfl, .cons ⟨e4, Rv.dn hc.2 h.2⟩ r2⟩
      · cases e
    · cases e
theorem pDats_kv {G : Cf} {H : Hp} {β : Bs} : ∀ {ps : List (Vl × Vl)} {us : List (V × V)} {kvs : List (PyData × PyData)}, RvPs G H β ps us → pDats ps = some kvs → ∃ ks : List (Key × V), us = ks.map (fun kv => (kV kv.1, kv.2)) ∧ KvR keyD (fun d v => Dq G.K H β v d) kvs ks
  | [], _, kvs, .nil, e => by cases e; exact ⟨[], rfl, .nil⟩
  | p :: ps, u :: us, kvs, .cons h t, e => by
    unfold pDats at e
    split at e
    · cases ‹p :: ps = []›
    · rename_i k v r ep
      cases ep
      split at e
      · rename_i hc
        cases e2 : pDats ps with
        | none => rw [e2] at e; cases e
        | some l =>
          rw [e2] at e
          cases e
          obtain ⟨ks, rfl, r2⟩ := pDats_kv t e2
          obtain ⟨k', ek⟩ := Option.isSome_iff_exists.mp hc
          have e3 := key_V h.1 ek
          have e4 := keyQ_eq ek
          obtain ⟨u1, u2⟩ := u
          dsimp only at e3
          subst e3
          exact ⟨(k', u2) :: ks, rfl, .cons ⟨e4, h.2⟩ r2⟩
      · cases e
    · cases e
theorem KvR.merge {α : Type} {R : α → V → Prop} : ∀ {ks : List (Key × V)} {kvs : List (PyData × α)} {acc : List (PyData × α)} {ac : List (Key × V)}, KvR keyD R acc ac → KvR keyD R kvs ks → KvR keyD R (kvs.foldl (fun acc p => dPut acc p.1 p.2) acc) (mergeK ac ks)
  | [], [], _, _, h, .nil => h
  | k :: ks, p :: kvs, acc, ac, h, .cons h1 t => by
    have h2 := KvR.put kEq_D (k := k.1) h1.2 h
    rw [← h1.1] at h2
    exact KvR.merge (kvs := kvs) (ks := ks) (acc := dPut acc p.1 p.2) (ac := putK ac k.1 k.2) h2 t
section
variable {X : Cx} {zx : Exo} {W : WX} {pos : Pos} {keys : List (Option Expr)} {values : List Expr} {r : MP}
theorem dps_nil : DPs X zx W pos [] [] pNilM := ⟨[], pps_nil, fun σ H Q ⟨β, ρ, s, hl, hs, hp⟩ => hp β H [] (Step.refl _ _) hs .nil⟩
theorem dps_cons {k v : Expr} {f g : ME} (hk : DE X zx W k f) (hv : DE X zx W v g) (hr : DPs X zx W pos keys values r) : DPs X zx W pos (some k :: keys) (v :: values) (pConsM f g r) := by
  obtain ⟨trs, hp, hi⟩ := hr
  refine ⟨_, pps_cons hk hv hp, fun σ H Q ⟨β, ρ, s, hl, hs, hp⟩ => ?_⟩
  refine ⟨β, ρ, s, hl, hs, Post.bind hp fun k s1 β1 H1 u st1 hs1 r1 h1 => ?_⟩
  refine ⟨β1, ρ, s1, hl.step st1, hs1, Post.bind h1 fun v s2 β2 H2 u2 st2 hs2 r2 h2 => ?_⟩
  refine hi _ _ _ ⟨β2, ρ, s2, (hl.step st1).step st2, hs2, Post.bind h2 fun ps s3 β3 H3 us st3 hs3 r3 h3 => ?_⟩
  exact h3 β3 H3 _ (Step.refl _ _) hs3 (.cons ⟨st3.rv (st2.rv r1), st3.rv r2⟩ r3)
theorem de_dispN (h : DPs X zx W pos keys values r) (hall : keys.all (·.isSome) = true := by rfl) (hl : keys.length = values.length := by rfl) (h0 : keys ≠ [] := by intro z; cases z) (h15 : keys.length ≤ 15 := by decide) : DE X zx W (.Dict keys values pos) (mDispN r) := by
  obtain ⟨trs, hp, hi⟩ := h
  refine PE.imp (pe_disp hp hall hl h0 h15) fun σ H Q ⟨β, ρ, s, hl, hs, hp⟩ p hn => ?_
  refine hi _ _ _ ⟨β.add p, ρ, s, hl.step (Step.add hn), hs.add hn, ?_⟩
  unfold mDispN at hp
  cases er : r ρ s with
  | bad => rw [er] at hp; exact hp.elim
  | ex x s1 => rw [er] at hp; exact fun β' H' c d st => hp β' H' c d ((Step.add hn).trans st)
  | ok ps s1 =>
    rw [er] at hp
    intro β1 H1 us st1 hs1 r1
    have h1 : Post (cf X zx) (Rv (cf X zx)) W σ β H Q (dispN ps s1) := hp
    have hpg : p ∈ β1.g := st1.gsub p List.mem_cons_self
    have hpe : H1 p = some (.dK []) := st1.keep p _ trivial upd_same (hs.nin hn)
    unfold dispN at h1
    split at h1
    · rename_i kvs ek
      split at h1
      · rename_i h15
        obtain ⟨ks, rfl, kv⟩ := pKeys_kv r1 ek
        have gp : Gp β1 H1 p := ⟨hpg, _, hpe, trivial⟩
        refine ⟨hpe, ks, rfl, by rw [← Paired.length kv]; exact h15, ?_⟩
        have mg : KvR keyD (Rv (cf X zx).o H1 β1) (dMerge kvs) (mergeK [] ks) := KvR.merge (kvs := kvs) .nil kv
        have hsub : ∀ x ∈ β.g, x ∈ β1.g := fun x hx => st1.gsub x (List.mem_cons_of_mem _ hx)
        have hs2 := RelS.mine (o := .dK (mergeK [] ks)) (g' := β.g) (ob := .dic false (dMerge kvs)) (hpg := hs.nig hn) gp hs1 hsub ⟨mergeK [] ks, upd_same, Paired.mapP mg fun p q z => ⟨z.1, Rv.mine gp hsub z.2⟩⟩
        exact h1 ⟨β1.b ++ [p], β.g⟩ _ (.ref p) (Step.mine hn st1) hs2 ⟨p, by
          show (β1.b ++ [p])[s1.length]? = some p
          rw [← hs1.len, List.getElem?_append_right (Nat.le_refl _), Nat.sub_self]
          rfl, rfl⟩
      · exact h1.elim
    · exact h1.elim
theorem de_dispD (h : DPs X zx W pos keys values r) (hall : keys.all (·.isSome) = true := by rfl) (hl : keys.length = values.length := by rfl) (h0 : keys ≠ [] := by intro z; cases z) (h15 : keys.length ≤ 15 := by decide) : DE X zx W (.Dict keys values pos) (mDispD r) := by
  obtain ⟨trs, hp, hi⟩ := h
  refine PE.imp (pe_disp hp hall hl h0 h15) fun σ H Q ⟨β, ρ, s, hl, hs, hp⟩ p hn => ?_
  refine hi _ _ _ ⟨β.add p, ρ, s, hl.step (Step.add hn), hs.add hn, ?_⟩
  unfold mDispD at hp
  cases er : r ρ s with
  | bad => rw [er] at hp; exact hp.elim
  | ex x s1 => rw [er] at hp; exact fun β' H' c d st => hp β' H' c d ((Step.add hn).trans st)
  | ok ps s1 =>
    rw [er] at hp
    intro β1 H1 us st1 hs1 r1
    have h1 : Post (cf X zx) (Rv (cf X zx)) W σ β H Q (R.of (dispD ps) s1) := hp
    have hpg : p ∈ β1.g := st1.gsub p List.mem_cons_self
    have hpe : H1 p = some (.dK []) := st1.keep p _ trivial upd_same (hs.nin hn)
    cases ed : dispD ps with
    | none => rw [ed] at h1; exact h1.elim
    | some z =>
      rw [ed] at h1
      obtain ⟨kvs, ek, ez⟩ := Option.bind_eq_some_iff.mp ed
      have ez : (if kvs.length ≤ 15 then some (Vl.dat (.dict (dMergeD kvs))) else none) = some z := ez
      split at ez
      · rename_i h15
        cases ez
        obtain ⟨ks, rfl, kv⟩ := pDats_kv r1 ek
        have gp : Gp β1 H1 p := ⟨hpg, _, hpe, trivial⟩
        refine ⟨hpe, ks, rfl, by rw [← Paired.length kv]; exact h15, ?_⟩
        have mg : KvR keyD (fun d v => Dq X.K H1 β1 v d) (dMergeD kvs) (mergeK [] ks) := KvR.merge (kvs := kvs) .nil kv
        have hsub : ∀ x ∈ β.g, x ∈ β1.g := fun x hx => st1.gsub x (List.mem_cons_of_mem _ hx)
        have np := (hs1.gs p hpg).2
        have mg2 : KvR keyD (fun d v => Dq X.K (upd H1 p (.dK (mergeK [] ks))) ⟨β1.b, β.g⟩ v d) (dMergeD kvs) (mergeK [] ks) := Paired.mapP mg fun p q z => ⟨z.1, Dq.drop (b := β1.b) (g := β1.g) hsub (gp.dq z.2)⟩
        exact h1 ⟨β1.b, β.g⟩ _ (.ref p) (Step.theirs hn st1) (RelS.drop (b := β1.b) (g := β1.g) hsub (gp.rs hs1)) (Dq.dic ⟨upd_same, np, hs.nig hn⟩ (DqKv.of mg2))
      · cases ez
end
end Pm
set_option maxRecDepth 100000
set_option maxHeartbeats 4000000
namespace Pm
open PySem PySem.Spec PyProof.Rows L2 Sw
section
variable {α : Type} (le : α → α → Bool)
def insB (a : α) : List α → List α
  | [] => [a]
  | b :: r => if le a b = true then a :: b :: r else b :: insB a r
def srtB (l : List α) : List α := l.foldr (insB le) []
end
section
variable {α : Type} {le : α → α → Bool}
theorem insB_perm (a : α) : ∀ l : List α, (insB le a l).Perm (a :: l)
  | [] => .refl _
  | b :: r => by
    unfold insB
    split
    · exact .refl _
    · exact ((insB_perm a r).cons b).trans (.swap a b r)
theorem srtB_perm : ∀ l : List α, (srtB le l).Perm l
  | [] => .refl _
  | a :: l => (insB_perm a (srtB le l)).trans ((srtB_perm l).cons a)
/-- all are told ahead of those behind them -/
abbrev SrB (le : α → α → Bool) (l : List α) : Prop := l.Pairwise fun a b => le a b = true
theorem insB_srt (tot : ∀ a b, le a b = true ∨ le b a = true) (tr : ∀ a b c, le a b = true → le b c = true → le a c = true) (a : α) : ∀ l : List α, SrB le l → SrB le (insB le a l)
  | [], _ => List.pairwise_singleton _ _
  | b :: r, h => by
    obtain ⟨h1, h2⟩ := List.pairwise_cons.mp h
    unfold insB
    split
    · rename_i hab
      refine List.pairwise_cons.mpr ⟨fun x hx => ?_, h⟩
      rcases List.mem_cons.mp hx with rfl | hx
      · exact hab
      · exact tr _ _ _ hab (h1 x hx)
    · rename_i hab
      refine List.pairwise_cons.mpr ⟨fun x hx => ?_, insB_srt tot tr a r h2⟩
      rcases List.mem_cons.mp ((insB_perm a r).mem_iff.mp hx) with rfl | hx
      · exact (tot x b).resolve_left hab
      · exact h1 x hx
theorem srtB_srt (tot : ∀ a b, le a b = true ∨ le b a = true) (tr : ∀ a b c, le a b = true → le b c = true → le a c = true) : ∀ l : List α, SrB le (srtB le l)
  | [] => .nil
  | a :: l => insB_srt tot tr a _ (srtB_srt tot tr l)
theorem sr_unique (anti : ∀ a b, le a b = true → le b a = true → a = b) : ∀ {l m : List α}, SrB le l → SrB le m → l.Perm m → l = m
  | [], m, _, _, p => by rw [List.nil_perm.mp p]
  | a :: l, [], _, _, p => by have := p.length_eq; simp at this
  | a :: l, b :: m, h1, h2, p => by
    obtain ⟨a1, a2⟩ := List.pairwise_cons.mp h1
    obtain ⟨b1, b2⟩ := List.pairwise_cons.mp h2
    have e : a = b := by
      rcases List.mem_cons.mp (p.mem_iff.mp List.mem_cons_self) with h | h
      · exact h
      · rcases List.mem_cons.mp (p.mem_iff.mpr (List.mem_cons_self (a := b) (l := m))) with h' | h'
        · exact h'.symm
        · exact anti _ _ (a1 b h') (b1 a h)
    subst e
    rw [sr_unique anti a2 b2 (List.Perm.cons_inv p)]
end
def leI (a b : Int) : Bool := decide (a ≤ b)
def leS (x y : Str) : Bool := !ltCps y.cps.toList x.cps.toList
abbrev srtI : List Int → List Int := srtB leI
abbrev srtS : List Str → List Str := srtB leS
theorem srtI_eq {ns ms : List Int} (p : ms.Perm ns) (h : ms.Pairwise (· ≤ ·)) : ms = srtI ns :=
  sr_unique (le := leI) (fun a b h1 h2 => by simp only [leI, decide_eq_true_eq] at h1 h2; omega) (h.imp fun h => decide_eq_true h)
    (srtB_srt (fun a b => by simp only [leI, decide_eq_true_eq]; omega) (fun a b c h1 h2 => by simp only [leI, decide_eq_true_eq] at *; omega) ns) (p.trans (srtB_perm ns).symm)
theorem leS_tot (x y : Str) : leS x y = true ∨ leS y x = true := by
  unfold leS
  rw [ltCps_eq, ltCps_eq, Bool.not_eq_true', Bool.not_eq_true', decide_eq_false_iff_not, decide_eq_false_iff_not]
  rcases Classical.em (y.cps.toList < x.cps.toList) with h | h
  · exact .inr fun z => absurd (LtS.trans (a := x) (b := y) (c := x) z h) LtS.irr
  · exact .inl h
theorem leS_lt {x y : Str} : leS x y = true ↔ ¬ LtS y x := by
  unfold leS
  rw [ltCps_eq, Bool.not_eq_true', decide_eq_false_iff_not]
  rfl
theorem leS_tr (x y z : Str) (h1 : leS x y = true) (h2 : leS y z = true) : leS x z = true := by
  rw [leS_lt] at *
  intro h
  by_cases e : x = y
  · subst e; exact h2 h
  · exact h2 (LtS.trans h (LtS.tri h1 e))
theorem leS_anti (x y : Str) (h1 : leS x y = true) (h2 : leS y x = true) : x = y := by
  rw [leS_lt] at *
  refine Classical.byContradiction fun e => ?_
  exact h2 (LtS.tri h1 e)
theorem sortedS_pw : ∀ {ys : List Str}, sortedS ys = true → SrB leS ys
  | [], _ => .nil
  | p :: r, h => by
    have key : ∀ (p : Str) (r : List Str), risingS p r = true → SrB leS (p :: r) := by
      intro p r
      induction r generalizing p with
      | nil => intro _; exact List.pairwise_singleton _ _
      | cons x r ih =>
        intro h
        have h' : (!ltCps x.cps.toList p.cps.toList && risingS x r) = true := h
        rw [Bool.and_eq_true] at h'
        have h2 := ih x h'.2
        refine List.pairwise_cons.mpr ⟨fun y hy => ?_, h2⟩
        have hx : leS p x = true := h'.1
        rcases List.mem_cons.mp hy with rfl | hy
        · exact hx
        · exact leS_tr _ _ _ hx ((List.pairwise_cons.mp h2).1 y hy)
    exact key p r h
theorem srtS_eq {ns ms : List Str} (p : ms.Perm ns) (h : sortedS ms = true) : ms = srtS ns :=
  sr_unique leS_anti (sortedS_pw h) (srtB_srt leS_tot leS_tr ns) (p.trans (srtB_perm ns).symm)
/-- all of a list are texts -/
def txs : List PyData → Option (List Str)
  | [] => some []
  | .str i :: r => (txs r).map (i :: ·)
  | _ :: _ => none
theorem txs_eq : ∀ {ds : List PyData} {ns : List Str}, txs ds = some ns → ds = ns.map PyData.str
  | [], ns, h => by
    have : [] = ns := by simpa [txs] using h
    subst this
    rfl
  | d :: r, ns, h => by
    cases d with
    | str i =>
      cases e : txs r with
      | none => simp [txs, e] at h
      | some l =>
        have : i :: l = ns := by simpa [txs, e] using h
        subst this
        rw [txs_eq e]
        rfl
    | _ => simp [txs] at h
@[simp] theorem txs_map : ∀ ns : List Str, txs (ns.map PyData.str) = some ns
  | [] => rfl
  | n :: ns => by simp [txs, txs_map ns]
theorem dq_strs_of {K : PySem.W.Frag} {H : Hp} {β : Bs} : ∀ {ns : List Str} {xs : List V}, DqAll K H β xs (ns.map PyData.str) → xs = ns.map V.str
  | [], [], _ => rfl
  | n :: ns, x :: xs, .cons h t => by
    rw [dq_strs_of t]
    cases h
    rfl
theorem dq_strs {K : PySem.W.Frag} {H : Hp} {β : Bs} : ∀ {ns : List Str}, (∀ x ∈ ns, x.length ≤ sizeLine) → DqAll K H β (ns.map V.str) (ns.map PyData.str)
  | [], _ => .nil
  | n :: ns, h => .cons (.str (h n List.mem_cons_self)) (dq_strs fun x hx => h x (List.mem_cons_of_mem _ hx))
theorem dq_strs_len {K : PySem.W.Frag} {H : Hp} {β : Bs} : ∀ {ns : List Str} {xs : List V}, DqAll K H β xs (ns.map PyData.str) → ∀ x ∈ ns, x.length ≤ sizeLine
  | n :: ns, _, .cons h t, x, hx => by
    rcases List.mem_cons.mp hx with rfl | hx
    · cases h with
      | str h => exact h
    · exact dq_strs_len t x hx
def srtD (ds : List PyData) : Option Vl := match nums ds with
  | some ns => if ns.length < 64 then some (.dat (.list ((srtI ns).map .int))) else none
  | none => (txs ds).bind fun zs => if zs.length < 64 ∧ (zs.all fun x => decide (x.length ≤ mil)) = true then some (.dat (.list ((srtS zs).map .str))) else none
def phSorted : List Vl → Sto → Option Vl
  | [v], s => match dOf v s with
    | some (false, kvs) => srtD (kvs.map (·.1))
    | some (true, _) => none
    | none => (lsD v s).bind srtD
  | _, _ => none
theorem kv_keys {α : Type} {R : α → V → Prop} : ∀ {kvs : List (PyData × α)} {ks : List (Key × V)}, KvR keyD R kvs ks → kvs.map (·.1) = (ks.map (·.1)).map keyD
  | _, _, .nil => rfl
  | _, _, .cons h t => by rw [List.map_cons, kv_keys t, h.1]; rfl
theorem keys_nums : ∀ {ks : List Key} {ns : List Int}, nums (ks.map keyD) = some ns → ks = ns.map Sum.inl
  | [], ns, h => by cases h; rfl
  | .inl i :: ks, ns, h => by
    have h : (nums (ks.map keyD)).map (i :: ·) = some ns := h
    obtain ⟨l, e, rfl⟩ := Option.map_eq_some_iff.mp h
    rw [keys_nums e]; rfl
  | .inr i :: ks, ns, h => by cases h
theorem keys_txs : ∀ {ks : List Key} {ns : List Str}, txs (ks.map keyD) = some ns → ks = ns.map Sum.inr
  | [], ns, h => by cases h; rfl
  | .inr i :: ks, ns, h => by
    have h : (txs (ks.map keyD)).map (i :: ·) = some ns := h
    obtain ⟨l, e, rfl⟩ := Option.map_eq_some_iff.mp h
    rw [keys_txs e]; rfl
  | .inl i :: ks, ns, h => by cases h
section
variable {X : Cx} {zx : Exo} {W : WX}
theorem srt_lst {H : Hp} {β : Bs} {st : Sto} {ms : List Int} {p : Addr} (hs : RelS (cf X zx) β st H) (hp : H p = none) (hl : ms.length < 64) : Rv (cf X zx) (upd H p (.lst (ms.map V.int))) β (.dat (.list (ms.map .int))) (.ref p) :=
  .lst ⟨upd_same, hs.nin hp, hs.nig hp⟩ (by rw [List.length_map]; exact thou (by omega)) (dq_ints _)
theorem srt_lstS {H : Hp} {β : Bs} {st : Sto} {ms : List Str} {p : Addr} (hs : RelS (cf X zx) β st H) (hp : H p = none) (hl : ms.length < 64) (hz : ∀ x ∈ ms, x.length ≤ sizeLine) : Rv (cf X zx) (upd H p (.lst (ms.map V.str))) β (.dat (.list (ms.map .str))) (.ref p) :=
  .lst ⟨upd_same, hs.nin hp, hs.nig hp⟩ (by rw [List.length_map]; exact thou (by omega)) (dq_strs hz)
theorem mc_sorted (hc : X.calm = true) : CallR X (.builtin "sorted") (rn (cf X zx) phSorted) := by
  intro pins s σ H xs us Q I rx h
  obtain ⟨β, st, vs, z, hs, rv, e, q⟩ := h
  unfold phSorted at e
  split at e
  · rename_i v s'
    obtain ⟨x, rfl, r⟩ := rvs1 rv
    split at e
    · rename_i kvs ed
      obtain ⟨a, rfl, da⟩ := dOf_at hs r ed
      cases da with
      | @k ks _ h1 kv =>
        have ek := kv_keys kv
        rw [ek] at e
        unfold srtD at e
        split at e
        · rename_i ns en
          split at e
          · rename_i hl
            cases e
            refine call_sortedDI hc pins s σ H _ us Q I rx ⟨a, ks, ns, rfl, .inl h1, keys_nums en, hl, fun ys p pm hp hn => ?_⟩
            rw [srtI_eq pm hp]
            exact q _ _ (same_new hn) (srt_lst hs hn (by rw [(srtB_perm ns).length_eq]; exact hl))
          · cases e
        · obtain ⟨zs, ez, e⟩ := Option.bind_eq_some_iff.mp e
          split at e
          · rename_i hl
            cases e
            refine call_sortedD hc pins s σ H _ us Q I rx ⟨a, ks, zs, rfl, .inl h1, keys_txs ez, hl.1, fun ys p pm hp hn => ?_⟩
            rw [srtS_eq pm hp]
            exact q _ _ (same_new hn) (srt_lstS hs hn (by rw [(srtB_perm zs).length_eq]; exact hl.1) fun x hx => mil_le (by simpa using List.all_eq_true.mp hl.2 x ((srtB_perm zs).mem_iff.mp hx)))
          · cases e
    · cases e
    · obtain ⟨ds, el, e⟩ := Option.bind_eq_some_iff.mp e
      obtain ⟨a, xs, rfl, h1, dx⟩ := lsD_at hs r el
      unfold srtD at e
      split at e
      · rename_i ns en
        split at e
        · rename_i hl
          cases e
          have := nums_eq en
          subst this
          rw [dq_ints_of dx] at h1
          refine cr_sorted pins s σ H _ us Q I rx ⟨a, ns, rfl, SqL.of h1, hl, fun ys p pm hp hn => ?_⟩
          rw [srtI_eq pm hp]
          exact q _ _ (same_new hn) (srt_lst hs hn (by rw [(srtB_perm ns).length_eq]; exact hl))
        · cases e
      · obtain ⟨zs, ez, e⟩ := Option.bind_eq_some_iff.mp e
        split at e
        · rename_i hl
          cases e
          have := txs_eq ez
          subst this
          have hz := dq_strs_len dx
          rw [dq_strs_of dx] at h1
          refine cr_sortedS pins s σ H _ us Q I rx ⟨a, zs, rfl, SqL.of h1, hl.1, fun ys p pm hp hn => ?_⟩
          rw [srtS_eq pm hp]
          exact q _ _ (same_new hn) (srt_lstS hs hn (by rw [(srtB_perm zs).length_eq]; exact hl.1) fun x hx => hz x ((srtB_perm zs).mem_iff.mp hx))
        · cases e
  · cases e
end
end Pm
set_option maxRecDepth 100000
set_option maxHeartbeats 4000000
namespace Pm
open PySem PySem.Spec PyProof.Rows L2 Sw
def minL : List Int → Int
  | [] => 0
  | [a] => a
  | a :: b :: r => min a (minL (b :: r))
def numsL (v : Vl) (s : Sto) : Option (List Int) := ((lsD v s).bind nums).bind fun ns => if ns.isEmpty = true then none else some ns
def phMin1 : List Vl → Sto → Option Vl
  | [v], s => (numsL v s).map fun ns => .dat (.int (minL ns))
  | _, _ => none
def phMin2 : List Vl → Sto → Option Vl
  | [.dat (.int i), .dat (.int j)], _ => some (.dat (.int (if j < i then j else i)))
  | _, _ => none
def phInt : List Vl → Sto → Option Vl
  | [.dat (.int i)], _ => some (.dat (.int i))
  | [.dat (.bool k)], _ => some (.dat (.int (if k then 1 else 0)))
  | _, _ => none
def pair2 : PyData → Option (PyData × PyData)
  | .tuple [.str k, v] => some (.str k, v)
  | _ => none
def pairs2 : List PyData → Option (List (PyData × PyData))
  | [] => some []
  | d :: r => (pair2 d).bind fun p => (pairs2 r).map (p :: ·)
def phDict : List Vl → Sto → Option Vl
  | [.dat (.tuple ds)], _ => if isO ds = true then (pairs2 ds).map fun kvs => .dat (.dict (dMergeD kvs)) else none
  | _, _ => none
section
variable {X : Cx} {zx : Exo} {W : WX}
theorem mc_min2 (hc : X.calm = true) : CallR X (.builtin "min") (rn (cf X zx) phMin2) := by
  intro pins s σ H xs us Q I rx h
  obtain ⟨β, st, vs, z, hs, rv, e, q⟩ := h
  unfold phMin2 at e
  split at e
  · cases e
    obtain ⟨x, y, rfl, r1, r2⟩ := rvs2 rv
    cases r1; cases r2
    exact call_min2 hc pins s σ H _ us Q I rx ⟨_, _, rfl, q H _ (Same.refl H) (.int _)⟩
  · cases e
end
section
variable {X : Cx} {zx : Exo} {W : WX}
theorem DqAll.mem {K : PySem.W.Frag} {H : Hp} {β : Bs} {xs : List V} {ds : List PyData} {i : Nat} {d : PyData} (h : ds[i]? = some d) : d ∈ ds := List.mem_of_getElem? h
end
end Pm
set_option maxRecDepth 100000
set_option maxHeartbeats 4000000
namespace Pm
open PySem PySem.Spec PyProof.Rows L2 Sw
def idxN (v : Vl) (vs : List Vl) : Option Vl := match v, vs with
  | .dat (.str a), [.dat (.str b)] => (Txt.index0 a b).map fun (k : Nat) => Vl.dat (.int (k : Int))
  | _, _ => none
def isSv : Vl → Bool
  | .dat (.str _) => true
  | _ => false
def chN (r : R Vl) (k : Sto → R Vl) : R Vl := r.bind fun z s => match z with
  | .dat (.bool true) => k s
  | .dat (.bool false) => .ok (.dat (.bool false)) s
  | _ => .bad
@[simp] theorem chN_t {s : Sto} {k : Sto → R Vl} : chN (.ok (.dat (.bool true)) s) k = k s := rfl
@[simp] theorem chN_f {s : Sto} {k : Sto → R Vl} : chN (.ok (.dat (.bool false)) s) k = .ok (.dat (.bool false)) s := rfl
def augI (g : Int → Int → Int) (v y : Vl) : Option Vl := match v, y with
  | .dat (.int i), .dat (.int j) => some (.dat (.int (g i j)))
  | _, _ => none
@[simp] theorem augI_i {g : Int → Int → Int} {i j : Int} : augI g (.dat (.int i)) (.dat (.int j)) = some (.dat (.int (g i j))) := rfl
end Pm
set_option maxRecDepth 100000
set_option maxHeartbeats 4000000
namespace Sw
open PySem PySem.Spec PyProof.Rows L2
structure IsWord (z : Str) : Prop where
  lo : 1 ≤ z.length
  hi : z.length ≤ 8
  ok : ∀ c ∈ z.cps.toList, okSign c = true
theorem len_list (z : Str) : z.length = z.cps.toList.length := by simp [Str.length]
theorem app_list (x y : Str) : (x ++ y).cps.toList = x.cps.toList ++ y.cps.toList := by
  show (x.cps ++ y.cps).toList = _
  simp
theorem app_len (x y : Str) : (x ++ y).length = x.length + y.length := by
  rw [len_list, len_list, len_list, app_list, List.length_append]
theorem IsWord.ascii {z : Str} (h : IsWord z) : ∀ c ∈ z.cps.toList, c < 128 := fun c hc => by
  have := h.ok c hc
  unfold okSign at this
  rw [Bool.and_eq_true, decide_eq_true_eq, decide_eq_true_eq] at this
  omega
theorem IsWord.app {x y : Str} (hx : IsWord x) (hy : ∀ c ∈ y.cps.toList, okSign c = true) (hl : x.length + y.length ≤ 8) : IsWord (x ++ y) := by
  refine ⟨by rw [app_len]; have := hx.lo; omega, by rw [app_len]; exact hl, fun c hc => ?_⟩
  rw [app_list, List.mem_append] at hc
  exact hc.elim (hx.ok c) (hy c)
def val (l : List Nat) : Nat := l.foldl (fun a c => a * 26 + (c - 97)) 0
theorem val_from : ∀ (l : List Nat) (a : Nat), (∀ c ∈ l, okSign c = true) → l.foldl (fun a c => a * 26 + (c - 97)) a < (a + 1) * 26 ^ l.length
  | [], a, _ => by simp
  | c :: l, a, h => by
    have h2 := h c List.mem_cons_self
    unfold okSign at h2
    rw [Bool.and_eq_true, decide_eq_true_eq, decide_eq_true_eq] at h2
    have ih := val_from l (a * 26 + (c - 97)) fun d hd => h d (List.mem_cons_of_mem _ hd)
    rw [List.foldl_cons, List.length_cons, Nat.pow_succ, Nat.mul_comm (26 ^ l.length) 26, ← Nat.mul_assoc]
    exact Nat.lt_of_lt_of_le ih (Nat.mul_le_mul_right _ (by omega))
theorem val_lt (l : List Nat) (h : ∀ c ∈ l, okSign c = true) : val l < 26 ^ l.length := by
  have := val_from l 0 h
  rw [Nat.zero_add, Nat.one_mul] at this
  exact this
def Nx (z z' : Str) : Prop := (z.length < 8 ∧ z'.length = z.length + 1) ∨ (z.length = 8 ∧ z'.length = 8 ∧ val z'.cps.toList = (val z.cps.toList + 1) % 26 ^ 8)
/-- u comes t words ahead of z -/
def Bf (t : Nat) (u z : Str) : Prop := (u.length < 8 ∧ u.length < z.length) ∨ (u.length = 8 ∧ z.length = 8 ∧ val z.cps.toList = (val u.cps.toList + t) % 26 ^ 8)
theorem Bf.ne {t : Nat} {u z : Str} (h : Bf t u z) (h1 : 1 ≤ t) (h2 : t ≤ 100) (hu : IsWord u) : z ≠ u := by
  intro e
  subst e
  rcases h with h | ⟨h8, _, h⟩
  · omega
  · have := val_lt z.cps.toList hu.ok
    rw [← len_list, h8] at this
    have e8 : (26 : Nat) ^ 8 = 208827064576 := by decide
    rw [e8] at h this
    omega
theorem Bf.next {t : Nat} {u z z' : Str} (h : Bf t u z) (n : Nx z z') : Bf (t + 1) u z' := by
  rcases h with h | ⟨h8, hz, h⟩
  · rcases n with n | n
    · exact .inl ⟨h.1, by omega⟩
    · exact .inl ⟨h.1, by omega⟩
  · rcases n with n | ⟨_, n8, n⟩
    · omega
    · refine .inr ⟨h8, n8, ?_⟩
      have e8 : (26 : Nat) ^ 8 = 208827064576 := by decide
      rw [e8] at h n ⊢
      omega
theorem Bf.one {z z' : Str} (n : Nx z z') : Bf 1 z z' := by
  rcases n with n | ⟨h8, n8, n⟩
  · exact .inl ⟨n.1, by omega⟩
  · exact .inr ⟨h8, n8, n⟩
/-- i words were tried, all of them there; z is the next -/
structure Tried (zs ws : List Str) (z : Str) (i : Nat) : Prop where
  len : ws.length = i
  nd : ws.Nodup
  sub : ∀ u ∈ ws, u ∈ zs
  bf : ∀ u ∈ ws, ∃ t, 1 ≤ t ∧ t ≤ i ∧ Bf t u z
theorem Tried.nil {zs : List Str} {z : Str} : Tried zs [] z 0 := ⟨rfl, List.nodup_nil, by simp, by simp⟩
theorem Tried.next {zs ws : List Str} {z z' : Str} {i : Nat} (h : Tried zs ws z i) (hi : i < 60) (hw : ∀ u ∈ zs, IsWord u) (hz : IsWord z) (hin : z ∈ zs) (n : Nx z z') : Tried zs (z :: ws) z' (i + 1) := by
  refine ⟨by rw [List.length_cons, h.len], List.nodup_cons.mpr ⟨fun m => ?_, h.nd⟩, fun u hu => ?_, fun u hu => ?_⟩
  · obtain ⟨t, t1, t2, b⟩ := h.bf z m
    exact b.ne t1 (by omega) hz rfl
  · rcases List.mem_cons.mp hu with rfl | hu
    · exact hin
    · exact h.sub u hu
  · rcases List.mem_cons.mp hu with rfl | hu
    · exact ⟨1, Nat.le_refl _, by omega, Bf.one n⟩
    · obtain ⟨t, t1, t2, b⟩ := h.bf u hu
      exact ⟨t + 1, by omega, by omega, b.next n⟩
theorem inV_strs {z : Str} {zs : List Str} : inV (.str z) (zs.map V.str) = decide (z ∈ zs) := by
  unfold inV
  rw [List.any_map]
  by_cases h : z ∈ zs
  · rw [decide_eq_true h, List.any_eq_true]
    exact ⟨z, h, by simp [eqV]⟩
  · rw [decide_eq_false h, List.any_eq_false]
    intro y hy
    have : y ≠ z := fun e => h (e ▸ hy)
    simp [eqV, this]
end Sw
set_option maxRecDepth 100000
set_option maxHeartbeats 4000000
namespace Pm
open PySem PySem.Spec PyProof.Rows L2 Sw
@[simp] theorem putB_nil {s t : Sto} : putB s [] t = s := by cases t <;> rfl
@[simp] theorem refsOf_nil : refsOf [] = [] := rfl
@[simp] theorem refsOf_dat {p : PyData} {r : List Vl} : refsOf (.dat p :: r) = refsOf r := rfl
@[simp] theorem refsOf_fn {p : Str} {r : List Vl} : refsOf (.fn p :: r) = refsOf r := rfl
@[simp] theorem refsOf_scr {p : List Int} {r : List Vl} : refsOf (.scr p :: r) = refsOf r := rfl
@[simp] theorem refsOf_ref {n : Nat} {r : List Vl} : refsOf (.ref n :: r) = n :: refsOf r := rfl
@[simp] theorem renam_nil {j : Nat} : renam j [] = [] := rfl
@[simp] theorem renam_dat {j : Nat} {p : PyData} {r : List Vl} : renam j (.dat p :: r) = .dat p :: renam j r := rfl
@[simp] theorem renam_fn {j : Nat} {p : Str} {r : List Vl} : renam j (.fn p :: r) = .fn p :: renam j r := rfl
@[simp] theorem renam_scr {j : Nat} {p : List Int} {r : List Vl} : renam j (.scr p :: r) = .scr p :: renam j r := rfl
@[simp] theorem renam_ref {j n : Nat} {r : List Vl} : renam j (.ref n :: r) = .ref j :: renam (j + 1) r := rfl
/-- without references -/
theorem fr0 {g : MF} {xs : List Vl} {s s2 : Sto} {p : PyData} (h : g xs [] = .ok (.dat p) s2) (hx : refsOf xs = [] := by rfl) (hr : renam 0 xs = xs := by rfl) : frameG g xs s = .ok (.dat p) s := by
  unfold frameG
  rw [hx, if_pos List.nodup_nil]
  simp only [pickS]
  rw [if_pos (show stoOk 0 [] from trivial), hr, h]
  simp only []
  rw [if_pos ⟨Nat.zero_le _, trivial⟩, putB_nil]
  rfl
/-- the first argument is one of the store's -/
theorem fr1 {g : MF} {xs : List Vl} {s more : Sto} {k : Nat} {o o' : Ob} {p : PyData} (h : g (.ref 0 :: xs) [o] = .ok (.dat p) (o' :: more)) (hk : s[k]? = some o) (ho : obOk 0 o) (ho' : obOk 0 o') (hx : refsOf xs = [] := by rfl) (hr : renam 1 xs = xs := by rfl) : frameG g (.ref k :: xs) s = .ok (.dat p) (s.set k o') := by
  unfold frameG
  rw [refsOf_ref, hx, if_pos (by simp)]
  simp only [pickS, hk, Option.bind_some, Option.map_some]
  rw [if_pos (show stoOk 0 [o] from ⟨ho, trivial⟩), renam_ref, hr, h]
  simp only []
  rw [if_pos ⟨by simp, show stoOk 0 ((o' :: more).take 1) from ⟨ho', trivial⟩⟩]
  show R.ok _ (putB (s.set k o') [] more) = _
  rw [putB_nil]
theorem sh_int (i : Int) : SeqAt.shaped (.int i) = true := by simp [SeqAt.shaped, PyData.canLay0, PyData.depth]
theorem sh_data {M : Nat} {d : PyData} (h : leaf M d = true) (hd : d.depth ≤ 64) : SeqAt.shaped d = true := by
  unfold SeqAt.shaped
  rw [leaf_canLay _ h, Bool.true_and, decide_eq_true hd]
theorem eqv_ii (i j : Int) : PyData.eqv (.int i) (.int j) = decide (i = j) := by
  simp only [PyData.eqv]
  exact Bool.beq_eq_decide_eq i j
theorem eqv_ss (x y : Str) : PyData.eqv (.str x) (.str y) = decide (x = y) := by
  simp only [PyData.eqv]
  exact Bool.beq_eq_decide_eq x y
@[simp] theorem phEq_i {i j : Int} {s : Sto} : phEq (.dat (.int i)) (.dat (.int j)) s = some (.dat (.bool (decide (i = j)))) := by
  simp only [phEq]
  rw [if_pos ⟨sh_int _, sh_int _⟩, eqv_ii]
@[simp] theorem phNe_i {i j : Int} {s : Sto} : phNe (.dat (.int i)) (.dat (.int j)) s = some (.dat (.bool (!decide (i = j)))) := by
  simp only [phNe]
  rw [if_pos ⟨sh_int _, sh_int _⟩, eqv_ii]
@[simp] theorem phEq_s {x y : Str} {s : Sto} : phEq (.dat (.str x)) (.dat (.str y)) s = some (.dat (.bool (decide (x = y)))) := rfl
@[simp] theorem phNe_s {x y : Str} {s : Sto} : phNe (.dat (.str x)) (.dat (.str y)) s = some (.dat (.bool (!decide (x = y)))) := rfl
theorem phEq_sh {a b : PyData} {s : Sto} (ha : SeqAt.shaped a = true) (hb : SeqAt.shaped b = true) : phEq (.dat a) (.dat b) s = some (.dat (.bool (PyData.eqv a b))) := by
  cases a <;> cases b <;> simp only [phEq, eqv_ss] <;> rw [if_pos ⟨ha, hb⟩]
theorem phNe_sh {a b : PyData} {s : Sto} (ha : SeqAt.shaped a = true) (hb : SeqAt.shaped b = true) : phNe (.dat a) (.dat b) s = some (.dat (.bool (!PyData.eqv a b))) := by
  cases a <;> cases b <;> simp only [phNe, eqv_ss] <;> rw [if_pos ⟨ha, hb⟩]
/-- two written texts -/
theorem eqS (x y : Str) (k : Bool) {s : Sto} (h : (decide (x = y) == k) = true) : phEq (.dat (.str x)) (.dat (.str y)) s = some (.dat (.bool k)) := by
  rw [phEq_s, eq_of_beq h]
theorem fVs_ints : ∀ ns : List Int, fVs (ns.map PyData.int) = some (ns.map V.int)
  | [] => rfl
  | n :: ns => by
    show ((fV (.int n)).bind fun v => (fVs (ns.map PyData.int)).map (v :: ·)) = _
    rw [fVs_ints ns]
    rfl
theorem inV_ints {z : Int} {zs : List Int} : inV (.int z) (zs.map V.int) = decide (z ∈ zs) := by
  unfold inV
  rw [List.any_map, Bool.eq_iff_iff, List.any_eq_true, decide_eq_true_iff]
  constructor
  · rintro ⟨x, hx, e⟩
    have : x = z := by simpa [eqV] using e
    exact this ▸ hx
  · intro h
    exact ⟨z, h, by simp [eqV]⟩
theorem phIn_l {neg : Bool} {z : Int} {zs : List Int} {s : Sto} : phIn neg (.dat (.int z)) (.dat (.list (zs.map PyData.int))) s = some (.dat (.bool (if neg = true then !decide (z ∈ zs) else decide (z ∈ zs)))) := by
  show ((fVs (zs.map PyData.int)).map fun vs => Vl.dat (.bool (if neg = true then !inV (.int z) vs else inV (.int z) vs))) = _
  rw [fVs_ints]
  simp only [Option.map_some, inV_ints]
theorem rgs_zero {lo : Int} : rgs lo 0 = [] := rfl
theorem rgs_succ {lo : Int} {n : Nat} : rgs lo (n + 1) = .dat (.int lo) :: rgs (lo + 1) n := by
  unfold rgs
  rw [List.range_succ_eq_map, List.map_cons, List.map_map]
  congr 1
  · simp
  · apply List.map_congr_left
    intro a _
    show Vl.dat (.int (lo + ((a + 1 : Nat) : Int))) = _
    congr 2
    omega
def Wp {S L : Type} (Q : An S L → Prop) (z : An S L) : Prop := Q z
theorem wp_of {S L : Type} {Q : An S L → Prop} {z : An S L} (h : Wp Q z) : Q z := h
theorem wp_an {α S L : Type} {Q : An S L → Prop} {r : R α} {k : α → Sto → An S L} {a : α} {s : Sto} (h : r = .ok a s) (h2 : Wp Q (k a s)) : Wp Q (r.an k) := by
  rw [h]; exact h2
theorem wp_ex {α S L : Type} {Q : An S L → Prop} {r : R α} {k : α → Sto → An S L} (P : α → Sto → Prop) (h : ∃ a s, r = .ok a s ∧ P a s) (h2 : ∀ a s, P a s → Wp Q (k a s)) : Wp Q (r.an k) := by
  obtain ⟨a, s, e, p⟩ := h
  rw [e]; exact h2 a s p
theorem wp_if {S L : Type} {Q : An S L → Prop} {r : R Bool} {k : Bool → Sto → An S L} {b : Bool} {s : Sto} (h : r = .ok b s) (h2 : Wp Q (k b s)) : Wp Q (r.an k) := by
  rw [h]; exact h2
theorem wp_thn {S S' L : Type} {Q : An S' L → Prop} {f : An S L} {k : S → Sto → An S' L} {a : S} {s : Sto} (h : f = .nx a s) (h2 : Wp Q (k a s)) : Wp Q (f.thn k) := by
  rw [h]; exact h2
theorem runN_ap {nf : List Vl → Sto → An Unit Empty} {xs : List Vl} {s : Sto} : runN nf xs s = (nf xs s).fin := rfl
theorem filter_true {α : Type} (l : List α) : l.filter (fun _ => true) = l := List.filter_eq_self.mpr fun _ _ => rfl
theorem th_mil {n : Nat} (h : n ≤ 1000) : n ≤ mil := Nat.le_trans h (by unfold mil; omega)
theorem mil_sz {n : Nat} (h : n < mil) : n < sizeLine := Nat.lt_of_lt_of_le h (mil_le (Nat.le_refl _))
section
variable {P : Type} {ok : Sto → Prop} {pat : Vl → Option P} {t : P → Sto → R Bool} {e : P → Sto → R Vl}
theorem compP_nil {acc : List Vl} {s : Sto} (h : ok s) : compP ok pat t e [] acc s = .ok acc s := by
  rw [compP, if_pos h]
theorem compP_yes {v : Vl} {r acc : List Vl} {s s1 s2 : Sto} {p : P} {y : Vl} (h : ok s) (hp : pat v = some p) (ht : t p s = .ok true s1) (he : e p s1 = .ok y s2) (hl : acc.length < mil) : compP ok pat t e (v :: r) acc s = compP ok pat t e r (acc ++ [y]) s2 := by
  rw [compP, if_pos h, hp]
  simp only [ht, he]
  rw [if_pos (mil_sz hl)]
theorem compP_no {v : Vl} {r acc : List Vl} {s s1 : Sto} {p : P} (h : ok s) (hp : pat v = some p) (ht : t p s = .ok false s1) : compP ok pat t e (v :: r) acc s = compP ok pat t e r acc s1 := by
  rw [compP, if_pos h, hp]
  simp only [ht]
theorem compP_pure {α : Type} {s : Sto} (f : α → Vl) (p : α → P) (b : α → Bool) (y : α → Vl) (hok : ok s) : ∀ (l : List α) (acc : List Vl), (∀ x ∈ l, pat (f x) = some (p x) ∧ t (p x) s = .ok (b x) s ∧ (b x = true → e (p x) s = .ok (y x) s)) → acc.length + l.length ≤ mil → compP ok pat t e (l.map f) acc s = .ok (acc ++ (l.filter b).map y) s
  | [], acc, _, _ => by rw [List.map_nil, compP_nil hok]; simp
  | x :: l, acc, h, hl => by
    obtain ⟨h1, h2, h3⟩ := h x List.mem_cons_self
    have hl' : acc.length + (l.length + 1) ≤ mil := hl
    rw [List.map_cons]
    cases hb : b x with
    | true =>
      rw [compP_yes hok h1 (by rw [h2, hb]) (h3 hb) (by omega), compP_pure f p b y hok l _ (fun z hz => h z (List.mem_cons_of_mem _ hz)) (by rw [List.length_append, List.length_singleton]; omega), List.filter_cons, if_pos hb, List.map_cons, List.append_assoc]
      rfl
    | false =>
      rw [compP_no hok h1 (by rw [h2, hb]), compP_pure f p b y hok l _ (fun z hz => h z (List.mem_cons_of_mem _ hz)) (by omega), List.filter_cons, if_neg (by rw [hb]; decide)]
theorem datas_dats {α : Type} {f : α → PyData} : ∀ l : List α, datas (l.map fun x => Vl.dat (f x)) = some (l.map f)
  | [] => rfl
  | x :: l => by
    show (datas (l.map fun x => Vl.dat (f x))).map (f x :: ·) = _
    rw [datas_dats l]
    rfl
theorem lcP_pure {α : Type} {s : Sto} {a' : Option (Nat × List Vl)} {l : List α} (f : α → Vl) (p : α → P) (b : α → Bool) (y : α → PyData) (hok : Src.ok ⟨l.map f, a'⟩ s) (h : ∀ x ∈ l, pat (f x) = some (p x) ∧ t (p x) s = .ok (b x) s ∧ (b x = true → e (p x) s = .ok (.dat (y x)) s)) (hl : l.length ≤ mil) : lcP (.ok ⟨l.map f, a'⟩ s) pat t e = .ok (.dat (.list ((l.filter b).map y))) s := by
  unfold lcP
  rw [R.bind_ok]
  show (compP (Src.ok ⟨l.map f, a'⟩) pat t e (l.map f) [] s).bind _ = _
  rw [compP_pure f p b (fun x => .dat (y x)) hok l [] h (by simpa using hl), R.bind_ok, List.nil_append, datas_dats]
  rfl
theorem lcP_map {α : Type} {s : Sto} {a' : Option (Nat × List Vl)} {l : List α} (f : α → Vl) (p : α → P) (y : α → PyData) (hok : Src.ok ⟨l.map f, a'⟩ s) (h : ∀ x ∈ l, pat (f x) = some (p x) ∧ e (p x) s = .ok (.dat (y x)) s) (hl : l.length ≤ mil) : lcP (.ok ⟨l.map f, a'⟩ s) pat (fun _ s => .ok true s) e = .ok (.dat (.list (l.map y))) s := by
  have := lcP_pure (t := fun _ s => .ok true s) f p (fun _ => true) y hok (fun x hx => ⟨(h x hx).1, rfl, fun _ => (h x hx).2⟩) hl
  rwa [filter_true] at this
end
end Pm
set_option maxRecDepth 100000
set_option maxHeartbeats 4000000
namespace Pm
open PySem PySem.Spec PyProof.Rows L2 Sw
inductive Opd where
  | n (i : Int)
  | v (x : Str)
structure Adr where
  names : List Str
  pick : Opd
  index : Opd
inductive Row where
  | load (x : Str) (a : Adr)
  | store (a : Adr) (o : Opd)
  | touch (a : Adr)
  | set (x w : Str) (p q : Opd)
  | tell (o : Opd)
  | need (o : Opd)
  | call (f : Str)
inductive Endd where
  | go (b : Int)
  | iff (o : Opd) (b c : Int)
  | back
structure Blk where
  rows : List Row
  fin : Endd
structure Cod where
  objs : List (Str × Int)
  rts : List (Str × List Blk)
def Opd.d : Opd → PyData
  | .n i => .int i
  | .v x => .str x
def strsD (l : List Str) : PyData := .tuple (l.map .str)
def Adr.d (a : Adr) : PyData := .tuple [strsD a.names, a.pick.d, a.index.d]
def Row.d : Row → PyData
  | .load x a => .tuple [.str "load", .str x, a.d]
  | .store a o => .tuple [.str "store", a.d, o.d]
  | .touch a => .tuple [.str "touch", a.d]
  | .set x w p q => .tuple [.str "set", .str x, .str w, p.d, q.d]
  | .tell o => .tuple [.str "tell", o.d]
  | .need o => .tuple [.str "need", o.d]
  | .call f => .tuple [.str "call", .str f]
def Endd.d : Endd → PyData
  | .go b => .tuple [.str "go", .int b]
  | .iff o b c => .tuple [.str "if", o.d, .int b, .int c]
  | .back => .tuple [.str "back"]
def rowsD (l : List Row) : PyData := .tuple (l.map Row.d)
def Blk.d (b : Blk) : PyData := .tuple [rowsD b.rows, b.fin.d]
def blksD (l : List Blk) : PyData := .tuple (l.map Blk.d)
def rtD (r : Str × List Blk) : PyData := .tuple [.str r.1, blksD r.2]
def objD (o : Str × Int) : PyData := .tuple [.str o.1, .int o.2]
def objsD (l : List (Str × Int)) : PyData := .tuple (l.map objD)
def Cod.d (c : Cod) : PyData := .tuple [objsD c.objs, .tuple (c.rts.map rtD)]
def Endd.all : Endd → List Int
  | .go b => [b]
  | .iff _ b c => [b, c]
  | .back => []
def Endd.goals (e : Endd) : List Int := risI e.all
def intsD (l : List Int) : PyData := .tuple (l.map .int)
noncomputable def n_goals (v_end : Vl) : Sto → An Unit Empty := fun s =>
  (((R.of (phIx v_end (Vl.dat (.int 0)) s) s).bind fun x1 s2 => R.of (phEq x1 (Vl.dat (.str "go")) s2) s2).bind fun x3 s4 => R.of (bool? x3) s4).an fun c5 s6 => if c5 = true then
    ((((R.of (phIx v_end (Vl.dat (.int 1)) s6) s6).bind fun x7 s8 => R.ok [x7] s8).bind fun l9 s10 => R.of (tupN l9) s10).an fun x11 s12 => .rt x11 s12 : An Empty _).up
    else
    (((R.of (phIx v_end (Vl.dat (.int 0)) s6) s6).bind fun x13 s14 => R.of (phEq x13 (Vl.dat (.str "if")) s14) s14).bind fun x15 s16 => R.of (bool? x15) s16).an fun c17 s18 => if c17 = true then
    (((((((R.of ((int? (Vl.dat (.int 2))).map some) s18).bind fun o19 s20 => R.of (phSl v_end o19 none s20) s20).bind fun x21 s22 => R.ok [x21] s22).bind fun l23 s24 => R.of (phSS l23 s24) s24).bind fun x25 s26 => R.ok [x25] s26).bind fun l27 s28 => R.of (phTuple l27 s28) s28).an fun x29 s30 => .rt x29 s30 : An Empty _).up
    else
    (R.of (tupN []) s18).an fun x31 s32 => .rt x31 s32
noncomputable def r_goals : MF := runN fun xs => match xs with
  | [v_end] => n_goals v_end
  | _ => fun _ => .bad
noncomputable def G_goals : MF := frameG (r_goals)
def mk_blocks_of_1 (v_name : Vl) : Unit → Loc := fun a => [none, some v_name, none, none]
noncomputable def nb_blocks_of_1 (v_name : Vl) (v_word : Vl) (v_blocks : Vl) : Sto → An Unit Unit := fun s =>
  ((R.of (phEq v_word v_name s) s).bind fun x3 s4 => R.of (bool? x3) s4).an fun c5 s6 => if c5 = true then
    (R.ok v_blocks s6).an fun x7 s8 => .rt x7 s8
    else
    .nx () s6
noncomputable def lp_blocks_of_1 {L : Type} (v_name : Vl) (ck : Sto → Prop) : List Vl → Unit → Sto → An Unit L := forN ck (mk_blocks_of_1 v_name) (fun v a s => patN ((pT2 pV pV) v) fun p => nb_blocks_of_1 v_name p.1 p.2 s)
@[simp] theorem lp_blocks_of_1_nil {L : Type} (v_name : Vl) {a : Unit} {s : Sto} : (lp_blocks_of_1 (L := L) v_name okT [] a s) = .nx a s := forN_nil
theorem lp_blocks_of_1_cons {L : Type} (v_name : Vl) {v : Vl} {r : List Vl} {a : Unit} {s : Sto} : (lp_blocks_of_1 (L := L) v_name okT (v :: r) a s) = (patN ((pT2 pV pV) v) fun p => nb_blocks_of_1 v_name p.1 p.2 s).lp (mk_blocks_of_1 v_name) s.length (lp_blocks_of_1 v_name okT r) := forN_cons
noncomputable def kt_blocks_of_1 (v_name : Vl) : Sto → An Unit Empty := fun s =>
  .bad
noncomputable def n_blocks_of (v_code : Vl) (v_name : Vl) : Sto → An Unit Empty := fun s =>
  (((R.of (phIx v_code (Vl.dat (.int 1)) s) s).bind fun x1 s2 => R.of (src x1 s2) s2).an fun c9 s10 => lp_blocks_of_1 v_name c9.ok c9.items () s10).thn fun j11 s12 => kt_blocks_of_1 v_name  s12
noncomputable def r_blocks_of : MF := runN fun xs => match xs with
  | [v_code, v_name] => n_blocks_of v_code v_name
  | _ => fun _ => .bad
noncomputable def G_blocks_of : MF := frameG (r_blocks_of)
noncomputable def n_nexts (v_code : Vl) (v_name : Vl) (v_block : Vl) : Sto → An Unit Empty := fun s =>
  ((callN 2 G_blocks_of [v_code, v_name] s).bind fun x1 s2 => R.of (phIx x1 v_block s2) s2).an fun x4 s5 => patN ((pT2 pV pV) x4) fun p3 =>
    (callN 1 G_goals [p3.2] s5).an fun x6 s7 => .rt x6 s7
noncomputable def r_nexts : MF := runN fun xs => match xs with
  | [v_code, v_name, v_block] => n_nexts v_code v_name v_block
  | _ => fun _ => .bad
noncomputable def G_nexts : MF := frameG (r_nexts)
theorem phSS_i {ns : List Int} {s : Sto} (h : ns.length ≤ 60) : phSS [.dat (.tuple (ns.map PyData.int))] s = some (.dat (.list ((risI ns).map PyData.int))) := by
  simp [phSS, h]
theorem G_goals_eq (e : Endd) (s : Sto) : G_goals [.dat e.d] s = .ok (.dat (intsD e.goals)) s := by
  refine fr0 (s2 := []) ?_
  cases e with
  | go a => simp [r_goals, runN_ap, n_goals, Endd.d, eqS "go" "go" true (by decide), Endd.goals, Endd.all, intsD, risI, insI]
  | back => simp [r_goals, runN_ap, n_goals, Endd.d, eqS "back" "go" false (by decide), eqS "back" "if" false (by decide), Endd.goals, Endd.all, intsD, risI]
  | iff o a b =>
    have ec : cut [PyData.str "if", o.d, .int a, .int b] (some 2) none = ([a, b].map PyData.int) := rfl
    simp only [List.map_cons, List.map_nil] at ec
    have e2 := phSS_i (ns := [a, b]) (s := []) (by show 2 ≤ 60; decide)
    simp only [List.map_cons, List.map_nil] at e2
    simp [r_goals, runN_ap, n_goals, Endd.d, eqS "if" "go" false (by decide), eqS "if" "if" true (by decide), ec, e2, Endd.goals, Endd.all, intsD]
theorem lp_blocks_of_eq {nm : Str} {bs : List Blk} {L : Type} (s : Sto) : ∀ (l : List (Str × List Blk)), l.lookup nm = some bs → (lp_blocks_of_1 (L := L) (.dat (.str nm)) okT (l.map fun r => .dat (rtD r)) () s) = .rt (.dat (blksD bs)) s
  | [], h => by simp at h
  | r :: l, h => by
    rw [List.map_cons, lp_blocks_of_1_cons]
    have e : phEq (.dat (.str r.1)) (.dat (.str nm)) s = some (.dat (.bool (decide (r.1 = nm)))) := phEq_s
    rw [List.lookup_cons] at h
    by_cases hr : r.1 = nm
    · subst hr
      rw [beq_self_eq_true] at h
      cases h
      simp [show rtD r = .tuple [.str r.1, blksD r.2] from rfl, nb_blocks_of_1, e]
    · have hb : (nm == r.1) = false := by rw [beq_eq_false_iff_ne]; exact fun z => hr z.symm
      rw [hb] at h
      have ih := lp_blocks_of_eq (L := L) s l h
      simp [show rtD r = .tuple [.str r.1, blksD r.2] from rfl, nb_blocks_of_1, e, hr, tidy_same, ih]
theorem G_blocks_of_eq {c : Cod} {nm : Str} {bs : List Blk} (h : c.rts.lookup nm = some bs) (s : Sto) : G_blocks_of [.dat c.d, .dat (.str nm)] s = .ok (.dat (blksD bs)) s := by
  refine fr0 (s2 := []) ?_
  have e := lp_blocks_of_eq (L := Empty) [] c.rts h
  simp [r_blocks_of, runN_ap, n_blocks_of, Cod.d, src_ok_none, Function.comp_def, e]
/-- the goals of a routine's block -/
def goalsB (bs : List Blk) (b : Int) : List Int := match atI bs b with
  | some k => k.fin.goals
  | none => []
theorem atI_map {α β : Type} {f : α → β} {l : List α} {i : Int} : atI (l.map f) i = (atI l i).map f := by
  unfold atI
  rw [List.length_map]
  cases ixN l.length i with
  | none => rfl
  | some j => simp
theorem G_nexts_eq {c : Cod} {nm : Str} {bs : List Blk} {b : Int} {k : Blk} (h : c.rts.lookup nm = some bs) (hk : atI bs b = some k) (s : Sto) : G_nexts [.dat c.d, .dat (.str nm), .dat (.int b)] s = .ok (.dat (intsD k.fin.goals)) s := by
  refine fr0 (s2 := []) ?_
  simp [r_nexts, runN_ap, n_nexts, G_blocks_of_eq h, blksD, atI_map, hk, Blk.d, G_goals_eq]
end Pm
set_option maxRecDepth 100000
set_option maxHeartbeats 4000000
namespace Pm
open PySem PySem.Spec PyProof.Rows L2 Sw
/-- a feed that draws: Fd j o says that o is one after at most j draws -/
structure DrawSp (dr : MF) (Fd : Nat → Ob → Prop) : Prop where
  mono : ∀ {j k : Nat} {o : Ob}, Fd j o → j ≤ k → Fd k o
  ok : ∀ {j : Nat} {o : Ob}, Fd j o → obOk 0 o
  go : ∀ {j k : Nat} {f : Ob} {s : Sto} {m : Int}, Fd j f → j ≤ 1000000 → 1 ≤ m → m < 1073741824 → s[k]? = some f → ∃ r f', dr [.ref k, .dat (.int m)] s = .ok (.dat (.int r)) (s.set k f') ∧ Fd (j + 1) f' ∧ 0 ≤ r ∧ r < m
theorem DrawSp.go0 {dr : MF} {Fd : Nat → Ob → Prop} (D : DrawSp dr Fd) {j : Nat} {f : Ob} {t : Sto} {m : Int} (h : Fd j f) (hj : j ≤ 1000000) (h1 : 1 ≤ m) (h2 : m < 1073741824) : ∃ r f', dr [.ref 0, .dat (.int m)] (f :: t) = .ok (.dat (.int r)) (f' :: t) ∧ Fd (j + 1) f' ∧ 0 ≤ r ∧ r < m := by
  obtain ⟨r, f', e, h⟩ := D.go (k := 0) (s := f :: t) h hj h1 h2 rfl
  exact ⟨r, f', e, h⟩
theorem phMod_p {i j : Int} {s : Sto} (h : 0 < j) : phMod (.dat (.int i)) (.dat (.int j)) s = some (.dat (.int (i % j))) := if_pos h
theorem phDiv_p {i j : Int} {s : Sto} (h : 0 < j) (h2 : j < 1073741824) : phDiv (.dat (.int i)) (.dat (.int j)) s = some (.dat (.int (i / j))) := by
  simp only [phDiv]
  exact if_pos ⟨h, h2⟩
theorem phMul_l {i j : Int} {s : Sto} (h : 0 ≤ i) (h2 : i ≤ 1000000000000000000) : phMul (.dat (.int i)) (.dat (.int j)) s = some (.dat (.int (i * j))) := by
  simp only [phMul]
  refine if_pos (.inl (.inl ⟨?_, ?_⟩))
  · have : -(2 ^ 64 : Int) < 0 := by decide
    omega
  · have : (1000000000000000000 : Int) < 2 ^ 64 := by decide
    omega
theorem phMul_r {i j : Int} {s : Sto} (h : 0 ≤ j) (h2 : j ≤ 1000000000000000000) : phMul (.dat (.int i)) (.dat (.int j)) s = some (.dat (.int (i * j))) := by
  simp only [phMul]
  refine if_pos (.inl (.inr ⟨?_, ?_⟩))
  · have : -(2 ^ 64 : Int) < 0 := by decide
    omega
  · have : (1000000000000000000 : Int) < 2 ^ 64 := by decide
    omega
theorem phPow_c {i j : Int} {s : Sto} (h : 0 ≤ j ∧ j ≤ 1000000 ∧ i.natAbs < 2 ^ 64) : phPow (.dat (.int i)) (.dat (.int j)) s = some (.dat (.int (i ^ j.toNat))) := by
  simp only [phPow]
  exact if_pos h
theorem sh_ints (ns : List Int) : SeqAt.shaped (.list (ns.map PyData.int)) = true := by
  have hf : PyData.canLayAll0 (ns.map PyData.int) = true := by
    induction ns with
    | nil => simp [PyData.canLayAll0]
    | cons n ns ih => simp [PyData.canLayAll0, PyData.canLay0, ih]
  unfold SeqAt.shaped
  rw [show (PyData.list (ns.map PyData.int)).canLay0 = true by simpa [PyData.canLay0] using hf, Bool.true_and, decide_eq_true_eq]
  have : (PyData.list (ns.map PyData.int)).depth ≤ 0 + 1 := depth_list.mpr fun x hx => by
    obtain ⟨z, _, rfl⟩ := List.mem_map.mp hx
    simp [PyData.depth]
  omega
theorem phNe_ints {ns : List Int} {s : Sto} : phNe (.dat (.list (ns.map PyData.int))) (.dat (.list [])) s = some (.dat (.bool (!ns.isEmpty))) := by
  simp only [phNe]
  rw [if_pos ⟨sh_ints ns, sh_ints []⟩]
  cases ns <;> rfl
def fdL (ns : List Int) (a b c : Int) : Ob := .lst [.dat (.list (ns.map PyData.int)), .dat (.int a), .dat (.int b), .dat (.int c)]
section
variable {ns : List Int} {a b c x : Int} {t : Sto}
@[simp] theorem fdL_ix0 : phIx (.ref 0) (.dat (.int 0)) (fdL ns a b c :: t) = some (.dat (.list (ns.map PyData.int))) := by simp [fdL, phIx]
@[simp] theorem fdL_ix1 : phIx (.ref 0) (.dat (.int 1)) (fdL ns a b c :: t) = some (.dat (.int a)) := by simp [fdL, phIx]
@[simp] theorem fdL_ix2 : phIx (.ref 0) (.dat (.int 2)) (fdL ns a b c :: t) = some (.dat (.int b)) := by simp [fdL, phIx]
@[simp] theorem fdL_ix3 : phIx (.ref 0) (.dat (.int 3)) (fdL ns a b c :: t) = some (.dat (.int c)) := by simp [fdL, phIx]
@[simp] theorem fdL_get3 : getI (.ref 0) (.dat (.int 3)) (fdL ns a b c :: t) = some c := rfl
@[simp] theorem fdL_get1 : getI (.ref 0) (.dat (.int 1)) (fdL ns a b c :: t) = some a := rfl
@[simp] theorem fdL_put3 : putI (.ref 0) (.dat (.int 3)) (.dat (.int x)) c (fdL ns a b c :: t) = some (fdL ns a b (c + x) :: t) := rfl
@[simp] theorem fdL_put1 : putI (.ref 0) (.dat (.int 1)) (.dat (.int x)) a (fdL ns a b c :: t) = some (fdL ns (a + x) b c :: t) := rfl
@[simp] theorem fdL_sub2 : subU (.ok (.ref 0) (fdL ns a b c :: t)) (fun z => .ok (.dat (.int 2)) z) (.dat (.int x)) = some (fdL ns a x c :: t) := rfl
end
theorem cellL {ns : List Int} {a : Int} (ha : 0 ≤ a) (hne : ns.isEmpty = false) : ∃ q : Int, atI (ns.map PyData.int) (a % (ns.length : Int)) = some (.int q) := by
  have hl : (0 : Int) < (ns.length : Int) := by cases ns with
    | nil => simp at hne
    | cons _ _ => simp
  have h1 := Int.emod_nonneg a (show (ns.length : Int) ≠ 0 by omega)
  have h2 := Int.emod_lt_of_pos a hl
  obtain ⟨q, hq⟩ : ∃ q : Nat, a % (ns.length : Int) = q := ⟨(a % (ns.length : Int)).toNat, by omega⟩
  have hq2 : q < ns.length := by omega
  exact ⟨ns[q], by rw [hq, atI_nat', List.getElem?_map, List.getElem?_eq_getElem hq2]; rfl⟩
end Pm
set_option maxRecDepth 100000
set_option maxHeartbeats 4000000
namespace Pm
open PySem PySem.Spec PyProof.Rows L2 Sw
def mk_law_after_k01_1 (w_word_here : Vl) (w_letters : Vl) : (Vl) → Loc := fun a => [some w_word_here, some w_letters, some a, none]
noncomputable def tb_law_after_k01_1 (w_word_here : Vl) (w_letters : Vl) (w_at : Vl) : Sto → R Bool := fun s => ((R.of (phGt w_at (Vl.dat (.int 0)) s) s).bind fun x11 s12 => R.of (bool? x11) s12).bind fun c13 s14 => if c13 = true then ((R.of (phIx w_word_here w_at s14) s14).bind fun x15 s16 => R.of (phEq x15 (Vl.dat (.str "z")) s16) s16).bind fun x17 s18 => R.of (bool? x17) s18 else R.ok false s14
noncomputable def nb_law_after_k01_1 (w_word_here : Vl) (w_letters : Vl) (w_at : Vl) : Sto → An (Vl) (Vl) := fun s =>
  (R.ok (Vl.dat (.int 1)) s).an fun x19 s20 => patN (augI (fun i j => i - j) w_at x19) fun w_at =>
    .nx w_at s20
noncomputable def wl_law_after_k01_1 {L : Type} (w_word_here : Vl) (w_letters : Vl) : (Vl) → Sto → An (Vl) L := whl (mk_law_after_k01_1 w_word_here w_letters) (fun a s => tb_law_after_k01_1 w_word_here w_letters a s) (fun a s => nb_law_after_k01_1 w_word_here w_letters a s)
noncomputable def kt_law_after_k01_1 (w_word_here : Vl) (w_letters : Vl) (w_at : Vl) : Sto → An Unit Empty := fun s =>
  ((((if isSv w_letters = true then ((R.of (phIx w_word_here w_at s) s).bind fun x24 s25 => R.ok [x24] s25).bind fun l26 s27 => R.of (idxN w_letters l26) s27 else .bad).bind fun x28 s29 => R.of (phAdd x28 (Vl.dat (.int 1)) s29) s29).bind fun x30 s31 => R.of (phMod x30 (Vl.dat (.int 26)) s31) s31).bind fun x32 s33 => R.of (phIx w_letters x32 s33) s33).an fun w_sign s23 =>
    ((((R.of ((int? w_at).map some) s23).bind fun o34 s35 => R.of (phSl w_word_here none o34 s35) s35).bind fun x36 s37 => R.of (phAdd x36 w_sign s37) s37).bind fun x38 s39 => ((R.of (phSub (Vl.dat (.int 7)) w_at s39) s39).bind fun x40 s41 => R.of (phMul (Vl.dat (.str "a")) x40 s41) s41).bind fun x42 s43 => R.of (phAdd x38 x42 s43) s43).an fun x44 s45 => .rt x44 s45
noncomputable def n_law_after_k01 (w_word_here : Vl) : Sto → An Unit Empty := fun s =>
  (R.ok (Vl.dat (.str "abcdefghijklmnopqrstuvwxyz")) s).an fun w_letters s1 =>
    (((R.of (phLen [w_word_here] s1) s1).bind fun x2 s3 => R.of (phLt x2 (Vl.dat (.int 8)) s3) s3).bind fun x4 s5 => R.of (bool? x4) s5).an fun c6 s7 => if c6 = true then
    ((R.of (phAdd w_word_here (Vl.dat (.str "a")) s7) s7).an fun x8 s9 => .rt x8 s9 : An Empty _).up
    else
    (R.ok (Vl.dat (.int 7)) s7).an fun w_at s10 =>
    (wl_law_after_k01_1 w_word_here w_letters w_at s10).thn fun j21 s22 => kt_law_after_k01_1 w_word_here w_letters j21 s22
noncomputable def r_law_after_k01 : MF := runN fun xs => match xs with
  | [w_word_here] => n_law_after_k01 w_word_here
  | _ => fun _ => .bad
noncomputable def G_law_after_k01 : MF := frameG (r_law_after_k01)
def mk_law_word_k01_2 (w_feed_here : Vl) (w_found : Vl) (w_letters : Vl) : (Vl) → Loc := fun a => [some w_feed_here, some w_found, some w_letters, none, some a, none, none]
noncomputable def nb_law_word_k01_1 (dr : MF) (w_feed_here : Vl) (w_found : Vl) (w_letters : Vl) (w_k : Vl) (w_word_here : Vl) : Sto → An (Vl) (Vl) := fun s =>
  (((callN 2 dr [w_feed_here, (Vl.dat (.int 26))] s).bind fun x21 s22 => R.of (phIx w_letters x21 s22) s22).bind fun x23 s24 => R.of (phAdd w_word_here x23 s24) s24).an fun w_word_here s20 =>
    .nx w_word_here s20
noncomputable def lp_law_word_k01_1 {L : Type} (dr : MF) (w_feed_here : Vl) (w_found : Vl) (w_letters : Vl) (ck : Sto → Prop) : List Vl → (Vl) → Sto → An (Vl) L := forN ck (mk_law_word_k01_2 w_feed_here w_found w_letters) (fun v a s => patN (pV v) fun p => nb_law_word_k01_1 dr w_feed_here w_found w_letters p a s)
@[simp] theorem lp_law_word_k01_1_nil {L : Type} (dr : MF) (w_feed_here : Vl) (w_found : Vl) (w_letters : Vl) {a : (Vl)} {s : Sto} : (lp_law_word_k01_1 (L := L) dr w_feed_here w_found w_letters okT [] a s) = .nx a s := forN_nil
noncomputable def kt_law_word_k01_1 (dr : MF) (w_feed_here : Vl) (w_found : Vl) (w_letters : Vl) (w_word_here : Vl) : Sto → An (Vl) Empty := fun s =>
  .nx w_word_here s
def mk_law_word_k01_3 (w_found : Vl) : (Vl) → Loc := fun a => [none, some w_found, none, none, some a, none, none]
noncomputable def nb_law_word_k01_2 (dr : MF) (w_found : Vl) (w_k : Vl) (w_word_here : Vl) : Sto → An (Vl) (Vl) := fun s =>
  ((R.of ((phIn true) w_word_here w_found s) s).bind fun x65 s66 => R.of (bool? x65) s66).an fun c67 s68 => if c67 = true then
    (.bk w_word_here s68 : An Empty _).up
    else
    (callN 1 G_law_after_k01 [w_word_here] s68).an fun w_word_here s69 =>
    .nx w_word_here s69
noncomputable def lp_law_word_k01_2 {L : Type} (dr : MF) (w_found : Vl) (ck : Sto → Prop) : List Vl → (Vl) → Sto → An (Vl) L := forN ck (mk_law_word_k01_3 w_found) (fun v a s => patN (pV v) fun p => nb_law_word_k01_2 dr w_found p a s)
@[simp] theorem lp_law_word_k01_2_nil {L : Type} (dr : MF) (w_found : Vl) {a : (Vl)} {s : Sto} : (lp_law_word_k01_2 (L := L) dr w_found okT [] a s) = .nx a s := forN_nil
noncomputable def kt_law_word_k01_3 (dr : MF) (w_found : Vl) (w_word_here : Vl) : Sto → An Unit Empty := fun s =>
  (R.ok w_word_here s).an fun x74 s75 => .rt x74 s75
noncomputable def kt_law_word_k01_2 (dr : MF) (w_found : Vl) (w_word_here : Vl) : Sto → An Unit Empty := fun s =>
  ((rngN1 [(Vl.dat (.int 60))] s).an fun c70 s71 => lp_law_word_k01_2 dr w_found c70.ok c70.items w_word_here s71).thn fun j72 s73 => kt_law_word_k01_3 dr w_found j72 s73
noncomputable def n_law_word_k01 (dr : MF) (w_feed_here : Vl) (w_found : Vl) : Sto → An Unit Empty := fun s =>
  (R.ok (Vl.dat (.str "abcdefghijklmnopqrstuvwxyz")) s).an fun w_letters s1 =>
    (callN 2 dr [w_feed_here, (Vl.dat (.int 5))] s1).an fun w_way s2 =>
    ((callN 2 dr [w_feed_here, (Vl.dat (.int 26))] s2).bind fun x4 s5 => R.of (phIx w_letters x4 s5) s5).an fun w_word_here s3 =>
    ((((R.of (phGt w_way (Vl.dat (.int 1)) s3) s3).bind fun x6 s7 => R.of (bool? x6) s7).bind fun c8 s9 => if c8 = true then R.ok true s9 else ((R.of (lstN []) s9).bind fun x10 s11 => R.of (phEq w_found x10 s11) s11).bind fun x12 s13 => R.of (bool? x12) s13).an fun c14 s15 => if c14 = true then
    ((((callN 2 dr [w_feed_here, (Vl.dat (.int 8))] s15).bind fun x16 s17 => R.ok [x16] s17).bind fun l18 s19 => rngN1 l18 s19).an fun c25 s26 => lp_law_word_k01_1 dr w_feed_here w_found w_letters c25.ok c25.items w_word_here s26).thn fun j27 s28 => kt_law_word_k01_1 dr w_feed_here w_found w_letters j27 s28
    else
    (((((R.of (phLen [w_found] s15) s15).bind fun x30 s31 => R.ok [x30] s31).bind fun l32 s33 => R.ok (w_feed_here :: l32) s33).bind fun l34 s35 => callN 2 dr l34 s35).bind fun x36 s37 => R.of (phIx w_found x36 s37) s37).an fun w_own s29 =>
      (((R.of (phEq w_way (Vl.dat (.int 0)) s29) s29).bind fun x39 s40 => R.of (bool? x39) s40).bind fun c41 s42 => if c41 = true then ((((((R.of (phLen [w_own] s42) s42).bind fun x43 s44 => R.ok [x43] s44).bind fun l45 s46 => R.ok (w_feed_here :: l45) s46).bind fun l47 s48 => callN 2 dr l47 s48).bind fun x49 s50 => R.of (phAdd (Vl.dat (.int 1)) x49 s50) s50).bind fun x53 s54 => R.of ((int? x53).map some) s54).bind fun o51 s52 => R.of (phSl w_own none o51 s52) s52 else ((R.of ((int? (Vl.dat (.int 7))).map some) s42).bind fun o55 s56 => R.of (phSl w_own none o55 s56) s56).bind fun x57 s58 => ((callN 2 dr [w_feed_here, (Vl.dat (.int 26))] s58).bind fun x59 s60 => R.of (phIx w_letters x59 s60) s60).bind fun x61 s62 => R.of (phAdd x57 x61 s62) s62).an fun w_word_here s38 =>
      .nx w_word_here s38).thn fun j63 s64 => kt_law_word_k01_2 dr w_found j63 s64
noncomputable def r_law_word_k01 (dr : MF) : MF := runN fun xs => match xs with
  | [w_feed_here, w_found] => n_law_word_k01 dr w_feed_here w_found
  | _ => fun _ => .bad
noncomputable def G_law_word_k01 (dr : MF) : MF := frameG (r_law_word_k01 dr)
@[simp] theorem isSv_s {x : Str} : isSv (.dat (.str x)) = true := rfl
/-- a list of texts, beside a feed that draws -/
structure Fnd (w : Vl) (t : Sto) (zs : List Str) : Prop where
  len : ∀ f, phLen [w] (f :: t) = some (.dat (.int zs.length))
  isin : ∀ f x, phIn true (.dat (.str x)) w (f :: t) = some (.dat (.bool (!decide (x ∈ zs))))
  ix : ∀ f i, phIx w (.dat (.int i)) (f :: t) = (atI zs i).map fun z => Vl.dat (.str z)
  nil : ∀ f, phEq w (.dat (.list [])) (f :: t) = some (.dat (.bool zs.isEmpty))
end Pm
set_option maxRecDepth 100000
set_option maxHeartbeats 4000000
namespace Pm
open PySem PySem.Spec PyProof.Rows L2 Sw
theorem sh_txts {zs : List Str} (h : ∀ z ∈ zs, IsWord z) : SeqAt.shaped (.list (zs.map PyData.str)) = true := by
  have hf : leaf 0 (.list (zs.map PyData.str)) = true := by
    show leafAll 0 _ = true
    rw [leafAll_iff]
    intro x hx
    obtain ⟨z, hz, rfl⟩ := List.mem_map.mp hx
    exact leaf_str.mpr (h z hz).ascii
  refine sh_data hf ?_
  have : (PyData.list (zs.map PyData.str)).depth ≤ 0 + 1 := depth_list.mpr fun x hx => by
    obtain ⟨z, _, rfl⟩ := List.mem_map.mp hx
    simp [PyData.depth]
  omega
theorem fVs_txts : ∀ zs : List Str, fVs (zs.map PyData.str) = some (zs.map V.str)
  | [] => rfl
  | z :: zs => by
    show ((fV (.str z)).bind fun v => (fVs (zs.map PyData.str)).map (v :: ·)) = _
    rw [fVs_txts zs]
    rfl
theorem eqv_nil (zs : List Str) : PyData.eqv (.list (zs.map PyData.str)) (.list []) = zs.isEmpty := by cases zs <;> rfl
theorem Fnd.dat {zs : List Str} {t : Sto} (h : ∀ z ∈ zs, IsWord z) : Fnd (.dat (.list (zs.map PyData.str))) t zs := by
  refine ⟨fun f => by rw [show phLen [.dat (.list (zs.map PyData.str))] (f :: t) = some (.dat (.int (zs.map PyData.str).length)) from rfl, List.length_map], fun f x => ?_, fun f i => ?_, fun f => ?_⟩
  · show ((fVs (zs.map PyData.str)).map fun vs => Vl.dat (.bool (if true = true then !inV (.str x) vs else inV (.str x) vs))) = _
    rw [fVs_txts, Option.map_some, if_pos rfl, inV_strs]
  · show (atI (zs.map PyData.str) i).map Vl.dat = _
    rw [atI_map, Option.map_map]; rfl
  · rw [phEq_sh (sh_txts h) (show SeqAt.shaped (.list []) = true from sh_ints []), eqv_nil]
theorem Fnd.ref {zs : List Str} {t : Sto} (h : ∀ z ∈ zs, IsWord z) : Fnd (.ref 1) (.lst (zs.map fun z => Vl.dat (.str z)) :: t) zs := by
  have ed : datas (zs.map fun z => Vl.dat (.str z)) = some (zs.map PyData.str) := datas_dats zs
  refine ⟨fun f => by rw [show phLen [.ref 1] (f :: .lst (zs.map fun z => Vl.dat (.str z)) :: t) = some (.dat (.int (zs.map fun z => Vl.dat (.str z)).length)) from rfl, List.length_map], fun f x => ?_, fun f i => ?_, fun f => ?_⟩
  · show ((datas (zs.map fun z => Vl.dat (.str z))).bind fun ds => (fVs ds).map fun vs => Vl.dat (.bool (if true = true then !inV (.str x) vs else inV (.str x) vs))) = _
    rw [ed, Option.bind_some, fVs_txts, Option.map_some, if_pos rfl, inV_strs]
  · show atI (zs.map fun z => Vl.dat (.str z)) i = _
    rw [atI_map]
  · show ((datas (zs.map fun z => Vl.dat (.str z))).map PyData.list).bind _ = _
    rw [ed]
    show (if SeqAt.shaped (.list (zs.map PyData.str)) = true ∧ SeqAt.shaped (.list []) = true then some (Vl.dat (.bool (PyData.eqv (.list (zs.map PyData.str)) (.list [])))) else none) = _
    rw [if_pos ⟨sh_txts h, sh_ints []⟩, eqv_nil]
end Pm
set_option maxRecDepth 100000
set_option maxHeartbeats 4000000
namespace Pm
open PySem PySem.Spec PyProof.Rows L2 Sw
section
variable {P α : Type} {Fd : Nat → Ob → Prop} {pat : Vl → Option P} {e : P → Sto → R Vl} {fv : α → Vl} {p : α → P} {Q : α → PyData → Prop} {c J : Nat} {t : Sto}
theorem compP_draw : ∀ (l : List α) (acc : List Vl) (j : Nat) (f : Ob), (∀ x ∈ l, ∀ j f, Fd j f → j + c ≤ J → pat (fv x) = some (p x) ∧ ∃ y f', e (p x) (f :: t) = .ok (.dat y) (f' :: t) ∧ Fd (j + c) f' ∧ Q x y) → Fd j f → j + c * l.length ≤ J → acc.length + l.length ≤ mil →
    ∃ ys f', compP okT pat (fun _ s => .ok true s) e (l.map fv) acc (f :: t) = .ok (acc ++ ys.map Vl.dat) (f' :: t) ∧ Fd (j + c * l.length) f' ∧ Paired Q l ys
  | [], acc, j, f, h, hf, hj, hl => ⟨[], f, by rw [List.map_nil, compP_nil trivial]; simp, hf, .nil⟩
  | x :: l, acc, j, f, h, hf, hj, hl => by
    have hl' : acc.length + (l.length + 1) ≤ mil := hl
    have hj' : j + c * (l.length + 1) ≤ J := hj
    rw [Nat.mul_succ] at hj'
    obtain ⟨h1, y, f1, h2, hf1, hq⟩ := h x List.mem_cons_self j f hf (by omega)
    obtain ⟨ys, f2, h3, hf2, hp⟩ := compP_draw l (acc ++ [.dat y]) (j + c) f1 (fun z hz => h z (List.mem_cons_of_mem _ hz)) hf1 (by omega) (by rw [List.length_append, List.length_singleton]; omega)
    refine ⟨y :: ys, f2, ?_, ?_, .cons hq hp⟩
    · rw [List.map_cons, compP_yes trivial h1 rfl h2 (by omega), h3, List.append_assoc]; rfl
    · rw [List.length_cons, Nat.mul_succ]
      have : j + (c * l.length + c) = j + c + c * l.length := by omega
      rw [this]; exact hf2
theorem lcP_draw (l : List α) (j : Nat) (f : Ob) (h : ∀ x ∈ l, ∀ j f, Fd j f → j + c ≤ J → pat (fv x) = some (p x) ∧ ∃ y f', e (p x) (f :: t) = .ok (.dat y) (f' :: t) ∧ Fd (j + c) f' ∧ Q x y) (hf : Fd j f) (hj : j + c * l.length ≤ J) (hl : l.length ≤ mil) :
    ∃ ys f', lcP (.ok ⟨l.map fv, none⟩ (f :: t)) pat (fun _ s => .ok true s) e = .ok (.dat (.list ys)) (f' :: t) ∧ Fd (j + c * l.length) f' ∧ Paired Q l ys := by
  obtain ⟨ys, f', h1, h2, h3⟩ := compP_draw l [] j f h hf hj (by simpa using hl)
  refine ⟨ys, f', ?_, h2, h3⟩
  unfold lcP
  rw [R.bind_ok]
  show (compP (Src.ok ⟨l.map fv, none⟩) pat (fun _ s => .ok true s) e (l.map fv) [] (f :: t)).bind _ = _
  rw [src_ok_none, h1, R.bind_ok, List.nil_append, datas_map]
  rfl
end
theorem rgs_fv (lo : Int) (n : Nat) : rgs lo n = (List.range n).map fun (k : Nat) => Vl.dat (.int (lo + (k : Int))) := rfl
theorem paired_map {α β γ : Type} {f : γ → β} {Q : α → γ → Prop} : ∀ {l : List α} {ys : List β}, Paired (fun x y => ∃ z, y = f z ∧ Q x z) l ys → ∃ zs, ys = zs.map f ∧ Paired Q l zs
  | _, _, .nil => ⟨[], rfl, .nil⟩
  | _, _, .cons ⟨z, e, q⟩ t => by
    obtain ⟨zs, e2, h⟩ := paired_map t
    exact ⟨z :: zs, by rw [e, e2]; rfl, .cons q h⟩
theorem paired_mem {α β : Type} {Q : α → β → Prop} : ∀ {l : List α} {ys : List β} {y : β}, Paired Q l ys → y ∈ ys → ∃ x ∈ l, Q x y
  | _, _, y, .nil, h => by cases h
  | _, _, y, .cons q t, h => by
    rcases List.mem_cons.mp h with rfl | h
    · exact ⟨_, List.mem_cons_self, q⟩
    · obtain ⟨x, hx, hq⟩ := paired_mem t h
      exact ⟨x, List.mem_cons_of_mem _ hx, hq⟩
structure ObjsOk (os : List (Str × Int)) : Prop where
  pos : 0 < os.length
  few : os.length ≤ 4
  word : ∀ o ∈ os, IsWord o.1
  rise : (os.map (·.1)).Pairwise LtS
  size : ∀ o ∈ os, 1 ≤ o.2 ∧ o.2 ≤ 4
def mk_law_objects_k01_1 (w_feed_here : Vl) (w_found : Vl) : Unit → Loc := fun a => [some w_feed_here, some w_found, none, none]
noncomputable def nb_law_objects_k01_1 (dr : MF) (w_feed_here : Vl) (w_found : Vl) (w_k : Vl) : Sto → An Unit Unit := fun s =>
  (appN w_found s (fun s8 => (callN 2 (G_law_word_k01 dr) [w_feed_here, w_found] s8).bind fun x9 s10 => R.ok [x9] s10)).an fun _ s11 =>
    .nx () s11
noncomputable def lp_law_objects_k01_1 {L : Type} (dr : MF) (w_feed_here : Vl) (w_found : Vl) (ck : Sto → Prop) : List Vl → Unit → Sto → An Unit L := forN ck (mk_law_objects_k01_1 w_feed_here w_found) (fun v a s => patN (pV v) fun p => nb_law_objects_k01_1 dr w_feed_here w_found p s)
@[simp] theorem lp_law_objects_k01_1_nil {L : Type} (dr : MF) (w_feed_here : Vl) (w_found : Vl) {a : Unit} {s : Sto} : (lp_law_objects_k01_1 (L := L) dr w_feed_here w_found okT [] a s) = .nx a s := forN_nil
noncomputable def n_law_operand_k06 (dr : MF) (w_feed_here : Vl) : Sto → An Unit Empty := fun s =>
  (((((callN 2 dr [w_feed_here, (Vl.dat (.int 5))] s).bind fun x2 s3 => R.of (phSub x2 (Vl.dat (.int 1)) s3) s3).bind fun x4 s5 => (((R.of (phPow (Vl.dat (.int 10)) (Vl.dat (.int 6)) s5) s5).bind fun x6 s7 => (callN 2 dr [w_feed_here, (Vl.dat (.int 2))] s7).bind fun x8 s9 => R.of (phSub x6 x8 s9) s9).bind fun x10 s11 => (((R.of (phPow (Vl.dat (.int 10)) (Vl.dat (.int 6)) s11) s11).bind fun x12 s13 => R.of (phNeg x12 s13) s13).bind fun x14 s15 => R.ok [x14] s15).bind fun l16 s17 => R.ok (x10 :: l16) s17).bind fun l18 s19 => R.ok (x4 :: l18) s19).bind fun l20 s21 => R.of (tupN l20) s21).bind fun x22 s23 => (callN 2 dr [w_feed_here, (Vl.dat (.int 3))] s23).bind fun x24 s25 => R.of (phIx x22 x24 s25) s25).an fun w_number s1 =>
    ((R.of (tupN [w_number, w_number, (Vl.dat (.str "i")), (Vl.dat (.str "j")), (Vl.dat (.str "ij")), (Vl.dat (.str "n"))]) s1).bind fun x26 s27 => (callN 2 dr [w_feed_here, (Vl.dat (.int 6))] s27).bind fun x28 s29 => R.of (phIx x26 x28 s29) s29).an fun x30 s31 => .rt x30 s31
noncomputable def r_law_operand_k06 (dr : MF) : MF := runN fun xs => match xs with
  | [w_feed_here] => n_law_operand_k06 dr w_feed_here
  | _ => fun _ => .bad
noncomputable def G_law_operand_k06 (dr : MF) : MF := frameG (r_law_operand_k06 dr)
section
variable {dr : MF} {Fd : Nat → Ob → Prop} {L : Type}
structure OpdOk (o : Opd) : Prop where
  num : ∀ i, o = .n i → -1000000 ≤ i ∧ i ≤ 1000000
  word : ∀ x, o = .v x → IsWord x
end
end Pm
set_option maxRecDepth 100000
set_option maxHeartbeats 4000000
namespace Pm
open PySem PySem.Spec PyProof.Rows L2 Sw
theorem ObjsOk.nd {os : List (Str × Int)} (h : ObjsOk os) : (os.map (·.1)).Nodup := List.Pairwise.imp (fun {a b} (hl : LtS a b) (e : a = b) => LtS.irr (a := b) (e ▸ hl)) h.rise
theorem lookup_mem {α : Type} {x : Str} : ∀ {kvs : List (Str × α)}, x ∈ kvs.map (·.1) → ∃ n, kvs.lookup x = some n ∧ (x, n) ∈ kvs
  | [], h => by cases h
  | o :: r, h => by
    rw [List.lookup_cons]
    by_cases e : x = o.1
    · subst e
      rw [beq_self_eq_true]
      exact ⟨_, rfl, List.mem_cons_self⟩
    · have : (x == o.1) = false := by rw [beq_eq_false_iff_ne]; exact e
      rw [this]
      rw [List.map_cons, List.mem_cons] at h
      obtain ⟨n, h1, h2⟩ := lookup_mem (h.resolve_left e)
      exact ⟨n, h1, List.mem_cons_of_mem _ h2⟩
structure AdrOk (os : List (Str × Int)) (a : Adr) : Prop where
  pos : 0 < a.names.length
  few : a.names.length ≤ os.length
  nd : a.names.Nodup
  sub : ∀ x ∈ a.names, x ∈ os.map (·.1)
  pick : ∀ i, a.pick = .n i → 0 ≤ i ∧ i < a.names.length
  index : ∀ i, a.index = .n i → 0 ≤ i ∧ ∀ x ∈ a.names, ∀ n, os.lookup x = some n → i < n
  pickV : ∀ x, a.pick = .v x → x = "i" ∨ x = "p"
  indexV : ∀ x, a.index = .v x → x = "i" ∨ x = "j"
noncomputable def ce_law_address_k02_1 (dr : MF)  (w_word_here : Vl) : Sto → R Vl := fun s => R.ok w_word_here s
def mk_law_address_k02_1 (w_feed_here : Vl) (w_objects_here : Vl) (w_rest : Vl) (w_some : Vl) : Unit → Loc := fun a => [some w_feed_here, some w_objects_here, none, none, none, none, some w_rest, some w_some, none, none]
noncomputable def nb_law_address_k02_1 (dr : MF) (w_feed_here : Vl) (w_objects_here : Vl) (w_rest : Vl) (w_some : Vl) (w_k : Vl) : Sto → An Unit Unit := fun s =>
  (appN w_some s (fun s21 => (if isRl w_rest s21 = true then (((((R.of (phLen [w_rest] s21) s21).bind fun x22 s23 => R.ok [x22] s23).bind fun l24 s25 => R.ok (w_feed_here :: l24) s25).bind fun l26 s27 => callN 2 dr l26 s27).bind fun x28 s29 => R.ok [x28] s29).bind fun l30 s31 => popAtN w_rest l30 s31 else .bad).bind fun x32 s33 => R.ok [x32] s33)).an fun _ s34 =>
    .nx () s34
noncomputable def lp_law_address_k02_1 {L : Type} (dr : MF) (w_feed_here : Vl) (w_objects_here : Vl) (w_rest : Vl) (w_some : Vl) (ck : Sto → Prop) : List Vl → Unit → Sto → An Unit L := forN ck (mk_law_address_k02_1 w_feed_here w_objects_here w_rest w_some) (fun v a s => patN (pV v) fun p => nb_law_address_k02_1 dr w_feed_here w_objects_here w_rest w_some p s)
@[simp] theorem lp_law_address_k02_1_nil {L : Type} (dr : MF) (w_feed_here : Vl) (w_objects_here : Vl) (w_rest : Vl) (w_some : Vl) {a : Unit} {s : Sto} : (lp_law_address_k02_1 (L := L) dr w_feed_here w_objects_here w_rest w_some okT [] a s) = .nx a s := forN_nil
noncomputable def ce_law_address_k02_2 (dr : MF) (w_objects_here : Vl) (w_word_here : Vl) : Sto → R Vl := fun s => (R.of (phDict [w_objects_here] s) s).bind fun x40 s41 => R.of (phIx x40 w_word_here s41) s41
noncomputable def kt_law_address_k02_1 (dr : MF) (w_feed_here : Vl) (w_objects_here : Vl) (w_rest : Vl) (w_some : Vl) : Sto → An Unit Empty := fun s =>
  (((lcP (R.of (src w_some s) s) pV (fun p s => R.ok true s) (fun p s => ce_law_address_k02_2 dr w_objects_here p s)).bind fun x42 s43 => R.ok [x42] s43).bind fun l44 s45 => R.of (phMin1 l44 s45) s45).an fun w_least s39 =>
    (((((((R.of (phLen [w_some] s39) s39).bind fun x47 s48 => R.ok [x47] s48).bind fun l49 s50 => R.ok (w_feed_here :: l49) s50).bind fun l51 s52 => callN 2 dr l51 s52).bind fun x53 s54 => (((R.of (tupN [(Vl.dat (.str "i")), (Vl.dat (.str "p"))]) s54).bind fun x55 s56 => (callN 2 dr [w_feed_here, (Vl.dat (.int 2))] s56).bind fun x57 s58 => R.of (phIx x55 x57 s58) s58).bind fun x59 s60 => R.ok [x59] s60).bind fun l61 s62 => R.ok (x53 :: l61) s62).bind fun l63 s64 => R.of (tupN l63) s64).bind fun x65 s66 => (callN 2 dr [w_feed_here, (Vl.dat (.int 2))] s66).bind fun x67 s68 => R.of (phIx x65 x67 s68) s68).an fun w_pick s46 =>
    ((((callN 2 dr [w_feed_here, w_least] s46).bind fun x70 s71 => (((R.of (tupN [(Vl.dat (.str "i")), (Vl.dat (.str "j"))]) s71).bind fun x72 s73 => (callN 2 dr [w_feed_here, (Vl.dat (.int 2))] s73).bind fun x74 s75 => R.of (phIx x72 x74 s75) s75).bind fun x76 s77 => R.ok [x76] s77).bind fun l78 s79 => R.ok (x70 :: l78) s79).bind fun l80 s81 => R.of (tupN l80) s81).bind fun x82 s83 => (callN 2 dr [w_feed_here, (Vl.dat (.int 2))] s83).bind fun x84 s85 => R.of (phIx x82 x84 s85) s85).an fun w_index s69 =>
    (((R.of (phTuple [w_some] s69) s69).bind fun x86 s87 => R.ok [x86, w_pick, w_index] s87).bind fun l88 s89 => R.of (tupN l88) s89).an fun x90 s91 => .rt x90 s91
noncomputable def n_law_address_k02 (dr : MF) (w_feed_here : Vl) (w_objects_here : Vl) : Sto → An Unit Empty := fun s =>
  ((lcPN (R.of (src w_objects_here s) s) (pT2 pV pV) (fun p s => R.ok true s) (fun p s => ce_law_address_k02_1 dr p.1 s)).bind fun x1 s2 => ((newN [] s2).bind fun x3 s4 => R.ok [x3] s4).bind fun l5 s6 => R.ok (x1 :: l5) s6).an fun l8 s7 => par2N l8 fun w_rest w_some =>
    ((((((((R.of (phLen [w_objects_here] s7) s7).bind fun x9 s10 => R.ok [x9] s10).bind fun l11 s12 => R.ok (w_feed_here :: l11) s12).bind fun l13 s14 => callN 2 dr l13 s14).bind fun x15 s16 => R.of (phAdd (Vl.dat (.int 1)) x15 s16) s16).bind fun x17 s18 => R.ok [x17] s18).bind fun l19 s20 => rngN1 l19 s20).an fun c35 s36 => lp_law_address_k02_1 dr w_feed_here w_objects_here w_rest w_some c35.ok c35.items () s36).thn fun j37 s38 => kt_law_address_k02_1 dr w_feed_here w_objects_here w_rest w_some  s38
noncomputable def r_law_address_k02 (dr : MF) : MF := runN fun xs => match xs with
  | [w_feed_here, w_objects_here] => n_law_address_k02 dr w_feed_here w_objects_here
  | _ => fun _ => .bad
noncomputable def G_law_address_k02 (dr : MF) : MF := frameG (r_law_address_k02 dr)
theorem app_go {n : Nat} {s s2 : Sto} {l0 l : List Vl} {w : Vl} {r : Sto → R (List Vl)} (h0 : lstAt s n = some l0) (h : r s = .ok [w] s2) (h2 : lstAt s2 n = some l) (hl : l.length ≤ 999) (hw : noX w = true) : appN (.ref n) s r = .ok (.dat .none) (s2.set n (.lst (l ++ [w]))) := by
  have h3 : l.length < mil := Nat.lt_of_lt_of_le (Nat.lt_succ_of_le hl) (th_mil (Nat.le_refl 1000))
  unfold appN
  simp only [h0, h, R.bind_ok, h2]
  rw [if_pos ⟨h3, hw⟩]
end Pm
set_option maxRecDepth 100000
set_option maxHeartbeats 4000000
namespace Pm
open PySem PySem.Spec PyProof.Rows L2 Sw
def szO (os : List (Str × Int)) (x : Str) : Int := (os.lookup x).getD 0
section
variable {dr : MF} {Fd : Nat → Ob → Prop} {os : List (Str × Int)}
theorem ObjsOk.look (ok : ObjsOk os) {x : Str} (h : x ∈ os.map (·.1)) : os.lookup x = some (szO os x) ∧ 1 ≤ szO os x ∧ szO os x ≤ 4 := by
  obtain ⟨n, h1, h2⟩ := lookup_mem h
  have := ok.size _ h2
  unfold szO
  rw [h1]
  exact ⟨rfl, this.1, this.2⟩
end
end Pm
set_option maxRecDepth 100000
set_option maxHeartbeats 4000000
namespace Pm
open PySem PySem.Spec PyProof.Rows L2 Sw
noncomputable def n_law_row_k06 (dr : MF) (w_feed_here : Vl) (w_objects_here : Vl) (w_called : Vl) : Sto → An Unit Empty := fun s =>
  ((R.of (tupN [(Vl.dat (.str "load")), (Vl.dat (.str "store")), (Vl.dat (.str "touch")), (Vl.dat (.str "set")), (Vl.dat (.str "tell")), (Vl.dat (.str "need")), (Vl.dat (.str "call"))]) s).bind fun x2 s3 => ((((((((R.of (lstN []) s3).bind fun x4 s5 => R.of (phNe w_called x4 s5) s5).bind fun x6 s7 => R.ok [x6] s7).bind fun l8 s9 => R.of (phInt l8 s9) s9).bind fun x10 s11 => R.of (phAdd (Vl.dat (.int 6)) x10 s11) s11).bind fun x12 s13 => R.ok [x12] s13).bind fun l14 s15 => R.ok (w_feed_here :: l14) s15).bind fun l16 s17 => callN 2 dr l16 s17).bind fun x18 s19 => R.of (phIx x2 x18 s19) s19).an fun w_word_here s1 =>
    (((R.of (tupN [(Vl.dat (.str "i")), (Vl.dat (.str "j")), (Vl.dat (.str "n"))]) s1).bind fun x20 s21 => (callN 2 dr [w_feed_here, (Vl.dat (.int 3))] s21).bind fun x22 s23 => R.of (phIx x20 x22 s23) s23).bind fun x24 s25 => ((callN 2 (G_law_address_k02 dr) [w_feed_here, w_objects_here] s25).bind fun x26 s27 => ((callN 1 (G_law_operand_k06 dr) [w_feed_here] s27).bind fun x28 s29 => R.ok [x28] s29).bind fun l30 s31 => R.ok (x26 :: l30) s31).bind fun l32 s33 => R.ok (x24 :: l32) s33).an fun l35 s34 => par3N l35 fun w_name w_address_here w_operand_here =>
    (((R.of (tupN [(Vl.dat (.str "+")), (Vl.dat (.str "-")), (Vl.dat (.str "*")), (Vl.dat (.str "<"))]) s34).bind fun x36 s37 => (callN 2 dr [w_feed_here, (Vl.dat (.int 4))] s37).bind fun x38 s39 => R.of (phIx x36 x38 s39) s39).bind fun x40 s41 => ((callN 1 (G_law_operand_k06 dr) [w_feed_here] s41).bind fun x42 s43 => R.ok [x42] s43).bind fun l44 s45 => R.ok (x40 :: l44) s45).an fun l47 s46 => par2N l47 fun w_sign w_other =>
    ((R.of (phEq w_word_here (Vl.dat (.str "load")) s46) s46).bind fun x48 s49 => R.of (bool? x48) s49).an fun c50 s51 => if c50 = true then
    ((R.of (tupN [w_word_here, w_name, w_address_here]) s51).an fun x52 s53 => .rt x52 s53 : An Empty _).up
    else
    ((R.of (phEq w_word_here (Vl.dat (.str "store")) s51) s51).bind fun x54 s55 => R.of (bool? x54) s55).an fun c56 s57 => if c56 = true then
    ((R.of (tupN [w_word_here, w_address_here, w_operand_here]) s57).an fun x58 s59 => .rt x58 s59 : An Empty _).up
    else
    ((R.of (phEq w_word_here (Vl.dat (.str "touch")) s57) s57).bind fun x60 s61 => R.of (bool? x60) s61).an fun c62 s63 => if c62 = true then
    ((R.of (tupN [w_word_here, w_address_here]) s63).an fun x64 s65 => .rt x64 s65 : An Empty _).up
    else
    ((R.of (phEq w_word_here (Vl.dat (.str "set")) s63) s63).bind fun x66 s67 => R.of (bool? x66) s67).an fun c68 s69 => if c68 = true then
    ((R.of (tupN [w_word_here, w_name, w_sign, w_operand_here, w_other]) s69).an fun x70 s71 => .rt x70 s71 : An Empty _).up
    else
    (((R.of (phEq w_word_here (Vl.dat (.str "call")) s69) s69).bind fun x72 s73 => R.of (bool? x72) s73).bind fun c74 s75 => if c74 = true then (((((((R.of (phLen [w_called] s75) s75).bind fun x76 s77 => R.ok [x76] s77).bind fun l78 s79 => R.ok (w_feed_here :: l78) s79).bind fun l80 s81 => callN 2 dr l80 s81).bind fun x82 s83 => R.of (phIx w_called x82 s83) s83).bind fun x84 s85 => R.ok [x84] s85).bind fun l86 s87 => R.ok (w_word_here :: l86) s87).bind fun l88 s89 => R.of (tupN l88) s89 else R.of (tupN [w_word_here, w_operand_here]) s75).an fun x90 s91 => .rt x90 s91
noncomputable def r_law_row_k06 (dr : MF) : MF := runN fun xs => match xs with
  | [w_feed_here, w_objects_here, w_called] => n_law_row_k06 dr w_feed_here w_objects_here w_called
  | _ => fun _ => .bad
noncomputable def G_law_row_k06 (dr : MF) : MF := frameG (r_law_row_k06 dr)
noncomputable def n_law_end_k06 (dr : MF) (w_feed_here : Vl) (w_many : Vl) : Sto → An Unit Empty := fun s =>
  ((callN 2 dr [w_feed_here, w_many] s).bind fun x1 s2 => ((callN 2 dr [w_feed_here, w_many] s2).bind fun x3 s4 => ((callN 1 (G_law_operand_k06 dr) [w_feed_here] s4).bind fun x5 s6 => R.ok [x5] s6).bind fun l7 s8 => R.ok (x3 :: l7) s8).bind fun l9 s10 => R.ok (x1 :: l9) s10).an fun l12 s11 => par3N l12 fun w_first w_second w_operand_here =>
    (((R.of (tupN [(Vl.dat (.str "go")), w_first]) s11).bind fun x14 s15 => ((R.of (tupN [(Vl.dat (.str "if")), w_operand_here, w_first, w_second]) s15).bind fun x16 s17 => ((R.of (tupN [(Vl.dat (.str "if")), w_operand_here, w_first, w_second]) s17).bind fun x18 s19 => ((R.of (tupN [(Vl.dat (.str "back"))]) s19).bind fun x20 s21 => R.ok [x20] s21).bind fun l22 s23 => R.ok (x18 :: l22) s23).bind fun l24 s25 => R.ok (x16 :: l24) s25).bind fun l26 s27 => R.ok (x14 :: l26) s27).bind fun l28 s29 => R.of (lstN l28) s29).an fun w_ends s13 =>
    ((callN 2 dr [w_feed_here, (Vl.dat (.int 4))] s13).bind fun x30 s31 => R.of (phIx w_ends x30 s31) s31).an fun x32 s33 => .rt x32 s33
noncomputable def r_law_end_k06 (dr : MF) : MF := runN fun xs => match xs with
  | [w_feed_here, w_many] => n_law_end_k06 dr w_feed_here w_many
  | _ => fun _ => .bad
noncomputable def G_law_end_k06 (dr : MF) : MF := frameG (r_law_end_k06 dr)
def mk_law_code_k07_1 (w_feed_here : Vl) (w_blocks : Vl) (w_rows : Vl) (w_objects_here : Vl) (w_called : Vl) : Unit → Loc := fun a => [some w_feed_here, none, some w_blocks, some w_rows, none, none, none, some w_objects_here, some w_called, none, none, none, none]
noncomputable def nb_law_code_k07_1 (dr : MF) (w_feed_here : Vl) (w_blocks : Vl) (w_rows : Vl) (w_objects_here : Vl) (w_called : Vl) (w_k : Vl) : Sto → An Unit Unit := fun s =>
  (appN w_called s (fun s13 => (((((R.of (lstN [(Vl.dat (.str "main"))]) s13).bind fun x14 s15 => R.of (phAdd w_called x14 s15) s15).bind fun x16 s17 => R.ok [x16] s17).bind fun l18 s19 => R.ok (w_feed_here :: l18) s19).bind fun l20 s21 => callN 2 (G_law_word_k01 dr) l20 s21).bind fun x22 s23 => R.ok [x22] s23)).an fun _ s24 =>
    .nx () s24
noncomputable def lp_law_code_k07_1 {L : Type} (dr : MF) (w_feed_here : Vl) (w_blocks : Vl) (w_rows : Vl) (w_objects_here : Vl) (w_called : Vl) (ck : Sto → Prop) : List Vl → Unit → Sto → An Unit L := forN ck (mk_law_code_k07_1 w_feed_here w_blocks w_rows w_objects_here w_called) (fun v a s => patN (pV v) fun p => nb_law_code_k07_1 dr w_feed_here w_blocks w_rows w_objects_here w_called p s)
@[simp] theorem lp_law_code_k07_1_nil {L : Type} (dr : MF) (w_feed_here : Vl) (w_blocks : Vl) (w_rows : Vl) (w_objects_here : Vl) (w_called : Vl) {a : Unit} {s : Sto} : (lp_law_code_k07_1 (L := L) dr w_feed_here w_blocks w_rows w_objects_here w_called okT [] a s) = .nx a s := forN_nil
def mk_law_code_k07_2 (w_feed_here : Vl) (w_blocks : Vl) (w_rows : Vl) (w_found : Vl) (w_objects_here : Vl) (w_called : Vl) : Unit → Loc := fun a => [some w_feed_here, none, some w_blocks, some w_rows, none, some w_found, none, some w_objects_here, some w_called, none, none, none, none]
def mk_law_code_k07_3 (w_feed_here : Vl) (w_blocks : Vl) (w_rows : Vl) (w_found : Vl) (w_name : Vl) (w_objects_here : Vl) (w_called : Vl) (w_many : Vl) (w_own : Vl) : Unit → Loc := fun a => [some w_feed_here, none, some w_blocks, some w_rows, none, some w_found, some w_name, some w_objects_here, some w_called, some w_many, some w_own, none, none]
noncomputable def ce_law_code_k07_1 (dr : MF) (w_feed_here : Vl) (w_objects_here : Vl) (w_called : Vl) : Sto → R Vl := fun s => callN 3 (G_law_row_k06 dr) [w_feed_here, w_objects_here, w_called] s
noncomputable def nb_law_code_k07_3 (dr : MF) (w_feed_here : Vl) (w_blocks : Vl) (w_rows : Vl) (w_found : Vl) (w_name : Vl) (w_objects_here : Vl) (w_called : Vl) (w_many : Vl) (w_own : Vl) (w_block : Vl) : Sto → An Unit Unit := fun s =>
  (lcP ((((((R.of (phAdd w_rows (Vl.dat (.int 1)) s) s).bind fun x43 s44 => R.ok [x43] s44).bind fun l45 s46 => R.ok (w_feed_here :: l45) s46).bind fun l47 s48 => callN 2 dr l47 s48).bind fun x49 s50 => R.ok [x49] s50).bind fun l51 s52 => rngN1 l51 s52) pV (fun p s => R.ok true s) (fun p s => ce_law_code_k07_1 dr w_feed_here w_objects_here w_called s)).an fun w_some s42 =>
    (appN w_own s42 (fun s53 => (((R.of (phTuple [w_some] s53) s53).bind fun x54 s55 => ((callN 2 (G_law_end_k06 dr) [w_feed_here, w_many] s55).bind fun x56 s57 => R.ok [x56] s57).bind fun l58 s59 => R.ok (x54 :: l58) s59).bind fun l60 s61 => R.of (tupN l60) s61).bind fun x62 s63 => R.ok [x62] s63)).an fun _ s64 =>
    .nx () s64
noncomputable def lp_law_code_k07_3 {L : Type} (dr : MF) (w_feed_here : Vl) (w_blocks : Vl) (w_rows : Vl) (w_found : Vl) (w_name : Vl) (w_objects_here : Vl) (w_called : Vl) (w_many : Vl) (w_own : Vl) (ck : Sto → Prop) : List Vl → Unit → Sto → An Unit L := forN ck (mk_law_code_k07_3 w_feed_here w_blocks w_rows w_found w_name w_objects_here w_called w_many w_own) (fun v a s => patN (pV v) fun p => nb_law_code_k07_3 dr w_feed_here w_blocks w_rows w_found w_name w_objects_here w_called w_many w_own p s)
@[simp] theorem lp_law_code_k07_3_nil {L : Type} (dr : MF) (w_feed_here : Vl) (w_blocks : Vl) (w_rows : Vl) (w_found : Vl) (w_name : Vl) (w_objects_here : Vl) (w_called : Vl) (w_many : Vl) (w_own : Vl) {a : Unit} {s : Sto} : (lp_law_code_k07_3 (L := L) dr w_feed_here w_blocks w_rows w_found w_name w_objects_here w_called w_many w_own okT [] a s) = .nx a s := forN_nil
noncomputable def kt_law_code_k07_2 (dr : MF) (w_feed_here : Vl) (w_blocks : Vl) (w_rows : Vl) (w_found : Vl) (w_name : Vl) (w_objects_here : Vl) (w_called : Vl) (w_many : Vl) (w_own : Vl) : Sto → An Unit Unit := fun s =>
  (appN w_found s (fun s69 => ((((R.of (phTuple [w_own] s69) s69).bind fun x70 s71 => R.ok [x70] s71).bind fun l72 s73 => R.ok (w_name :: l72) s73).bind fun l74 s75 => R.of (tupN l74) s75).bind fun x76 s77 => R.ok [x76] s77)).an fun _ s78 =>
    .nx () s78
noncomputable def nb_law_code_k07_2 (dr : MF) (w_feed_here : Vl) (w_blocks : Vl) (w_rows : Vl) (w_found : Vl) (w_objects_here : Vl) (w_called : Vl) (w_name : Vl) : Sto → An Unit Unit := fun s =>
  ((callN 2 dr [w_feed_here, w_blocks] s).bind fun x39 s40 => R.of (phAdd (Vl.dat (.int 1)) x39 s40) s40).an fun w_many s38 =>
    (newN [] s38).an fun w_own s41 =>
    ((rngN1 [w_many] s41).an fun c65 s66 => lp_law_code_k07_3 dr w_feed_here w_blocks w_rows w_found w_name w_objects_here w_called w_many w_own c65.ok c65.items () s66).thn fun j67 s68 => kt_law_code_k07_2 dr w_feed_here w_blocks w_rows w_found w_name w_objects_here w_called w_many w_own  s68
noncomputable def lp_law_code_k07_2 {L : Type} (dr : MF) (w_feed_here : Vl) (w_blocks : Vl) (w_rows : Vl) (w_found : Vl) (w_objects_here : Vl) (w_called : Vl) (ck : Sto → Prop) : List Vl → Unit → Sto → An Unit L := forN ck (mk_law_code_k07_2 w_feed_here w_blocks w_rows w_found w_objects_here w_called) (fun v a s => patN (pV v) fun p => nb_law_code_k07_2 dr w_feed_here w_blocks w_rows w_found w_objects_here w_called p s)
@[simp] theorem lp_law_code_k07_2_nil {L : Type} (dr : MF) (w_feed_here : Vl) (w_blocks : Vl) (w_rows : Vl) (w_found : Vl) (w_objects_here : Vl) (w_called : Vl) {a : Unit} {s : Sto} : (lp_law_code_k07_2 (L := L) dr w_feed_here w_blocks w_rows w_found w_objects_here w_called okT [] a s) = .nx a s := forN_nil
inductive RowOk (os : List (Str × Int)) (called : List Str) : Row → Prop where
  | load {x : Str} {a} : x = "i" ∨ x = "j" ∨ x = "n" → AdrOk os a → RowOk os called (.load x a)
  | store {a o} : AdrOk os a → OpdOk o → RowOk os called (.store a o)
  | touch {a} : AdrOk os a → RowOk os called (.touch a)
  | set {x w : Str} {p q} : x = "i" ∨ x = "j" ∨ x = "n" → w = "+" ∨ w = "-" ∨ w = "*" ∨ w = "<" → OpdOk p → OpdOk q → RowOk os called (.set x w p q)
  | tell {o} : OpdOk o → RowOk os called (.tell o)
  | need {o} : OpdOk o → RowOk os called (.need o)
  | call {f} : f ∈ called → RowOk os called (.call f)
section
variable {dr : MF} {Fd : Nat → Ob → Prop} {os : List (Str × Int)} {called : List Str}
structure EndOk (m : Int) (e : Endd) : Prop where
  rng : ∀ x ∈ e.all, 0 ≤ x ∧ x < m
  opd : ∀ o x y, e = .iff o x y → OpdOk o
end
end Pm
set_option maxRecDepth 100000
set_option maxHeartbeats 4000000
namespace Pm
open PySem PySem.Spec PyProof.Rows L2 Sw
abbrev dtL (ds : List PyData) : Ob := .lst (ds.map Vl.dat)
abbrev mainS : Str := "main"
structure BkG (os : List (Str × Int)) (called : List Str) (W : Nat) (m : Int) (b : Blk) : Prop where
  few : b.rows.length ≤ W
  rows : ∀ r ∈ b.rows, RowOk os called r
  fin : EndOk m b.fin
structure RtG (os : List (Str × Int)) (called : List Str) (B W : Nat) (bs : List Blk) : Prop where
  pos : 0 < bs.length
  few : bs.length ≤ B
  blks : ∀ b ∈ bs, BkG os called W bs.length b
structure CodG (R B W : Nat) (called : List Str) (c : Cod) : Prop where
  objs : ObjsOk c.objs
  few : called.length + 1 ≤ R
  word : ∀ z ∈ called, IsWord z
  nd : (called ++ [mainS]).Nodup
  names : c.rts.map (·.1) = srtS (called ++ [mainS])
  rts : ∀ r ∈ c.rts, RtG c.objs called B W r.2
theorem main_word : IsWord mainS := ⟨by decide, by decide, by decide⟩
end Pm
set_option maxRecDepth 100000
set_option maxHeartbeats 4000000
namespace Pm
open PySem PySem.Spec PyProof.Rows L2 Sw
theorem atI_in {α : Type} {l : List α} {b : Int} (h0 : 0 ≤ b) (h1 : b < (l.length : Int)) : ∃ x, atI l b = some x ∧ x ∈ l := by
  obtain ⟨n, rfl⟩ : ∃ n : Nat, b = n := ⟨b.toNat, by omega⟩
  have hn : n < l.length := by omega
  exact ⟨l[n], by rw [atI_nat', List.getElem?_eq_getElem hn], List.getElem_mem hn⟩
/-- all goals of a block as they stand -/
def allB (bs : List Blk) (b : Int) : List Int := match atI bs b with
  | some k => k.fin.all
  | none => []
theorem mem_goalsB {bs : List Blk} {b k : Int} : k ∈ goalsB bs b ↔ k ∈ allB bs b := by
  unfold goalsB allB
  cases atI bs b with
  | none => exact Iff.rfl
  | some x => exact mem_risI
/-- blocks whose goals are blocks -/
def GoIn (bs : List Blk) : Prop := 0 < bs.length ∧ ∀ b ∈ bs, ∀ x ∈ b.fin.all, 0 ≤ x ∧ x < (bs.length : Int)
theorem GoIn.all {bs : List Blk} (h : GoIn bs) {b x : Int} (hx : x ∈ allB bs b) : 0 ≤ x ∧ x < (bs.length : Int) := by
  unfold allB at hx
  cases e : atI bs b with
  | none => rw [e] at hx; cases hx
  | some k =>
    rw [e] at hx
    refine h.2 k ?_ x hx
    unfold atI at e
    cases hi : ixN bs.length b with
    | none => rw [hi] at e; cases e
    | some j => rw [hi] at e; exact List.mem_of_getElem? e
/-- reached from block 0 -/
inductive Rch (bs : List Blk) : Int → Prop
  | zero : Rch bs 0
  | step {a b : Int} : Rch bs a → b ∈ allB bs a → Rch bs b
theorem Rch.in {bs : List Blk} (ok : GoIn bs) {x : Int} (h : Rch bs x) : 0 ≤ x ∧ x < (bs.length : Int) := by
  cases h with
  | zero => have := ok.1; omega
  | step _ h => exact ok.all h
theorem few_ints : ∀ {L xs : List Int}, L.Nodup → (∀ x ∈ L, x ∈ xs) → L.length ≤ xs.length
  | [], xs, _, _ => Nat.zero_le _
  | y :: L, xs, nd, h => by
    rw [List.nodup_cons] at nd
    have hy := h y List.mem_cons_self
    have := few_ints (L := L) (xs := xs.erase y) nd.2 fun x hx => (List.mem_erase_of_ne (show x ≠ y from fun e => nd.1 (e ▸ hx))).mpr (h x (List.mem_cons_of_mem _ hx))
    rw [List.length_erase_of_mem hy] at this
    have := List.length_pos_of_mem hy
    rw [List.length_cons]
    omega
theorem few_in {L : List Int} {n : Nat} (nd : L.Nodup) (h : ∀ x ∈ L, 0 ≤ x ∧ x < (n : Int)) : L.length ≤ n := by
  have := few_ints (xs := (List.range n).map fun (k : Nat) => (k : Int)) nd fun x hx => List.mem_map.mpr ⟨x.toNat, List.mem_range.mpr (by have := h x hx; omega), by have := h x hx; omega⟩
  rwa [List.length_map, List.length_range] at this
theorem srtI_rise {ns : List Int} (nd : ns.Nodup) : (srtI ns).Pairwise (· < ·) := by
  have hp := srtB_perm (le := leI) ns
  have hs : (srtI ns).Pairwise (· ≤ ·) := by
    have := srtB_srt (le := leI) (fun a b => by simp only [leI, decide_eq_true_eq]; omega) (fun a b c => by simp only [leI, decide_eq_true_eq]; omega) ns
    exact List.Pairwise.imp (fun {a b} h => of_decide_eq_true h) this
  have hn : (srtI ns).Nodup := hp.nodup_iff.mpr nd
  exact List.Pairwise.imp₂ (fun a b h1 h2 => by omega) hs hn
theorem mem_srtI {ns : List Int} {x : Int} : x ∈ srtI ns ↔ x ∈ ns := (srtB_perm (le := leI) ns).mem_iff
abbrev kvL (K : List (Int × PyData)) : Ob := .dic false (K.map fun p => (PyData.int p.1, Vl.dat p.2))
abbrev inL (T : List Int) : Ob := .lst (T.map fun x => Vl.dat (.int x))
theorem dHas_int {x : Int} : ∀ {K : List (Int × PyData)}, dHas (K.map fun p => (PyData.int p.1, Vl.dat p.2)) (.int x) = decide (x ∈ K.map (·.1))
  | [] => rfl
  | p :: K => by
    show (kEq (.int p.1) (.int x) || dHas (K.map fun p => (PyData.int p.1, Vl.dat p.2)) (.int x)) = _
    rw [dHas_int, kEq_i, List.map_cons, Bool.eq_iff_iff, Bool.or_eq_true, decide_eq_true_iff, decide_eq_true_iff, decide_eq_true_iff, List.mem_cons]
    exact or_congr (⟨fun e => e.symm, fun e => e.symm⟩) Iff.rfl
theorem dPut_int {x : Int} {d : PyData} {K : List (Int × PyData)} (h : x ∉ K.map (·.1)) : dPut (K.map fun p => (PyData.int p.1, Vl.dat p.2)) (.int x) (.dat d) = (K ++ [(x, d)]).map fun p => (PyData.int p.1, Vl.dat p.2) := by
  unfold dPut
  rw [dHas_int, if_neg (by simpa using h), List.map_append]
  rfl
theorem eqv_in {x : Int} : PyData.eqv (.int x) .none = false := by simp [PyData.eqv]
theorem sh_none : SeqAt.shaped .none = true := by simp [SeqAt.shaped, PyData.canLay0, PyData.depth]
theorem phNe_in {x : Int} {s : Sto} : phNe (.dat (.int x)) (.dat .none) s = some (.dat (.bool true)) := by
  rw [phNe_sh (sh_int x) sh_none, eqv_in]
  rfl
theorem phEq_ni {x : Int} {s : Sto} : phEq (.dat .none) (.dat (.int x)) s = some (.dat (.bool false)) := by
  rw [phEq_sh sh_none (sh_int x)]
  simp [PyData.eqv]
theorem phIn_kv {neg : Bool} {x : Int} {K : List (Int × PyData)} {t : Sto} : phIn neg (.dat (.int x)) (.ref 0) (kvL K :: t) = some (.dat (.bool (if neg = true then !decide (x ∈ K.map (·.1)) else decide (x ∈ K.map (·.1))))) := by
  show (if kOk false (.int x) = true then some (Vl.dat (.bool (if neg = true then !dHas (K.map fun p => (PyData.int p.1, Vl.dat p.2)) (.int x) else dHas (K.map fun p => (PyData.int p.1, Vl.dat p.2)) (.int x)))) else none) = _
  rw [if_pos (show kOk false (.int x) = true from rfl), dHas_int]
def mk_led_around_1 (v_code : Vl) (v_name : Vl) (v_over : Vl) (v_ahead : Vl) (v_todo : Vl) : Unit → Loc := fun a => [some v_code, some v_name, some v_over, some v_ahead, some v_todo, none, none]
noncomputable def tb_led_around_1 (v_code : Vl) (v_name : Vl) (v_over : Vl) (v_ahead : Vl) (v_todo : Vl) : Sto → R Bool := fun s => R.of (tru v_todo s) s
def mk_led_around_2 (v_code : Vl) (v_name : Vl) (v_over : Vl) (v_ahead : Vl) (v_todo : Vl) (v_block : Vl) : Unit → Loc := fun a => [some v_code, some v_name, some v_over, some v_ahead, some v_todo, some v_block, none]
noncomputable def nb_led_around_2 (v_code : Vl) (v_name : Vl) (v_over : Vl) (v_ahead : Vl) (v_todo : Vl) (v_block : Vl) (v_goal : Vl) : Sto → An Unit Unit := fun s =>
  (((R.of (phNe v_goal v_over s) s).bind fun x12 s13 => R.of (bool? x12) s13).bind fun c14 s15 => if c14 = true then (R.of ((phIn true) v_goal v_ahead s15) s15).bind fun x16 s17 => R.of (bool? x16) s17 else R.ok false s15).an fun c18 s19 => if c18 = true then
    (R.ok v_block s19).an fun x20 s21 => stoN (subU (R.ok v_ahead s21) (fun z => R.ok v_goal z) x20) fun s22 =>
      (appN v_todo s22 (fun s23 => R.ok [v_goal] s23)).an fun _ s24 =>
      .nx () s24
    else
    .nx () s19
noncomputable def lp_led_around_2 {L : Type} (v_code : Vl) (v_name : Vl) (v_over : Vl) (v_ahead : Vl) (v_todo : Vl) (v_block : Vl) (ck : Sto → Prop) : List Vl → Unit → Sto → An Unit L := forN ck (mk_led_around_2 v_code v_name v_over v_ahead v_todo v_block) (fun v a s => patN (pV v) fun p => nb_led_around_2 v_code v_name v_over v_ahead v_todo v_block p s)
@[simp] theorem lp_led_around_2_nil {L : Type} (v_code : Vl) (v_name : Vl) (v_over : Vl) (v_ahead : Vl) (v_todo : Vl) (v_block : Vl) {a : Unit} {s : Sto} : (lp_led_around_2 (L := L) v_code v_name v_over v_ahead v_todo v_block okT [] a s) = .nx a s := forN_nil
theorem lp_led_around_2_cons {L : Type} (v_code : Vl) (v_name : Vl) (v_over : Vl) (v_ahead : Vl) (v_todo : Vl) (v_block : Vl) {v : Vl} {r : List Vl} {a : Unit} {s : Sto} : (lp_led_around_2 (L := L) v_code v_name v_over v_ahead v_todo v_block okT (v :: r) a s) = (patN (pV v) fun p => nb_led_around_2 v_code v_name v_over v_ahead v_todo v_block p s).lp (mk_led_around_2 v_code v_name v_over v_ahead v_todo v_block) s.length (lp_led_around_2 v_code v_name v_over v_ahead v_todo v_block okT r) := forN_cons
noncomputable def kt_led_around_1 (v_code : Vl) (v_name : Vl) (v_over : Vl) (v_ahead : Vl) (v_todo : Vl) (v_block : Vl) : Sto → An Unit Unit := fun s =>
  .nx () s
noncomputable def nb_led_around_1 (v_code : Vl) (v_name : Vl) (v_over : Vl) (v_ahead : Vl) (v_todo : Vl) : Sto → An Unit Unit := fun s =>
  (popN v_todo s).an fun v_block s9 =>
    (((callN 3 G_nexts [v_code, v_name, v_block] s9).bind fun x10 s11 => R.of (src x10 s11) s11).an fun c25 s26 => lp_led_around_2 v_code v_name v_over v_ahead v_todo v_block c25.ok c25.items () s26).thn fun j27 s28 => kt_led_around_1 v_code v_name v_over v_ahead v_todo v_block  s28
noncomputable def wl_led_around_1 {L : Type} (v_code : Vl) (v_name : Vl) (v_over : Vl) (v_ahead : Vl) (v_todo : Vl) : Unit → Sto → An Unit L := whl (mk_led_around_1 v_code v_name v_over v_ahead v_todo) (fun a s => tb_led_around_1 v_code v_name v_over v_ahead v_todo s) (fun a s => nb_led_around_1 v_code v_name v_over v_ahead v_todo s)
theorem wl_led_around_1_un {L : Type} (v_code : Vl) (v_name : Vl) (v_over : Vl) (v_ahead : Vl) (v_todo : Vl) {a : Unit} {s : Sto} : (wl_led_around_1 (L := L) v_code v_name v_over v_ahead v_todo a s) = (tb_led_around_1 v_code v_name v_over v_ahead v_todo s).an fun c s1 => if c = true then (nb_led_around_1 v_code v_name v_over v_ahead v_todo s1).lp (mk_led_around_1 v_code v_name v_over v_ahead v_todo) s1.length (wl_led_around_1 v_code v_name v_over v_ahead v_todo) else .nx a s1 := whl_unfold
noncomputable def kt_led_around_2 (v_code : Vl) (v_name : Vl) (v_over : Vl) (v_ahead : Vl) (v_todo : Vl) : Sto → An Unit Empty := fun s =>
  (R.ok v_ahead s).an fun x31 s32 => .rt x31 s32
noncomputable def n_led_around (v_code : Vl) (v_name : Vl) (v_over : Vl) : Sto → An Unit Empty := fun s =>
  ((R.of (phEq v_over (Vl.dat (.int 0)) s) s).bind fun x1 s2 => R.of (bool? x1) s2).an fun c3 s4 => if c3 = true then
    ((R.ok (.ref s4.length) (s4 ++ [.dic false []])).an fun x5 s6 => .rt x5 s6 : An Empty _).up
    else
    (dispN [((Vl.dat (.int 0)), (Vl.dat .none))] s4).an fun v_ahead s7 =>
    (newN [(Vl.dat (.int 0))] s7).an fun v_todo s8 =>
    (wl_led_around_1 v_code v_name v_over v_ahead v_todo () s8).thn fun j29 s30 => kt_led_around_2 v_code v_name v_over v_ahead v_todo  s30
noncomputable def r_led_around : MF := runN fun xs => match xs with
  | [v_code, v_name, v_over] => n_led_around v_code v_name v_over
  | _ => fun _ => .bad
noncomputable def G_led_around : MF := frameG (r_led_around)
noncomputable def n_reached (v_code : Vl) (v_name : Vl) : Sto → An Unit Empty := fun s =>
  (((((callN 3 G_led_around [v_code, v_name, (Vl.dat .none)] s).bind fun x1 s2 => R.ok [x1] s2).bind fun l3 s4 => R.of (phSorted l3 s4) s4).bind fun x5 s6 => R.ok [x5] s6).bind fun l7 s8 => R.of (phTuple l7 s8) s8).an fun x9 s10 => .rt x9 s10
noncomputable def r_reached : MF := runN fun xs => match xs with
  | [v_code, v_name] => n_reached v_code v_name
  | _ => fun _ => .bad
noncomputable def G_reached : MF := frameG (r_reached)
theorem nb_led2 {c nm b : Vl} {K : List (Int × PyData)} {T : List Int} {g bb : Int} (hb : b = .dat (.int bb)) (hK : K.length ≤ 900) (hT : T.length ≤ 900) :
    nb_led_around_2 c nm (.dat .none) (.ref 0) (.ref 1) b (.dat (.int g)) [kvL K, inL T] = if g ∈ K.map (·.1) then .nx () [kvL K, inL T] else .nx () [kvL (K ++ [(g, .int bb)]), inL (T ++ [g])] := by
  subst hb
  by_cases h : g ∈ K.map (·.1)
  · rw [if_pos h]
    simp only [nb_led_around_2, phNe_in, R.of_some, R.bind_ok, bool?_b, if_true, phIn_kv, decide_eq_true h, R.an_ok]
    simp
  · rw [if_neg h]
    have hs : subU (.ok (.ref 0) [kvL K, inL T]) (fun z => .ok (.dat (.int g)) z) (.dat (.int bb)) = some [kvL (K ++ [(g, .int bb)]), inL T] := by
      show (if kOk false (.int g) = true ∧ noX (.dat (.int bb)) = true ∧ (K.map fun p => (PyData.int p.1, Vl.dat p.2)).length < mil then some [Ob.dic false (dPut (K.map fun p => (PyData.int p.1, Vl.dat p.2)) (.int g) (.dat (.int bb))), inL T] else none) = _
      rw [if_pos ⟨rfl, rfl, by rw [List.length_map]; have := th_mil (n := 901) (by decide); omega⟩, dPut_int h]
    have ha : ∀ D, appN (.ref 1) [D, inL T] (fun s => R.ok [.dat (.int g)] s) = .ok (.dat .none) [D, inL (T ++ [g])] := fun D => by
      rw [app_go (n := 1) (l0 := T.map fun x => .dat (.int x)) (l := T.map fun x => .dat (.int x)) (w := .dat (.int g)) (s2 := [D, inL T]) rfl rfl rfl (by rw [List.length_map]; omega) rfl]
      show R.ok _ [D, .lst ((T.map fun x => Vl.dat (.int x)) ++ [.dat (.int g)])] = _
      rw [inL, List.map_append]
      rfl
    simp only [nb_led_around_2, phNe_in, R.of_some, R.bind_ok, bool?_b, if_true, phIn_kv, decide_eq_false h, R.an_ok, Bool.not_false, hs, stoN_some, ha]
theorem lp_led2 {c nm : Vl} {bb : Int} {L : Type} : ∀ (gs : List Int) (K : List (Int × PyData)) (T : List Int), K.length + gs.length ≤ 900 → T.length + gs.length ≤ 900 → (K.map (·.1)).Nodup →
    ∃ (K' : List (Int × PyData)) (N : List Int), (lp_led_around_2 (L := L) c nm (.dat .none) (.ref 0) (.ref 1) (.dat (.int bb)) okT (gs.map fun g => .dat (.int g)) () [kvL K, inL T]) = .nx () [kvL K', inL (T ++ N)] ∧ K'.map (·.1) = K.map (·.1) ++ N ∧ (K'.map (·.1)).Nodup ∧ (∀ x ∈ N, x ∈ gs) ∧ ∀ g ∈ gs, g ∈ K'.map (·.1)
  | [], K, T, _, _, nd => ⟨K, [], by rw [List.map_nil, lp_led_around_2_nil, List.append_nil], by rw [List.append_nil], nd, (fun x h => by cases h), fun x h => by cases h⟩
  | g :: gs, K, T, hK, hT, nd => by
    rw [List.length_cons] at hK hT
    have hb := nb_led2 (c := c) (nm := nm) (b := .dat (.int bb)) (K := K) (T := T) (g := g) rfl (by omega) (by omega)
    by_cases h : g ∈ K.map (·.1)
    · rw [if_pos h] at hb
      obtain ⟨K', N, e1, e2, e3, e4, e5⟩ := lp_led2 (L := L) gs K T (by omega) (by omega) nd
      refine ⟨K', N, ?_, e2, e3, fun x hx => List.mem_cons_of_mem _ (e4 x hx), fun x hx => ?_⟩
      · rw [List.map_cons, lp_led_around_2_cons, pV_ap, patN_some, hb, lp_nx, tidy_same (by simp), e1]
      · rcases List.mem_cons.mp hx with rfl | hx
        · rw [e2]; exact List.mem_append_left _ h
        · exact e5 x hx
    · rw [if_neg h] at hb
      have em : (K ++ [(g, PyData.int bb)]).map (·.1) = K.map (·.1) ++ [g] := by rw [List.map_append]; rfl
      obtain ⟨K', N, e1, e2, e3, e4, e5⟩ := lp_led2 (L := L) gs (K ++ [(g, .int bb)]) (T ++ [g]) (by rw [List.length_append, List.length_singleton]; omega) (by rw [List.length_append, List.length_singleton]; omega) (by
        rw [em, List.nodup_append]
        refine ⟨nd, by simp, fun a ha b hb => ?_⟩
        have : b = g := by simpa using hb
        intro e; exact h (by rw [← this, ← e]; exact ha))
      rw [em] at e2
      refine ⟨K', g :: N, ?_, by rw [e2, List.append_assoc]; rfl, e3, fun x hx => ?_, fun x hx => ?_⟩
      · rw [List.map_cons, lp_led_around_2_cons, pV_ap, patN_some, hb, lp_nx, tidy_same (by simp), e1, List.append_assoc]
        rfl
      · rcases List.mem_cons.mp hx with rfl | hx
        · exact List.mem_cons_self
        · exact List.mem_cons_of_mem _ (e4 x hx)
      · rcases List.mem_cons.mp hx with rfl | hx
        · rw [e2]; exact List.mem_append_left _ (List.mem_append_right _ List.mem_cons_self)
        · exact e5 x hx
theorem goalsB_len {bs : List Blk} {b : Int} : (goalsB bs b).length ≤ 2 := by
  unfold goalsB
  cases atI bs b with
  | none => exact Nat.zero_le _
  | some k =>
    refine Nat.le_trans (risI_len _) ?_
    cases k.fin <;> simp [Endd.all]
structure LedI (bs : List Blk) (K : List (Int × PyData)) (T : List Int) : Prop where
  nd : (K.map (·.1)).Nodup
  rch : ∀ x ∈ K.map (·.1), Rch bs x
  sub : ∀ x ∈ T, x ∈ K.map (·.1)
  few : T.length ≤ K.length
  fst : (0 : Int) ∈ K.map (·.1)
  all : ∀ x ∈ K.map (·.1), x ∉ T → ∀ g ∈ allB bs x, g ∈ K.map (·.1)
theorem LedI.len {bs : List Blk} (ok : GoIn bs) {K : List (Int × PyData)} {T : List Int} (h : LedI bs K T) : K.length ≤ bs.length := by
  have := few_in h.nd fun x hx => (h.rch x hx).in ok
  rwa [List.length_map] at this
theorem wl_led {c : Cod} {nm : Str} {bs : List Blk} (hc : c.rts.lookup nm = some bs) (ok : GoIn bs) (few : bs.length ≤ 60) {L : Type} : ∀ (m : Nat) (K : List (Int × PyData)) (T : List Int), LedI bs K T → 2 * (bs.length - K.length) + T.length ≤ m →
    ∃ K', (wl_led_around_1 (L := L) (.dat c.d) (.dat (.str nm)) (.dat .none) (.ref 0) (.ref 1) () [kvL K, inL T]) = .nx () [kvL K', inL []] ∧ LedI bs K' [] := by
  intro m
  induction m with
  | zero =>
    intro K T h hm
    have hT : T = [] := List.eq_nil_of_length_eq_zero (by omega)
    subst hT
    refine ⟨K, ?_, h⟩
    rw [wl_led_around_1_un]
    simp [tb_led_around_1, tru]
  | succ m ih =>
    intro K T h hm
    rcases List.eq_nil_or_concat T with rfl | ⟨T0, b, rfl⟩
    · refine ⟨K, ?_, h⟩
      rw [wl_led_around_1_un]
      simp [tb_led_around_1, tru]
    · rw [List.concat_eq_append] at h hm ⊢
      have hl := h.len ok
      have hbk := h.sub b (by simp)
      have hbi := (h.rch b hbk).in ok
      obtain ⟨x, hx, _⟩ := atI_in hbi.1 hbi.2
      have eg : goalsB bs b = x.fin.goals := by unfold goalsB; rw [hx]
      have hg2 := goalsB_len (bs := bs) (b := b)
      have hfew := h.few
      rw [List.length_append, List.length_singleton] at hfew hm
      obtain ⟨K', N, e1, e2, e3, e4, e5⟩ := lp_led2 (c := .dat c.d) (nm := .dat (.str nm)) (bb := b) (L := Unit) (goalsB bs b) K T0 (by omega) (by omega) h.nd
      have hlen : K'.length = K.length + N.length := by
        have := congrArg List.length e2
        rwa [List.length_append, List.length_map, List.length_map] at this
      have hin : ∀ y ∈ K'.map (·.1), Rch bs y := fun y hy => by
        rw [e2] at hy
        rcases List.mem_append.mp hy with hy | hy
        · exact h.rch y hy
        · exact .step (h.rch b hbk) (mem_goalsB.mp (e4 y hy))
      have I' : LedI bs K' (T0 ++ N) := ⟨e3, hin, fun y hy => by
          rw [e2]
          rcases List.mem_append.mp hy with hy | hy
          · exact List.mem_append_left _ (h.sub y (List.mem_append_left _ hy))
          · exact List.mem_append_right _ hy, by rw [List.length_append]; omega, by rw [e2]; exact List.mem_append_left _ h.fst, fun y hy hn g hg => by
          by_cases hyb : y = b
          · subst hyb
            exact e5 g (mem_goalsB.mpr hg)
          · rw [e2] at hy ⊢
            rcases List.mem_append.mp hy with hy | hy
            · refine List.mem_append_left _ (h.all y hy (fun hm => ?_) g hg)
              rcases List.mem_append.mp hm with hm | hm
              · exact hn (List.mem_append_left _ hm)
              · exact hyb (by simpa using hm)
            · exact absurd (List.mem_append_right _ hy) hn⟩
      have hl' := I'.len ok
      obtain ⟨K2, f1, f2⟩ := ih K' (T0 ++ N) I' (by rw [List.length_append]; omega)
      refine ⟨K2, ?_, f2⟩
      have hp : popN (.ref 1) [kvL K, inL (T0 ++ [b])] = .ok (.dat (.int b)) [kvL K, inL T0] := by
        have em : (T0 ++ [b]).map (fun x => Vl.dat (.int x)) = T0.map (fun x => Vl.dat (.int x)) ++ [.dat (.int b)] := by rw [List.map_append]; rfl
        show (match ((T0 ++ [b]).map fun x => Vl.dat (.int x))[((T0 ++ [b]).map fun x => Vl.dat (.int x)).length - 1]? with
          | some y => R.ok y [kvL K, .lst ((T0 ++ [b]).map fun x => Vl.dat (.int x)).dropLast]
          | none => .bad) = _
        rw [em, List.length_append, List.length_singleton, Nat.add_sub_cancel, List.dropLast_concat]
        rw [List.getElem?_append_right (Nat.le_refl _), Nat.sub_self]
        rfl
      have hbody : nb_led_around_1 (.dat c.d) (.dat (.str nm)) (.dat .none) (.ref 0) (.ref 1) [kvL K, inL (T0 ++ [b])] = .nx () [kvL K', inL (T0 ++ N)] := by
        refine wp_of (Q := fun z => z = _) ?_
        simp only [nb_led_around_1]
        refine wp_an hp ?_
        refine wp_thn (a := ()) (s := [kvL K', inL (T0 ++ N)]) ?_ rfl
        have em : (x.fin.goals.map PyData.int).map Vl.dat = (goalsB bs b).map fun g => Vl.dat (.int g) := by rw [eg, List.map_map]; rfl
        simp only [callN_ap, List.length_cons, List.length_nil, List.all_cons, List.all_nil, noX, Bool.and_self, and_self, if_true, G_nexts_eq hc hx, R.bind_ok, intsD, src, R.of_some, em, R.an_ok, src_ok_none]
        exact e1
      rw [wl_led_around_1_un]
      have ht : tru (.ref 1) [kvL K, inL (T0 ++ [b])] = some true := by
        show some (!((T0 ++ [b]).map fun x => Vl.dat (.int x)).isEmpty) = _
        rw [List.map_append]
        cases T0 <;> rfl
      simp only [tb_led_around_1, ht, R.of_some, R.an_ok, if_true, hbody, lp_nx]
      rw [tidy_same (by simp), f1]
theorem G_led_eq {c : Cod} {nm : Str} {bs : List Blk} (hc : c.rts.lookup nm = some bs) (ok : GoIn bs) (few : bs.length ≤ 60) : ∃ K, LedI bs K [] ∧ ∀ s, G_led_around [.dat c.d, .dat (.str nm), .dat .none] s = .ok (.dat (.dict (K.map fun p => (PyData.int p.1, p.2)))) s := by
  obtain ⟨K, h, I⟩ := wl_led hc ok few (L := Empty) (2 * bs.length + 1) [(0, .none)] [0] ⟨by simp, fun x hx => by
      have : x = 0 := by simpa using hx
      subst this; exact .zero, fun x hx => by simpa using hx, Nat.le_refl _, by simp, fun x hx hn => by
      exact absurd (by simpa using hx) (by simpa using hn)⟩ (by simp only [List.length_cons, List.length_nil]; omega)
  refine ⟨K, I, fun s => ?_⟩
  have hr : r_led_around [.dat c.d, .dat (.str nm), .dat .none] [] = .ok (.ref 0) [kvL K, inL []] := by
    rw [r_led_around, runN_ap]
    refine wp_of (Q := fun z => An.fin z = _) ?_
    simp only [n_led_around]
    refine wp_if (b := false) (s := []) (by simp [phEq_ni]) ?_
    rw [if_neg (by decide)]
    refine wp_an (a := .ref 0) (s := [kvL [(0, .none)]]) rfl ?_
    refine wp_an (a := .ref 1) (s := [kvL [(0, .none)], inL [0]]) (by simp) ?_
    refine wp_thn h ?_
    simp [Wp, kt_led_around_2]
  unfold G_led_around frameG
  rw [show refsOf [.dat c.d, .dat (.str nm), .dat .none] = [] from rfl, if_pos List.nodup_nil]
  simp only [pickS]
  rw [if_pos (show stoOk 0 [] from trivial), show renam 0 [.dat c.d, .dat (.str nm), .dat .none] = [.dat c.d, .dat (.str nm), .dat .none] from rfl, hr]
  simp only []
  rw [if_pos ⟨Nat.zero_le _, trivial⟩]
  unfold frV
  simp only [List.length_nil]
  rw [if_neg (Nat.not_lt_zero _), deep_dic (ds := K.map fun p => (PyData.int p.1, p.2)) (by
    show some (kvL K) = _
    rw [List.map_map]
    rfl) (Nat.not_lt_zero _), putB_nil]
  rfl
theorem nums_ints : ∀ ns : List Int, nums (ns.map PyData.int) = some ns
  | [] => rfl
  | n :: ns => by
    show (nums (ns.map PyData.int)).map (n :: ·) = _
    rw [nums_ints ns]; rfl
theorem srtD_ints {ns : List Int} (h : ns.length < 64) : srtD (ns.map PyData.int) = some (.dat (.list ((srtI ns).map .int))) := by
  unfold srtD
  rw [nums_ints]
  exact if_pos h
theorem dOf_ints {K : List (Int × PyData)} {s : Sto} : dOf (.dat (.dict (K.map fun p => (PyData.int p.1, p.2)))) s = some (false, K.map fun p => (PyData.int p.1, Vl.dat p.2)) := by
  cases K with
  | nil => rfl
  | cons p r =>
    show some (false, _) = _
    rw [List.map_cons, List.map_cons, List.map_map]
    rfl
theorem G_reached_eq {c : Cod} {nm : Str} {bs : List Blk} (hc : c.rts.lookup nm = some bs) (ok : GoIn bs) (few : bs.length ≤ 60) : ∃ R : List Int, R.Pairwise (· < ·) ∧ (∀ x, x ∈ R ↔ Rch bs x) ∧ ∀ s, G_reached [.dat c.d, .dat (.str nm)] s = .ok (.dat (intsD R)) s := by
  obtain ⟨K, I, e⟩ := G_led_eq hc ok few
  have hl := I.len ok
  refine ⟨srtI (K.map (·.1)), srtI_rise I.nd, fun x => ?_, fun s => fr0 (s2 := []) ?_⟩
  · rw [mem_srtI]
    refine ⟨I.rch x, fun h => ?_⟩
    induction h with
    | zero => exact I.fst
    | step _ hb ih => exact I.all _ ih (by simp) _ hb
  · have es : ∀ s, phSorted [.dat (.dict (K.map fun p => (PyData.int p.1, p.2)))] s = some (.dat (.list ((srtI (K.map (·.1))).map .int))) := fun s => by
      show (match dOf (.dat (.dict (K.map fun p => (PyData.int p.1, p.2)))) s with
        | some (false, kvs) => srtD (kvs.map (Prod.fst : PyData × Vl → PyData))
        | some (true, _) => none
        | none => (lsD (.dat (.dict (K.map fun p : Int × PyData => (PyData.int p.1, p.2)))) s).bind srtD) = _
      rw [dOf_ints]
      show srtD ((K.map fun p : Int × PyData => (PyData.int p.1, Vl.dat p.2)).map (Prod.fst : PyData × Vl → PyData)) = _
      have em : (K.map fun p : Int × PyData => (PyData.int p.1, Vl.dat p.2)).map (Prod.fst : PyData × Vl → PyData) = (K.map (·.1)).map PyData.int := by rw [List.map_map, List.map_map]; rfl
      rw [em]
      exact srtD_ints (by rw [List.length_map]; omega)
    rw [r_reached, runN_ap]
    simp [n_reached, e, es, phTuple, seqD, intsD]
end Pm
set_option maxRecDepth 100000
set_option maxHeartbeats 4000000
namespace Pm
open PySem PySem.Spec PyProof.Rows L2 Sw
inductive RchO (bs : List Blk) (o : Int) : Int → Prop
  | zero : o ≠ 0 → RchO bs o 0
  | step {a b : Int} : RchO bs o a → b ∈ goalsB bs a → b ≠ o → RchO bs o b
theorem RchO.in {bs : List Blk} (ok : GoIn bs) {o x : Int} (h : RchO bs o x) : 0 ≤ x ∧ x < (bs.length : Int) := by
  cases h with
  | zero _ => have := ok.1; omega
  | step _ h _ => exact ok.all (mem_goalsB.mp h)
theorem RchO.ne {bs : List Blk} {o x : Int} (h : RchO bs o x) : x ≠ o := by
  cases h with
  | zero h => exact fun e => h e.symm
  | step _ _ h => exact h
/-- a way, its last block first -/
def RP (bs : List Blk) (o : Int) : List Int → Prop
  | [] => False
  | [b] => b = 0 ∧ o ≠ 0
  | b :: a :: r => b ∈ goalsB bs a ∧ b ≠ o ∧ RP bs o (a :: r)
theorem RP.cons {bs : List Blk} {o b a : Int} {r : List Int} (h : RP bs o (a :: r)) (hb : b ∈ goalsB bs a) (ho : b ≠ o) : RP bs o (b :: a :: r) := ⟨hb, ho, h⟩
theorem RP.rch {bs : List Blk} {o : Int} : ∀ {w : List Int} {b : Int}, RP bs o (b :: w) → RchO bs o b
  | [], b, h => by obtain ⟨rfl, h⟩ := h; exact .zero h
  | a :: r, b, h => .step (RP.rch h.2.2) h.1 h.2.1
/-- the way back that a dict tells -/
inductive Up (K : List (Int × PyData)) : Int → List Int → Prop
  | zero : K.lookup 0 = some .none → Up K 0 [0]
  | step {g p : Int} {w : List Int} : K.lookup g = some (.int p) → Up K p w → Up K g (g :: w)
theorem look_app {K N : List (Int × PyData)} {g : Int} {d : PyData} (h : K.lookup g = some d) : (K ++ N).lookup g = some d := by
  rw [List.lookup_append, h]; rfl
theorem Up.app {K N : List (Int × PyData)} {x : Int} {w : List Int} (h : Up K x w) : Up (K ++ N) x w := by
  induction h with
  | zero h => exact .zero (look_app h)
  | step h _ ih => exact .step (look_app h) ih
theorem look_new : ∀ {K N : List (Int × PyData)} {g : Int} {d : PyData}, g ∉ K.map (·.1) → (K ++ (g, d) :: N).lookup g = some d
  | [], N, g, d, _ => by simp
  | p :: K, N, g, d, h => by
    rw [List.map_cons, List.mem_cons, not_or] at h
    rw [List.cons_append, List.lookup_cons, beq_eq_false_iff_ne.mpr h.1]
    exact look_new h.2
theorem Up.head {K : List (Int × PyData)} {x : Int} {w : List Int} (h : Up K x w) : ∃ r, w = x :: r := by
  cases h with
  | zero _ => exact ⟨_, rfl⟩
  | step _ _ => exact ⟨_, rfl⟩
section
variable {c nm : Vl} {o bb : Int} {K : List (Int × PyData)} {T : List Int}
theorem nb_led3 {g : Int} (hK : K.length ≤ 900) (hT : T.length ≤ 900) :
    nb_led_around_2 c nm (.dat (.int o)) (.ref 0) (.ref 1) (.dat (.int bb)) (.dat (.int g)) [kvL K, inL T] = if g = o ∨ g ∈ K.map (·.1) then .nx () [kvL K, inL T] else .nx () [kvL (K ++ [(g, .int bb)]), inL (T ++ [g])] := by
  by_cases ho : g = o
  · rw [if_pos (.inl ho)]
    simp [nb_led_around_2, ho]
  by_cases h : g ∈ K.map (·.1)
  · rw [if_pos (.inr h)]
    have hne : phNe (.dat (.int g)) (.dat (.int o)) [kvL K, inL T] = some (.dat (.bool true)) := by simp [ho]
    simp only [nb_led_around_2, hne, R.of_some, R.bind_ok, bool?_b, if_true, phIn_kv, decide_eq_true h, R.an_ok]
    simp
  · rw [if_neg (fun z => z.elim ho h)]
    have hs : subU (.ok (.ref 0) [kvL K, inL T]) (fun z => .ok (.dat (.int g)) z) (.dat (.int bb)) = some [kvL (K ++ [(g, .int bb)]), inL T] := by
      show (if kOk false (.int g) = true ∧ noX (.dat (.int bb)) = true ∧ (K.map fun p => (PyData.int p.1, Vl.dat p.2)).length < mil then some [Ob.dic false (dPut (K.map fun p => (PyData.int p.1, Vl.dat p.2)) (.int g) (.dat (.int bb))), inL T] else none) = _
      rw [if_pos ⟨rfl, rfl, by rw [List.length_map]; have := th_mil (n := 901) (by decide); omega⟩, dPut_int h]
    have ha : ∀ D, appN (.ref 1) [D, inL T] (fun s => R.ok [.dat (.int g)] s) = .ok (.dat .none) [D, inL (T ++ [g])] := fun D => by
      rw [app_go (n := 1) (l0 := T.map fun x => .dat (.int x)) (l := T.map fun x => .dat (.int x)) (w := .dat (.int g)) (s2 := [D, inL T]) rfl rfl rfl (by rw [List.length_map]; omega) rfl]
      show R.ok _ [D, .lst ((T.map fun x => Vl.dat (.int x)) ++ [.dat (.int g)])] = _
      rw [inL, List.map_append]
      rfl
    have hne : phNe (.dat (.int g)) (.dat (.int o)) [kvL K, inL T] = some (.dat (.bool true)) := by simp [ho]
    simp only [nb_led_around_2, hne, R.of_some, R.bind_ok, bool?_b, if_true, phIn_kv, decide_eq_false h, R.an_ok, Bool.not_false, hs, stoN_some, ha]
end
/-- what the goals of a block bring -/
theorem lp_led3 {c nm : Vl} {o bb : Int} {L : Type} : ∀ (gs : List Int) (K : List (Int × PyData)) (T : List Int), K.length + gs.length ≤ 900 → T.length + gs.length ≤ 900 → (K.map (·.1)).Nodup →
    ∃ N : List Int, (lp_led_around_2 (L := L) c nm (.dat (.int o)) (.ref 0) (.ref 1) (.dat (.int bb)) okT (gs.map fun g => .dat (.int g)) () [kvL K, inL T]) = .nx () [kvL (K ++ N.map fun g => (g, .int bb)), inL (T ++ N)] ∧ (K.map (·.1) ++ N).Nodup ∧ (∀ x ∈ N, x ∈ gs ∧ x ≠ o) ∧ ∀ g ∈ gs, g ≠ o → g ∈ K.map (·.1) ++ N
  | [], K, T, _, _, nd => ⟨[], by rw [List.map_nil, lp_led_around_2_nil, List.append_nil, List.map_nil, List.append_nil], by rw [List.append_nil]; exact nd, (fun x h => by cases h), fun x h => by cases h⟩
  | g :: gs, K, T, hK, hT, nd => by
    rw [List.length_cons] at hK hT
    have hb := nb_led3 (c := c) (nm := nm) (o := o) (bb := bb) (K := K) (T := T) (g := g) (by omega) (by omega)
    by_cases h : g = o ∨ g ∈ K.map (·.1)
    · rw [if_pos h] at hb
      obtain ⟨N, e1, e3, e4, e5⟩ := lp_led3 (L := L) gs K T (by omega) (by omega) nd
      refine ⟨N, ?_, e3, fun x hx => ⟨List.mem_cons_of_mem _ (e4 x hx).1, (e4 x hx).2⟩, fun x hx ho => ?_⟩
      · rw [List.map_cons, lp_led_around_2_cons, pV_ap, patN_some, hb, lp_nx, tidy_same (by simp), e1]
      · rcases List.mem_cons.mp hx with rfl | hx
        · exact List.mem_append_left _ (h.resolve_left ho)
        · exact e5 x hx ho
    · rw [if_neg h] at hb
      rw [not_or] at h
      have em : (K ++ [(g, PyData.int bb)]).map (·.1) = K.map (·.1) ++ [g] := by rw [List.map_append]; rfl
      obtain ⟨N, e1, e3, e4, e5⟩ := lp_led3 (o := o) (L := L) gs (K ++ [(g, .int bb)]) (T ++ [g]) (by rw [List.length_append, List.length_singleton]; omega) (by rw [List.length_append, List.length_singleton]; omega) (by
        rw [em, List.nodup_append]
        refine ⟨nd, by simp, fun a ha b hb => ?_⟩
        have : b = g := by simpa using hb
        intro e; exact h.2 (by rw [← this, ← e]; exact ha))
      rw [em] at e3 e5
      refine ⟨g :: N, ?_, by rw [List.append_assoc] at e3; exact e3, fun x hx => ?_, fun x hx ho => ?_⟩
      · rw [List.map_cons, lp_led_around_2_cons, pV_ap, patN_some, hb, lp_nx, tidy_same (by simp), e1, List.append_assoc, List.append_assoc]
        rfl
      · rcases List.mem_cons.mp hx with rfl | hx
        · exact ⟨List.mem_cons_self, h.1⟩
        · exact ⟨List.mem_cons_of_mem _ (e4 x hx).1, (e4 x hx).2⟩
      · have e5 := fun x hx ho => (List.append_assoc _ _ _ ▸ e5 x hx ho : x ∈ K.map (·.1) ++ ([g] ++ N))
        rcases List.mem_cons.mp hx with rfl | hx
        · exact List.mem_append_right _ List.mem_cons_self
        · exact e5 x hx ho
structure LedO (bs : List Blk) (o : Int) (K : List (Int × PyData)) (T : List Int) : Prop where
  nd : (K.map (·.1)).Nodup
  sub : ∀ x ∈ T, x ∈ K.map (·.1)
  few : T.length ≤ K.length
  fst : (0 : Int) ∈ K.map (·.1)
  all : ∀ x ∈ K.map (·.1), x ∉ T → ∀ g ∈ goalsB bs x, g ≠ o → g ∈ K.map (·.1)
  up : ∀ x ∈ K.map (·.1), ∃ w, Up K x w ∧ RP bs o w ∧ w.Nodup ∧ ∀ y ∈ w, y ∈ K.map (·.1)
theorem LedO.rch {bs : List Blk} {o : Int} {K : List (Int × PyData)} {T : List Int} (h : LedO bs o K T) {x : Int} (hx : x ∈ K.map (·.1)) : RchO bs o x := by
  obtain ⟨w, hu, hp, _⟩ := h.up x hx
  obtain ⟨r, rfl⟩ := hu.head
  exact hp.rch
theorem LedO.len {bs : List Blk} (ok : GoIn bs) {o : Int} {K : List (Int × PyData)} {T : List Int} (h : LedO bs o K T) : K.length ≤ bs.length := by
  have := few_in h.nd fun x hx => (h.rch hx).in ok
  rwa [List.length_map] at this
theorem wl_led3 {c : Cod} {nm : Str} {bs : List Blk} {o : Int} (hc : c.rts.lookup nm = some bs) (ok : GoIn bs) (few : bs.length ≤ 60) {L : Type} : ∀ (m : Nat) (K : List (Int × PyData)) (T : List Int), LedO bs o K T → 2 * (bs.length - K.length) + T.length ≤ m →
    ∃ K', (wl_led_around_1 (L := L) (.dat c.d) (.dat (.str nm)) (.dat (.int o)) (.ref 0) (.ref 1) () [kvL K, inL T]) = .nx () [kvL K', inL []] ∧ LedO bs o K' [] := by
  intro m
  induction m with
  | zero =>
    intro K T h hm
    have hT : T = [] := List.eq_nil_of_length_eq_zero (by omega)
    subst hT
    refine ⟨K, ?_, h⟩
    rw [wl_led_around_1_un]
    simp [tb_led_around_1, tru]
  | succ m ih =>
    intro K T h hm
    rcases List.eq_nil_or_concat T with rfl | ⟨T0, b, rfl⟩
    · refine ⟨K, ?_, h⟩
      rw [wl_led_around_1_un]
      simp [tb_led_around_1, tru]
    · rw [List.concat_eq_append] at h hm ⊢
      have hl := h.len ok
      have hbk := h.sub b (by simp)
      have hbi := (h.rch hbk).in ok
      obtain ⟨x, hx, _⟩ := atI_in hbi.1 hbi.2
      have eg : goalsB bs b = x.fin.goals := by unfold goalsB; rw [hx]
      have hg2 := goalsB_len (bs := bs) (b := b)
      have hfew := h.few
      rw [List.length_append, List.length_singleton] at hfew hm
      obtain ⟨N, e1, e3, e4, e5⟩ := lp_led3 (c := .dat c.d) (nm := .dat (.str nm)) (o := o) (bb := b) (L := Unit) (goalsB bs b) K T0 (by omega) (by omega) h.nd
      have e2 : (K ++ N.map fun g => (g, PyData.int b)).map (·.1) = K.map (·.1) ++ N := by
        rw [List.map_append, List.map_map]
        congr 1
        exact List.map_id _
      obtain ⟨wb, ub, pb, nb, sb⟩ := h.up b hbk
      obtain ⟨rb, rfl⟩ := ub.head
      have I' : LedO bs o (K ++ N.map fun g => (g, .int b)) (T0 ++ N) := by
        refine ⟨by rw [e2]; exact e3, fun y hy => ?_, by rw [List.length_append, List.length_append, List.length_map]; omega, by rw [e2]; exact List.mem_append_left _ h.fst, fun y hy hn g hg ho => ?_, fun y hy => ?_⟩
        · rw [e2]
          rcases List.mem_append.mp hy with hy | hy
          · exact List.mem_append_left _ (h.sub y (List.mem_append_left _ hy))
          · exact List.mem_append_right _ hy
        · rw [e2] at hy ⊢
          by_cases hyb : y = b
          · subst hyb
            exact e5 g hg ho
          · rcases List.mem_append.mp hy with hy | hy
            · refine List.mem_append_left _ (h.all y hy (fun hm => ?_) g hg ho)
              rcases List.mem_append.mp hm with hm | hm
              · exact hn (List.mem_append_left _ hm)
              · exact hyb (by simpa using hm)
            · exact absurd (List.mem_append_right _ hy) hn
        · rw [e2] at hy ⊢
          rcases List.mem_append.mp hy with hy | hy
          · obtain ⟨w, hu, hp, hn, hs⟩ := h.up y hy
            exact ⟨w, hu.app, hp, hn, fun z hz => List.mem_append_left _ (hs z hz)⟩
          · have hyK : y ∉ K.map (·.1) := fun z => (List.nodup_append.mp e3).2.2 y z y hy rfl
            have ly : (K ++ N.map fun g => (g, PyData.int b)).lookup y = some (.int b) := by
              obtain ⟨N1, N2, rfl⟩ := List.append_of_mem hy
              have nn := (List.nodup_append.mp e3).2.1
              rw [List.map_append, List.map_cons, ← List.append_assoc]
              refine look_new fun z => ?_
              rw [List.map_append, List.map_map] at z
              rcases List.mem_append.mp z with z | z
              · exact hyK z
              · have z : y ∈ N1 := by
                  have := List.map_id N1
                  obtain ⟨q, hq, rfl⟩ := List.mem_map.mp z
                  exact hq
                exact (List.nodup_append.mp nn).2.2 y z y List.mem_cons_self rfl
            refine ⟨y :: b :: rb, .step ly ub.app, pb.cons (e4 y hy).1 (e4 y hy).2, List.nodup_cons.mpr ⟨fun z => hyK (sb y z), nb⟩, fun z hz => ?_⟩
            rcases List.mem_cons.mp hz with rfl | hz
            · exact List.mem_append_right _ hy
            · exact List.mem_append_left _ (sb z hz)
      have hl' := I'.len ok
      rw [List.length_append, List.length_map] at hl'
      obtain ⟨K2, f1, f2⟩ := ih _ (T0 ++ N) I' (by rw [List.length_append, List.length_append, List.length_map]; omega)
      refine ⟨K2, ?_, f2⟩
      have hp : popN (.ref 1) [kvL K, inL (T0 ++ [b])] = .ok (.dat (.int b)) [kvL K, inL T0] := by
        have em : (T0 ++ [b]).map (fun x => Vl.dat (.int x)) = T0.map (fun x => Vl.dat (.int x)) ++ [.dat (.int b)] := by rw [List.map_append]; rfl
        show (match ((T0 ++ [b]).map fun x => Vl.dat (.int x))[((T0 ++ [b]).map fun x => Vl.dat (.int x)).length - 1]? with
          | some y => R.ok y [kvL K, .lst ((T0 ++ [b]).map fun x => Vl.dat (.int x)).dropLast]
          | none => .bad) = _
        rw [em, List.length_append, List.length_singleton, Nat.add_sub_cancel, List.dropLast_concat]
        rw [List.getElem?_append_right (Nat.le_refl _), Nat.sub_self]
        rfl
      have hbody : nb_led_around_1 (.dat c.d) (.dat (.str nm)) (.dat (.int o)) (.ref 0) (.ref 1) [kvL K, inL (T0 ++ [b])] = .nx () [kvL (K ++ N.map fun g => (g, .int b)), inL (T0 ++ N)] := by
        refine wp_of (Q := fun z => z = _) ?_
        simp only [nb_led_around_1]
        refine wp_an hp ?_
        refine wp_thn (a := ()) (s := [kvL (K ++ N.map fun g => (g, PyData.int b)), inL (T0 ++ N)]) ?_ rfl
        have em : (x.fin.goals.map PyData.int).map Vl.dat = (goalsB bs b).map fun g => Vl.dat (.int g) := by rw [eg, List.map_map]; rfl
        simp only [callN_ap, List.length_cons, List.length_nil, List.all_cons, List.all_nil, noX, Bool.and_self, and_self, if_true, G_nexts_eq hc hx, R.bind_ok, intsD, src, R.of_some, em, R.an_ok, src_ok_none]
        exact e1
      rw [wl_led_around_1_un]
      have ht : tru (.ref 1) [kvL K, inL (T0 ++ [b])] = some true := by
        show some (!((T0 ++ [b]).map fun x => Vl.dat (.int x)).isEmpty) = _
        rw [List.map_append]
        cases T0 <;> rfl
      simp only [tb_led_around_1, ht, R.of_some, R.an_ok, if_true, hbody, lp_nx]
      rw [tidy_same (by simp), f1]
/-- what the program finds -/
structure LedF (bs : List Blk) (o : Int) (K : List (Int × PyData)) : Prop where
  nd : (K.map (·.1)).Nodup
  mem : ∀ x, x ∈ K.map (·.1) ↔ RchO bs o x
  up : ∀ x ∈ K.map (·.1), ∃ w, Up K x w ∧ RP bs o w ∧ w.Nodup
abbrev kvD (K : List (Int × PyData)) : PyData := .dict (K.map fun p => (PyData.int p.1, p.2))
theorem frame_kv {g : MF} {xs : List Vl} {K : List (Int × PyData)} {m : Nat} {st : Sto} (hx : refsOf xs = []) (hr : renam 0 xs = xs) (h : g xs [] = .ok (.ref m) st) (hm : st[m]? = some (kvL K)) (s : Sto) : frameG g xs s = .ok (.dat (kvD K)) s := by
  unfold frameG
  rw [hx, if_pos List.nodup_nil]
  simp only [pickS]
  rw [if_pos (show stoOk 0 [] from trivial), hr, h]
  simp only []
  rw [if_pos ⟨Nat.zero_le _, trivial⟩]
  unfold frV
  simp only [List.length_nil]
  rw [if_neg (Nat.not_lt_zero _), deep_dic (ds := K.map fun p => (PyData.int p.1, p.2)) (by
    rw [hm, List.map_map]
    rfl) (Nat.not_lt_zero _), putB_nil]
  rfl
theorem G_led3_eq {c : Cod} {nm : Str} {bs : List Blk} (hc : c.rts.lookup nm = some bs) (ok : GoIn bs) (few : bs.length ≤ 60) (o : Int) : ∃ K, LedF bs o K ∧ ∀ s, G_led_around [.dat c.d, .dat (.str nm), .dat (.int o)] s = .ok (.dat (kvD K)) s := by
  by_cases h0 : o = 0
  · subst h0
    refine ⟨[], ⟨List.nodup_nil, fun x => ⟨fun h => (by cases h), fun h => ?_⟩, fun x h => by cases h⟩, fun s => frame_kv (m := 0) (st := [kvL []]) rfl rfl ?_ rfl s⟩
    · exfalso
      induction h with
      | zero h => exact h rfl
      | step _ _ _ ih => exact ih
    · rw [r_led_around, runN_ap]
      simp [n_led_around]
  · obtain ⟨K, h, I⟩ := wl_led3 hc ok few (o := o) (L := Empty) (2 * bs.length + 1) [(0, .none)] [0] ⟨by simp, fun x hx => by simpa using hx, Nat.le_refl _, by simp, fun x hx hn => absurd (by simpa using hx) (by simpa using hn), fun x hx => by
      have : x = 0 := by simpa using hx
      subst this
      exact ⟨[0], .zero rfl, ⟨rfl, h0⟩, by simp, fun y hy => hy⟩⟩ (by simp only [List.length_cons, List.length_nil]; omega)
    refine ⟨K, ⟨I.nd, fun x => ⟨I.rch, fun hx => ?_⟩, fun x hx => ?_⟩, fun s => frame_kv (m := 0) (st := [kvL K, inL []]) rfl rfl ?_ rfl s⟩
    · induction hx with
      | zero _ => exact I.fst
      | step _ hg ho ih => exact I.all _ ih (by simp) _ hg ho
    · obtain ⟨w, hu, hp, hn, _⟩ := I.up x hx
      exact ⟨w, hu, hp, hn⟩
    · rw [r_led_around, runN_ap]
      refine wp_of (Q := fun z => An.fin z = _) ?_
      simp only [n_led_around]
      refine wp_if (b := false) (s := []) (by simp [h0]) ?_
      rw [if_neg (by decide)]
      refine wp_an (a := .ref 0) (s := [kvL [(0, .none)]]) rfl ?_
      refine wp_an (a := .ref 1) (s := [kvL [(0, .none)], inL [0]]) (by simp) ?_
      refine wp_thn h ?_
      simp [Wp, kt_led_around_2]
end Pm
set_option maxRecDepth 100000
set_option maxHeartbeats 4000000
namespace Pm
open PySem PySem.Spec PyProof.Rows L2 Sw
section
variable {X : Cx} {zx : Exo} {W : WX} {pos : Pos} {e : Expr} {es : List Expr} {f : ME} {r : MA}
abbrev DK (X : Cx) (zx : Exo) (W : WX) (ks : List Keyword) (f : MA) : Prop := PK X ks (tG (cf X zx) (Rvs (cf X zx)) W f)
theorem PK.imp {X : Cx} {es : List Keyword} {t t' : TA} (h : PK X es t) (i : ∀ σ H Q, t' σ H Q → t σ H Q) : PK X es t' := ⟨fun p pins s σ H Q I q => h.run p pins s σ H Q I (i σ H Q q)⟩
theorem dk_nil : DK X zx W [] aNil := PK.imp pk_nil fun σ H Q ⟨β, ρ, s, hl, hs, hp⟩ => hp β H _ (Step.refl _ _) hs .nil
theorem dk_cons {nm : Option Str} {kpos : Pos} {kws : List Keyword} (ha : DE X zx W e f) (hr : DK X zx W kws r) : DK X zx W (⟨nm, e, kpos⟩ :: kws) (aCons f r) := PK.imp (pk_cons ha hr) fun σ H Q q => by
  obtain ⟨β, ρ, s, hl, hs, hp⟩ := q
  refine ⟨β, ρ, s, hl, hs, Post.bind hp fun v s1 β1 H1 u st1 hs1 r1 h1 => ?_⟩
  refine ⟨β1, ρ, s1, hl.step st1, hs1, Post.bind h1 fun vs s2 β2 H2 u2 st2 hs2 r2 h2 => ?_⟩
  exact h2 β2 H2 _ (Step.refl _ _) hs2 (.cons (st2.rv r1) r2)
/-- the values in the parameters' order -/
def prm {α : Type} (ix : List Nat) (xs : List α) : List α := ix.filterMap fun i => xs[i]?
@[simp] theorem prm_nil {α : Type} (xs : List α) : prm [] xs = [] := rfl
theorem prm_cons {α : Type} {i : Nat} {ix : List Nat} {xs : List α} {x : α} (h : xs[i]? = some x) : prm (i :: ix) xs = x :: prm ix xs := by
  unfold prm
  rw [List.filterMap_cons, h]
theorem Rvs.prm {G : Cf} {H : Hp} {β : Bs} {vs : List Vl} {us : List V} (r : Rvs G H β vs us) : ∀ {ix : List Nat}, (∀ i ∈ ix, i < vs.length) → Rvs G H β (prm ix vs) (prm ix us) ∧ (Pm.prm ix vs).length = ix.length
  | [], _ => ⟨.nil, rfl⟩
  | i :: ix, h => by
    have hi := h i List.mem_cons_self
    obtain ⟨u, h1, h2⟩ := Rvs.get' r (List.getElem?_eq_getElem hi)
    obtain ⟨h3, h4⟩ := Rvs.prm r (ix := ix) fun j hj => h j (List.mem_cons_of_mem _ hj)
    rw [prm_cons (List.getElem?_eq_getElem hi), prm_cons h1]
    exact ⟨.cons h2 h3, by rw [List.length_cons, h4, List.length_cons]⟩
theorem Vals.get1 : ∀ {vs : List V} {us : List Value} {i : Nat} {v : V}, Vals vs us → vs[i]? = some v → ∃ u, us[i]? = some u ∧ RelV v u
  | [], _, _, _, _, e => by simp at e
  | v :: vs, u :: us, 0, w, .cons h r, e => by
    have : v = w := by simpa using e
    subst this
    exact ⟨u, rfl, h⟩
  | v :: vs, u :: us, i + 1, w, .cons h r, e => Vals.get1 r (i := i) (by simpa using e)
theorem Vals.prm {vs : List V} {us : List Value} (r : Vals vs us) : ∀ {ix : List Nat}, (∀ i ∈ ix, i < vs.length) → Vals (prm ix vs) (Pm.prm ix us)
  | [], _ => .nil
  | i :: ix, h => by
    have hi := h i List.mem_cons_self
    obtain ⟨u, h1, h2⟩ := Vals.get1 r (List.getElem?_eq_getElem hi)
    rw [prm_cons (List.getElem?_eq_getElem hi), prm_cons h1]
    exact .cons h2 (Vals.prm r fun j hj => h j (List.mem_cons_of_mem _ hj))
/-- handed in by keywords -/
def prmF (ix : List Nat) (g : MF) : MF := fun xs s => g (prm ix xs) s
theorem de_callK0 {n k : Nat} {fa : Addr} {fd : FuncData} {ps ks : List Str} {g : MF} {x : Str} {p : Pos} {st : Stmt} {kws : List Keyword} {ix : List Nat} (hG : X.A.guards = some []) (D : Df X.K X.mg x st ps fa fd) (F : FnD X.prog X.w X.K X.mg X.base k fa fd ps g) (hr : Room k X.A) (tk : Takes X W) (hg : Gl X x)
    (hb : ∀ (kV doc pm : Value) (an : Option Addr) (cdv ct : Value) (ws : List Value), ws.length = n → bindArgs (PySem.W.fnOf x x (defArgs st) (defBody st) (defScope st) .none kV doc pm an cdv ct) ⟨[], ks.zip ws⟩ = pure (ps.zip (prm ix ws)))
    (hkw : DK X zx W kws r) (hall : (backToKw pos (keywordEach kws X.env)).all (·.1.isSome) = true := by rfl) (hks : (backToKw pos (keywordEach kws X.env)).filterMap (·.1) = ks := by rfl)
    (hdb : (x == ("__debug__" : Str)) = false := by decide) (hpl : ((backTo pos (starEach [] X.env)).any (·.1) || (backToKw pos (keywordEach kws X.env)).any (·.1.isNone)) = false := by rfl) (hix : ∀ i ∈ ix, i < n := by decide) (hn : ix.length = ps.length := by rfl) :
    DE X zx W (.Call (.Name x p) [] kws pos) (mCall n (prmF ix g) r) := by
  refine ⟨fun pins s0 σ H Q I hq => ?_⟩
  obtain ⟨β, ρ, s, hl, hs, hp⟩ := hq
  refine wpAny_Call_Name_kw (ld_glob I hg D.gl (PySem.W.callWith_KW0 (h₀ := X.base) I.ok.mod.kin D.fn.kp hall ?_ hpl) hdb)
  refine thn (hkw.run pos pins s0 σ H (fun vs H1 => vs.length = n ∧ spD (cf X none) ps.length g (prm ix vs) H1 Q (fun c d H' => W c d σ H')) I ⟨β, ρ, s, hl, hs, Post.bind hp fun vs s1 β1 H1 us st1 hs1 r1 h1 => ?_⟩) fun us s1 hh => ?_
  · split at h1
    · rename_i hlen
      have rr := Rvs.prm (ix := ix) (Rvs.dn (G := cf X zx) hlen.2 r1) fun i hi => by rw [hlen.1]; exact hix i hi
      exact ⟨by rw [← r1.len]; exact hlen.1, β1, s1, Pm.prm ix vs, hs1.oz, rr.1, rr.2.trans hn, post_oz h1⟩
    · exact h1.elim
  · obtain ⟨vs, H1, I1, rv, hlen, q⟩ := hh
    refine ⟨I1.kIn, ?_⟩
    rw [hks]
    have rv2 := Vals.prm (ix := ix) rv fun i hi => by rw [hlen]; exact hix i hi
    obtain ⟨oc, od, kV, doc, pm, an, cdv, ct, osl, hfd, lk, hcd⟩ := D.fn.ex
    have bd : BindsTo s1 fd ⟨[], ks.zip us⟩ (ps.zip (Pm.prm ix us)) := by
      rw [hfd]
      exact .of_eq (hb kV doc pm an cdv ct us (by rw [← rv.length]; exact hlen))
    refine wpAny_call (codeAny_mono (F.goes X.A X.stack s1 H1 ⟨[], ks.zip us⟩ (Pm.prm ix us) (Pm.prm ix vs) Q _ hG hr I1.env0 bd rv2 q) fun fl s' hq => ?_)
    cases fl with
    | error e => exact tk e s' (XE.of_call I1 (fun _ _ _ h => h) hq)
    | ok fl =>
      cases fl with
      | ret u => exact I1.after hq
      | next => exact False.elim hq
      | brk => exact False.elim hq
      | cont => exact False.elim hq
end
end Pm
set_option maxRecDepth 100000
set_option maxHeartbeats 4000000
set_option maxRecDepth 100000
set_option maxHeartbeats 4000000
namespace Sw
open PySem PySem.Spec PyProof.Rows L2
end Sw
set_option maxRecDepth 100000
set_option maxHeartbeats 4000000
set_option maxRecDepth 100000
set_option maxHeartbeats 4000000
set_option maxRecDepth 100000
set_option maxHeartbeats 4000000
set_option maxRecDepth 100000
set_option maxHeartbeats 4000000
set_option maxRecDepth 100000
set_option maxHeartbeats 4000000
namespace Pm
open PySem PySem.Spec PyProof.Rows L2 Sw
def inC (r : R (List Vl)) (k : List Vl → Sto → R (List Vl)) : R (List Vl) := match r with
  | .ok a s => k a s
  | _ => .bad
@[simp] theorem inC_ok {a : List Vl} {s : Sto} {k : List Vl → Sto → R (List Vl)} : inC (.ok a s) k = k a s := rfl
@[simp] theorem inC_bad {k : List Vl → Sto → R (List Vl)} : inC .bad k = .bad := rfl
open Classical in
noncomputable def compM2 (c : Src) (gm : Vl → Loc → Option Loc) (t : MT) (it1 : MI) (gm1 : Vl → Loc → Option Loc) (t1 : MT) (e : ME) (ρ0 : Loc) (vs1 : List Nat) : List Vl → List Vl → Sto → R (List Vl)
  | [], acc, s => if c.ok s then .ok acc s else .bad
  | v :: r, acc, s => if c.ok s then (match gm v ρ0 with
    | none => .bad
    | some ρ2 => match t ρ2 s with
      | .ok true s1 => (match it1 ρ2 s1 with
        | .ok c1 s2 => inC (compM c1 gm1 t1 e (wipeM ρ2 vs1) c1.items acc s2) fun acc2 s3 => compM2 c gm t it1 gm1 t1 e ρ0 vs1 r acc2 s3
        | _ => .bad)
      | .ok false s1 => compM2 c gm t it1 gm1 t1 e ρ0 vs1 r acc s1
      | _ => .bad) else .bad
noncomputable def mLcN2 (it : MI) (gm : Vl → Loc → Option Loc) (t : MT) (it1 : MI) (gm1 : Vl → Loc → Option Loc) (t1 : MT) (e : ME) (vs vs1 : List Nat) : ME := fun ρ s => (it ρ s).bind fun c s1 => (compM2 c gm t it1 gm1 t1 e (wipeM ρ vs) vs1 c.items [] s1).bind finN
section
variable {X : Cx} {zx : Exo} {W : WX}
theorem lc_goN2 {it it1 : MI} {g g1 : TG} {gm gm1 : Vl → Loc → Option Loc} {t t1 : MT} {e : ME} {vs vs1 : List Nat} {σ : L2.St} {H : Hp} {Q : VK} (go : GOk (cf X zx) g gm vs) (go1 : GOk (cf X zx) g1 gm1 vs1)
    (q : ∃ β ρ s, RelL (cf X zx) H β ρ σ ∧ RelS (cf X zx) β s H ∧ Post (cf X zx) (Rv (cf X zx)) W σ β H Q (mLcN2 it gm t it1 gm1 t1 e vs vs1 ρ s)) :
    tLc2 (tG (cf X zx) (rI (cf X zx)) W it) g (tG (cf X zx) rB WF t) (tG (cf X zx) (rI (cf X zx)) WF it1) g1 (tG (cf X zx) rB WF t1) (tG (cf X zx) (Rv (cf X zx)) WF e) vs vs1 σ H Q := by
  obtain ⟨β, ρ, s, hl, hs, hp⟩ := q
  refine ⟨β, ρ, s, hl, hs, Post.bind hp fun c s1 β1 H1 J st1 hs1 wm h1 => ?_⟩
  intro D hD
  have hl1 := hl.step st1
  refine ⟨fun i m H' => m = c.items.length - i ∧ i ≤ c.items.length ∧ ∃ β' s' acc xs, Step β1 H1 β' H' ∧ D ∈ β'.g ∧ (∀ x ∈ β1.g, x ∈ β'.g) ∧ RelS (cf X zx) β' s' H' ∧ RelL (cf X zx) H' β' (wipeM ρ vs) (L2.wipe σ vs) ∧ H' D = some (.lst xs) ∧ acc.length ≤ sizeLine ∧ Rvs (cf X zx) H' β' acc xs ∧
      Post (cf X zx) (Rv (cf X zx)) W σ β1 H1 Q ((compM2 c gm t it1 gm1 t1 e (wipeM ρ vs) vs1 (c.items.drop i) acc s').bind finN),
    ⟨_, rfl, Nat.zero_le _, β1.add D, s1, [], [], Step.add hD, List.mem_cons_self, fun x hx => List.mem_cons_of_mem _ hx, hs1.add hD, (hl1.wipe vs).step (Step.add hD), upd_same, Nat.zero_le _, .nil, h1⟩, ?_⟩
  rintro i m H' ⟨rfl, hi, β', s', acc, xs, st', hDg, hsub, hs', hl', hDx, hlen, racc, q'⟩
  by_cases hlt : i < c.items.length
  · rw [List.drop_eq_getElem_cons hlt, compM2] at q'
    by_cases ok : c.ok s'
    rotate_left
    · rw [if_neg ok] at q'; exact q'.elim
    rw [if_pos ok] at q'
    refine .inr ⟨wm.go i β' s' H' hlt st'.w hs' ok, fun H2 => i + 1 ≤ c.items.length ∧ ∃ β' s' acc xs, Step β1 H1 β' H2 ∧ D ∈ β'.g ∧ (∀ x ∈ β1.g, x ∈ β'.g) ∧ RelS (cf X zx) β' s' H2 ∧ RelL (cf X zx) H2 β' (wipeM ρ vs) (L2.wipe σ vs) ∧ H2 D = some (.lst xs) ∧ acc.length ≤ sizeLine ∧ Rvs (cf X zx) H2 β' acc xs ∧
      Post (cf X zx) (Rv (cf X zx)) W σ β1 H1 Q ((compM2 c gm t it1 gm1 t1 e (wipeM ρ vs) vs1 (c.items.drop (i + 1)) acc s').bind finN),
      fun H2 h2 => ⟨_, by omega, rfl, h2.1, h2.2⟩, fun x H2 y => ?_⟩
    obtain ⟨sm, v, hv, rv⟩ := wm.yld i β' s' H' x H2 hlt st'.w hs' ok y
    rw [List.getElem?_eq_getElem hlt] at hv
    cases hv
    have st2 : Step β' H' β' H2 := Step.same sm
    generalize c.items[i] = v at q' rv
    cases eg : gm v (wipeM ρ vs) with
    | none => rw [eg] at q'; exact q'.elim
    | some ρ2 =>
      rw [eg] at q'
      dsimp only at q'
      refine go x v _ _ ρ2 β' H2 _ (hl'.step st2) rv eg fun σ2 hl2 ew => ⟨by rw [ew, wipe_wipe fun i hi => hi], β', ρ2, s', hl2, hs'.same sm, ?_⟩
      have fin : ∀ β4 s4 H4, Step β' H2 β4 H4 → RelS (cf X zx) β4 s4 H4 → Step β1 H1 β4 H4 ∧ D ∈ β4.g ∧ (∀ x ∈ β1.g, x ∈ β4.g) ∧ RelL (cf X zx) H4 β4 (wipeM ρ vs) (L2.wipe σ vs) ∧ H4 D = some (.lst xs) ∧ Rvs (cf X zx) H4 β4 acc xs := fun β4 s4 H4 st4 hs4 =>
        ⟨(st'.trans st2).trans st4, st4.gsub D hDg, fun x hx => st4.gsub x (hsub x hx), (hl'.step st2).step st4, st4.keep _ _ trivial (sm _ _ hDx) (hs'.gs D hDg).2, st4.rvs (st2.rvs racc)⟩
      cases et : t ρ2 s' with
      | bad => rw [et] at q'; exact q'.elim
      | ex x1 s3 => rw [et] at q'; exact q'.elim
      | ok b s3 =>
        rw [et] at q'
        intro β3 H3 b' st3 hs3 eb
        cases (show b = b' from eb)
        cases b with
        | false =>
          dsimp only at q'
          refine iteF ?_
          obtain ⟨f1, f2, f3, f4, f5, f6⟩ := fin β3 s3 H3 st3 hs3
          exact ⟨hlt, β3, s3, acc, xs, f1, f2, f3, hs3, f4, f5, hlen, f6, q'⟩
        | true =>
          dsimp only at q'
          refine iteT ⟨β3, ρ2, s3, hl2.step st3, hs3, ?_⟩
          cases ei : it1 ρ2 s3 with
          | bad => rw [ei] at q'; exact q'.elim
          | ex x1 s4 => rw [ei] at q'; exact q'.elim
          | ok c1 s4 =>
            rw [ei] at q'
            dsimp only at q'
            intro β4 H4 J1 st4 hs4 wm1
            obtain ⟨f1, f2, f3, f4, f5, f6⟩ := fin β4 s4 H4 (st3.trans st4) hs4
            have hl4 : RelL (cf X zx) H4 β4 (wipeM ρ2 vs1) (L2.wipe σ2 vs1) := ((hl2.step st3).step st4).wipe vs1
            refine ⟨fun j k H' => k = c1.items.length - j ∧ j ≤ c1.items.length ∧ ∃ β' s' acc xs, StepW β4 H4 β' H' ∧ (∀ a o, H4 a = some o → ∃ o', H' a = some o') ∧ Step β1 H1 β' H' ∧ D ∈ β'.g ∧ (∀ x ∈ β1.g, x ∈ β'.g) ∧ RelS (cf X zx) β' s' H' ∧ RelL (cf X zx) H' β' (wipeM ρ vs) (L2.wipe σ vs) ∧ RelL (cf X zx) H' β' (wipeM ρ2 vs1) (L2.wipe σ2 vs1) ∧ H' D = some (.lst xs) ∧ acc.length ≤ sizeLine ∧ Rvs (cf X zx) H' β' acc xs ∧
                Post (cf X zx) (Rv (cf X zx)) W σ β1 H1 Q ((inC (compM c1 gm1 t1 e (wipeM ρ2 vs1) (c1.items.drop j) acc s') fun acc2 s3 => compM2 c gm t it1 gm1 t1 e (wipeM ρ vs) vs1 (c.items.drop (i + 1)) acc2 s3).bind finN),
              ⟨_, rfl, Nat.zero_le _, β4, s4, acc, xs, (Step.refl β4 H4).w, fun a o h => ⟨o, h⟩, f1, f2, f3, hs4, f4, hl4, f5, hlen, f6, q'⟩, ?_⟩
            rintro j k H5 ⟨rfl, hj, β5, s5, acc5, xs5, sw5, lv5, st5, hD5, hsub5, hs5, hl5, hm5, hDx5, hlen5, racc5, q5⟩
            by_cases hlt1 : j < c1.items.length
            · rw [List.drop_eq_getElem_cons hlt1, compM] at q5
              by_cases ok1 : c1.ok s5
              rotate_left
              · rw [if_neg ok1] at q5; exact q5.elim
              rw [if_pos ok1] at q5
              refine .inr ⟨wm1.go j β5 s5 H5 hlt1 sw5 hs5 ok1, fun H' => j + 1 ≤ c1.items.length ∧ ∃ β' s' acc xs, StepW β4 H4 β' H' ∧ (∀ a o, H4 a = some o → ∃ o', H' a = some o') ∧ Step β1 H1 β' H' ∧ D ∈ β'.g ∧ (∀ x ∈ β1.g, x ∈ β'.g) ∧ RelS (cf X zx) β' s' H' ∧ RelL (cf X zx) H' β' (wipeM ρ vs) (L2.wipe σ vs) ∧ RelL (cf X zx) H' β' (wipeM ρ2 vs1) (L2.wipe σ2 vs1) ∧ H' D = some (.lst xs) ∧ acc.length ≤ sizeLine ∧ Rvs (cf X zx) H' β' acc xs ∧
                Post (cf X zx) (Rv (cf X zx)) W σ β1 H1 Q ((inC (compM c1 gm1 t1 e (wipeM ρ2 vs1) (c1.items.drop (j + 1)) acc s') fun acc2 s3 => compM2 c gm t it1 gm1 t1 e (wipeM ρ vs) vs1 (c.items.drop (i + 1)) acc2 s3).bind finN),
                fun H2 h2 => ⟨_, by omega, rfl, h2.1, h2.2⟩, fun x H6 y => ?_⟩
              obtain ⟨sm1, v1, hv1, rv1⟩ := wm1.yld j β5 s5 H5 x H6 hlt1 sw5 hs5 ok1 y
              rw [List.getElem?_eq_getElem hlt1] at hv1
              cases hv1
              have st6 : Step β5 H5 β5 H6 := Step.same sm1
              generalize c1.items[j] = v1 at q5 rv1
              cases eg1 : gm1 v1 (wipeM ρ2 vs1) with
              | none => rw [eg1] at q5; exact q5.elim
              | some ρ3 =>
                rw [eg1] at q5
                dsimp only at q5
                refine go1 x v1 _ _ ρ3 β5 H6 _ (hm5.step st6) rv1 eg1 fun σ3 hl3 ew1 => ⟨by rw [ew1, wipe_wipe fun i hi => hi], β5, ρ3, s5, hl3, hs5.same sm1, ?_⟩
                have fin1 : ∀ β7 s7 H7, Step β5 H6 β7 H7 → RelS (cf X zx) β7 s7 H7 → StepW β4 H4 β7 H7 ∧ (∀ a o, H4 a = some o → ∃ o', H7 a = some o') ∧ Step β1 H1 β7 H7 ∧ D ∈ β7.g ∧ (∀ x ∈ β1.g, x ∈ β7.g) ∧ RelL (cf X zx) H7 β7 (wipeM ρ vs) (L2.wipe σ vs) ∧ RelL (cf X zx) H7 β7 (wipeM ρ2 vs1) (L2.wipe σ2 vs1) ∧ H7 D = some (.lst xs5) ∧ Rvs (cf X zx) H7 β7 acc5 xs5 := fun β7 s7 H7 st7 hs7 =>
                  ⟨sw5.trans (st6.trans st7) lv5, fun a o h => let ⟨o', h'⟩ := lv5 a o h; (st6.trans st7).liv a o' h', (st5.trans st6).trans st7, st7.gsub D hD5, fun x hx => st7.gsub x (hsub5 x hx), (hl5.step st6).step st7, (hm5.step st6).step st7, st7.keep _ _ trivial (sm1 _ _ hDx5) (hs5.gs D hD5).2, st7.rvs (st6.rvs racc5)⟩
                cases et1 : t1 ρ3 s5 with
                | bad => rw [et1] at q5; exact q5.elim
                | ex x1 s6 => rw [et1] at q5; exact q5.elim
                | ok b1 s6 =>
                  rw [et1] at q5
                  intro β6 H7 b1' st7 hs6 eb1
                  cases (show b1 = b1' from eb1)
                  cases b1 with
                  | false =>
                    dsimp only at q5
                    refine iteF ?_
                    obtain ⟨d1, d2, d3, d4, d5, d6, d7, d8, d9⟩ := fin1 β6 s6 H7 st7 hs6
                    exact ⟨hlt1, β6, s6, acc5, xs5, d1, d2, d3, d4, d5, hs6, d6, d7, d8, hlen5, d9, q5⟩
                  | true =>
                    dsimp only at q5
                    refine iteT ⟨β6, ρ3, s6, hl3.step st7, hs6, ?_⟩
                    cases ee : e ρ3 s6 with
                    | bad => rw [ee] at q5; exact q5.elim
                    | ex x1 s7 => rw [ee] at q5; exact q5.elim
                    | ok y1 s7 =>
                      rw [ee] at q5
                      dsimp only at q5
                      intro β7 H8 u st8 hs7 ru
                      by_cases hal : acc5.length < sizeLine
                      rotate_left
                      · rw [if_neg hal] at q5; exact q5.elim
                      rw [if_pos hal] at q5
                      obtain ⟨d1, d2, d3, d4, d5, d6, d7, d8, d9⟩ := fin1 β7 s7 H8 (st7.trans st8) hs7
                      have gp : Gp β7 H8 D := ⟨d4, _, d8, trivial⟩
                      have nD : ∀ {a : Addr} {o : HO}, H8 a = some o → (∀ ys, o ≠ .lst ys) → a ≠ D := fun h n z => by rw [z, d8] at h; cases h; exact n _ rfl
                      refine ⟨xs5, d8, by rw [← d9.len]; exact hal, hlt1, β7, s7, acc5 ++ [y1], xs5 ++ [u], ?_⟩
                      refine ⟨⟨d1.pre, d1.gam, d1.new, fun a o nt h n m => ?_, fun a o h => ?_, fun a o w h => ?_, fun t => (d1.tbs t).put (.inr d4)⟩, fun a o h => ?_, ⟨d3.pre, d3.gsub, d3.gam, d3.new, fun a o nt h n => ?_, fun a o h => ?_, fun a o w h => ?_, fun a o h => ?_, fun t => (d3.tbs t).put (.inr d4)⟩, d4, d5, gp.rs hs7, gp.rl d6, gp.rl d7, upd_same, by simp; omega, (gp.rvs d9).append (.cons (gp.rv ru) .nil), q5⟩
                      · rw [upd_ne (fun z => m (by rw [z]; exact f2))]; exact d1.keep a o nt h n m
                      · have := d1.tups a o h
                        rw [upd_ne (nD this fun ys z => by cases z)]; exact this
                      · have := d1.frzs a o w h
                        rw [upd_ne (nD this fun ys z => by cases z)]; exact this
                      · obtain ⟨o', h'⟩ := d2 a o h
                        by_cases z : a = D
                        · exact ⟨_, by rw [z, upd_same]⟩
                        · exact ⟨o', by rw [upd_ne z]; exact h'⟩
                      · rw [upd_ne (ne_of_none h hD)]; exact d3.keep a o nt h n
                      · rw [upd_ne (ne_of_none h hD)]; exact d3.tups a o h
                      · rw [upd_ne (ne_of_none h hD)]; exact d3.frzs a o w h
                      · rw [upd_ne (ne_of_none h hD)]; exact d3.liv a o h
            · have ej : j = c1.items.length := by omega
              subst ej
              rw [List.drop_length, compM] at q5
              by_cases ok1 : c1.ok s5
              rotate_left
              · rw [if_neg ok1] at q5; exact q5.elim
              rw [if_pos ok1] at q5
              exact .inl ⟨wm1.stop β5 s5 H5 sw5 hs5 ok1, hlt, β5, s5, acc5, xs5, st5, hD5, hsub5, hs5, hl5, hDx5, hlen5, racc5, q5⟩
  · have ei : i = c.items.length := by omega
    subst ei
    rw [List.drop_length, compM2] at q'
    by_cases ok : c.ok s'
    rotate_left
    · rw [if_neg ok] at q'; exact q'.elim
    rw [if_pos ok] at q'
    refine .inl ⟨wm.stop β' s' H' st'.w hs' ok, ?_⟩
    have gp : Gp β' H' D := ⟨hDg, _, hDx, trivial⟩
    have eo : okL acc = true := by
      have q2 := q'
      unfold finN R.bind at q2
      dsimp only at q2
      by_cases h : okL acc = true
      · exact h
      · rw [if_neg h] at q2; exact q2.elim
    have q3 : Post (cf X zx) (Rv (cf X zx)) W σ β1 H1 Q (.ok (.ref s'.length) (s' ++ [.lst acc])) := by
      have q2 := q'
      unfold finN R.bind at q2
      dsimp only at q2
      rwa [if_pos eo] at q2
    have sm : upd H' D (.lst xs) = H' := by
      funext b
      by_cases z : b = D
      · rw [z, upd_same, hDx]
      · rw [upd_ne z]
    have st2 : Step β1 H1 ⟨β'.b ++ [D], β1.g⟩ H' := by
      refine ⟨st'.pre.trans (List.prefix_append _ _), fun _ h => h, fun _ h => .inl h, fun a ha => ?_, st'.keep, st'.tups, st'.frzs, st'.liv, fun t => TabsB.mono (β := β') (β' := ⟨β'.b ++ [D], β1.g⟩) (fun x hx => (List.mem_append.mp (show x ∈ β'.b ++ [D] from hx)).elim (fun z => .inl z) fun z => .inr (.inl (by rw [show x = D by simpa using z]; exact hDg))) (fun x hx => .inr (.inl (hsub x hx))) (st'.tbs t)⟩
      rcases List.mem_append.mp (show a ∈ β'.b ++ [D] from ha) with z | z
      · exact st'.new a z
      · have : a = D := by simpa using z
        exact .inr (by rw [this]; exact hD)
    have hs2 := RelS.mine (o := .lst xs) (g' := β1.g) (hpg := hs1.nig hD) gp hs' hsub (ob := .lst acc) ⟨hlen, xs, upd_same, Rvs.dn (G := cf X zx) eo (Rvs.mine gp hsub racc)⟩
    rw [sm] at hs2
    exact q3 ⟨β'.b ++ [D], β1.g⟩ H' (.ref D) st2 hs2 ⟨D, by
      show (β'.b ++ [D])[s'.length]? = some D
      rw [← hs'.len, List.getElem?_append_right (Nat.le_refl _), Nat.sub_self]
      rfl, rfl⟩
end
section
variable {P P1 : Type}
open Classical in
noncomputable def compP2 (ok : Sto → Prop) (pat : Vl → Option P) (t : P → Sto → R Bool) (it1 : P → Sto → R Src) (pat1 : Vl → Option P1) (t1 : P → P1 → Sto → R Bool) (e : P → P1 → Sto → R Vl) : List Vl → List Vl → Sto → R (List Vl)
  | [], acc, s => if ok s then .ok acc s else .bad
  | v :: r, acc, s => if ok s then (match pat v with
    | none => .bad
    | some p => match t p s with
      | .ok true s1 => (match it1 p s1 with
        | .ok c1 s2 => inC (compP c1.ok pat1 (t1 p) (e p) c1.items acc s2) fun acc2 s3 => compP2 ok pat t it1 pat1 t1 e r acc2 s3
        | _ => .bad)
      | .ok false s1 => compP2 ok pat t it1 pat1 t1 e r acc s1
      | _ => .bad) else .bad
theorem compM2_P {c : Src} {pat : Vl → Option P} {st : P → Loc → Loc} {t : MT} {it1 : MI} {pat1 : Vl → Option P1} {st1 : P1 → Loc → Loc} {t1 : MT} {e : ME} {ρ0 : Loc} {vs1 : List Nat} : ∀ (l acc : List Vl) (s : Sto), compM2 c (gmP pat st) t it1 (gmP pat1 st1) t1 e ρ0 vs1 l acc s = compP2 c.ok pat (fun p => t (st p ρ0)) (fun p => it1 (st p ρ0)) pat1 (fun p q => t1 (st1 q (wipeM (st p ρ0) vs1))) (fun p q => e (st1 q (wipeM (st p ρ0) vs1))) l acc s
  | [], acc, s => rfl
  | v :: r, acc, s => by
    rw [compM2, compP2]
    split
    · unfold gmP
      cases pat v with
      | none => rfl
      | some p =>
        dsimp only [Option.map_some]
        cases t (st p ρ0) s with
        | ok b s1 =>
          cases b with
          | true =>
            dsimp only
            cases it1 (st p ρ0) s1 with
            | ok c1 s2 =>
              dsimp only
              have e1 := compM_P (c := c1) (pat := pat1) (st := st1) (t := t1) (e := e) (ρ0 := wipeM (st p ρ0) vs1) c1.items acc s2
              have e2 : (fun acc2 s3 => compM2 c (gmP pat st) t it1 (gmP pat1 st1) t1 e ρ0 vs1 r acc2 s3) = fun acc2 s3 => compP2 c.ok pat (fun p => t (st p ρ0)) (fun p => it1 (st p ρ0)) pat1 (fun p q => t1 (st1 q (wipeM (st p ρ0) vs1))) (fun p q => e (st1 q (wipeM (st p ρ0) vs1))) r acc2 s3 := funext fun acc2 => funext fun s3 => compM2_P r acc2 s3
              show inC (compM c1 (gmP pat1 st1) t1 e (wipeM (st p ρ0) vs1) c1.items acc s2) (fun acc2 s3 => compM2 c (gmP pat st) t it1 (gmP pat1 st1) t1 e ρ0 vs1 r acc2 s3) = _
              rw [e1, e2]
            | ex _ _ => rfl
            | bad => rfl
          | false => exact compM2_P r acc s1
        | ex _ _ => rfl
        | bad => rfl
    · rfl
noncomputable def lcPN2 (r : R Src) (pat : Vl → Option P) (t : P → Sto → R Bool) (it1 : P → Sto → R Src) (pat1 : Vl → Option P1) (t1 : P → P1 → Sto → R Bool) (e : P → P1 → Sto → R Vl) : R Vl := r.bind fun c s1 => (compP2 c.ok pat t it1 pat1 t1 e c.items [] s1).bind finN
noncomputable def mLcPN2 (it : MI) (pat : Vl → Option P) (st : P → Loc → Loc) (t : MT) (it1 : MI) (pat1 : Vl → Option P1) (st1 : P1 → Loc → Loc) (t1 : MT) (e : ME) (vs vs1 : List Nat) : ME := fun ρ s => lcPN2 (it ρ s) pat (fun p s => t (st p (wipeM ρ vs)) s) (fun p s => it1 (st p (wipeM ρ vs)) s) pat1 (fun p q s => t1 (st1 q (wipeM (st p (wipeM ρ vs)) vs1)) s) (fun p q s => e (st1 q (wipeM (st p (wipeM ρ vs)) vs1)) s)
theorem mLcPN2_eq {it : MI} {pat : Vl → Option P} {st : P → Loc → Loc} {t : MT} {it1 : MI} {pat1 : Vl → Option P1} {st1 : P1 → Loc → Loc} {t1 : MT} {e : ME} {vs vs1 : List Nat} : mLcN2 it (gmP pat st) t it1 (gmP pat1 st1) t1 e vs vs1 = mLcPN2 it pat st t it1 pat1 st1 t1 e vs vs1 := by
  funext ρ s
  unfold mLcN2 mLcPN2 lcPN2
  cases it ρ s with
  | ok c s1 => simp only [R.bind_ok, compM2_P]
  | ex _ _ => rfl
  | bad => rfl
variable {X : Cx} {zx : Exo} {W : WX}
theorem nss_setLcPN2 {S L : Type} {mkS : S → Loc} {mkL : L → Loc} {ox : Option Loc} {ρ : Loc} {rest : List Stmt} {f : Sto → R Vl} {i : Nat} {y : Str} {py : Pos} {ρ' : Vl → Loc} {k : Vl → Sto → An S L} {elt tg iter tg1 iter1 : Expr} {ifs ifs1 : List Expr} {scope : Scope} {own : List (Str × Nat)} {vs1 : List Nat} {pos spos : Pos} {it it1 : MI} {g g1 : TG} {pat : Vl → Option P} {st : P → Loc → Loc} {pat1 : Vl → Option P1} {st1 : P1 → Loc → Loc} {t t1 : MT} {e : ME} (hc : X.calm = true) (hN : X.N.Nodup) (hy : X.N[i]? = some y) (hyl : X.env.scope.names.lookup y = some .local)
    (hsw : swapsWith (.ListComp elt [⟨tg, iter, ifs, 0⟩, ⟨tg1, iter1, ifs1, 0⟩] scope pos) (some (.Name y py)) spos.line X.env = pure true) (hi : DI X zx W tg iter it) (ok : BlkOk X.N X.env.scope scope own) (hv : ∀ i ∈ vs1, i ∈ own.map (·.2)) (go : GOk (cf X zx) g (gmP pat st) (own.map (·.2))) (go1 : GOk (cf X zx) g1 (gmP pat1 st1) vs1)
    (hg : ∀ (s : Shared) (H : Hp) (C : Addr) (cl : List (Str × Addr)) (fp : List Addr), PG (X.blk s H scope (compEnvC scope cl C X.env) fp) tg g) (ht : ∀ (s : Shared) (H : Hp) (C : Addr) (cl : List (Str × Addr)) (fp : List Addr), PTs (X.blk s H scope (compEnvC scope cl C X.env) fp) ifs (tG (cf X zx) rB WF t))
    (hi1 : ∀ (s : Shared) (H : Hp) (C : Addr) (cl : List (Str × Addr)) (fp : List Addr), PI (X.blk s H scope (compEnvC scope cl C X.env) fp) tg1 iter1 (tG (cf X zx) (rI (cf X zx)) WF it1))
    (hg1 : ∀ (s : Shared) (H : Hp) (C : Addr) (cl : List (Str × Addr)) (fp : List Addr), PG (X.blk s H scope (compEnvC scope cl C X.env) fp) tg1 g1) (ht1 : ∀ (s : Shared) (H : Hp) (C : Addr) (cl : List (Str × Addr)) (fp : List Addr), PTs (X.blk s H scope (compEnvC scope cl C X.env) fp) ifs1 (tG (cf X zx) rB WF t1))
    (he : ∀ (s : Shared) (H : Hp) (C : Addr) (cl : List (Str × Addr)) (fp : List Addr), PE (X.blk s H scope (compEnvC scope cl C X.env) fp) elt (tG (cf X zx) (Rv (cf X zx)) WF e)) (h2 : ∀ v, NSs X zx W ox mkS mkL (ρ' v) rest (k v)) (hox : OxLe ox ρ)
    (hs : ∀ x, foldedSetIterable iter X.env x = pure x := by intro _; rfl) (hs1 : ∀ env x, foldedSetIterable iter1 env x = pure x := by intro _ _; rfl) (hF : ∀ s, mLcPN2 it pat st t it1 pat1 st1 t1 e (own.map (·.2)) vs1 ρ s = f s := by intro _; rfl) (hρ : ∀ v, ρ.set i (some v) = ρ' v := by intro _; rfl) :
    NSs X zx W ox mkS mkL ρ (.Assign [.Name y py] (.ListComp elt [⟨tg, iter, ifs, 0⟩, ⟨tg1, iter1, ifs1, 0⟩] scope pos) spos :: rest) (fun s => (f s).an fun v s1 => k v s1) :=
  PSs.imp (pss_cons (ps_setLc2 hc hN hy hyl hsw hi ok hv hg ht hi1 hg1 ht1 he hs hs1) (pss_ex h2)) fun D σ H ⟨β, s, hl, hs, q⟩ => by
  show tLc2 (tG (cf X zx) (rI (cf X zx)) W it) g (tG (cf X zx) rB WF t) (tG (cf X zx) (rI (cf X zx)) WF it1) g1 (tG (cf X zx) rB WF t1) (tG (cf X zx) (Rv (cf X zx)) WF e) (own.map (·.2)) vs1 σ H (fun x H1 => ∃ j, tN (cf X zx) W mkS mkL ox (ρ' j) (k j) D (σ.set i (some x)) H1)
  refine lc_goN2 (W := W) go go1 ⟨β, ρ, s, hl, hs, ?_⟩
  have q' : PostN (cf X zx) W mkS mkL ox β H D ((mLcN2 it (gmP pat st) t it1 (gmP pat1 st1) t1 e (own.map (·.2)) vs1 ρ s).an fun v s1 => k v s1) := by rw [mLcPN2_eq, hF]; exact q
  exact PostN.an (rel := Rv (cf X zx)) (Q1 := fun u H' => ∃ v, tN (cf X zx) W mkS mkL ox (ρ' v) (k v) D (σ.set i (some u)) H') hl hox q' fun v s1 β1 H1 u st1 hs1 r1 h1 => ⟨v, β1, s1, by rw [← hρ]; exact (hl.step st1).set r1, hs1, h1⟩
end
end Pm
set_option maxRecDepth 100000
set_option maxHeartbeats 4000000
set_option maxRecDepth 100000
set_option maxHeartbeats 4000000
set_option maxRecDepth 100000
set_option maxHeartbeats 4000000
namespace Pm
open PySem PySem.Spec PyProof.Rows L2 Sw
def CstD (K : PySem.W.Frag) (mg : Str → Option Value) (x : Str) (d : PyData) : Prop := ∃ u v, mg x = some u ∧ RelV v u ∧ ∀ H β, Dq K H β v d
/-- an item of a constant tuple -/
theorem dq_cst {K : PySem.W.Frag} {a : Addr} {o : Obj} {its : Array Value} {n : Nat} {xs : List V} {ds : List PyData} (hl : K.lookup a = some o) (hc : o.cls = .type "tuple") (hd : o.data = .seq its n) (hz : its.size ≤ sizeLine) (hv : Vals xs its.toList) (e : isO ds = false) (e2 : isCst ds = true) (hs : ds.length ≤ sizeLine) (d : ∀ H β, DqAll K H β xs ds) (H : Hp) (β : Bs) : Dq K H β (.ref a) (.tuple ds) :=
  .tup (TupA.cst e e2 (.inr ⟨o, its, n, hl, hc, hd, hz, hv⟩)) hs (d H β)
def phKin (neg : Bool) (ks : List (Str × PyData)) : Vl → Sto → Option Vl
  | .dat (.str z), _ => some (.dat (.bool (if neg = true then !(ks.lookup z).isSome else (ks.lookup z).isSome)))
  | _, _ => none
def phKix (ks : List (Str × PyData)) : Vl → Sto → Option Vl
  | .dat (.str z), _ => (ks.lookup z).map .dat
  | _, _ => none
@[simp] theorem phKin_s {neg : Bool} {ks : List (Str × PyData)} {z : Str} {s : Sto} : phKin neg ks (.dat (.str z)) s = some (.dat (.bool (if neg = true then !(ks.lookup z).isSome else (ks.lookup z).isSome))) := rfl
@[simp] theorem phKix_s {ks : List (Str × PyData)} {z : Str} {s : Sto} : phKix ks (.dat (.str z)) s = (ks.lookup z).map .dat := rfl
section
variable {X : Cx} {zx : Exo} {W : WX} {a : Expr} {f : ME} {pos : Pos}
theorem de_cst {x : Str} {d : PyData} (hg : Gl X x) (h : CstD X.K X.mg x d) (hd : (x == ("__debug__" : Str)) = false := by decide) : DE X zx W (.Name x pos) (mC d) := by
  obtain ⟨u, v, hm, r, q⟩ := h
  exact PE.imp (pe_glob hg hm r hd) fun σ H Q ⟨β, ρ, s, hl, hs, hp⟩ => hp β H _ (Step.refl _ _) hs (q H β)
end
end Pm
set_option maxRecDepth 100000
set_option maxHeartbeats 4000000
set_option maxRecDepth 100000
set_option maxHeartbeats 4000000
set_option maxRecDepth 100000
set_option maxHeartbeats 4000000
namespace Pm
open PySem PySem.Spec PyProof.Rows L2 Sw
theorem each_of {K : PySem.W.Frag} {H : Hp} {β : Bs} : ∀ {xs : List V} {ds : List PyData} {us : List Value}, DqAll K H β xs ds → Vals xs us → PySem.W.EachIs (fun u d => ∃ v, RelV v u ∧ Dq K H β v d) us ds
  | _, _, _, .nil, .nil => .nil
  | _, _, _, .cons h t, .cons r q => .cons ⟨_, r, h⟩ (each_of t q)
theorem of_each {K : PySem.W.Frag} {H : Hp} {β : Bs} : ∀ {us : List Value} {ds : List PyData}, PySem.W.EachIs (fun u d => ∃ v, RelV v u ∧ Dq K H β v d) us ds → ∃ xs, Vals xs us ∧ DqAll K H β xs ds
  | _, _, .nil => ⟨[], .nil, .nil⟩
  | _, _, .cons ⟨v, r, h⟩ t => by
    obtain ⟨xs, h1, h2⟩ := of_each t
    exact ⟨v :: xs, .cons r h1, .cons h h2⟩
theorem each_reads {K : PySem.W.Frag} {X : Cx} {pins : List (Addr × Obj)} {σ : L2.St} {H : Hp} {s : Shared} {β : Bs} (I : Inv X pins σ H s) : ∀ {us : List Value} {ds : List PyData}, (∀ d ∈ ds, d.hasDict = false) → PySem.W.EachIs (fun u d => ∃ v, RelV v u ∧ Dq X.K H β v d) us ds → PySem.W.EachIs (fun u d => ∃ as, Reads s.heap u d as) us ds
  | _, _, _, .nil => .nil
  | _, _, n, .cons ⟨v, r, h⟩ t => .cons (Dp.reads I _ _ _ (Dq.dp (n _ List.mem_cons_self) h) r) (each_reads (K := K) I (fun d hd => n d (List.mem_cons_of_mem _ hd)) t)
end Pm
set_option maxRecDepth 100000
set_option maxHeartbeats 4000000
namespace Pm
open PySem PySem.Spec PyProof.Rows L2 Sw
def rK (G : Cf) (g : List Vl → Sto → R Vl) : List V → Hp → VK → Prop := fun x H Q => ∃ β s v, RelS G β s H ∧ Rvs G H β v x ∧ Post G (Rv G) (fun _ _ _ _ => False) [] β H Q (g v s)
def okN (r : R Vl) : R Vl := match r with
  | .ok v s => .ok v s
  | _ => .bad
@[simp] theorem okN_ok {v : Vl} {s : Sto} : okN (.ok v s) = .ok v s := rfl
def mK (g : List Vl → Sto → R Vl) (r : MA) : ME := fun ρ s => (r ρ s).bind fun vs s1 => okN (g vs s1)
section
variable {X : Cx} {zx : Exo} {W : WX} {pos : Pos}
theorem tCK_of {g : List Vl → Sto → R Vl} {r : MA} {σ : L2.St} {H : Hp} {Q : VK} (q : tG (cf X zx) (Rv (cf X zx)) W (mK g r) σ H Q) : tCB (rK (cf X zx) g) (tG (cf X zx) (Rvs (cf X zx)) W r) σ H Q := by
  obtain ⟨β, ρ, s, hl, hs, hp⟩ := q
  refine ⟨β, ρ, s, hl, hs, Post.bind hp fun vs s1 β1 H1 us st1 hs1 r1 h1 => ?_⟩
  refine ⟨β1, s1, vs, hs1, r1, ?_⟩
  cases e : g vs s1 with
  | ok v s2 => rw [e] at h1; exact h1
  | ex x s2 => rw [e] at h1; exact h1.elim
  | bad => rw [e] at h1; exact h1.elim
theorem de_callTyK {T : String} {x : Str} {p : Pos} {es : List Expr} {e : Expr} {g : List Vl → Sto → R Vl} {r : MA} (hc : CallR X (.type T) (rK (cf X zx) g)) (hg : Gl X x) (hm : X.mg x = none) (hv : bootBuiltins x = some (.type T)) (ha : DA X zx W (e :: es) r) (hn : x ≠ "__name__" := by decide) (hdb : (x == ("__debug__" : Str)) = false := by decide)
    (he : starEach (e :: es) X.env = (false, eval e X.env) :: starEach es X.env := by rfl) (hpl : (backTo pos (starEach es X.env)).any (·.1) = false := by rfl) : DE X zx W (.Call (.Name x p) (e :: es) [] pos) (mK g r) := PE.imp (pe_callTy hc hg hm hv ha hn hdb he hpl) fun σ H Q q => tCK_of q
/-- list(..) -/
def listK (vs : List Vl) (s : Sto) : R Vl := match vs with
  | [v] => (match seqD v s with
    | some ds => .ok (.ref s.length) (s ++ [.lst (ds.map .dat)])
    | none => .bad)
  | _ => .bad
theorem mc_listK : CallR X (.type "list") (rK (cf X zx) listK) := by
  intro pins s σ H xs us Q I rx h
  obtain ⟨β, st, vs, hs, rv, q⟩ := h
  unfold listK at q
  split at q
  · rename_i v
    cases es : seqD v st with
    | none => rw [es] at q; exact q.elim
    | some ds =>
      rw [es] at q
      obtain ⟨x, rfl, r⟩ := rvs1 rv
      obtain ⟨p, ys, rfl, h1, dx, hz⟩ := seqD_at hs r es
      refine call_list_of pins s σ H _ us Q I rx ⟨p, ys, rfl, h1.imp id TupA.sqt, fun l hl => ?_⟩
      exact q (β.push l) _ _ (Step.push hl) (hs.push hl ⟨by rw [List.length_map]; exact hz, ys, upd_same, Rvs.dats ((Step.push hl).dqs dx)⟩) ⟨l, push_ix hs l, rfl⟩
  · exact q.elim
def addK (v w : Vl) (s : Sto) : R Vl := match lsD v s, lsD w s with
  | some x, some y => if x.length + y.length ≤ mil then .ok (.ref s.length) (s ++ [.lst ((x ++ y).map .dat)]) else .bad
  | _, _ => .bad
def mAddK (f g : ME) : ME := fun ρ s => (f ρ s).bind fun v s1 => (g ρ s1).bind fun w s2 => addK v w s2
theorem de_addK {a b : Expr} {f g : ME} (ha : DE X zx W a f) (hb : DE X zx W b g) : DE X zx W (.BinOp a .Add b pos) (mAddK f g) := PE.imp (pe_op op_cat ha hb) fun σ H Q ⟨β, ρ, s, hl, hs, hp⟩ => by
  refine ⟨β, ρ, s, hl, hs, Post.bind hp fun v s1 β1 H1 u st1 hs1 r1 h1 => ?_⟩
  refine ⟨β1, ρ, s1, hl.step st1, hs1, Post.bind h1 fun w s2 β2 H2 u2 st2 hs2 r2 h2 => ?_⟩
  unfold addK at h2
  split at h2
  · rename_i x y e1 e2
    split at h2
    · rename_i hlen
      obtain ⟨p, xs, rfl, hx, dx⟩ := lsD_at hs2 (st2.rv r1) e1
      obtain ⟨p', ys, rfl, hy, dy⟩ := lsD_at hs2 r2 e2
      have l1 := dx.len
      have l2 := dy.len
      refine ⟨p, p', xs, ys, rfl, rfl, hx, hy, by rw [l1, l2]; exact mil_le hlen, fun l hl' => ?_⟩
      exact h2 (β2.push l) _ _ (Step.push hl') (hs2.push hl' ⟨by rw [List.length_map, List.length_append]; exact mil_le hlen, xs ++ ys, upd_same, Rvs.dats ((Step.push hl').dqs (dx.append dy))⟩) ⟨l, push_ix hs2 l, rfl⟩
    · exact h2.elim
  · exact h2.elim
end
end Pm
set_option maxRecDepth 100000
set_option maxHeartbeats 4000000
set_option maxRecDepth 100000
set_option maxHeartbeats 4000000
set_option maxRecDepth 100000
set_option maxHeartbeats 4000000
set_option maxRecDepth 100000
set_option maxHeartbeats 4000000
namespace Pm
open PySem PySem.Spec PyProof.Rows L2 Sw
section
variable {X : Cx} {zx : Exo} {W : WX} {k : Nat} {f : Addr} {fd : FuncData} {ps : List Str} {g : MF} {x : Str} {p pos : Pos} {e : Expr} {es : List Expr} {r : MA}
theorem Rvs.app {G : Cf} {H : Hp} {β : Bs} : ∀ {vs ws : List Vl} {us us' : List V}, Rvs G H β vs us → Rvs G H β ws us' → Rvs G H β (vs ++ ws) (us ++ us')
  | _, _, _, _, .nil, h => h
  | _, _, _, _, .cons h t, h2 => .cons h (Rvs.app t h2)
end
def par4N {S L : Type} (vs : List Vl) (k : Vl → Vl → Vl → Vl → An S L) : An S L := match vs with
  | [v, w, u, t] => k v w u t
  | _ => .bad
@[simp] theorem par4N_ap {S L : Type} {v w u t : Vl} (k : Vl → Vl → Vl → Vl → An S L) : par4N [v, w, u, t] k = k v w u t := rfl
end Pm
set_option maxRecDepth 100000
set_option maxHeartbeats 4000000
set_option maxRecDepth 100000
set_option maxHeartbeats 4000000
set_option maxRecDepth 100000
set_option maxHeartbeats 4000000
set_option maxRecDepth 100000
set_option maxHeartbeats 4000000
set_option maxRecDepth 100000
set_option maxHeartbeats 4000000
set_option maxRecDepth 100000
set_option maxHeartbeats 4000000
namespace Sw.RevN
open PySem PySem.Spec PyProof.Rows L2
end Sw.RevN
set_option maxRecDepth 100000
set_option maxHeartbeats 4000000
set_option maxRecDepth 100000
set_option maxHeartbeats 4000000
set_option maxRecDepth 100000
set_option maxHeartbeats 4000000
namespace Sw.RevN
open PySem PySem.Spec PyProof.Rows L2
end Sw.RevN
set_option maxRecDepth 100000
set_option maxHeartbeats 4000000
set_option maxRecDepth 100000
set_option maxHeartbeats 4000000
namespace Pm
open PySem PySem.Spec PyProof.Rows L2 Sw
/-- what is known of a def that is a value -/
structure AskF (X : Cx) (n : Nat) (x : Str) (g : MF) : Prop where
  ex : ∃ (k : Nat) (f : Addr) (fd : FuncData) (ps : List Str), FnD X.prog X.w X.K X.mg X.base k f fd ps g ∧ Room k X.A ∧ Binds X.K fd ps [] ∧ X.mg x = some (.ref f) ∧ PySem.W.keepIn X.K (.ref f) = true ∧ ps.length = n
def AskT (X : Cx) (n : Nat) : List (Str × MF) → Prop
  | [] => True
  | p :: r => AskF X n p.1 p.2 ∧ AskT X n r
theorem AskT.at' {X : Cx} {n : Nat} {x : Str} {g : MF} : ∀ {tbl : List (Str × MF)}, AskT X n tbl → tbl.lookup x = some g → AskF X n x g
  | p :: r, h, e => by
    rw [List.lookup_cons] at e
    by_cases q : x = p.1
    · rw [q, beq_self_eq_true] at e
      cases e
      rw [q]
      exact h.1
    · rw [beq_eq_false_iff_ne.mpr q] at e
      exact AskT.at' h.2 e
end Pm
set_option maxRecDepth 100000
set_option maxHeartbeats 4000000
set_option maxRecDepth 100000
set_option maxHeartbeats 4000000
set_option maxRecDepth 100000
set_option maxHeartbeats 4000000
set_option maxRecDepth 100000
set_option maxHeartbeats 4000000
namespace Pm
open PySem PySem.Spec PyProof.Rows L2 Sw
/-- a local as the lambda sees it -/
def cap0 : Option Vl → Option Vl
  | some (.dat p) => some (.dat p)
  | some (.ref n) => some (.ref n)
  | _ => none
/-- the table with one more in it, or as it was -/
def Grown (H H1 : Hp) (P c : Addr) (q : Str) : Prop := (H1 = H ∧ H c = some (LamX.CodeO c q)) ∨ ∃ ps ps' : Array Value, H P = some (.tbl ps) ∧ H c = none ∧ H1 = upd (upd H P (.tbl ps')) c (LamX.CodeO c q) ∧ (TriplesOk ps.toList → TriplesOk ps'.toList) ∧
  (TriplesOk ps.toList → ∀ (pos : Pos) (cv : Value), codeAmong pos ps'.toList = some cv → codeAmong pos ps.toList = some cv ∨ cv = .ref c)
theorem Grown.step {β : Bs} {H H1 : Hp} {P c : Addr} {q : Str} (g : Grown H H1 P c q) (hm : (P, q) ∈ tabT) (hu : ∀ p ∈ tabT, p.1 = P → p.2 = q) (nb : ∀ x, H x = none → x ∉ β.b ∧ x ∉ β.g) : Step β H β H1 := by
  rcases g with ⟨rfl, _⟩ | ⟨ps, ps', hP, hc, rfl, ht, ha⟩
  · exact Step.refl _ _
  have nPc : P ≠ c := ne_of_none hP hc
  have at1 : ∀ {b : Addr} {o : HO}, H b = some o → b ≠ P → upd (upd H P (.tbl ps')) c (LamX.CodeO c q) b = some o := fun {b o} e n => by
    rw [upd_ne (ne_of_none e hc), upd_ne n]; exact e
  have nP : ∀ {b : Addr} {o : HO}, H b = some o → NT o → b ≠ P := fun {b o} e n z => by
    rw [z, hP] at e
    cases e
    exact n
  have atP : upd (upd H P (.tbl ps')) c (LamX.CodeO c q) P = some (.tbl ps') := by rw [upd_ne nPc, upd_same]
  refine ⟨List.prefix_refl _, fun _ h => h, fun _ h => .inl h, fun _ h => .inl h, fun a o nt e _ => at1 e (nP e nt), fun a xs e => at1 e (nP e trivial), fun a o u e => at1 e (nP e trivial), fun a o e => ?_, fun t p hp => ?_⟩
  · by_cases z : a = P
    · exact ⟨_, by rw [z]; exact atP⟩
    · exact ⟨o, at1 e z⟩
  · obtain ⟨n1, n2, ps0, e0, ht0, ha0⟩ := t p hp
    by_cases z : p.1 = P
    · have eq2 := hu p hp z
      rw [z, hP] at e0
      cases e0
      refine ⟨n1, n2, ps', by rw [z]; exact atP, ht ht0, fun pos cv hcv => ?_⟩
      rcases ha ht0 pos cv hcv with y | y
      · obtain ⟨c0, ec, hcc, m1, m2⟩ := ha0 pos cv y
        exact ⟨c0, ec, at1 hcc (nP hcc trivial), m1, m2⟩
      · exact ⟨c, y, by rw [eq2]; exact upd_same, (nb c hc).1, (nb c hc).2⟩
    · refine ⟨n1, n2, ps0, at1 e0 z, ht0, fun pos cv hcv => ?_⟩
      obtain ⟨c0, ec, hcc, m1, m2⟩ := ha0 pos cv hcv
      exact ⟨c0, ec, at1 hcc (nP hcc trivial), m1, m2⟩
theorem Grown.at' {H H1 : Hp} {P c : Addr} {q : Str} (g : Grown H H1 P c q) {b : Addr} {o : HO} (e : H b = some o) (n : NT o) : H1 b = some o := by
  rcases g with ⟨rfl, _⟩ | ⟨ps, ps', hP, hc, rfl, ht, ha⟩
  · exact e
  · rw [upd_ne (ne_of_none e hc), upd_ne (fun z => by rw [z, hP] at e; cases e; exact n)]
    exact e
open Classical in
/-- x(), where x is the lambda lv -/
noncomputable def mAct (i : Nat) (lv : Vl) (act : Sto → R Vl) : ME := fun ρ s => match ρ[i]? with
  | some (some v) => if v = lv then act s else .bad
  | _ => .bad
open Classical in
noncomputable def actG (lv : Vl) (act : Sto → R Vl) (v : Vl) (s : Sto) : R Vl := if v = lv then act s else .bad
@[simp] theorem actG_self {lv : Vl} {act : Sto → R Vl} {s : Sto} : actG lv act lv s = act s := if_pos rfl
/-- a def that is handed a lambda -/
structure LamD (P : Program) (w : World) (K : PySem.W.Frag) (mg : Str → Option Value) (base : Heap) (k : Nat) (x : Str) (st : Stmt) (N : List Str) (a : Str) (f : Addr) (fd : FuncData) (nf : Vl → (Sto → R Vl) → Sto → An Unit Empty) : Prop where
  go : ∀ (cdv : Value) (A : Around) (outer : List Env) (s : Shared) (H : Hp) (E : XK) (lv : Vl) (act : Sto → R Vl), A.guards = some [] → Room k (A.deeper (envOfC x (defScope st) s.heap.objs.size f cdv)) →
    (∀ (W : WX) (pn : List (Addr × Obj)) (xe : Value → Shared → Prop) (p1 p2 : Pos), Takes ((cxOf (L2.CX P w) P w K mg base N x (defScope st) f cdv A outer s H E).tr pn xe) W →
      DE ((cxOf (L2.CX P w) P w K mg base N x (defScope st) f cdv A outer s H E).tr pn xe) none W (.Call (.Name a p1) [] [] p2) (mAct 0 lv act)) →
    NSs (cxOf (L2.CX P w) P w K mg base N x (defScope st) f cdv A outer s H E) none (fun c d _ H => E c d H) none (mkU N.length) mkE (startM N.length [lv]) (defBody st) (nf lv act)
  ind : ∀ lv act s, nf lv act s = nf (.dat .none) act s
  sc : FnScope N [a] (defScope st)
  nd : N[0]? = some a
  vis : Vis (defScope st) a
theorem LamD.mono {P : Program} {w : World} {K : PySem.W.Frag} {mg : Str → Option Value} {base : Heap} {j k : Nat} {x : Str} {st : Stmt} {N : List Str} {a : Str} {f : Addr} {fd : FuncData} {nf : Vl → (Sto → R Vl) → Sto → An Unit Empty} (F : LamD P w K mg base j x st N a f fd nf) (h : j ≤ k) : LamD P w K mg base k x st N a f fd nf :=
  ⟨fun cdv A outer s H E lv act hg hr => F.go cdv A outer s H E lv act hg (hr.mono h), F.ind, F.sc, F.nd, F.vis⟩
/-- a name that a lambda has caught -/
def capN (v : Vl) (s : Sto) : R Vl := mVar 0 [cap0 (some v)] s
@[simp] theorem capN_dat {p : PyData} {s : Sto} : capN (.dat p) s = .ok (.dat p) s := rfl
@[simp] theorem capN_ref {n : Nat} {s : Sto} : capN (.ref n) s = .ok (.ref n) s := rfl
noncomputable def capO (v : Option Vl) (s : Sto) : R Vl := mVar 0 [cap0 v] s
@[simp] theorem capO_dat {p : PyData} {s : Sto} : capO (some (.dat p)) s = .ok (.dat p) s := rfl
end Pm
set_option maxRecDepth 100000
set_option maxHeartbeats 4000000
namespace Pm
open PySem PySem.Spec PyProof.Rows L2 Sw
theorem look_kv {x : Int} {d : PyData} : ∀ {K : List (Int × PyData)}, K.lookup x = some d → dLook (K.map fun p => (PyData.int p.1, Vl.dat p.2)) (.int x) = some (.dat d)
  | [], h => by cases h
  | p :: K, h => by
    rw [List.map_cons, dLook_cons, kEq_i]
    rw [List.lookup_cons] at h
    by_cases e : x = p.1
    · subst e
      rw [beq_self_eq_true] at h
      cases h
      rw [if_pos (by simp)]
    · rw [beq_eq_false_iff_ne.mpr e] at h
      rw [if_neg (by simpa using fun z => e z.symm)]
      exact look_kv h
theorem phIn_kvD {neg : Bool} {K : List (Int × PyData)} {x : Int} {s : Sto} : phIn neg (.dat (.int x)) (.dat (kvD K)) s = some (.dat (.bool (if neg = true then !decide (x ∈ K.map (·.1)) else decide (x ∈ K.map (·.1))))) := by
  show (match dOf (.dat (kvD K)) s with
    | some (t, kvs) => if kOk t (.int x) = true then some (Vl.dat (.bool (if neg = true then !dHas kvs (.int x) else dHas kvs (.int x)))) else none
    | none => _) = _
  rw [dOf_ints]
  show (if kOk false (.int x) = true then some (Vl.dat (.bool (if neg = true then !dHas (K.map fun p => (PyData.int p.1, Vl.dat p.2)) (.int x) else dHas (K.map fun p => (PyData.int p.1, Vl.dat p.2)) (.int x)))) else none) = _
  rw [if_pos (show kOk false (.int x) = true from rfl), dHas_int]
end Pm
set_option maxRecDepth 100000
set_option maxHeartbeats 4000000
namespace Pm
open PySem PySem.Spec PyProof.Rows L2 Sw
structure MixOk (ds : List PyData) : Prop where
  tup : ∀ d ∈ ds, ∃ x r, d = .tuple (.str x :: r)
  same : ∀ x r r', PyData.tuple (.str x :: r) ∈ ds → PyData.tuple (.str x :: r') ∈ ds → PySem.W.alikeAll r r' = true
theorem mix_one {h : Heap} {x x' : Str} {r r' : List PyData} {v : Value} {as as' : List Addr} (m : x = x' → PySem.W.alikeAll r r' = true) (r1 : Reads h v (.tuple (.str x :: r)) as) (r2 : Reads h v (.tuple (.str x' :: r')) as') : PyData.tuple (.str x :: r) = .tuple (.str x' :: r') := by
  have ex : x = x' := by
    cases r1 with
    | tuple a1 a2 a3 a4 =>
      cases r2 with
      | tuple b1 b2 b3 b4 =>
        rw [a1] at b1
        cases b1
        rw [a3] at b3
        cases b3
        generalize Array.toList _ = us at a4 b4
        cases a4 with
        | cons p1 p2 =>
          cases b4 with
          | cons q1 q2 => exact PyData.str.inj (PySem.W.alike_unique _ _ _ _ _ rfl p1 q1)
  subst ex
  exact PySem.W.alike_unique _ _ _ _ _ (show PySem.W.alikeAll (.str x :: r) (.str x :: r') = true by rw [PySem.W.alikeAll, m rfl]; rfl) r1 r2
theorem mix_key {h : Heap} {ds : List PyData} (M : MixOk ds) {v : Value} {d : PyData} {as : List Addr} (hd : d ∈ ds) (rd : Reads h v d as) : (PySem.W.dataKind h ds).keyOf v = some (PySem.W.keyToks d) := by
  have ex : ∃ d, d ∈ ds ∧ ∃ as, Reads h v d as := ⟨d, hd, as, rd⟩
  have key : (PySem.W.dataKind h ds).keyOf v = some (PySem.W.keyToks ex.choose) := dif_pos ex
  obtain ⟨m1, as1, m2⟩ := ex.choose_spec
  generalize ex.choose = d1 at key m1 m2
  obtain ⟨x1, r1, rfl⟩ := M.tup d1 m1
  obtain ⟨x2, r2, rfl⟩ := M.tup d hd
  rw [key, mix_one (fun e => by subst e; exact M.same _ _ _ m1 hd) m2 rd]
section
variable {prog : Program} {w : World} {A : Around} {s : Shared}
theorem mix_lex {fin : Bool} {Q : Bool → Shared → Prop} {x y : Str} {r1 r2 : List PyData} {us ws : List Value} {as bs : List Addr} (m : x = y → PySem.W.alikeAll r1 r2 = true) (a : ReadsAll s.heap us (.str x :: r1) as) (b : ReadsAll s.heap ws (.str y :: r2) bs)
    (room : A.units + min (PyData.depthAll (.str x :: r1)) (PyData.depthAll (.str y :: r2)) < cLine) (hf : fin = decide ((PyData.str x :: r1).length < (PyData.str y :: r2).length)) (q : Q (PyProof.Rows.lexLt itemOrd (PySem.W.keyToksAll (.str x :: r1)) (PySem.W.keyToksAll (.str y :: r2))) s) :
    PySem.W.KatLex prog w A true fin Q (us.zip ws) 0 s := by
  by_cases e : x = y
  · subst e
    exact PySem.W.katLex_alike _ _ 0 _ _ _ _ a b (show PySem.W.alikeAll (.str x :: r1) (.str x :: r2) = true by rw [PySem.W.alikeAll, m rfl]; rfl) room (fun _ _ z t u ez => by cases (List.cons.inj ez).1; exact fun h => by cases h) hf q
  · have al : PySem.W.alike (.str x) (.str y) = true := rfl
    have ne : PyData.eqv (.str x) (.str y) = false := by simpa [PyData.eqv] using e
    cases a with
    | cons p1 p2 =>
      cases b with
      | cons q1 q2 =>
        rw [List.zip_cons_cons]
        have hd : A.units + min (PyData.str x).depth (PyData.str y).depth < cLine := by
          simp only [PyData.depth] at *
          omega
        refine PySem.W.kat_cons (PySem.W.eqAt_alike _ _ A s _ _ _ _ p1 q1 al hd prog w _ _ ?_)
        rw [ne]
        rw [PySem.W.dataLt_all_no al ne] at q
        exact PySem.W.kat_no (PySem.W.oneLt_alike (fun _ t h => by cases h) p1 q1 al (fun h => by cases h) hd q)
theorem mix_sorts {vs : List Value} {ds : List PyData} (e : PySem.W.EachIs (fun v d => ∃ as, Reads s.heap v d as) vs ds) (M : MixOk ds) (hu : ∀ d ∈ ds, A.units + d.depth < cLine) : PySem.W.SortsAt prog w A s (PySem.W.dataKind s.heap ds) vs := by
  refine ⟨fun v hv => ?_, tuples' true, ?_, fun h2 E Q hq => ?_⟩
  · obtain ⟨d, hd, as, r⟩ := e.left v hv
    exact ⟨_, mix_key M hd r⟩
  · intro E x y a b Q ha hb hq
    obtain ⟨d1, as1, hd1, ra, rfl⟩ := PySem.W.dataKind_inv ha
    obtain ⟨d2, as2, hd2, rb, rfl⟩ := PySem.W.dataKind_inv hb
    have hr : A.units + min d1.depth d2.depth < cLine := by
      have := hu d1 hd1
      omega
    obtain ⟨x1, t1, rfl⟩ := M.tup d1 hd1
    obtain ⟨x2, t2, rfl⟩ := M.tup d2 hd2
    have hq : Q (PySem.W.dataLt (.tuple (.str x1 :: t1)) (.tuple (.str x2 :: t2))) s := hq
    rw [PySem.W.dataLt_tuple] at hq
    cases ra with
    | @tuple l o us n _ _ p1 p2 p3 p4 =>
      cases rb with
      | @tuple l' o' ws n' _ _ q1 q2 q3 q4 =>
        have l1 : us.size = (PyData.str x1 :: t1).length := by simpa using SeqAt.ReadsAll.length _ _ _ p4
        have l2 : ws.size = (PyData.str x2 :: t2).length := by simpa using SeqAt.ReadsAll.length _ _ _ q4
        refine PySem.W.kat_lt p1 p3 q1 q3 (mix_lex (fun e => by subst e; exact M.same _ _ _ hd1 hd2) p4 q4 ?_ (by rw [l1, l2]) hq)
        have := SeqAt.room_in hr
        omega
  · obtain ⟨fs, f1, f2, f3⟩ := PySem.W.each_katTups e fun d hd => by
      obtain ⟨x, r, h⟩ := M.tup d hd
      exact ⟨_, r, h⟩
    refine PySem.W.kat_kind (T := .type "str") f1 (by omega) (fun f hf => ?_) rfl hq
    obtain ⟨x, r, as, m1, m2⟩ := f3 f hf
    obtain ⟨x', r', ex⟩ := M.tup _ m1
    have ex : x = .str x' := by cases ex; rfl
    subst ex
    exact PySem.W.looks_reads m2
theorem mix_each {h : Heap} {ds : List PyData} (M : MixOk ds) : ∀ {vs : List Value} {bs : List PyData}, (∀ b ∈ bs, b ∈ ds) → PySem.W.EachIs (fun v d => ∃ as, Reads h v d as) vs bs → PySem.W.EachIs (fun v d => (PySem.W.dataKind h ds).keyOf v = some (PySem.W.keyToks d)) vs bs
  | _, _, _, .nil => .nil
  | _, _, hb, .cons ⟨_, r⟩ t => .cons (mix_key M (hb _ List.mem_cons_self) r) (mix_each M (fun b m => hb b (List.mem_cons_of_mem _ m)) t)
theorem mix_sorted {E : Value → Shared → Prop} {R : Value → PyData → Prop} {vs : List Value} {ds : List PyData} {l : Addr} {Q : Value → Shared → Prop} (hl : s.heap.IsList l vs.toArray) (e : PySem.W.EachIs R vs ds) (er : PySem.W.EachIs (fun v d => ∃ as, Reads s.heap v d as) vs ds) (M : MixOk ds) (hL : ds.length ≤ sizeLine)
    (hu : ∀ d ∈ ds, A.units + 2 + d.depth < cLine) (q : ∀ out, out.length = ds.length → PySem.W.EachIs R out (ds.mergeSort (PySem.W.dataLe false id)) → Q (.ref (s.heap.objs.size + 1)) { s with heap := sortedAll s.heap vs (List.toArray out) }) :
    wpAny (model prog w) A (call (.builtin "sorted") [.ref l]) Q E s := by
  have er2 := er.mono fun _ _ ⟨as, r⟩ => (⟨as, PyProof.Rows.Reads.keeps (fun _ _ => PySem.W.sorting_copy_old) r⟩ : ∃ as, Reads (PySem.W.sortingHeap (PySem.W.copyHeap s.heap vs) (s.heap.objs.size + 1) vs) _ _ as)
  refine PySem.W.sorted_vals hl (mix_sorts (s := { s with heap := PySem.W.sortingHeap (PySem.W.copyHeap s.heap vs) (s.heap.objs.size + 1) vs }) er2 M fun d hd => ?_) (by rw [e.length]; exact hL) (q _ (by rw [PySem.W.sortVals_length false rfl]; exact e.length) ?_)
  · have := hu d hd
    show A.units + 1 + 1 + d.depth < cLine
    omega
  · exact PySem.W.sortVals_each (κ := PySem.W.dataKind _ ds) (fun b => PySem.W.keyToks (id b)) e (mix_each M (fun b m => m) er2)
end
open Classical in
/-- by values -/
noncomputable def phSortedM : List Vl → Sto → Option Vl
  | [v], s => (lsD v s).bind fun ds => if MixOk ds ∧ ds.length ≤ 1000 ∧ (∀ d ∈ ds, d.depth ≤ 8) ∧ (∀ d ∈ ds, d.hasDict = false) then some (.dat (.list (ds.mergeSort (PySem.W.dataLe false id)))) else none
  | _, _ => none
section
variable {X : Cx} {zx : Exo}
theorem mc_sortedM (hu : X.A.units + 64 < cLine) : CallR X (.builtin "sorted") (rn (cf X zx) phSortedM) := by
  intro pins s σ H xs us Q I rx h
  obtain ⟨β, st, vs, z, hs, rv, e, q⟩ := h
  unfold phSortedM at e
  split at e
  · rename_i v s'
    obtain ⟨x, rfl, r⟩ := rvs1 rv
    obtain ⟨ds, el, e⟩ := Option.bind_eq_some_iff.mp e
    split at e
    · rename_i hc
      obtain ⟨c1, c3, c4, c5⟩ := hc
      cases e
      obtain ⟨a, ys0, rfl, h1, dx⟩ := lsD_at hs r el
      rw [Vals.ref1 rx]
      obtain ⟨its, rv2, hl, hz⟩ := I.list (SqL.of h1)
      have ee := each_of dx rv2
      have sz : sizeLine ≥ 1000 := by rw [sizeLine_eq]; omega
      refine mix_sorted (R := fun u d => ∃ v, RelV v u ∧ Dq X.K H β v d) hl.isList ee (each_reads (K := X.K) I c5 ee) c1 (by omega) (fun d hd => by have := c4 d hd; show X.A.units + 2 + d.depth < cLine; omega) fun out hlen ho => ?_
      obtain ⟨n, hn⟩ := sortedAll_at s.heap its out.toArray
      obtain ⟨xs, vx, dq⟩ := of_each ho
      have hp := I.hok.fresh (Nat.le_succ s.heap.objs.size)
      have xl : xs.length ≤ sizeLine := by rw [vx.length, hlen]; omega
      exact ⟨.ref _, upd H (s.heap.objs.size + 1) (.lst xs), I.laid (t' := s.toks) (fun b o e => sortedAll_old e) (Nat.le_succ _) ⟨xl, out, n, vx, hn⟩, rfl, q _ _ (same_new hp) (Dq.lst ⟨upd_same, hs.nin hp, hs.nig hp⟩ (by rw [← dq.len]; exact xl) ((Step.lay hp).dqs dq))⟩
    · cases e
  · cases e
end
end Pm
set_option maxRecDepth 100000
set_option maxHeartbeats 4000000
namespace Sw
open PySem PySem.Spec PyProof.Rows L2
section
variable {P : Program} {w : World} {A : Around} {E : Value → Shared → Prop} {s : Shared}
theorem call_set_intsL {l : Addr} {items : Array Value} (xs : List Int) {Q : Value → Shared → Prop} (hh : A.handled = none) (hl : s.heap.IsList l items) (hit : IntsAre items.toList xs) (few : xs.length + 1 < scanBound)
    (h : ∀ (h' : Heap) (tk c : Nat), c ≤ xs.length → SetR w h' s.heap.objs.size (fun j => decide (j ∈ xs)) c → (∀ b o, s.heap.get? b = some o → h'.get? b = some o) → Q (.ref s.heap.objs.size) { s with heap := h', toks := tk }) :
    wpAny (model P w) A (call (.type "set") [.ref l]) Q E s := by
  have isz : items.size = xs.length := by have := hit.length; simpa using this
  obtain ⟨c, tl, hmro⟩ := F.called_set.mro
  have hmade := F.called_set.made
  have hsub := F.called_set.sub
  refine wpAny_call (codeAny_of_tree ?_)
  show wpAny _ _ (callAny (.type "set") _) _ _ _
  refine wpAny_pure ⟨Code.quiet_builtin _ (by decide +kernel), codeAny_builtin F.entry_type_call ?_⟩
  rw [Around.under_plain (weight_type_call_type "set" [.ref l] []) rfl]
  have h1 := F.called_set.notType
  have h2 := F.called_set.canCreate
  have hct := F.typeCall_set_1 (.ref l)
  repeat (any_goals (first | assumption | wp_step))
  refine codeAny_mono (code_set_led1 (.ref l) (E := E) (Q₁ := fun obj s1 => obj = .ref s.heap.objs.size ∧ s1 = { s with heap := s.heap.push (newSetO w) }) ⟨rfl, rfl⟩) ?_
  intro r s1 hr
  cases r with
  | error e => exact hr
  | ok fl =>
    cases fl with
    | ret obj =>
      obtain ⟨rfl, rfl⟩ := hr
      have hS : (s.heap.push (newSetO w)).get? s.heap.objs.size = some (newSetO w) := Heap.get?_push_size _ rfl
      have hT : Shared.TypeIs { s with heap := s.heap.push (newSetO w) } (.ref s.heap.objs.size) "set" := ⟨_, hS, rfl⟩
      have hli := F.called_set.init.lookup
      have hbi := F.called_set.init.bind (.ref s.heap.objs.size)
      repeat (any_goals (first | assumption | wp_step))
      refine codeAny_mono (codeAny_call_builtin (R := wants (fun r s2 => r = .none ∧ ∃ h' tk c, s2 = { s with heap := h', toks := tk } ∧ c ≤ xs.length ∧ SetR w h' s.heap.objs.size (fun j => decide (j ∈ xs)) c ∧
          (∀ b o, s.heap.get? b = some o → h'.get? b = some o)) E) F.called_set.init.plain F.entry_set_init (check_set_init_1 hT ?_)) ?_
      · obtain ⟨ol, hol, hcl, nl, hdl⟩ := hl
        obtain ⟨ocls, odict, odata, oslots⟩ := ol
        simp only at hcl hdl
        subst hcl
        subst hdl
        have hol' : (s.heap.push (newSetO w)).get? l = some { cls := .type "list", dict := odict, data := .seq items nl, slots := oslots } := Heap.get?_push_of_some _ hol
        have hsls := F.sub_list_set
        have hslf := F.sub_list_frozenset
        have hne : (Value.type "list" == Value.type "dict") = false := by decide
        have hl1 : (s.heap.push (newSetO w)).IsList l items := ⟨_, hol', rfl, nl, rfl⟩
        unfold Builtin.«set.__init__» noKeywords Builtin.Frozenset.updateFrom
        generalize hPI : pyIter = PI
        wp_walk
        subst hPI
        refine wpAny_pyIter_list hl1 (wpAny_bind (wpAny_runValue ?_))
        have hlS : l < s.heap.objs.size := Heap.lt_size hol
        have zp : (s.heap.push (newSetO w)).objs.size = s.heap.objs.size + 1 := Heap.size_push ..
        have neI : l ≠ (s.heap.push (newSetO w)).objs.size := by rw [zp]; exact Nat.ne_of_lt (Nat.lt_succ_of_lt hlS)
        have nS : s.heap.objs.size ∉ [(s.heap.push (newSetO w)).objs.size, l] := by
          rw [zp]
          simp only [List.mem_cons, List.not_mem_nil, or_false, not_or]
          exact ⟨Nat.ne_of_lt (Nat.lt_succ_self _), Nat.ne_of_gt hlS⟩
        have hval : ∀ (i : Nat) (v : Value), items[i]? = some v → ∃ k t, xs[i]? = some k ∧ v = .int k t := fun i v hv => by
          have hi : i < xs.length := by rw [← isz]; exact (Array.getElem?_eq_some_iff.mp hv).1
          obtain ⟨t, e⟩ := IntsAre.int_at hit i v (by rw [Array.getElem?_toList]; exact hv)
          refine ⟨xs[i], t, List.getElem?_eq_getElem hi, ?_⟩
          rw [e, List.getD_eq_getElem?_getD, List.getElem?_eq_getElem hi] <;> rfl
        refine set_update_ints ((Walks.list (by simp [hh]) _ l neI items).toS) s.heap.objs.size nS xs isz few hval (items.size - 0) 0 _ (by omega) (Nat.zero_le _)
          ⟨⟨_, Heap.get?_push_size _ rfl, rfl, rfl⟩, (hl1.push _)⟩ ⟨0, Nat.le_refl 0, setR_new_at (Heap.get?_push_of_some _ hS)⟩ ?_
        intro s' c hm hc' hS'
        obtain ⟨h', g2, d', tk', os'⟩ := s'
        have eg : g2 = s.gens := hm.gens
        have ed : d' = s.drawn := hm.drawn
        have eo : os' = s.os := hm.os
        subst eg ed eo
        show wpAny _ _ _ _ _ _
        refine wpAny_pure ?_
        show wpAny _ _ (ret Value.none) _ _ _
        refine wpAny_pure ⟨rfl, h', tk', c, rfl, by rw [← isz]; exact hc', hS', fun c o e => ?_⟩
        have lc : c < s.heap.objs.size := Heap.lt_size e
        refine hm.heap c o ?_ (Heap.get?_push_of_some _ (Heap.get?_push_of_some _ e))
        simp only [List.mem_cons, List.not_mem_nil, or_false, not_or]
        refine ⟨Nat.ne_of_lt lc, ?_⟩
        rw [zp]
        exact Nat.ne_of_lt (Nat.lt_succ_of_lt lc)
      · intro r2 s2 hr2
        cases r2 with
        | error e => exact hr2
        | ok fl2 =>
          cases fl2 with
          | ret r =>
            obtain ⟨rfl, h', tk, c, rfl, hcl, hS', hk'⟩ := hr2
            repeat (any_goals (first | assumption | wp_step))
            exact h _ _ _ hcl hS' hk'
          | _ => exact hr2.elim
    | _ => exact hr.elim
end
end Sw
namespace Pm
open PySem PySem.Spec PyProof.Rows L2 Sw
def rSetIL (K : PySem.W.Frag) (w : World) : List V → Hp → VK → Prop := fun vs H Q => ∃ (l : Addr) (ns : List Int), vs = [.ref l] ∧ SqL K H l (ns.map V.int) ∧ ns.length ≤ 60 ∧
  ∀ a c, H a = none → c ≤ ns.length → Q (.ref a) (upd H a (SetO w a (fun j => decide (j ∈ ns)) c))
section
variable {X : Cx} {zx : Exo} {W : WX}
theorem cr_setIL (hc : X.calm = true) : CallR X (.type "set") (rSetIL X.K X.w) := by
  intro pins s σ H vs us Q I r h
  obtain ⟨l, ns, rfl, hl, hn, q⟩ := h
  obtain ⟨its, rv, hp, _⟩ := I.list hl
  rw [Vals.ref1 r]
  refine call_set_intsL ns (I.ok.hd hc) hp.isList (by simpa using rv.ints) (by unfold scanBound; omega) ?_
  intro h' tk c hcl hS k
  exact ⟨.ref s.heap.objs.size, _, I.laid (t' := tk) (o := SetO X.w s.heap.objs.size (fun j => decide (j ∈ ns)) c) k (Nat.le_refl _) (setO_new hS), rfl, q _ c (I.hok.fresh (Nat.le_refl _)) hcl⟩
def phSSI : List Vl → Sto → Option Vl
  | [v], s => ((lsD v s).bind nums).bind fun ns => if ns.length ≤ 60 then some (.dat (.list ((risI ns).map PyData.int))) else none
  | _, _ => none
theorem de_ssi {e : Expr} {r : MA} {p p2 pos pos2 : Pos} (hc : X.calm = true) (hgs : Gl X "sorted") (hms : X.mg "sorted" = none) (hgt : Gl X "set") (hmt : X.mg "set" = none) (ha : DA X zx W [e] r)
    (he : starEach [e] X.env = (false, eval e X.env) :: starEach [] X.env := by rfl)
    (hs2 : starEach [Expr.Call (.Name "set" p2) [e] [] pos2] X.env = (false, eval (Expr.Call (.Name "set" p2) [e] [] pos2) X.env) :: starEach [] X.env := by rfl) :
    DE X zx W (.Call (.Name "sorted" p) [.Call (.Name "set" p2) [e] [] pos2] [] pos) (mn phSSI r) :=
  PE.imp (pe_callB (cr_sortedSet hc) hgs hms (by decide +kernel) (pa_cons (pe_callTy (cr_setIL hc) hgt hmt (by decide +kernel) ha (by decide) (by decide) he) pa_nil hs2) (by decide) (by decide) hs2) fun σ H Q ⟨β, ρ, s, hl, hs, hp⟩ => by
  refine ⟨β, ρ, s, hl, hs, Post.bind hp fun vs s1 β1 H1 us st1 hs1 r1 h1 => ?_⟩
  obtain ⟨z, ez, q⟩ := post_of h1 hs1
  unfold phSSI at ez
  split at ez
  · obtain ⟨ns, en, ez⟩ := Option.bind_eq_some_iff.mp ez
    obtain ⟨ds, el, en⟩ := Option.bind_eq_some_iff.mp en
    split at ez
    · rename_i hl60
      cases ez
      have := nums_eq en
      subst this
      obtain ⟨x, rfl, rx⟩ := rvs1 r1
      obtain ⟨a, xs, rfl, ha, dx⟩ := lsD_at hs1 rx el
      have := dq_ints_of dx
      subst this
      refine ⟨a, ns, rfl, SqL.of ha, hl60, fun t2 c ht2 hc2 => ?_⟩
      refine ⟨t2, _, c, rfl, upd_same, by omega, fun ms t3 hsd hm hlm ht3 => ?_⟩
      have em : ms = risI ns := ris_eq hsd (sorted_risI ns) fun k => by rw [hm, mem_risI]; simp
      subst em
      have sm := (same_new (o := SetO X.w t2 (fun j => decide (j ∈ ns)) c) ht2).trans (same_new (o := .lst ((risI ns).map V.int)) ht3)
      have hs3 := hs1.same (same_new (o := SetO X.w t2 (fun j => decide (j ∈ ns)) c) ht2)
      refine q _ _ sm (.lst ⟨upd_same, hs3.nin ht3, hs3.nig ht3⟩ ?_ (dq_ints _))
      rw [List.length_map]
      exact thou (Nat.le_trans (risI_len ns) (by omega))
    · cases ez
  · cases ez
def pair2L : PyData → Option (PyData × PyData)
  | .tuple [k, v] => if (keyQ k).isSome = true ∧ isO [k, v] = false ∧ isCst [k, v] = false then some (k, v) else none
  | _ => none
def pairs2L : List PyData → Option (List (PyData × PyData))
  | [] => some []
  | d :: r => (pair2L d).bind fun p => (pairs2L r).map (p :: ·)
def phDictL : List Vl → Sto → Option Vl
  | [v], s => ((lsD v s).bind pairs2L).map fun kvs => .dat (.dict (dMergeD kvs))
  | _, _ => none
theorem pairs2L_at {K : PySem.W.Frag} {H : Hp} {β : Bs} : ∀ {ds : List PyData} {xs : List V} {kvs : List (PyData × PyData)}, DqAll K H β xs ds → pairs2L ds = some kvs → ∃ (ps : List Addr) (ks : List (Key × V)), xs = ps.map V.ref ∧ Paired (fun p kv => SqT K H p [kV kv.1, kv.2]) ps ks ∧ KvR keyD (fun d v => Dq K H β v d) kvs ks
  | [], _, kvs, .nil, e => by cases e; exact ⟨[], [], rfl, .nil, .nil⟩
  | d :: ds, x :: xs, kvs, .cons h t, e => by
    obtain ⟨p, e1, e2⟩ := Option.bind_eq_some_iff.mp e
    obtain ⟨l, e3, rfl⟩ := Option.map_eq_some_iff.mp e2
    obtain ⟨ps, ks, rfl, h1, h2⟩ := pairs2L_at t e3
    unfold pair2L at e1
    split at e1
    · rename_i k v
      split at e1
      · rename_i hk
        cases e1
        obtain ⟨kk, ek⟩ := Option.isSome_iff_exists.mp hk.1
        cases h with
        | @tup a ys _ hx hz dx =>
          cases dx with
          | cons r1 dx =>
            cases dx with
            | cons r2 dx =>
              cases dx
              have := key_V r1 ek
              subst this
              exact ⟨a :: ps, (kk, _) :: ks, rfl, .cons hx.sqt h1, .cons ⟨keyQ_eq ek, r2⟩ h2⟩
      · cases e1
    · cases e1
theorem mc_dictL (hc : X.calm = true) : CallR X (.type "dict") (rn (cf X zx) phDictL) := by
  intro pins s σ H xs us Q I rx h
  obtain ⟨β, st, vs, z, hs, rv, e, q⟩ := h
  unfold phDictL at e
  split at e
  · obtain ⟨x, rfl, r1⟩ := rvs1 rv
    obtain ⟨kvs, ek, rfl⟩ := Option.map_eq_some_iff.mp e
    obtain ⟨ds, el, ek⟩ := Option.bind_eq_some_iff.mp ek
    obtain ⟨a, ys, rfl, ha, dx⟩ := lsD_at hs r1 el
    obtain ⟨ps, ks, rfl, h1, h2⟩ := pairs2L_at dx ek
    refine call_dictP hc pins s σ H _ us Q I rx ⟨a, ps, ks, rfl, SqL.of ha, h1, fun p hp => ?_⟩
    have mg : KvR keyD (fun d v => Dq X.K H β v d) (dMergeD kvs) (mergeK [] ks) := KvR.merge (kvs := kvs) .nil h2
    exact q _ _ (same_new hp) (Dq.dic ⟨upd_same, hs.nin hp, hs.nig hp⟩ (DqKv.of (Paired.mapP mg fun p q z => ⟨z.1, (Step.lay hp).dq z.2⟩)))
  · cases e
def phNeE : Vl → Vl → Sto → Option Vl
  | v, w, s => (dOf v s).bind fun p => (dOf w s).bind fun q => if p.1 = false ∧ q.1 = false ∧ q.2 = [] then some (.dat (.bool (!p.2.isEmpty))) else none
theorem mo_neE (hu : X.A.units + 64 < cLine) : OpR X (compareOp .NotEq) (r2 (cf X zx) phNeE) := by
  intro pins s σ H x y v u Q I rx ry h
  obtain ⟨β, st, a, b, z, hs, ra, rb, e, q⟩ := h
  unfold phNeE at e
  obtain ⟨⟨t1, k1⟩, e1, e⟩ := Option.bind_eq_some_iff.mp e
  obtain ⟨⟨t2, k2⟩, e2, e⟩ := Option.bind_eq_some_iff.mp e
  split at e
  · rename_i hc
    obtain ⟨rfl, rfl, rfl⟩ : t1 = false ∧ t2 = false ∧ k2 = [] := hc
    cases e
    obtain ⟨l1, rfl, d1⟩ := dOf_at hs ra e1
    obtain ⟨l2, rfl, d2⟩ := dOf_at hs rb e2
    cases d1 with
    | @k ks _ ea kva =>
      cases d2 with
      | @k ls _ eb kvb =>
        cases kvb
        obtain rfl : v = Value.ref l1 := rx
        obtain rfl : u = Value.ref l2 := ry
        obtain ⟨_, ya, va, ra, da⟩ := (show ObjOk X.prog X.w H s.heap l1 (.dK ks) from I.hok l1 _ ea)
        obtain ⟨_, yb, vb, rb, db⟩ := (show ObjOk X.prog X.w H s.heap l2 (.dK []) from I.hok l2 _ eb)
        cases rb
        have hl : va.length = ks.length := ra.length.symm
        have hk : k1.length = ks.length := kva.length
        refine PySem.W.keq_ne (knd := mixKind X.prog X.w) (r := true) ya yb da db (by omega) (fun e0 => ?_) ?_
        · have : va = [] := List.length_eq_zero_iff.mp e0
          subst this
          exact .nil
        · refine ⟨_, H, I, ?_, q H _ (Same.refl H) (.bl _)⟩
          show Value.bool _ = Value.bool _
          cases k1 with
          | nil =>
            have : va = [] := List.length_eq_zero_iff.mp (by rw [hl, ← hk]; rfl)
            subst this
            rfl
          | cons p r =>
            have : va.length ≠ 0 := by rw [hl, ← hk]; simp
            cases va with
            | nil => exact absurd rfl this
            | cons _ _ => rfl
  · cases e
end
end Pm
set_option maxRecDepth 100000
set_option maxHeartbeats 4000000
namespace Pm
open PySem PySem.Spec PyProof.Rows L2 Sw
open Classical in
noncomputable def phVals : Vl → Sto → Option Vl
  | .dat (.dict kvs), _ => if isT kvs = false ∧ (kvs.map fun p => p.1).Nodup ∧ kvs.length ≤ 1000 then some (.dat (.list (kvs.map fun p => p.2))) else none
  | _, _ => none
noncomputable def mVals (i j : Nat) : ME := fun ρ s => match ρ[j]? with
  | some _ => (mVar i ρ s).bind fun v s1 => R.of (phVals v s1) s1
  | none => .bad
theorem kvs_keys {K : PySem.W.Frag} {H : Hp} {β : Bs} {κ : Type} {f : κ → PyData} : ∀ {ks : List (κ × V)} {kvs : List (PyData × PyData)}, DqKv K H β κ f ks kvs → kvs.map (fun p => p.1) = ks.map fun q => f q.1
  | _, _, .nil => rfl
  | _, _, .cons h r => by rw [List.map_cons, List.map_cons, kvs_keys r]
theorem kvs_vals {K : PySem.W.Frag} {H : Hp} {β : Bs} {κ : Type} {f : κ → PyData} : ∀ {ks : List (κ × V)} {kvs : List (PyData × PyData)}, DqKv K H β κ f ks kvs → DqAll K H β (ks.map fun q => q.2) (kvs.map fun p => p.2)
  | _, _, .nil => .nil
  | _, _, .cons h r => .cons h (kvs_vals r)
theorem nodup_of_map {α γ : Type} {f : α → γ} : ∀ {l : List α}, (l.map f).Nodup → l.Nodup
  | [], _ => List.nodup_nil
  | a :: l, h => by
    rw [List.map_cons, List.nodup_cons] at h
    exact List.nodup_cons.mpr ⟨fun z => h.1 (List.mem_map_of_mem z), nodup_of_map h.2⟩
theorem val_at : ∀ {ks : List (Key × V)} {n : Nat} {k : Key} {v : V}, (ks.map fun q => q.1).Nodup → ks[n]? = some (k, v) → valV ks k = some v
  | [], n, k, v, _, h => by simp at h
  | q :: ks, 0, k, v, nd, h => by
    have e : q = (k, v) := by simpa using h
    subst e
    exact valV_pos rfl
  | q :: ks, n + 1, k, v, nd, h => by
    rw [List.map_cons, List.nodup_cons] at nd
    have h2 : ks[n]? = some (k, v) := by simpa using h
    have hm : k ∈ ks.map fun q => q.1 := List.mem_map.mpr ⟨_, List.mem_of_getElem? h2, rfl⟩
    rw [valV_neg (fun e => nd.1 (e ▸ hm))]
    exact val_at nd.2 h2
section
variable {X : Cx} {zx : Exo} {W : WX}
theorem de_vals {i j : Nat} {x k : Str} {scope : Scope} {p1 p2 p3 p4 p5 pos : Pos} (hc : X.calm = true) (hN : X.N.Nodup) (hu : X.A.units + 64 < cLine) (hi : PE X (.Name x p5) (tVar i)) (ok : BlkOk X.N X.env.scope scope [(k, j)])
    (hg : ∀ (s : Shared) (H : Hp) (C : Addr) (cl : List (Str × Addr)) (fp : List Addr), PG (X.blk s H scope (compEnvC scope cl C X.env) fp) (.Name k p4) (gName j))
    (hd : ∀ (s : Shared) (H : Hp) (C : Addr) (cl : List (Str × Addr)) (fp : List Addr), PE (X.blk s H scope (compEnvC scope cl C X.env) fp) (.Name x p1) (tVar i))
    (hk : ∀ (s : Shared) (H : Hp) (C : Addr) (cl : List (Str × Addr)) (fp : List Addr), PE (X.blk s H scope (compEnvC scope cl C X.env) fp) (.Name k p2) (tVar j)) (hij : i ≠ j)
    (hs : ∀ y, foldedSetIterable (.Name x p5) X.env y = pure y := by intro _; rfl) :
    DE X zx W (.ListComp (.Subscript (.Name x p1) (.Name k p2) p3) [⟨.Name k p4, .Name x p5, [], 0⟩] scope pos) (mVals i j) :=
  PE.imp (pe_lock (pe_lc hc hN (pi_keys hi) ok hg (fun _ _ _ _ _ => pts_nil) (fun s H C cl fp => pe_dget (show X.A.units + 1 < cLine by omega) (hd s H C cl fp) (hk s H C cl fp) (fun _ _ => rfl)) hs)) fun σ H Q ⟨β, ρ, st, hl, hs, hp⟩ => by
  unfold mVals at hp
  cases ej : ρ[j]? with
  | none => rw [ej] at hp; exact hp.elim
  | some oj =>
    rw [ej] at hp
    have hp : Post (cf X zx) (Rv (cf X zx)) W σ β H Q ((mVar i ρ st).bind fun v s1 => R.of (phVals v s1) s1) := hp
    have hj : j < σ.length := by
      rw [← hl.len]
      exact (List.getElem?_eq_some_iff.mp ej).1
    unfold mVar at hp
    split at hp
    rotate_left
    · exact hp.elim
    rename_i v ei
    obtain ⟨u, h1, h2⟩ := hl.at' i v ei
    have hp : Post (cf X zx) (Rv (cf X zx)) W σ β H Q (R.of (phVals v st) st) := hp
    cases ez : phVals v st with
    | none => rw [ez] at hp; exact hp.elim
    | some z =>
      rw [ez] at hp
      unfold phVals at ez
      split at ez
      rotate_left
      · cases ez
      rename_i kvs
      split at ez
      rotate_left
      · cases ez
      rename_i hcond
      cases ez
      obtain ⟨c1, c2, c3⟩ := hcond
      cases h2 with
      | dit _ _ => cases c1
      | @dic a ks _ hd dk =>
        have ha : H a = some (.dK ks) := hd.1
        have nd : (ks.map fun q => q.1).Nodup := by
          rw [kvs_keys dk] at c2
          have : ks.map (fun q => keyD q.1) = (ks.map fun q => q.1).map keyD := by rw [List.map_map]; rfl
          rw [this] at c2
          exact nodup_of_map c2
        have hlen : ks.length = kvs.length := by
          have := congrArg List.length (kvs_keys dk)
          simpa using this.symm
        refine ⟨a, .dK ks, ha, trivial, fun od => ⟨.ref a, h1, a, od, rfl, .inl ⟨ks, upd_same, fun D hD => ?_⟩⟩⟩
        have hDa : D ≠ a := fun e => by rw [e, upd_same] at hD; cases hD
        have hD0 : H D = none := by rwa [upd_ne hDa] at hD
        refine ⟨fun n m H' => n ≤ ks.length ∧ m = ks.length - n ∧ H' = upd (upd H a (.frz od (.dK ks))) D (.lst ((ks.take n).map fun q => q.2)), ⟨_, Nat.zero_le _, rfl, rfl⟩, ?_⟩
        rintro n m H' ⟨hn, rfl, rfl⟩
        have hF : upd (upd H a (.frz od (.dK ks))) D (.lst ((ks.take n).map fun q => q.2)) a = some (.frz od (.dK ks)) := by rw [upd_ne (Ne.symm hDa), upd_same]
        by_cases e : n = ks.length
        · subst e
          refine .inl ⟨⟨hF, Nat.le_refl _⟩, hF, ?_⟩
          have eH : upd (upd (upd H a (.frz od (.dK ks))) D (.lst ((ks.take ks.length).map fun q => q.2))) a (.dK ks) = upd H D (.lst (ks.map fun q => q.2)) := by
            funext b
            by_cases hb : b = a
            · subst hb
              rw [upd_same, upd_ne (Ne.symm hDa), ha]
            · rw [upd_ne hb]
              by_cases hb2 : b = D
              · subst hb2
                rw [upd_same, upd_same, List.take_length]
              · rw [upd_ne hb2, upd_ne hb2, upd_ne hb]
          rw [eH]
          exact hp β _ _ (Step.lay hD0) (hs.same (same_new hD0)) (Dq.lst ⟨upd_same, hs.nin hD0, hs.nig hD0⟩ (by rw [List.length_map]; exact thou c3) ((Step.lay hD0).dqs (kvs_vals dk)))
        · have hlt : n < ks.length := by omega
          refine .inr ⟨⟨hF, hlt⟩, fun H'' => H'' = upd (upd H a (.frz od (.dK ks))) D (.lst ((ks.take (n + 1)).map fun q => q.2)), fun H'' e2 => ⟨ks.length - (n + 1), by omega, by omega, rfl, e2⟩, ?_⟩
          rintro y H'' ⟨rfl, kk, vv, hkv, rfl⟩
          have hw : (wipe σ [j]).set j (some (kV kk)) = σ.set j (some (kV kk)) := by
            show (σ.set j none).set j _ = _
            rw [List.set_set]
          show wipe ((wipe σ [j]).set j (some (kV kk))) [j] = wipe σ [j] ∧ _
          rw [hw]
          refine ⟨by show (σ.set j _).set j none = σ.set j none; rw [List.set_set], ?_⟩
          unfold tYes
          dsimp only
          rw [if_pos rfl]
          rw [show List.set (wipe σ (List.map (fun x => x.snd) [(k, j)])) j (some (kV kk)) = σ.set j (some (kV kk)) from hw]
          refine ⟨.ref a, by rw [List.getElem?_set_ne (Ne.symm hij)]; exact h1, kV kk, by rw [List.getElem?_set_self hj], a, vv, rfl, .inl ⟨ks, kk, .inr ⟨od, hF⟩, rfl, (val_at nd hkv).symm⟩, _, upd_same, ?_, ?_⟩
          · rw [List.length_map, List.length_take]
            have := thou (show ks.length ≤ 1000 by omega)
            rw [sizeLine_eq] at this ⊢
            omega
          · show upd _ D _ = _
            rw [List.take_succ, hkv, List.map_append]
            funext b
            by_cases hb : b = D
            · subst hb
              rw [upd_same, upd_same]
              rfl
            · rw [upd_ne hb, upd_ne hb, upd_ne hb]
end
end Pm
set_option maxRecDepth 100000
set_option maxHeartbeats 4000000
namespace Pm
open PySem PySem.Spec PyProof.Rows L2 Sw
noncomputable def ct_frontier_1 (v_around : Vl) (v_other : Vl) : Sto → R Bool := fun s => (R.of ((phIn true) v_other v_around s) s).bind fun x5 s6 => R.of (bool? x5) s6
noncomputable def ce_frontier_2  (v_other : Vl) : Sto → R Vl := fun s => R.ok v_other s
noncomputable def ci_frontier_3 (v_code : Vl) (v_name : Vl) (v_other : Vl) : Sto → R Src := fun s => (callN 3 G_nexts [v_code, v_name, v_other] s).bind fun x8 s9 => R.of (src x8 s9) s9
noncomputable def ce_frontier_4  (v_goal : Vl) : Sto → R Vl := fun s => R.ok v_goal s
noncomputable def ct_frontier_5 (v_block : Vl) (v_under : Vl) (v_goal : Vl) : Sto → R Bool := fun s => ((R.of (phEq v_goal v_block s) s).bind fun x10 s11 => R.of (bool? x10) s11).bind fun c12 s13 => if c12 = true then R.ok true s13 else (R.of ((phIn true) v_goal v_under s13) s13).bind fun x14 s15 => R.of (bool? x14) s15
noncomputable def ce_frontier_6  (v_goal : Vl) : Sto → R Vl := fun s => R.ok v_goal s
noncomputable def n_frontier (v_code : Vl) (v_name : Vl) (v_block : Vl) : Sto → An Unit Empty := fun s =>
  (callN 3 G_led_around [v_code, v_name, v_block] s).an fun v_around s1 =>
    (lcP ((callN 2 G_reached [v_code, v_name] s1).bind fun x3 s4 => R.of (src x3 s4) s4) pV (fun p s => ct_frontier_1 v_around p s) (fun p s => ce_frontier_2 p s)).an fun v_under s2 =>
    (lcPN2 (R.of (src v_under s2) s2) pV (fun p s => R.ok true s) (fun p s => ci_frontier_3 v_code v_name p s) pV (fun p q s => R.ok true s) (fun p q s => ce_frontier_4 q s)).an fun v_behind s7 =>
    (((((lcP (R.of (src v_behind s7) s7) pV (fun p s => ct_frontier_5 v_block v_under p s) (fun p s => ce_frontier_6 p s)).bind fun x16 s17 => R.ok [x16] s17).bind fun l18 s19 => R.of (phSSI l18 s19) s19).bind fun x20 s21 => R.ok [x20] s21).bind fun l22 s23 => R.of (phTuple l22 s23) s23).an fun x24 s25 => .rt x24 s25
noncomputable def r_frontier : MF := runN fun xs => match xs with
  | [v_code, v_name, v_block] => n_frontier v_code v_name v_block
  | _ => fun _ => .bad
noncomputable def G_frontier : MF := frameG (r_frontier)
section
variable {P P1 α β : Type} {ok : Sto → Prop} {pat : Vl → Option P} {t : P → Sto → R Bool} {it1 : P → Sto → R Src} {pat1 : Vl → Option P1} {e : P → P1 → Sto → R Vl}
theorem compP2_pure {s : Sto} (f : α → Vl) (p : α → P) (ys : α → List β) (g : α → β → Vl) (q : α → β → P1) (z : α → β → PyData) (hok : ok s) : ∀ (l : List α) (acc : List Vl), (∀ x ∈ l, pat (f x) = some (p x) ∧ t (p x) s = .ok true s ∧ it1 (p x) s = .ok ⟨(ys x).map (g x), none⟩ s ∧ ∀ y ∈ ys x, pat1 (g x y) = some (q x y) ∧ e (p x) (q x y) s = .ok (.dat (z x y)) s) →
    acc.length + (l.flatMap fun x => (ys x).map fun y => z x y).length ≤ mil → compP2 ok pat t it1 pat1 (fun _ _ s => .ok true s) e (l.map f) acc s = .ok (acc ++ (l.flatMap fun x => (ys x).map fun y => z x y).map Vl.dat) s
  | [], acc, _, _ => by rw [List.map_nil, compP2, if_pos hok]; simp
  | x :: l, acc, h, hl => by
    obtain ⟨h1, h2, h3, h4⟩ := h x List.mem_cons_self
    rw [List.flatMap_cons, List.length_append, List.length_map] at hl
    have e1 := compP_pure (ok := Src.ok ⟨(ys x).map (g x), none⟩) (pat := pat1) (t := fun _ s => .ok true s) (e := e (p x)) (s := s) (g x) (q x) (fun _ => true) (fun y => .dat (z x y)) trivial (ys x) acc (fun y hy => ⟨(h4 y hy).1, rfl, fun _ => (h4 y hy).2⟩) (by omega)
    rw [filter_true] at e1
    have ih := compP2_pure f p ys g q z hok l (acc ++ (ys x).map fun y => .dat (z x y)) (fun y hy => h y (List.mem_cons_of_mem _ hy)) (by rw [List.length_append, List.length_map]; omega)
    rw [List.map_cons, compP2, if_pos hok, h1]
    simp only [h2, h3]
    show inC (compP (Src.ok ⟨(ys x).map (g x), none⟩) pat1 (fun _ s => R.ok true s) (e (p x)) ((ys x).map (g x)) acc s) _ = _
    rw [e1]
    show compP2 ok pat t it1 pat1 (fun _ _ s => .ok true s) e (l.map f) (acc ++ (ys x).map fun y => .dat (z x y)) s = _
    rw [ih, List.flatMap_cons, List.map_append, List.append_assoc, List.map_map]
    rfl
theorem lcPN2_pure {s : Sto} {a' : Option (Nat × List Vl)} {l : List α} (f : α → Vl) (p : α → P) (ys : α → List β) (g : α → β → Vl) (q : α → β → P1) (z : α → β → PyData) (hok : Src.ok ⟨l.map f, a'⟩ s) (h : ∀ x ∈ l, pat (f x) = some (p x) ∧ t (p x) s = .ok true s ∧ it1 (p x) s = .ok ⟨(ys x).map (g x), none⟩ s ∧ ∀ y ∈ ys x, pat1 (g x y) = some (q x y) ∧ e (p x) (q x y) s = .ok (.dat (z x y)) s)
    (hl : (l.flatMap fun x => (ys x).map fun y => z x y).length ≤ mil) : lcPN2 (.ok ⟨l.map f, a'⟩ s) pat t it1 pat1 (fun _ _ s => .ok true s) e = .ok (.ref s.length) (s ++ [.lst ((l.flatMap fun x => (ys x).map fun y => z x y).map Vl.dat)]) := by
  unfold lcPN2
  rw [R.bind_ok]
  show (compP2 (Src.ok ⟨l.map f, a'⟩) pat t it1 pat1 (fun _ _ s => R.ok true s) e (l.map f) [] s).bind _ = _
  rw [compP2_pure f p ys g q z hok l [] h (by simpa using hl), R.bind_ok, List.nil_append]
  unfold finN
  rw [if_pos (show okL _ = true from List.all_eq_true.mpr fun v hv => by obtain ⟨x, _, rfl⟩ := List.mem_map.mp hv; rfl)]
end
def Und (bs : List Blk) (b y : Int) : Prop := Rch bs y ∧ ¬RchO bs b y
def Frt (bs : List Blk) (b x : Int) : Prop := ∃ y, Und bs b y ∧ x ∈ goalsB bs y ∧ (x = b ∨ ¬Und bs b x)
theorem Frt.rch {bs : List Blk} {b x : Int} (h : Frt bs b x) : Rch bs x := by
  obtain ⟨y, h1, h2, _⟩ := h
  exact .step h1.1 (mem_goalsB.mp h2)
theorem phSSI_l {ns : List Int} {s : Sto} (h : ns.length ≤ 60) : phSSI [.dat (.list (ns.map PyData.int))] s = some (.dat (.list ((risI ns).map PyData.int))) := by
  simp [phSSI, lsD, h]
theorem G_frontier_eq {c : Cod} {nm : Str} {bs : List Blk} (hc : c.rts.lookup nm = some bs) (ok : GoIn bs) (few : bs.length ≤ 30) (b : Int) : ∃ R : List Int, R.Pairwise (· < ·) ∧ (∀ x, x ∈ R ↔ Frt bs b x) ∧ ∀ s, G_frontier [.dat c.d, .dat (.str nm), .dat (.int b)] s = .ok (.dat (intsD R)) s := by
  obtain ⟨K, F, ek⟩ := G_led3_eq hc ok (by omega) b
  obtain ⟨Ro, r1, r2, er⟩ := G_reached_eq hc ok (by omega)
  obtain ⟨U, hU⟩ : ∃ U, U = Ro.filter fun x => !decide (x ∈ K.map (·.1)) := ⟨_, rfl⟩
  have mU : ∀ x, x ∈ U ↔ Und bs b x := fun x => by
    rw [hU, List.mem_filter, r2]
    simp only [Bool.not_eq_true', decide_eq_false_iff_not, F.mem]
    rfl
  obtain ⟨B, hB⟩ : ∃ B, B = U.flatMap fun x => goalsB bs x := ⟨_, rfl⟩
  have lU : U.length ≤ 30 := by
    have nd : U.Nodup := by
      rw [hU]
      exact ((r1.imp fun {a b} h => (Int.ne_of_lt h : a ≠ b)).filter _)
    have := few_in nd fun x hx => ((mU x).mp hx).1.in ok
    omega
  have lB : B.length ≤ 60 := by
    have : ∀ l : List Int, (l.flatMap fun x => goalsB bs x).length ≤ 2 * l.length := by
      intro l
      induction l with
      | nil => simp
      | cons x l ih =>
        have := goalsB_len (bs := bs) (b := x)
        rw [List.flatMap_cons, List.length_append, List.length_cons]
        omega
    have := this U
    rw [hB]; omega
  obtain ⟨Z, hZ⟩ : ∃ Z, Z = B.filter fun x => decide (x = b) || !decide (x ∈ U) := ⟨_, rfl⟩
  have lZ : Z.length ≤ 60 := by
    rw [hZ]
    exact Nat.le_trans (List.length_filter_le _ _) lB
  refine ⟨risI Z, sorted_risI Z, fun x => ?_, fun s => fr0 (s2 := [.lst ((B.map PyData.int).map Vl.dat)]) ?_⟩
  · rw [mem_risI, hZ, List.mem_filter, hB, List.mem_flatMap]
    simp only [Bool.or_eq_true, decide_eq_true_eq, Bool.not_eq_true', decide_eq_false_iff_not, mU]
    constructor
    · rintro ⟨⟨y, h1, h2⟩, h3⟩
      exact ⟨y, h1, h2, h3⟩
    · rintro ⟨y, h1, h2, h3⟩
      exact ⟨⟨y, h1, h2⟩, h3⟩
  · rw [r_frontier, runN_ap]
    refine wp_of (Q := fun z => An.fin z = _) ?_
    simp only [n_frontier]
    refine wp_an (a := .dat (kvD K)) (s := []) (by simp [ek]) ?_
    refine wp_an (a := .dat (.list (U.map .int))) (s := []) ?_ ?_
    · have e1 := lcP_pure (pat := pV) (t := fun p s => ct_frontier_1 (.dat (kvD K)) p s) (e := fun p s => ce_frontier_2 p s) (s := []) (a' := none) (l := Ro) (fun x => Vl.dat (.int x)) (fun x => Vl.dat (.int x)) (fun x => !decide (x ∈ K.map (·.1))) (fun x => .int x) trivial (fun x hx => ⟨rfl, by
        simp only [ct_frontier_1, phIn_kvD, R.of_some, R.bind_ok, if_true, bool?_b], fun _ => rfl⟩) (th_mil (by
        have := few_in (r1.imp fun {a b} h => (Int.ne_of_lt h : a ≠ b)) fun x hx => ((r2 x).mp hx).in ok
        omega))
      rw [← hU] at e1
      simp [er, intsD, src, Function.comp_def, e1]
    have e2 := lcPN2_pure (pat := pV) (t := fun _ s => R.ok true s) (it1 := fun p s => ci_frontier_3 (.dat c.d) (.dat (.str nm)) p s) (pat1 := pV) (e := fun _ q s => ce_frontier_4 q s) (s := []) (a' := none) (l := U) (fun x => Vl.dat (.int x)) (fun x => Vl.dat (.int x)) (fun x => goalsB bs x) (fun _ y => Vl.dat (.int y)) (fun _ y => Vl.dat (.int y)) (fun _ y => .int y) trivial (fun x hx => ⟨rfl, rfl, by
      have hi := ((mU x).mp hx).1.in ok
      obtain ⟨k, hk, _⟩ := atI_in hi.1 hi.2
      have eg : goalsB bs x = k.fin.goals := by unfold goalsB; rw [hk]
      simp [ci_frontier_3, G_nexts_eq hc hk, intsD, src, eg, Function.comp_def], fun y _ => ⟨rfl, rfl⟩⟩) (by
      have : (U.flatMap fun x => (goalsB bs x).map fun y => PyData.int y) = B.map .int := by rw [hB, List.map_flatMap]
      rw [this, List.length_map]
      exact th_mil (by omega))
    have eB : (U.flatMap fun x => (goalsB bs x).map fun y => PyData.int y) = B.map .int := by rw [hB, List.map_flatMap]
    rw [eB] at e2
    refine wp_an (a := .ref 0) (s := [.lst ((B.map PyData.int).map Vl.dat)]) (by simpa [src, Function.comp_def] using e2) ?_
    have e3 := lcP_pure (pat := pV) (t := fun p s => ct_frontier_5 (.dat (.int b)) (.dat (.list (U.map .int))) p s) (e := fun p s => ce_frontier_6 p s) (s := [.lst ((B.map PyData.int).map Vl.dat)]) (a' := some (0, (B.map PyData.int).map Vl.dat)) (l := B) (fun x => Vl.dat (.int x)) (fun x => Vl.dat (.int x)) (fun x => decide (x = b) || !decide (x ∈ U)) (fun x => .int x) (by simp [Src.ok, Function.comp_def]) (fun x hx => ⟨rfl, by
        by_cases h : x = b
        · subst h
          simp [ct_frontier_5]
        · simp [ct_frontier_5, h, phIn_l], fun _ => rfl⟩) (th_mil (by omega))
    rw [← hZ] at e3
    simp only [Wp]
    have e4 : src (.ref 0) [.lst ((B.map PyData.int).map Vl.dat)] = some ⟨B.map fun x => Vl.dat (.int x), some (0, (B.map PyData.int).map Vl.dat)⟩ := by simp [src, Function.comp_def]
    rw [e4, R.of_some, e3, R.bind_ok, R.bind_ok, phSSI_l lZ, R.of_some, R.bind_ok, R.bind_ok]
    rfl
end Pm
set_option maxRecDepth 100000
set_option maxHeartbeats 4000000
namespace Pm
open PySem PySem.Spec PyProof.Rows L2 Sw
def mk_frontier_again_1 (v_code : Vl) (v_name : Vl) (v_found : Vl) (v_todo : Vl) : Unit → Loc := fun a => [some v_code, some v_name, none, some v_found, some v_todo, none]
noncomputable def tb_frontier_again_1 (v_code : Vl) (v_name : Vl) (v_found : Vl) (v_todo : Vl) : Sto → R Bool := fun s => R.of (tru v_todo s) s
def mk_frontier_again_2 (v_code : Vl) (v_name : Vl) (v_found : Vl) (v_todo : Vl) : Unit → Loc := fun a => [some v_code, some v_name, none, some v_found, some v_todo, none]
noncomputable def nb_frontier_again_2 (v_code : Vl) (v_name : Vl) (v_found : Vl) (v_todo : Vl) (v_goal : Vl) : Sto → An Unit Unit := fun s =>
  ((R.of ((phIn true) v_goal v_found s) s).bind fun x13 s14 => R.of (bool? x13) s14).an fun c15 s16 => if c15 = true then
    (R.ok (Vl.dat (.bool true)) s16).an fun x17 s18 => stoN (subU (R.ok v_found s18) (fun z => R.ok v_goal z) x17) fun s19 =>
      (appN v_todo s19 (fun s20 => R.ok [v_goal] s20)).an fun _ s21 =>
      .nx () s21
    else
    .nx () s16
noncomputable def lp_frontier_again_2 {L : Type} (v_code : Vl) (v_name : Vl) (v_found : Vl) (v_todo : Vl) (ck : Sto → Prop) : List Vl → Unit → Sto → An Unit L := forN ck (mk_frontier_again_2 v_code v_name v_found v_todo) (fun v a s => patN (pV v) fun p => nb_frontier_again_2 v_code v_name v_found v_todo p s)
@[simp] theorem lp_frontier_again_2_nil {L : Type} (v_code : Vl) (v_name : Vl) (v_found : Vl) (v_todo : Vl) {a : Unit} {s : Sto} : (lp_frontier_again_2 (L := L) v_code v_name v_found v_todo okT [] a s) = .nx a s := forN_nil
theorem lp_frontier_again_2_cons {L : Type} (v_code : Vl) (v_name : Vl) (v_found : Vl) (v_todo : Vl) {v : Vl} {r : List Vl} {a : Unit} {s : Sto} : (lp_frontier_again_2 (L := L) v_code v_name v_found v_todo okT (v :: r) a s) = (patN (pV v) fun p => nb_frontier_again_2 v_code v_name v_found v_todo p s).lp (mk_frontier_again_2 v_code v_name v_found v_todo) s.length (lp_frontier_again_2 v_code v_name v_found v_todo okT r) := forN_cons
noncomputable def kt_frontier_again_1 (v_code : Vl) (v_name : Vl) (v_found : Vl) (v_todo : Vl) : Sto → An Unit Unit := fun s =>
  .nx () s
noncomputable def nb_frontier_again_1 (v_code : Vl) (v_name : Vl) (v_found : Vl) (v_todo : Vl) : Sto → An Unit Unit := fun s =>
  (((((((popN v_todo s).bind fun x3 s4 => R.ok [x3] s4).bind fun l5 s6 => R.ok (v_name :: l5) s6).bind fun l7 s8 => R.ok (v_code :: l7) s8).bind fun l9 s10 => callN 3 G_frontier l9 s10).bind fun x11 s12 => R.of (src x11 s12) s12).an fun c22 s23 => lp_frontier_again_2 v_code v_name v_found v_todo c22.ok c22.items () s23).thn fun j24 s25 => kt_frontier_again_1 v_code v_name v_found v_todo  s25
noncomputable def wl_frontier_again_1 {L : Type} (v_code : Vl) (v_name : Vl) (v_found : Vl) (v_todo : Vl) : Unit → Sto → An Unit L := whl (mk_frontier_again_1 v_code v_name v_found v_todo) (fun a s => tb_frontier_again_1 v_code v_name v_found v_todo s) (fun a s => nb_frontier_again_1 v_code v_name v_found v_todo s)
theorem wl_frontier_again_1_un {L : Type} (v_code : Vl) (v_name : Vl) (v_found : Vl) (v_todo : Vl) {a : Unit} {s : Sto} : (wl_frontier_again_1 (L := L) v_code v_name v_found v_todo a s) = (tb_frontier_again_1 v_code v_name v_found v_todo s).an fun c s1 => if c = true then (nb_frontier_again_1 v_code v_name v_found v_todo s1).lp (mk_frontier_again_1 v_code v_name v_found v_todo) s1.length (wl_frontier_again_1 v_code v_name v_found v_todo) else .nx a s1 := whl_unfold
noncomputable def kt_frontier_again_2 (v_code : Vl) (v_name : Vl) (v_found : Vl) (v_todo : Vl) : Sto → An Unit Empty := fun s =>
  (((R.of (phSorted [v_found] s) s).bind fun x28 s29 => R.ok [x28] s29).bind fun l30 s31 => R.of (phTuple l30 s31) s31).an fun x32 s33 => .rt x32 s33
noncomputable def n_frontier_again (v_code : Vl) (v_name : Vl) (v_blocks : Vl) : Sto → An Unit Empty := fun s =>
  (R.ok (.ref s.length) (s ++ [.dic false []])).an fun v_found s1 =>
    (okN (listK [v_blocks] s1)).an fun v_todo s2 =>
    (wl_frontier_again_1 v_code v_name v_found v_todo () s2).thn fun j26 s27 => kt_frontier_again_2 v_code v_name v_found v_todo  s27
noncomputable def r_frontier_again : MF := runN fun xs => match xs with
  | [v_code, v_name, v_blocks] => n_frontier_again v_code v_name v_blocks
  | _ => fun _ => .bad
noncomputable def G_frontier_again : MF := frameG (r_frontier_again)
inductive Cl (bs : List Blk) (G : List Int) : Int → Prop
  | base {g x : Int} : g ∈ G → Frt bs g x → Cl bs G x
  | step {y x : Int} : Cl bs G y → Frt bs y x → Cl bs G x
theorem Cl.rch {bs : List Blk} {G : List Int} {x : Int} (h : Cl bs G x) : Rch bs x := by
  cases h with
  | base _ h => exact h.rch
  | step _ h => exact h.rch
/-- what is found and what is left -/
structure ClI (bs : List Blk) (G F T : List Int) : Prop where
  nd : F.Nodup
  cl : ∀ x ∈ F, Cl bs G x
  tin : ∀ x ∈ T, x ∈ G ∨ x ∈ F
  done : ∀ x, x ∈ G ∨ x ∈ F → x ∈ T ∨ ∀ y, Frt bs x y → y ∈ F
theorem ClI.start {bs : List Blk} {G : List Int} : ClI bs G [] G := ⟨List.nodup_nil, (fun _ h => by cases h), (fun _ h => .inl h), fun _ h => .inl (h.elim id fun z => by cases z)⟩
theorem ClI.len {bs : List Blk} (ok : GoIn bs) {G F T : List Int} (h : ClI bs G F T) : F.length ≤ bs.length := few_in h.nd fun x hx => (h.cl x hx).rch.in ok
theorem ClI.fin {bs : List Blk} {G F : List Int} (h : ClI bs G F []) : ∀ x, x ∈ F ↔ Cl bs G x := fun x => ⟨h.cl x, fun c => by
  induction c with
  | base hg hf => exact ((h.done _ (.inl hg)).resolve_left (by simp)) _ hf
  | step _ hf ih => exact ((h.done _ (.inr ih)).resolve_left (by simp)) _ hf⟩
/-- one is taken up, and its front added -/
theorem ClI.next {bs : List Blk} {G F T N : List Int} {b : Int} (h : ClI bs G F (T ++ [b])) (nd : (F ++ N).Nodup) (hN : ∀ x ∈ N, Frt bs b x) (all : ∀ y, Frt bs b y → y ∈ F ++ N) : ClI bs G (F ++ N) (T ++ N) := by
  have hb : ∀ x, Frt bs b x → Cl bs G x := fun x hx => (h.tin b (by simp)).elim (fun z => .base z hx) (fun z => .step (h.cl b z) hx)
  refine ⟨nd, fun x hx => ?_, fun x hx => ?_, fun x hx => ?_⟩
  · rcases List.mem_append.mp hx with hx | hx
    · exact h.cl x hx
    · exact hb x (hN x hx)
  · rcases List.mem_append.mp hx with hx | hx
    · exact (h.tin x (List.mem_append_left _ hx)).imp_right (List.mem_append_left _)
    · exact .inr (List.mem_append_right _ hx)
  · by_cases e : x = b
    · subst e
      exact .inr all
    · have old : x ∈ G ∨ x ∈ F → x ∈ T ++ N ∨ ∀ y, Frt bs x y → y ∈ F ++ N := fun z => (h.done x z).elim (fun z => .inl (List.mem_append_left _ ((List.mem_append.mp z).resolve_right (by simpa using e)))) (fun z => .inr fun y hy => List.mem_append_left _ (z y hy))
      rcases hx with hx | hx
      · exact old (.inl hx)
      · rcases List.mem_append.mp hx with hx | hx
        · exact old (.inr hx)
        · exact .inl (List.mem_append_right _ hx)
def tK (F : List Int) : List (Int × PyData) := F.map fun x => (x, .bool true)
theorem tK_keys {F : List Int} : (tK F).map (·.1) = F := by
  unfold tK
  rw [List.map_map]
  exact List.map_id F
theorem pop_in {D : Ob} {T : List Int} {b : Int} : popN (.ref 1) [D, inL (T ++ [b])] = .ok (.dat (.int b)) [D, inL T] := by
  have em : (T ++ [b]).map (fun x => Vl.dat (.int x)) = T.map (fun x => Vl.dat (.int x)) ++ [.dat (.int b)] := by rw [List.map_append]; rfl
  show (match ((T ++ [b]).map fun x => Vl.dat (.int x))[((T ++ [b]).map fun x => Vl.dat (.int x)).length - 1]? with
    | some y => R.ok y [D, .lst ((T ++ [b]).map fun x => Vl.dat (.int x)).dropLast]
    | none => .bad) = _
  rw [em, List.length_append, List.length_singleton, Nat.add_sub_cancel, List.dropLast_concat]
  rw [List.getElem?_append_right (Nat.le_refl _), Nat.sub_self]
  rfl
theorem app_in1 {D : Ob} {w : List Int} {x : Int} (h : w.length ≤ 900) : appN (.ref 1) [D, inL w] (fun s => R.ok [.dat (.int x)] s) = .ok (.dat .none) [D, inL (w ++ [x])] := by
  rw [app_go (n := 1) (l0 := w.map fun x => .dat (.int x)) (l := w.map fun x => .dat (.int x)) (w := .dat (.int x)) (s2 := [D, inL w]) rfl rfl rfl (by rw [List.length_map]; omega) rfl]
  show R.ok _ [D, Ob.lst ((w.map fun x => Vl.dat (.int x)) ++ [.dat (.int x)])] = _
  rw [inL, List.map_append]
  rfl
section
variable {c nm : Vl}
theorem nb_fa2 {F T : List Int} {g : Int} (hK : F.length ≤ 900) (hT : T.length ≤ 900) :
    nb_frontier_again_2 c nm (.ref 0) (.ref 1) (.dat (.int g)) [kvL (tK F), inL T] = if g ∈ F then .nx () [kvL (tK F), inL T] else .nx () [kvL (tK (F ++ [g])), inL (T ++ [g])] := by
  have hin : ∀ neg, phIn neg (.dat (.int g)) (.ref 0) [kvL (tK F), inL T] = some (.dat (.bool (if neg = true then !decide (g ∈ F) else decide (g ∈ F)))) := fun neg => by rw [phIn_kv, tK_keys]
  by_cases h : g ∈ F
  · rw [if_pos h]
    simp only [nb_frontier_again_2, hin, R.of_some, R.bind_ok, bool?_b, if_true, decide_eq_true h, R.an_ok]
    simp
  · rw [if_neg h]
    have hs : subU (.ok (.ref 0) [kvL (tK F), inL T]) (fun z => .ok (.dat (.int g)) z) (.dat (.bool true)) = some [kvL (tK (F ++ [g])), inL T] := by
      show (if kOk false (.int g) = true ∧ noX (.dat (.bool true)) = true ∧ ((tK F).map fun p => (PyData.int p.1, Vl.dat p.2)).length < mil then some [Ob.dic false (dPut ((tK F).map fun p => (PyData.int p.1, Vl.dat p.2)) (.int g) (.dat (.bool true))), inL T] else none) = _
      rw [if_pos ⟨rfl, rfl, by rw [List.length_map, tK, List.length_map]; have := th_mil (n := 901) (by decide); omega⟩, dPut_int (by rw [tK_keys]; exact h)]
      simp only [kvL, tK, List.map_append]
      rfl
    simp only [nb_frontier_again_2, hin, R.of_some, R.bind_ok, bool?_b, if_true, decide_eq_false h, R.an_ok, Bool.not_false, hs, stoN_some, app_in1 hT]
theorem lp_fa2 {L : Type} : ∀ (gs F T : List Int), F.length + gs.length ≤ 900 → T.length + gs.length ≤ 900 → F.Nodup →
    ∃ N : List Int, (lp_frontier_again_2 (L := L) c nm (.ref 0) (.ref 1) okT (gs.map fun g => .dat (.int g)) () [kvL (tK F), inL T]) = .nx () [kvL (tK (F ++ N)), inL (T ++ N)] ∧ (F ++ N).Nodup ∧ (∀ x ∈ N, x ∈ gs) ∧ ∀ g ∈ gs, g ∈ F ++ N
  | [], F, T, _, _, nd => ⟨[], by rw [List.map_nil, lp_frontier_again_2_nil, List.append_nil, List.append_nil], by rw [List.append_nil]; exact nd, (fun x h => by cases h), fun x h => by cases h⟩
  | g :: gs, F, T, hK, hT, nd => by
    rw [List.length_cons] at hK hT
    have hb := nb_fa2 (c := c) (nm := nm) (F := F) (T := T) (g := g) (by omega) (by omega)
    by_cases h : g ∈ F
    · rw [if_pos h] at hb
      obtain ⟨N, e1, e3, e4, e5⟩ := lp_fa2 (L := L) gs F T (by omega) (by omega) nd
      refine ⟨N, ?_, e3, fun x hx => List.mem_cons_of_mem _ (e4 x hx), fun x hx => ?_⟩
      · rw [List.map_cons, lp_frontier_again_2_cons, pV_ap, patN_some, hb, lp_nx, tidy_same (by simp), e1]
      · rcases List.mem_cons.mp hx with rfl | hx
        · exact List.mem_append_left _ h
        · exact e5 x hx
    · rw [if_neg h] at hb
      obtain ⟨N, e1, e3, e4, e5⟩ := lp_fa2 (L := L) gs (F ++ [g]) (T ++ [g]) (by rw [List.length_append, List.length_singleton]; omega) (by rw [List.length_append, List.length_singleton]; omega) (by
        rw [List.nodup_append]
        refine ⟨nd, by simp, fun a ha b hb => ?_⟩
        have : b = g := by simpa using hb
        intro e; exact h (by rw [← this, ← e]; exact ha))
      have ea : ∀ M : List Int, M ++ [g] ++ N = M ++ g :: N := fun M => by rw [List.append_assoc]; rfl
      rw [ea] at e1 e3
      rw [ea] at e1
      refine ⟨g :: N, ?_, e3, fun x hx => ?_, fun x hx => ?_⟩
      · rw [List.map_cons, lp_frontier_again_2_cons, pV_ap, patN_some, hb, lp_nx, tidy_same (by simp), e1]
      · rcases List.mem_cons.mp hx with rfl | hx
        · exact List.mem_cons_self
        · exact List.mem_cons_of_mem _ (e4 x hx)
      · rcases List.mem_cons.mp hx with rfl | hx
        · simp
        · have := e5 x hx
          rwa [ea] at this
end
theorem tru_in {D : Ob} {T : List Int} {b : Int} : tru (.ref 1) [D, inL (T ++ [b])] = some true := by
  show some (!((T ++ [b]).map fun x => Vl.dat (.int x)).isEmpty) = _
  rw [List.map_append]
  cases T <;> rfl
theorem wl_fa {c : Cod} {nm : Str} {bs : List Blk} {G : List Int} (hc : c.rts.lookup nm = some bs) (ok : GoIn bs) (few : bs.length ≤ 30) (hG : G.length ≤ 60) {L : Type} : ∀ (m : Nat) (F T : List Int), ClI bs G F T → T.length ≤ 60 + F.length → 2 * (bs.length - F.length) + T.length ≤ m →
    ∃ F', (wl_frontier_again_1 (L := L) (.dat c.d) (.dat (.str nm)) (.ref 0) (.ref 1) () [kvL (tK F), inL T]) = .nx () [kvL (tK F'), inL []] ∧ ClI bs G F' [] := by
  intro m
  induction m with
  | zero =>
    intro F T h hT hm
    have hT : T = [] := List.eq_nil_of_length_eq_zero (by omega)
    subst hT
    refine ⟨F, ?_, h⟩
    rw [wl_frontier_again_1_un]
    simp [tb_frontier_again_1, tru]
  | succ m ih =>
    intro F T h hT hm
    rcases List.eq_nil_or_concat T with rfl | ⟨T0, b, rfl⟩
    · refine ⟨F, ?_, h⟩
      rw [wl_frontier_again_1_un]
      simp [tb_frontier_again_1, tru]
    · rw [List.concat_eq_append] at h hm hT ⊢
      rw [List.length_append, List.length_singleton] at hm hT
      have hl := h.len ok
      obtain ⟨Fr, f1, f2, ef⟩ := G_frontier_eq hc ok few b
      have lF : Fr.length ≤ bs.length := few_in (f1.imp fun {a b} h => (Int.ne_of_lt h : a ≠ b)) fun x hx => ((f2 x).mp hx).rch.in ok
      obtain ⟨N, e1, e3, e4, e5⟩ := lp_fa2 (c := .dat c.d) (nm := .dat (.str nm)) (L := Unit) Fr F T0 (by omega) (by omega) h.nd
      have I' : ClI bs G (F ++ N) (T0 ++ N) := h.next e3 (fun x hx => (f2 x).mp (e4 x hx)) fun y hy => e5 y ((f2 y).mpr hy)
      have hl' := I'.len ok
      rw [List.length_append] at hl'
      obtain ⟨F2, g1, g2⟩ := ih (F ++ N) (T0 ++ N) I' (by simp only [List.length_append]; omega) (by simp only [List.length_append]; omega)
      refine ⟨F2, ?_, g2⟩
      have hbody : nb_frontier_again_1 (.dat c.d) (.dat (.str nm)) (.ref 0) (.ref 1) [kvL (tK F), inL (T0 ++ [b])] = .nx () [kvL (tK (F ++ N)), inL (T0 ++ N)] := by
        refine wp_of (Q := fun z => z = _) ?_
        simp only [nb_frontier_again_1]
        refine wp_thn (a := ()) (s := [kvL (tK (F ++ N)), inL (T0 ++ N)]) ?_ rfl
        have em : (Fr.map PyData.int).map Vl.dat = Fr.map fun g => Vl.dat (.int g) := by rw [List.map_map]; rfl
        simp only [pop_in, R.bind_ok, callN_ap, List.length_cons, List.length_nil, List.all_cons, List.all_nil, noX, Bool.and_self, and_self, if_true, ef, intsD, src, R.of_some, em, R.an_ok, src_ok_none]
        exact e1
      rw [wl_frontier_again_1_un]
      simp only [tb_frontier_again_1, tru_in, R.of_some, R.an_ok, if_true, hbody, lp_nx]
      rw [tidy_same (by simp), g1]
theorem phSorted_kvL {K : List (Int × PyData)} {t : Sto} (h : K.length < 64) : phSorted [.ref 0] (kvL K :: t) = some (.dat (.list ((srtI (K.map (·.1))).map .int))) := by
  show srtD ((K.map fun p : Int × PyData => (PyData.int p.1, Vl.dat p.2)).map (Prod.fst : PyData × Vl → PyData)) = _
  have em : (K.map fun p : Int × PyData => (PyData.int p.1, Vl.dat p.2)).map (Prod.fst : PyData × Vl → PyData) = (K.map (·.1)).map PyData.int := by rw [List.map_map, List.map_map]; rfl
  rw [em]
  exact srtD_ints (by rw [List.length_map]; exact h)
theorem G_frontier_again_eq {c : Cod} {nm : Str} {bs : List Blk} {G : List Int} (hc : c.rts.lookup nm = some bs) (ok : GoIn bs) (few : bs.length ≤ 30) (hG : G.length ≤ 60) : ∃ R : List Int, R.Pairwise (· < ·) ∧ (∀ x, x ∈ R ↔ Cl bs G x) ∧ ∀ s, G_frontier_again [.dat c.d, .dat (.str nm), .dat (intsD G)] s = .ok (.dat (intsD R)) s := by
  obtain ⟨F, h, I⟩ := wl_fa hc ok few hG (L := Empty) (2 * bs.length + 60) [] G ClI.start (by simp only [List.length_nil]; omega) (by simp only [List.length_nil]; omega)
  have hl := I.len ok
  refine ⟨srtI F, srtI_rise I.nd, fun x => by rw [mem_srtI, I.fin], fun s => fr0 (s2 := [kvL (tK F), inL []]) ?_⟩
  rw [r_frontier_again, runN_ap]
  refine wp_of (Q := fun z => An.fin z = _) ?_
  simp only [n_frontier_again]
  refine wp_an (a := .ref 0) (s := [kvL (tK [])]) rfl ?_
  refine wp_an (a := .ref 1) (s := [kvL (tK []), inL G]) ?_ ?_
  · simp [listK, seqD, okN, intsD, Function.comp_def]
  refine wp_thn h ?_
  have es := phSorted_kvL (K := tK F) (t := [inL []]) (by rw [tK, List.length_map]; omega)
  rw [tK_keys] at es
  simp only [Wp, kt_frontier_again_2]
  rw [es, R.of_some, R.bind_ok, R.bind_ok]
  rfl
end Pm
set_option maxRecDepth 100000
set_option maxHeartbeats 4000000
namespace Pm
open PySem PySem.Spec PyProof.Rows L2 Sw
inductive Ver where
  | beg
  | mrg (b : Int)
  | gvn (st : Bool) (b k : Int)
def gW (st : Bool) : Str := if st = true then "store" else "call"
def Ver.d (nm : Str) : Ver → PyData
  | .beg => .tuple [.str "begin"]
  | .mrg b => .tuple [.str "merge", .int b]
  | .gvn st b k => .tuple [.str (gW st), .tuple [.str nm, .int b, .int k]]
theorem toksA (xs ys : List PyData) : PySem.W.dataLt (.tuple xs) (.tuple ys) = PyProof.Rows.lexLt itemOrd (PySem.W.keyToksAll xs) (PySem.W.keyToksAll ys) := PySem.W.dataLt_tuple xs ys
theorem lt_words {x y : Str} {r r' : List PyData} (h : x ≠ y) : PySem.W.dataLt (.tuple (.str x :: r)) (.tuple (.str y :: r')) = decide (x.cps.toList < y.cps.toList) := by
  rw [toksA, PySem.W.dataLt_all_no (by simp [PySem.W.alike]) (by simpa [PyData.eqv] using h), PySem.W.dataLt_str]
theorem lt_same {x : PyData} {r r' : List PyData} (h : PySem.W.alike x x = true) (e : PyData.eqv x x = true) : PySem.W.dataLt (.tuple (x :: r)) (.tuple (x :: r')) = PySem.W.dataLt (.tuple r) (.tuple r') := by
  rw [toksA, PySem.W.dataLt_all_yes h e, toksA]
theorem lt_word {x : Str} {r r' : List PyData} : PySem.W.dataLt (.tuple (.str x :: r)) (.tuple (.str x :: r')) = PySem.W.dataLt (.tuple r) (.tuple r') := lt_same (by simp [PySem.W.alike]) (by simp [PyData.eqv])
theorem lt_num {a : Int} {r r' : List PyData} : PySem.W.dataLt (.tuple (.int a :: r)) (.tuple (.int a :: r')) = PySem.W.dataLt (.tuple r) (.tuple r') := lt_same (by simp [PySem.W.alike]) (by simp [PyData.eqv])
theorem lt_nums {a b : Int} {r r' : List PyData} (h : a ≠ b) : PySem.W.dataLt (.tuple (.int a :: r)) (.tuple (.int b :: r')) = decide (a < b) := by
  rw [toksA, PySem.W.dataLt_all_no (by simp [PySem.W.alike]) (by simpa [PyData.eqv] using h), PySem.W.dataLt_int]
theorem lt_in {x y : PyData} (h : PySem.W.alike x y = true) (e : PyData.eqv x y = false) : PySem.W.dataLt (.tuple [x]) (.tuple [y]) = PySem.W.dataLt x y := by
  rw [toksA, PySem.W.dataLt_all_no h e]
theorem ver_asym {nm : Str} : ∀ {p q : Ver}, PySem.W.dataLt (p.d nm) (q.d nm) = false → PySem.W.dataLt (q.d nm) (p.d nm) = false → p = q := by
  have words : ∀ {x y : Str} {r r' : List PyData}, x ≠ y → (x.cps.toList < y.cps.toList ∨ y.cps.toList < x.cps.toList) → PySem.W.dataLt (.tuple (.str x :: r)) (.tuple (.str y :: r')) = false → PySem.W.dataLt (.tuple (.str y :: r')) (.tuple (.str x :: r)) = false → False := by
    intro x y r r' h o h1 h2
    rw [lt_words h, decide_eq_false_iff_not] at h1
    rw [lt_words (Ne.symm h), decide_eq_false_iff_not] at h2
    exact o.elim h1 h2
  intro p q h1 h2
  cases p with
  | beg =>
    cases q with
    | beg => rfl
    | mrg b => exact (words (by decide) (by decide +kernel) h1 h2).elim
    | gvn st b k => cases st <;> exact (words (x := "begin") (y := gW _) (by decide) (by decide +kernel) h1 h2).elim
  | mrg b =>
    cases q with
    | beg => exact (words (by decide) (by decide +kernel) h1 h2).elim
    | mrg c =>
      by_cases e : b = c
      · rw [e]
      · simp only [Ver.d, lt_word] at h1 h2
        rw [lt_nums e, decide_eq_false_iff_not] at h1
        rw [lt_nums (Ne.symm e), decide_eq_false_iff_not] at h2
        omega
    | gvn st c k => cases st <;> exact (words (x := "merge") (y := gW _) (by decide) (by decide +kernel) h1 h2).elim
  | gvn st b k =>
    cases q with
    | beg => cases st <;> exact (words (x := gW _) (y := "begin") (by decide) (by decide +kernel) h1 h2).elim
    | mrg c => cases st <;> exact (words (x := gW _) (y := "merge") (by decide) (by decide +kernel) h1 h2).elim
    | gvn st' c j =>
      by_cases es : st = st'
      · subst es
        by_cases e : b = c ∧ k = j
        · rw [e.1, e.2]
        · exfalso
          have al : ∀ b k c j : Int, PySem.W.alike (.tuple [.str nm, .int b, .int k]) (.tuple [.str nm, .int c, .int j]) = true := fun b k c j => by simp [PySem.W.alike, PySem.W.alikeAll]
          have ne : ∀ {b k c j : Int}, ¬(b = c ∧ k = j) → PyData.eqv (.tuple [.str nm, .int b, .int k]) (.tuple [.str nm, .int c, .int j]) = false := fun {b k c j} h => by
            have : PyData.eqv (.tuple [.str nm, .int b, .int k]) (.tuple [.str nm, .int c, .int j]) = (PyData.eqv (.str nm) (.str nm) && (PyData.eqv (.int b) (.int c) && (PyData.eqv (.int k) (.int j) && true))) := by simp only [PyData.eqv, PyData.eqvAll]
            rw [this, eqv_ss, eqv_ii, eqv_ii, Bool.eq_false_iff]
            intro z
            simp only [Bool.and_true, Bool.and_eq_true, decide_eq_true_eq] at z
            exact h z.2
          simp only [Ver.d, lt_word] at h1 h2
          rw [lt_in (al _ _ _ _) (ne e)] at h1
          rw [lt_in (al _ _ _ _) (ne (fun z => e ⟨z.1.symm, z.2.symm⟩))] at h2
          rw [lt_word] at h1 h2
          by_cases eb : b = c
          · subst eb
            rw [lt_num] at h1 h2
            have ek : k ≠ j := fun z => e ⟨rfl, z⟩
            rw [lt_nums ek, decide_eq_false_iff_not] at h1
            rw [lt_nums (Ne.symm ek), decide_eq_false_iff_not] at h2
            omega
          · rw [lt_nums eb, decide_eq_false_iff_not] at h1
            rw [lt_nums (Ne.symm eb), decide_eq_false_iff_not] at h2
            omega
      · cases st <;> cases st'
        · exact absurd rfl es
        · exact (words (x := gW _) (y := gW _) (by decide) (by decide +kernel) h1 h2).elim
        · exact (words (x := gW _) (y := gW _) (by decide) (by decide +kernel) h1 h2).elim
        · exact absurd rfl es
theorem vers_sort {nm : Str} {l l' : List Ver} (p : l.Perm l') : (l.map (Ver.d nm)).mergeSort (PySem.W.dataLe false id) = (l'.map (Ver.d nm)).mergeSort (PySem.W.dataLe false id) := by
  have mp := fun l : List Ver => List.map_mergeSort (r := fun p q => PySem.W.dataLe false id (p.d nm) (q.d nm)) (s := PySem.W.dataLe false id) (f := Ver.d nm) (l := l) (fun a _ b _ => rfl)
  rw [← mp l, ← mp l']
  congr 1
  have T : PySem.W.TotalLe (fun p q : Ver => PySem.W.dataLe false id (p.d nm) (q.d nm)) := PySem.W.sortLe_total (listOrd itemOrd) false fun b : Ver => PySem.W.keyToks (b.d nm)
  refine List.Perm.eq_of_pairwise (le := fun a b : Ver => PySem.W.dataLe false id (a.d nm) (b.d nm) = true) (fun a b _ _ h1 h2 => ?_) (PySem.W.sort_pairwise T l) (PySem.W.sort_pairwise T l') (((List.mergeSort_perm _ _).trans p).trans (List.mergeSort_perm _ _).symm)
  have h1 : (!PySem.W.dataLt (b.d nm) (a.d nm)) = true := h1
  have h2 : (!PySem.W.dataLt (a.d nm) (b.d nm)) = true := h2
  rw [Bool.not_eq_true'] at h1 h2
  exact ver_asym h2 h1
theorem vers_mix {nm : Str} (l : List Ver) : MixOk (l.map (Ver.d nm)) := by
  refine ⟨fun d hd => ?_, fun x r r' h h' => ?_⟩
  · obtain ⟨v, _, rfl⟩ := List.mem_map.mp hd
    cases v <;> exact ⟨_, _, rfl⟩
  · obtain ⟨v, _, e⟩ := List.mem_map.mp h
    obtain ⟨v', _, e'⟩ := List.mem_map.mp h'
    have key : ∀ {v v' : Ver}, v.d nm = .tuple (.str x :: r) → v'.d nm = .tuple (.str x :: r') → PySem.W.alikeAll r r' = true := by
      intro v v' e e'
      cases v with
      | beg => cases e; simp [PySem.W.alikeAll]
      | mrg b =>
        cases e
        cases v' with
        | beg => exact absurd (PyData.str.inj (List.cons.inj (PyData.tuple.inj e')).1) (by decide)
        | mrg c => cases e'; simp [PySem.W.alikeAll, PySem.W.alike]
        | gvn st c k => cases st <;> exact absurd (PyData.str.inj (List.cons.inj (PyData.tuple.inj e')).1) (by decide)
      | gvn st b k =>
        cases v' with
        | beg => cases e; cases st <;> exact absurd (PyData.str.inj (List.cons.inj (PyData.tuple.inj e')).1) (by decide)
        | mrg c => cases e; cases st <;> exact absurd (PyData.str.inj (List.cons.inj (PyData.tuple.inj e')).1) (by decide)
        | gvn st' c j =>
          obtain ⟨_, e⟩ := List.cons.inj (PyData.tuple.inj e)
          obtain ⟨_, e'⟩ := List.cons.inj (PyData.tuple.inj e')
          subst e e'
          simp [PySem.W.alikeAll, PySem.W.alike]
    exact key e e'
theorem vers_deep {nm : Str} (v : Ver) : (v.d nm).depth ≤ 8 ∧ (v.d nm).hasDict = false := by
  cases v <;> exact ⟨by simp [Ver.d, PyData.depth, PyData.depthAll], by simp [Ver.d, PyData.hasDict, PyData.hasDictAll]⟩
theorem phSM_vers {nm : Str} {l : List Ver} {v : Vl} {s : Sto} (e : lsD v s = some (l.map (Ver.d nm))) (hl : l.length ≤ 1000) : phSortedM [v] s = some (.dat (.list ((l.map (Ver.d nm)).mergeSort (PySem.W.dataLe false id)))) := by
  unfold phSortedM
  simp only []
  rw [e, Option.bind_some]
  refine if_pos ⟨vers_mix l, by rw [List.length_map]; exact hl, fun d hd => ?_, fun d hd => ?_⟩
  · obtain ⟨v, _, rfl⟩ := List.mem_map.mp hd
    exact (vers_deep v).1
  · obtain ⟨v, _, rfl⟩ := List.mem_map.mp hd
    exact (vers_deep v).2
end Pm
set_option maxRecDepth 100000
set_option maxHeartbeats 4000000
namespace Pm
open PySem PySem.Spec PyProof.Rows L2 Sw
noncomputable def ct_given_in_1  (v_row : Vl) : Sto → R Bool := fun s => ((R.of (phIx v_row (Vl.dat (.int 0)) s) s).bind fun x6 s7 => R.of ((phIn false) x6 (Vl.dat (.tuple [(.str "store"), (.str "call")])) s7) s7).bind fun x8 s9 => R.of (bool? x8) s9
noncomputable def ce_given_in_2 (v_name : Vl) (v_block : Vl) (v_at : Vl) (v_row : Vl) : Sto → R Vl := fun s => ((R.of (phIx v_row (Vl.dat (.int 0)) s) s).bind fun x10 s11 => ((R.of (tupN [v_name, v_block, v_at]) s11).bind fun x12 s13 => R.ok [x12] s13).bind fun l14 s15 => R.ok (x10 :: l14) s15).bind fun l16 s17 => R.of (tupN l16) s17
noncomputable def n_given_in (v_code : Vl) (v_name : Vl) (v_block : Vl) : Sto → An Unit Empty := fun s =>
  (((callN 2 G_blocks_of [v_code, v_name] s).bind fun x2 s3 => R.of (phIx x2 v_block s3) s3).bind fun x4 s5 => R.of (phIx x4 (Vl.dat (.int 0)) s5) s5).an fun v_rows s1 =>
    (lcP (enN [v_rows] s1) (pT2 pV pV) (fun p s => ct_given_in_1 p.2 s) (fun p s => ce_given_in_2 v_name v_block p.1 p.2 s)).an fun x18 s19 => .rt x18 s19
noncomputable def r_given_in : MF := runN fun xs => match xs with
  | [v_code, v_name, v_block] => n_given_in v_code v_name v_block
  | _ => fun _ => .bad
noncomputable def G_given_in : MF := frameG (r_given_in)
noncomputable def ct_merged_blocks_1 (v_code : Vl) (v_name : Vl) (v_block : Vl) : Sto → R Bool := fun s => (callN 3 G_given_in [v_code, v_name, v_block] s).bind fun x4 s5 => R.of (tru x4 s5) s5
noncomputable def ce_merged_blocks_2  (v_block : Vl) : Sto → R Vl := fun s => R.ok v_block s
noncomputable def n_merged_blocks (v_code : Vl) (v_name : Vl) : Sto → An Unit Empty := fun s =>
  (lcP ((callN 2 G_reached [v_code, v_name] s).bind fun x2 s3 => R.of (src x2 s3) s3) pV (fun p s => ct_merged_blocks_1 v_code v_name p s) (fun p s => ce_merged_blocks_2 p s)).an fun v_giving s1 =>
    (((((R.of (phTuple [v_giving] s1) s1).bind fun x6 s7 => R.ok [x6] s7).bind fun l8 s9 => R.ok (v_name :: l8) s9).bind fun l10 s11 => R.ok (v_code :: l10) s11).bind fun l12 s13 => callN 3 G_frontier_again l12 s13).an fun x14 s15 => .rt x14 s15
noncomputable def r_merged_blocks : MF := runN fun xs => match xs with
  | [v_code, v_name] => n_merged_blocks v_code v_name
  | _ => fun _ => .bad
noncomputable def G_merged_blocks : MF := frameG (r_merged_blocks)
noncomputable def ce_versions_of_1  (v_block : Vl) : Sto → R Vl := fun s => R.of (tupN [(Vl.dat (.str "merge")), v_block]) s
def mk_versions_of_1 (v_code : Vl) (v_name : Vl) (v_found : Vl) : Unit → Loc := fun a => [some v_code, some v_name, some v_found, none]
noncomputable def nb_versions_of_1 (v_code : Vl) (v_name : Vl) (v_found : Vl) (v_block : Vl) : Sto → An Unit Unit := fun s =>
  (extN v_found s (fun s10 => (callN 3 G_given_in [v_code, v_name, v_block] s10).bind fun x11 s12 => R.ok [x11] s12)).an fun _ s13 =>
    .nx () s13
noncomputable def lp_versions_of_1 {L : Type} (v_code : Vl) (v_name : Vl) (v_found : Vl) (ck : Sto → Prop) : List Vl → Unit → Sto → An Unit L := forN ck (mk_versions_of_1 v_code v_name v_found) (fun v a s => patN (pV v) fun p => nb_versions_of_1 v_code v_name v_found p s)
@[simp] theorem lp_versions_of_1_nil {L : Type} (v_code : Vl) (v_name : Vl) (v_found : Vl) {a : Unit} {s : Sto} : (lp_versions_of_1 (L := L) v_code v_name v_found okT [] a s) = .nx a s := forN_nil
theorem lp_versions_of_1_cons {L : Type} (v_code : Vl) (v_name : Vl) (v_found : Vl) {v : Vl} {r : List Vl} {a : Unit} {s : Sto} : (lp_versions_of_1 (L := L) v_code v_name v_found okT (v :: r) a s) = (patN (pV v) fun p => nb_versions_of_1 v_code v_name v_found p s).lp (mk_versions_of_1 v_code v_name v_found) s.length (lp_versions_of_1 v_code v_name v_found okT r) := forN_cons
noncomputable def kt_versions_of_1 (v_code : Vl) (v_name : Vl) (v_found : Vl) : Sto → An Unit Empty := fun s =>
  (((R.of (phSortedM [v_found] s) s).bind fun x18 s19 => R.ok [x18] s19).bind fun l20 s21 => R.of (phTuple l20 s21) s21).an fun x22 s23 => .rt x22 s23
noncomputable def n_versions_of (v_code : Vl) (v_name : Vl) : Sto → An Unit Empty := fun s =>
  (newN [(Vl.dat (.tuple [(.str "begin")]))] s).an fun v_found s1 =>
    (extN v_found s1 (fun s2 => (lcP ((callN 2 G_merged_blocks [v_code, v_name] s2).bind fun x3 s4 => R.of (src x3 s4) s4) pV (fun p s => R.ok true s) (fun p s => ce_versions_of_1 p s)).bind fun x5 s6 => R.ok [x5] s6)).an fun _ s7 =>
    (((callN 2 G_reached [v_code, v_name] s7).bind fun x8 s9 => R.of (src x8 s9) s9).an fun c14 s15 => lp_versions_of_1 v_code v_name v_found c14.ok c14.items () s15).thn fun j16 s17 => kt_versions_of_1 v_code v_name v_found  s17
noncomputable def r_versions_of : MF := runN fun xs => match xs with
  | [v_code, v_name] => n_versions_of v_code v_name
  | _ => fun _ => .bad
noncomputable def G_versions_of : MF := frameG (r_versions_of)
def Row.w : Row → Str
  | .load _ _ => "load"
  | .store _ _ => "store"
  | .touch _ => "touch"
  | .set _ _ _ _ => "set"
  | .tell _ => "tell"
  | .need _ => "need"
  | .call _ => "call"
theorem row_w (r : Row) {s : Sto} : phIx (.dat r.d) (.dat (.int 0)) s = some (.dat (.str r.w)) := by cases r <;> rfl
def Row.g : Row → Bool
  | .store _ _ => true
  | .call _ => true
  | _ => false
def Row.st : Row → Bool
  | .store _ _ => true
  | _ => false
theorem gW_row {r : Row} (h : r.g = true) : r.w = gW r.st := by cases r <;> first | rfl | cases h
theorem in_giv {x : Str} {neg : Bool} {s : Sto} : phIn neg (.dat (.str x)) (.dat (.tuple [.str "store", .str "call"])) s = some (.dat (.bool (if neg = true then !(decide ("store" = x) || decide ("call" = x)) else (decide ("store" = x) || decide ("call" = x))))) := by
  have e : inV (.str x) [.str "store", .str "call"] = (decide ("store" = x) || decide ("call" = x)) := by
    simp [inV, eqV]
    rfl
  show some (Vl.dat (.bool (if neg = true then !inV (.str x) [.str "store", .str "call"] else inV (.str x) [.str "store", .str "call"]))) = _
  rw [e]
theorem g_row {r : Row} : (decide (("store" : Str) = r.w) || decide (("call" : Str) = r.w)) = r.g := by cases r <;> rfl
def gvAt (rows : List Row) (k : Nat) : Bool := match rows[k]? with
  | some r => r.g
  | none => false
def stAt (rows : List Row) (k : Nat) : Bool := match rows[k]? with
  | some r => r.st
  | none => false
def givR (rows : List Row) (b : Int) : List Ver := ((List.range rows.length).filter (gvAt rows)).map fun (k : Nat) => .gvn (stAt rows k) b (k : Int)
def givB (bs : List Blk) (b : Int) : List Ver := match atI bs b with
  | some k => givR k.rows b
  | none => []
theorem givR_len {rows : List Row} {b : Int} : (givR rows b).length ≤ rows.length := by
  unfold givR
  rw [List.length_map]
  exact Nat.le_trans (List.length_filter_le _ _) (by rw [List.length_range]; exact Nat.le_refl _)
def pvR (rows : List Row) (k : Nat) : Vl := match rows[k]? with
  | some r => .dat (.tuple [.int (k : Int), r.d])
  | none => .dat .none
theorem pairs_rows {rows : List Row} : pairs (rows.map Row.d) 0 = (List.range rows.length).map (pvR rows) := by
  apply List.ext_getElem?
  intro i
  by_cases hi : i < rows.length
  · rw [pairs_get (d := rows[i].d) (by rw [List.getElem?_map, List.getElem?_eq_getElem hi]; rfl), List.getElem?_map, List.getElem?_range hi]
    show _ = some (pvR rows i)
    unfold pvR
    rw [List.getElem?_eq_getElem hi, Nat.zero_add]
  · rw [List.getElem?_eq_none (by rw [pairs_len, List.length_map]; omega), List.getElem?_eq_none (by rw [List.length_map, List.length_range]; omega)]
/-- few rows in each block -/
def FewR (bs : List Blk) : Prop := ∀ b ∈ bs, b.rows.length ≤ 30
theorem givB_len {bs : List Blk} (fr : FewR bs) {b : Int} : (givB bs b).length ≤ 30 := by
  unfold givB
  cases h : atI bs b with
  | none => exact Nat.zero_le _
  | some k =>
    have hm : k ∈ bs := by
      unfold atI at h
      cases e : ixN bs.length b with
      | none => rw [e] at h; cases h
      | some j => rw [e] at h; exact List.mem_of_getElem? h
    exact Nat.le_trans givR_len (fr k hm)
section
variable {c : Cod} {nm : Str} {bs : List Blk}
theorem G_given_in_eq (hc : c.rts.lookup nm = some bs) (fr : FewR bs) {b : Int} {x : Blk} (hx : atI bs b = some x) (hm : x ∈ bs) (s : Sto) : G_given_in [.dat c.d, .dat (.str nm), .dat (.int b)] s = .ok (.dat (.list ((givB bs b).map (Ver.d nm)))) s := by
  refine fr0 (s2 := []) ?_
  have e := lcP_pure (pat := pT2 pV pV) (t := fun p s => ct_given_in_1 p.2 s) (e := fun p s => ce_given_in_2 (.dat (.str nm)) (.dat (.int b)) p.1 p.2 s) (s := []) (a' := none) (l := List.range x.rows.length) (pvR x.rows)
    (fun k => match x.rows[k]? with
      | some r => (.dat (.int (k : Int)), .dat r.d)
      | none => (.dat .none, .dat .none)) (gvAt x.rows) (fun (k : Nat) => (Ver.gvn (stAt x.rows k) b (k : Int)).d nm) trivial
    (fun k hk => by
      have hk := List.mem_range.mp hk
      unfold pvR gvAt stAt
      rw [List.getElem?_eq_getElem hk]
      refine ⟨by simp, ?_, fun hg => ?_⟩
      · simp only [ct_given_in_1, row_w, R.of_some, R.bind_ok, in_giv, bool?_b, Bool.false_eq_true, if_false, g_row]
      · simp only [ce_given_in_2, row_w, R.of_some, R.bind_ok, tupN_ap, datas, Option.bind_some, gW_row hg]
        rfl) (by rw [List.length_range]; exact th_mil (by have := fr x hm; omega))
  rw [r_given_in, runN_ap]
  have eg : givB bs b = givR x.rows b := by unfold givB; rw [hx]
  simp [n_given_in, G_blocks_of_eq hc, blksD, atI_map, hx, Blk.d, rowsD, pairs_rows, e, eg, givR, Function.comp_def]
theorem givB_at {b : Int} {x : Blk} (hx : atI bs b = some x) : givB bs b = givR x.rows b := by unfold givB; rw [hx]
/-- those that give -/
def gvs (bs : List Blk) (l : List Int) : List Int := l.filter fun b => !(givB bs b).isEmpty
theorem Cl.mono {G G' : List Int} (h : ∀ x ∈ G, x ∈ G') {x : Int} (c : Cl bs G x) : Cl bs G' x := by
  induction c with
  | base hg hf => exact .base (h _ hg) hf
  | step _ hf ih => exact .step ih hf
theorem nd_lt {l : List Int} (h : l.Pairwise (· < ·)) : l.Nodup := h.imp fun {a b} h => (Int.ne_of_lt h : a ≠ b)
theorem ext_q {s s2 : Sto} {l : List Vl} {es : List PyData} {r : Sto → R (List Vl)} (h : r s = .ok [.dat (.list es)] s2) (h0 : lstAt s 0 = some l) (h2 : lstAt s2 0 = some l) (hl : l.length + es.length ≤ 1000) : extN (.ref 0) s r = .ok (.dat .none) (s2.set 0 (.lst (l ++ es.map Vl.dat))) := by
  have h3 : l.length + es.length ≤ mil := th_mil hl
  unfold extN
  simp only [h0, h, R.bind_ok, h2]
  rw [if_pos h3]
/-- a list of versions, in the store -/
abbrev vL (nm : Str) (l : List Ver) : Ob := .lst ((l.map (Ver.d nm)).map Vl.dat)
theorem vL_app {l m : List Ver} : Ob.lst ((l.map (Ver.d nm)).map Vl.dat ++ (m.map (Ver.d nm)).map Vl.dat) = vL nm (l ++ m) := by
  simp only [vL, List.map_append]
theorem lp_vers (hc : c.rts.lookup nm = some bs) (ok : GoIn bs) (fr : FewR bs) {L : Type} : ∀ (l : List Int) (vs : List Ver), (∀ x ∈ l, Rch bs x) → vs.length + 30 * l.length ≤ 1000 →
    (lp_versions_of_1 (L := L) (.dat c.d) (.dat (.str nm)) (.ref 0) okT (l.map fun x => .dat (.int x)) () [vL nm vs]) = .nx () [vL nm (vs ++ l.flatMap fun x => givB bs x)]
  | [], vs, _, _ => by rw [List.map_nil, lp_versions_of_1_nil, List.flatMap_nil, List.append_nil]
  | x :: l, vs, h, hl => by
    rw [List.length_cons] at hl
    have hi := (h x List.mem_cons_self).in ok
    obtain ⟨k, hk, hm⟩ := atI_in hi.1 hi.2
    have hg := givB_len fr (b := x)
    have ih := lp_vers hc ok fr (L := L) l (vs ++ givB bs x) (fun y hy => h y (List.mem_cons_of_mem _ hy)) (by rw [List.length_append]; omega)
    have hb : nb_versions_of_1 (.dat c.d) (.dat (.str nm)) (.ref 0) (.dat (.int x)) [vL nm vs] = .nx () [vL nm (vs ++ givB bs x)] := by
      have e := ext_q (s := [vL nm vs]) (s2 := [vL nm vs]) (l := (vs.map (Ver.d nm)).map Vl.dat) (es := (givB bs x).map (Ver.d nm)) (r := fun s10 => (callN 3 G_given_in [.dat c.d, .dat (.str nm), .dat (.int x)] s10).bind fun x11 s12 => R.ok [x11] s12) (by simp [G_given_in_eq hc fr hk hm]) rfl rfl (by simp only [List.length_map]; omega)
      simp only [nb_versions_of_1, e, R.an_ok, List.set_cons_zero]
      rw [vL_app]
    rw [List.map_cons, lp_versions_of_1_cons, pV_ap, patN_some, hb, lp_nx, tidy_same (by simp), ih, List.flatMap_cons, List.append_assoc]
/-- what the program tells of a routine -/
theorem prog_told (hc : c.rts.lookup nm = some bs) (ok : GoIn bs) (few : bs.length ≤ 30) (fr : FewR bs) : ∃ Ro Rm : List Int, Ro.Pairwise (· < ·) ∧ (∀ x, x ∈ Ro ↔ Rch bs x) ∧ Rm.Pairwise (· < ·) ∧ (∀ x, x ∈ Rm ↔ Cl bs (gvs bs Ro) x) ∧
    (∀ s, G_merged_blocks [.dat c.d, .dat (.str nm)] s = .ok (.dat (intsD Rm)) s) ∧
    ∀ s, G_versions_of [.dat c.d, .dat (.str nm)] s = .ok (.dat (.tuple (((Ver.beg :: Rm.map Ver.mrg ++ Ro.flatMap fun x => givB bs x).map (Ver.d nm)).mergeSort (PySem.W.dataLe false id)))) s := by
  obtain ⟨Ro, r1, r2, er⟩ := G_reached_eq hc ok (by omega)
  have lR : Ro.length ≤ bs.length := few_in (nd_lt r1) fun x hx => ((r2 x).mp hx).in ok
  have lG : (gvs bs Ro).length ≤ 60 := Nat.le_trans (List.length_filter_le _ _) (by omega)
  obtain ⟨Rm, m1, m2, em⟩ := G_frontier_again_eq hc ok few lG
  have lM : Rm.length ≤ bs.length := few_in (nd_lt m1) fun x hx => ((m2 x).mp hx).rch.in ok
  have EM : ∀ s, G_merged_blocks [.dat c.d, .dat (.str nm)] s = .ok (.dat (intsD Rm)) s := fun s => by
    refine fr0 (s2 := []) ?_
    have e1 := lcP_pure (pat := pV) (t := fun p s => ct_merged_blocks_1 (.dat c.d) (.dat (.str nm)) p s) (e := fun p s => ce_merged_blocks_2 p s) (s := []) (a' := none) (l := Ro) (fun x => Vl.dat (.int x)) (fun x => Vl.dat (.int x)) (fun b => !(givB bs b).isEmpty) (fun x => .int x) trivial (fun x hx => ⟨rfl, by
      have hi := ((r2 x).mp hx).in ok
      obtain ⟨k, hk, hm⟩ := atI_in hi.1 hi.2
      have ht : ∀ s, tru (.dat (.list ((givB bs x).map (Ver.d nm)))) s = some (!(givB bs x).isEmpty) := fun s => by
        show some (!((givB bs x).map (Ver.d nm)).isEmpty) = _
        cases givB bs x <;> rfl
      simp [ct_merged_blocks_1, G_given_in_eq hc fr hk hm, ht], fun _ => rfl⟩) (th_mil (by omega))
    have e2 : (Ro.filter fun b => !(givB bs b).isEmpty) = gvs bs Ro := rfl
    rw [e2] at e1
    have em' := em []
    rw [intsD] at em'
    rw [r_merged_blocks, runN_ap]
    simp [n_merged_blocks, er, intsD, src, Function.comp_def, e1, phTuple, seqD, em']
  refine ⟨Ro, Rm, r1, r2, m1, m2, EM, fun s => fr0 (s2 := [vL nm (Ver.beg :: Rm.map Ver.mrg ++ Ro.flatMap fun x => givB bs x)]) ?_⟩
  rw [r_versions_of, runN_ap]
  refine wp_of (Q := fun z => An.fin z = _) ?_
  simp only [n_versions_of]
  refine wp_an (a := .ref 0) (s := [vL nm [.beg]]) rfl ?_
  have e3 := fun s => lcP_map (pat := pV) (e := fun p s => ce_versions_of_1 p s) (s := s) (a' := none) (l := Rm) (fun x => Vl.dat (.int x)) (fun x => Vl.dat (.int x)) (fun x => (Ver.mrg x).d nm) trivial (fun x _ => ⟨rfl, rfl⟩) (th_mil (by omega))
  have e4 := ext_q (s := [vL nm [.beg]]) (s2 := [vL nm [.beg]]) (l := ([Ver.beg].map (Ver.d nm)).map Vl.dat) (es := (Rm.map Ver.mrg).map (Ver.d nm)) (r := fun s2 => (lcP ((callN 2 G_merged_blocks [.dat c.d, .dat (.str nm)] s2).bind fun x3 s4 => R.of (src x3 s4) s4) pV (fun p s => R.ok true s) (fun p s => ce_versions_of_1 p s)).bind fun x5 s6 => R.ok [x5] s6) (by simp [EM, intsD, src, Function.comp_def, e3]) rfl rfl (by simp only [List.length_map, List.length_singleton]; omega)
  rw [List.set_cons_zero, vL_app] at e4
  refine wp_an e4 ?_
  have e5 := lp_vers hc ok fr (L := Empty) Ro ([Ver.beg] ++ Rm.map Ver.mrg) (fun x hx => (r2 x).mp hx) (by simp only [List.length_append, List.length_map, List.length_singleton]; omega)
  have e6 : ∀ s, callN 2 G_reached [.dat c.d, .dat (.str nm)] s = .ok (.dat (intsD Ro)) s := fun s => by simp [er]
  have e7 : ∀ s, src (.dat (intsD Ro)) s = some ⟨Ro.map fun x => Vl.dat (.int x), none⟩ := fun s => by simp [src, intsD, Function.comp_def]
  simp only [e6, R.bind_ok, e7, R.of_some, R.an_ok, src_ok_none]
  refine wp_thn e5 ?_
  have e8 := phSM_vers (nm := nm) (l := [Ver.beg] ++ Rm.map Ver.mrg ++ Ro.flatMap fun x => givB bs x) (v := .ref 0) (s := [vL nm ([Ver.beg] ++ Rm.map Ver.mrg ++ Ro.flatMap fun x => givB bs x)]) (show datas _ = _ from datas_map _) (by
    have : ∀ l : List Int, (l.flatMap fun x => givB bs x).length ≤ 30 * l.length := by
      intro l
      induction l with
      | nil => simp
      | cons x l ih =>
        have := givB_len fr (b := x)
        rw [List.flatMap_cons, List.length_append, List.length_cons]
        omega
    have := this Ro
    simp only [List.length_append, List.length_map, List.length_singleton]
    omega)
  simp only [Wp, kt_versions_of_1]
  rw [e8, R.of_some, R.bind_ok, R.bind_ok]
  rfl
end
end Pm
set_option maxRecDepth 100000
set_option maxHeartbeats 4000000
namespace Pm
open PySem PySem.Spec PyProof.Rows L2 Sw
theorem forN_same {S L : Type} {mk : S → Loc} {nb : Vl → S → Sto → An S S} {a : S} {s : Sto} : ∀ {items : List Vl}, (∀ v ∈ items, nb v a s = .nx a s) → (forN okT mk nb items a s : An S L) = .nx a s
  | [], _ => forN_nil
  | v :: r, h => by
    rw [forN_cons, h v List.mem_cons_self, lp_nx, tidy_same rfl]
    exact forN_same fun w hw => h w (List.mem_cons_of_mem _ hw)
/-- data whose text is at hand -/
structure Rpr (d : PyData) : Prop where
  sh : d.showable = true
  nd : d.hasDict = false
  dp : d.depth ≤ 60
  ln : d.shown.length ≤ sizeLine
theorem Rpr.of {M l n B : Nat} {d : PyData} (h : Fit M l n B d) (hM : M < 10 ^ 240) (hn : n ≤ 60) (hB : B ≤ 16000000) : Rpr d :=
  ⟨leaf_shows (Nat.lt_trans hM (by decide)) d h.lf, leaf_noDict d h.lf, Nat.le_trans h.dp hn, Nat.le_trans (shown_wt hM d h.lf) (by rw [sizeLine_eq]; have := h.wg; omega)⟩
theorem repr_t {ds : List PyData} {s : Sto} (h : Rpr (.tuple ds)) : phRepr [.dat (.tuple ds)] s = some (.dat (.str (PyData.tuple ds).shown)) := if_pos ⟨h.sh, h.nd, h.dp, h.ln⟩
theorem wtAll_le {c : Nat} : ∀ {xs : List PyData}, (∀ x ∈ xs, wt x ≤ c) → wtAll xs ≤ (c + 2) * xs.length
  | [], _ => Nat.zero_le _
  | x :: xs, h => by
    have h1 := h x List.mem_cons_self
    have h2 := wtAll_le fun y hy => h y (List.mem_cons_of_mem _ hy)
    simp only [wtAll, List.length_cons, Nat.mul_succ]
    omega
theorem rgs0 (n : Nat) : rgs 0 n = (List.range n).map fun (k : Nat) => Vl.dat (.int (k : Int)) := by
  unfold rgs
  exact List.map_congr_left fun k _ => by rw [Int.zero_add]
def pv (bs : List Blk) (k : Nat) : Vl := match bs[k]? with
  | some b => .dat (.tuple [.int (k : Int), b.d])
  | none => .dat .none
noncomputable def ct_befores_1 (v_block : Vl) (v_end : Vl) : Sto → R Bool := fun s => ((callN 1 G_goals [v_end] s).bind fun x5 s6 => R.of ((phIn false) v_block x5 s6) s6).bind fun x7 s8 => R.of (bool? x7) s8
noncomputable def ce_befores_2  (v_other : Vl) : Sto → R Vl := fun s => R.ok v_other s
noncomputable def n_befores (v_code : Vl) (v_name : Vl) (v_block : Vl) : Sto → An Unit Empty := fun s =>
  (((lcP (((callN 2 G_blocks_of [v_code, v_name] s).bind fun x1 s2 => R.ok [x1] s2).bind fun l3 s4 => enN l3 s4) (pT2 pV (pT2 pV pV)) (fun p s => ct_befores_1 v_block p.2.2 s) (fun p s => ce_befores_2 p.1 s)).bind fun x9 s10 => R.ok [x9] s10).bind fun l11 s12 => R.of (phTuple l11 s12) s12).an fun x13 s14 => .rt x13 s14
noncomputable def r_befores : MF := runN fun xs => match xs with
  | [v_code, v_name, v_block] => n_befores v_code v_name v_block
  | _ => fun _ => .bad
noncomputable def G_befores : MF := frameG (r_befores)
def mk_law_goes_1 (w_blocks : Vl) (w_found : Vl) : Unit → Loc := fun a => [some w_blocks, some w_found, none, none, none, none]
noncomputable def ct_law_goes_1 (w_parts : Vl) (w_block : Vl) : Sto → R Bool := fun s => (R.of ((phIn false) w_block w_parts s) s).bind fun x28 s29 => R.of (bool? x28) s29
noncomputable def ce_law_goes_2  (w_block : Vl) : Sto → R Vl := fun s => R.ok w_block s
noncomputable def nb_law_goes_1 (w_blocks : Vl) (w_found : Vl) (w_rows : Vl) (w_end_here : Vl) : Sto → An Unit Unit := fun s =>
  (((((R.of ((int? (Vl.dat (.int 1))).map some) s).bind fun o3 s4 => R.of (phSl w_end_here o3 none s4) s4).bind fun x5 s6 => (((R.of ((int? (Vl.dat (.int 2))).map some) s6).bind fun o7 s8 => R.of (phSl w_end_here o7 none s8) s8).bind fun x9 s10 => ((R.of (tupN []) s10).bind fun x11 s12 => R.ok [((Vl.dat (.str "back")), x11)] s12).bind fun l13 s14 => R.ok (((Vl.dat (.str "if")), x9) :: l13) s14).bind fun l15 s16 => R.ok (((Vl.dat (.str "go")), x5) :: l15) s16).bind fun l17 s18 => R.of (dispD l17) s18).bind fun x19 s20 => (R.of (phIx w_end_here (Vl.dat (.int 0)) s20) s20).bind fun x21 s22 => R.of (phIx x19 x21 s22) s22).an fun w_parts s2 =>
    (appN w_found s2 (fun s23 => (lcP (((R.of (phLen [w_blocks] s23) s23).bind fun x24 s25 => R.ok [x24] s25).bind fun l26 s27 => rngN1 l26 s27) pV (fun p s => ct_law_goes_1 w_parts p s) (fun p s => ce_law_goes_2 p s)).bind fun x30 s31 => R.ok [x30] s31)).an fun _ s32 =>
    .nx () s32
noncomputable def lp_law_goes_1 {L : Type} (w_blocks : Vl) (w_found : Vl) (ck : Sto → Prop) : List Vl → Unit → Sto → An Unit L := forN ck (mk_law_goes_1 w_blocks w_found) (fun v a s => patN ((pT2 pV pV) v) fun p => nb_law_goes_1 w_blocks w_found p.1 p.2 s)
@[simp] theorem lp_law_goes_1_nil {L : Type} (w_blocks : Vl) (w_found : Vl) {a : Unit} {s : Sto} : (lp_law_goes_1 (L := L) w_blocks w_found okT [] a s) = .nx a s := forN_nil
noncomputable def kt_law_goes_1 (w_blocks : Vl) (w_found : Vl) : Sto → An Unit Empty := fun s =>
  (R.ok w_found s).an fun x37 s38 => .rt x37 s38
noncomputable def n_law_goes (w_blocks : Vl) : Sto → An Unit Empty := fun s =>
  (newN [] s).an fun w_found s1 =>
    ((R.of (src w_blocks s1) s1).an fun c33 s34 => lp_law_goes_1 w_blocks w_found c33.ok c33.items () s34).thn fun j35 s36 => kt_law_goes_1 w_blocks w_found  s36
noncomputable def r_law_goes : MF := runN fun xs => match xs with
  | [w_blocks] => n_law_goes w_blocks
  | _ => fun _ => .bad
noncomputable def G_law_goes : MF := frameG (r_law_goes)
def mk_law_comes_k07_1 (w_arrows : Vl) (w_found : Vl) : Unit → Loc := fun a => [some w_arrows, some w_found, none, none, none]
def mk_law_comes_k07_2 (w_arrows : Vl) (w_found : Vl) : Unit → Loc := fun a => [some w_arrows, some w_found, none, none, none]
noncomputable def ct_law_comes_k07_1 (w_arrows : Vl) (w_block : Vl) (w_one : Vl) : Sto → R Bool := fun s => ((R.of (phIx w_arrows w_one s) s).bind fun x14 s15 => R.of ((phIn false) w_block x14 s15) s15).bind fun x16 s17 => R.of (bool? x16) s17
noncomputable def ce_law_comes_k07_2  (w_one : Vl) : Sto → R Vl := fun s => R.ok w_one s
noncomputable def nb_law_comes_k07_2 (w_arrows : Vl) (w_found : Vl) (w_block : Vl) : Sto → An Unit Unit := fun s =>
  (((R.of ((phIn true) w_block w_found s) s).bind fun x10 s11 => R.of (bool? x10) s11).bind fun c12 s13 => if c12 = true then ((lcP (R.of (src w_found s13) s13) pV (fun p s => ct_law_comes_k07_1 w_arrows w_block p s) (fun p s => ce_law_comes_k07_2 p s)).bind fun x18 s19 => (R.of (lstN []) s19).bind fun x20 s21 => R.of (phNe x18 x20 s21) s21).bind fun x22 s23 => R.of (bool? x22) s23 else R.ok false s13).an fun c24 s25 => if c24 = true then
    (appN w_found s25 (fun s26 => R.ok [w_block] s26)).an fun _ s27 =>
      .nx () s27
    else
    .nx () s25
noncomputable def lp_law_comes_k07_2 {L : Type} (w_arrows : Vl) (w_found : Vl) (ck : Sto → Prop) : List Vl → Unit → Sto → An Unit L := forN ck (mk_law_comes_k07_2 w_arrows w_found) (fun v a s => patN (pV v) fun p => nb_law_comes_k07_2 w_arrows w_found p s)
@[simp] theorem lp_law_comes_k07_2_nil {L : Type} (w_arrows : Vl) (w_found : Vl) {a : Unit} {s : Sto} : (lp_law_comes_k07_2 (L := L) w_arrows w_found okT [] a s) = .nx a s := forN_nil
noncomputable def kt_law_comes_k07_1 (w_arrows : Vl) (w_found : Vl) : Sto → An Unit Unit := fun s =>
  .nx () s
noncomputable def nb_law_comes_k07_1 (w_arrows : Vl) (w_found : Vl) (w_turn : Vl) : Sto → An Unit Unit := fun s =>
  ((((R.of (phLen [w_arrows] s) s).bind fun x6 s7 => R.ok [x6] s7).bind fun l8 s9 => rngN1 l8 s9).an fun c28 s29 => lp_law_comes_k07_2 w_arrows w_found c28.ok c28.items () s29).thn fun j30 s31 => kt_law_comes_k07_1 w_arrows w_found  s31
noncomputable def lp_law_comes_k07_1 {L : Type} (w_arrows : Vl) (w_found : Vl) (ck : Sto → Prop) : List Vl → Unit → Sto → An Unit L := forN ck (mk_law_comes_k07_1 w_arrows w_found) (fun v a s => patN (pV v) fun p => nb_law_comes_k07_1 w_arrows w_found p s)
@[simp] theorem lp_law_comes_k07_1_nil {L : Type} (w_arrows : Vl) (w_found : Vl) {a : Unit} {s : Sto} : (lp_law_comes_k07_1 (L := L) w_arrows w_found okT [] a s) = .nx a s := forN_nil
noncomputable def kt_law_comes_k07_2 (w_arrows : Vl) (w_found : Vl) : Sto → An Unit Empty := fun s =>
  (R.of (phSorted [w_found] s) s).an fun x36 s37 => .rt x36 s37
noncomputable def n_law_comes_k07 (w_arrows : Vl) : Sto → An Unit Empty := fun s =>
  (newN [(Vl.dat (.int 0))] s).an fun w_found s1 =>
    ((((R.of (phLen [w_arrows] s1) s1).bind fun x2 s3 => R.ok [x2] s3).bind fun l4 s5 => rngN1 l4 s5).an fun c32 s33 => lp_law_comes_k07_1 w_arrows w_found c32.ok c32.items () s33).thn fun j34 s35 => kt_law_comes_k07_2 w_arrows w_found  s35
noncomputable def r_law_comes_k07 : MF := runN fun xs => match xs with
  | [w_arrows] => n_law_comes_k07 w_arrows
  | _ => fun _ => .bad
noncomputable def G_law_comes_k07 : MF := frameG (r_law_comes_k07)
def mk_law_right_k07_1 (w_code_here : Vl) : Unit → Loc := fun a => [some w_code_here, none, none, none, none, none, none, none]
def mk_law_right_k07_2 (w_code_here : Vl) (w_name : Vl) (w_blocks : Vl) (w_arrows : Vl) : Unit → Loc := fun a => [some w_code_here, some w_name, some w_blocks, some w_arrows, none, none, none, none]
noncomputable def ct_law_right_k07_1 (w_arrows : Vl) (w_block : Vl) (w_one : Vl) : Sto → R Bool := fun s => ((R.of (phIx w_arrows w_one s) s).bind fun x13 s14 => R.of ((phIn false) w_block x13 s14) s14).bind fun x15 s16 => R.of (bool? x15) s16
noncomputable def ce_law_right_k07_2  (w_one : Vl) : Sto → R Vl := fun s => R.ok w_one s
noncomputable def nb_law_right_k07_2 (w_code_here : Vl) (w_name : Vl) (w_blocks : Vl) (w_arrows : Vl) (w_block : Vl) : Sto → An Unit Unit := fun s =>
  (lcP (((R.of (phLen [w_blocks] s) s).bind fun x9 s10 => R.ok [x9] s10).bind fun l11 s12 => rngN1 l11 s12) pV (fun p s => ct_law_right_k07_1 w_arrows w_block p s) (fun p s => ce_law_right_k07_2 p s)).an fun w_ahead s8 =>
    (((callN 3 G_nexts [w_code_here, w_name, w_block] s8).bind fun x18 s19 => ((callN 3 G_befores [w_code_here, w_name, w_block] s19).bind fun x20 s21 => R.ok [x20] s21).bind fun l22 s23 => R.ok (x18 :: l22) s23).bind fun l24 s25 => R.of (tupN l24) s25).an fun w_told s17 =>
    (((R.of (phRepr [w_told] s17) s17).bind fun x26 s27 => (((((((R.of (phIx w_arrows w_block s27) s27).bind fun x28 s29 => R.ok [x28] s29).bind fun l30 s31 => R.of (phTuple l30 s31) s31).bind fun x32 s33 => ((R.of (phTuple [w_ahead] s33) s33).bind fun x34 s35 => R.ok [x34] s35).bind fun l36 s37 => R.ok (x32 :: l36) s37).bind fun l38 s39 => R.of (tupN l38) s39).bind fun x40 s41 => R.ok [x40] s41).bind fun l42 s43 => R.of (phRepr l42 s43) s43).bind fun x44 s45 => R.of (phNe x26 x44 s45) s45).bind fun x46 s47 => R.of (bool? x46) s47).an fun c48 s49 => if c48 = true then
    (R.ok (Vl.dat (.bool false)) s49).an fun x50 s51 => .rt x50 s51
    else
    .nx () s49
noncomputable def lp_law_right_k07_2 {L : Type} (w_code_here : Vl) (w_name : Vl) (w_blocks : Vl) (w_arrows : Vl) (ck : Sto → Prop) : List Vl → Unit → Sto → An Unit L := forN ck (mk_law_right_k07_2 w_code_here w_name w_blocks w_arrows) (fun v a s => patN (pV v) fun p => nb_law_right_k07_2 w_code_here w_name w_blocks w_arrows p s)
@[simp] theorem lp_law_right_k07_2_nil {L : Type} (w_code_here : Vl) (w_name : Vl) (w_blocks : Vl) (w_arrows : Vl) {a : Unit} {s : Sto} : (lp_law_right_k07_2 (L := L) w_code_here w_name w_blocks w_arrows okT [] a s) = .nx a s := forN_nil
noncomputable def kt_law_right_k07_1 (w_code_here : Vl) (w_name : Vl) (w_blocks : Vl) (w_arrows : Vl) : Sto → An Unit Unit := fun s =>
  (((((callN 2 G_reached [w_code_here, w_name] s).bind fun x56 s57 => R.ok [x56] s57).bind fun l58 s59 => R.of (phRepr l58 s59) s59).bind fun x60 s61 => (((((callN 1 G_law_comes_k07 [w_arrows] s61).bind fun x62 s63 => R.ok [x62] s63).bind fun l64 s65 => R.of (phTuple l64 s65) s65).bind fun x66 s67 => R.ok [x66] s67).bind fun l68 s69 => R.of (phRepr l68 s69) s69).bind fun x70 s71 => R.of (phNe x60 x70 s71) s71).bind fun x72 s73 => R.of (bool? x72) s73).an fun c74 s75 => if c74 = true then
    (R.ok (Vl.dat (.bool false)) s75).an fun x76 s77 => .rt x76 s77
    else
    .nx () s75
noncomputable def nb_law_right_k07_1 (w_code_here : Vl) (w_name : Vl) (w_blocks : Vl) : Sto → An Unit Unit := fun s =>
  (callN 1 G_law_goes [w_blocks] s).an fun w_arrows s3 =>
    ((((R.of (phLen [w_blocks] s3) s3).bind fun x4 s5 => R.ok [x4] s5).bind fun l6 s7 => rngN1 l6 s7).an fun c52 s53 => lp_law_right_k07_2 w_code_here w_name w_blocks w_arrows c52.ok c52.items () s53).thn fun j54 s55 => kt_law_right_k07_1 w_code_here w_name w_blocks w_arrows  s55
noncomputable def lp_law_right_k07_1 {L : Type} (w_code_here : Vl) (ck : Sto → Prop) : List Vl → Unit → Sto → An Unit L := forN ck (mk_law_right_k07_1 w_code_here) (fun v a s => patN ((pT2 pV pV) v) fun p => nb_law_right_k07_1 w_code_here p.1 p.2 s)
@[simp] theorem lp_law_right_k07_1_nil {L : Type} (w_code_here : Vl) {a : Unit} {s : Sto} : (lp_law_right_k07_1 (L := L) w_code_here okT [] a s) = .nx a s := forN_nil
theorem parts_eq (e : Endd) (s : Sto) : ((((R.of ((int? (Vl.dat (.int 1))).map some) s).bind fun o3 s4 => R.of (phSl (.dat e.d) o3 none s4) s4).bind fun x5 s6 => (((R.of ((int? (Vl.dat (.int 2))).map some) s6).bind fun o7 s8 => R.of (phSl (.dat e.d) o7 none s8) s8).bind fun x9 s10 => ((R.of (tupN []) s10).bind fun x11 s12 => R.ok [((Vl.dat (.str "back")), x11)] s12).bind fun l13 s14 => R.ok (((Vl.dat (.str "if")), x9) :: l13) s14).bind fun l15 s16 => R.ok (((Vl.dat (.str "go")), x5) :: l15) s16).bind fun l17 s18 => R.of (dispD l17) s18).bind (fun x19 s20 => (R.of (phIx (.dat e.d) (Vl.dat (.int 0)) s20) s20).bind fun x21 s22 => R.of (phIx x19 x21 s22) s22) = .ok (.dat (intsD e.all)) s := by
  have key : ∀ (a b c : PyData) (w : Str) (r : PyData), (w = "go" ∧ r = a) ∨ (w = "if" ∧ r = b) ∨ (w = "back" ∧ r = c) → ((dispD [((Vl.dat (.str "go")), .dat a), ((Vl.dat (.str "if")), .dat b), ((Vl.dat (.str "back")), .dat c)]).bind fun x => phIx x (.dat (.str w)) s) = some (.dat r) := by
    intro a b c w r h
    have e1 : dispD [((Vl.dat (.str "go")), .dat a), ((Vl.dat (.str "if")), .dat b), ((Vl.dat (.str "back")), .dat c)] = some (.dat (.dict [(.str "go", a), (.str "if", b), (.str "back", c)])) := by
      have e2 : dMergeD [(PyData.str "go", a), (.str "if", b), (.str "back", c)] = [(.str "go", a), (.str "if", b), (.str "back", c)] := by
        simp [dMergeD, dPut, dHas, show ("go" : Str) ≠ "if" by decide, show ("go" : Str) ≠ "back" by decide, show ("if" : Str) ≠ "back" by decide]
      unfold dispD
      show (if 3 ≤ 15 then some (Vl.dat (.dict (dMergeD [(PyData.str "go", a), (.str "if", b), (.str "back", c)]))) else none) = _
      rw [if_pos (by decide), e2]
    rw [e1, Option.bind_some]
    rcases h with ⟨rfl, rfl⟩ | ⟨rfl, rfl⟩ | ⟨rfl, rfl⟩
    · simp [phIx, dOf, dLook_cons]
    · simp [phIx, dOf, dLook_cons, show ("go" : Str) ≠ "if" by decide]
    · simp [phIx, dOf, dLook_cons, show ("go" : Str) ≠ "back" by decide, show ("if" : Str) ≠ "back" by decide]
  have fin : ∀ (a b : List PyData) (w : Str) (r : PyData), (w = "go" ∧ r = .tuple a) ∨ (w = "if" ∧ r = .tuple b) ∨ (w = "back" ∧ r = .tuple []) → ((R.of (dispD [((Vl.dat (.str "go")), .dat (.tuple a)), ((Vl.dat (.str "if")), .dat (.tuple b)), ((Vl.dat (.str "back")), .dat (.tuple []))]) s).bind fun x s => R.of (phIx x (.dat (.str w)) s) s) = .ok (.dat r) s := by
    intro a b w r h
    have := key (.tuple a) (.tuple b) (.tuple []) w r h
    obtain ⟨x, h1, h2⟩ := Option.bind_eq_some_iff.mp this
    rw [h1, R.of_some, R.bind_ok, h2, R.of_some]
  cases e with
  | go a =>
    have e1 : cut [PyData.str "go", .int a] (some 1) none = [.int a] := rfl
    have e2 : cut [PyData.str "go", .int a] (some 2) none = [] := rfl
    have := fin [.int a] [] "go" (.tuple [.int a]) (.inl ⟨rfl, rfl⟩)
    simpa [Endd.d, phSl, e1, e2, phIx, Endd.all, intsD] using this
  | iff o a b =>
    have e1 : cut [PyData.str "if", o.d, .int a, .int b] (some 1) none = [o.d, .int a, .int b] := rfl
    have e2 : cut [PyData.str "if", o.d, .int a, .int b] (some 2) none = [.int a, .int b] := rfl
    have := fin [o.d, .int a, .int b] [.int a, .int b] "if" (.tuple [.int a, .int b]) (.inr (.inl ⟨rfl, rfl⟩))
    simpa [Endd.d, phSl, e1, e2, phIx, Endd.all, intsD] using this
  | back =>
    have e1 : cut [PyData.str "back"] (some 1) none = [] := rfl
    have e2 : cut [PyData.str "back"] (some 2) none = [] := rfl
    have := fin [] [] "back" (.tuple []) (.inr (.inr ⟨rfl, rfl⟩))
    simpa [Endd.d, phSl, e1, e2, phIx, Endd.all, intsD] using this
end Pm
set_option maxRecDepth 100000
set_option maxHeartbeats 4000000
namespace Pm
open PySem PySem.Spec PyProof.Rows L2 Sw
noncomputable def n_law_after_k55 (w_blocks_here : Vl) (w_block : Vl) : Sto → An Unit Empty := fun s =>
  ((R.of (phIx w_blocks_here w_block s) s).bind fun x2 s3 => R.of (phIx x2 (Vl.dat (.int 1)) s3) s3).an fun w_end_here s1 =>
    (((((((R.of ((int? (Vl.dat (.int 1))).map some) s1).bind fun o4 s5 => R.of (phSl w_end_here o4 none s5) s5).bind fun x6 s7 => (((R.of ((int? (Vl.dat (.int 2))).map some) s7).bind fun o8 s9 => R.of (phSl w_end_here o8 none s9) s9).bind fun x10 s11 => ((R.of (tupN []) s11).bind fun x12 s13 => R.ok [((Vl.dat (.str "back")), x12)] s13).bind fun l14 s15 => R.ok (((Vl.dat (.str "if")), x10) :: l14) s15).bind fun l16 s17 => R.ok (((Vl.dat (.str "go")), x6) :: l16) s17).bind fun l18 s19 => R.of (dispD l18) s19).bind fun x20 s21 => (R.of (phIx w_end_here (Vl.dat (.int 0)) s21) s21).bind fun x22 s23 => R.of (phIx x20 x22 s23) s23).bind fun x24 s25 => R.ok [x24] s25).bind fun l26 s27 => R.of (phList l26 s27) s27).an fun x28 s29 => .rt x28 s29
noncomputable def r_law_after_k55 : MF := runN fun xs => match xs with
  | [w_blocks_here, w_block] => n_law_after_k55 w_blocks_here w_block
  | _ => fun _ => .bad
noncomputable def G_law_after_k55 : MF := frameG (r_law_after_k55)
def mk_law_come_1 (w_blocks_here : Vl) (w_left_out : Vl) : (Vl × Vl) → Loc := fun a => [some w_blocks_here, some w_left_out, some a.1, some a.2, none, none]
noncomputable def tb_law_come_1 (w_blocks_here : Vl) (w_left_out : Vl) (w_found : Vl) (w_at : Vl) : Sto → R Bool := fun s => ((R.of (phLen [w_found] s) s).bind fun x7 s8 => R.of (phLt w_at x7 s8) s8).bind fun x9 s10 => R.of (bool? x9) s10
noncomputable def ct_law_come_1 (w_left_out : Vl) (w_found : Vl) (w_one : Vl) : Sto → R Bool := fun s => ((R.of ((phIn true) w_one w_found s) s).bind fun x23 s24 => R.of (bool? x23) s24).bind fun c25 s26 => if c25 = true then (R.of (phNe w_one w_left_out s26) s26).bind fun x27 s28 => R.of (bool? x27) s28 else R.ok false s26
noncomputable def ce_law_come_2  (w_one : Vl) : Sto → R Vl := fun s => R.ok w_one s
noncomputable def nb_law_come_1 (w_blocks_here : Vl) (w_left_out : Vl) (w_found : Vl) (w_at : Vl) : Sto → An (Vl × Vl) (Vl × Vl) := fun s =>
  ((((((R.of (phIx w_found w_at s) s).bind fun x12 s13 => R.ok [x12] s13).bind fun l14 s15 => R.ok (w_blocks_here :: l14) s15).bind fun l16 s17 => callN 2 G_law_after_k55 l16 s17).bind fun x18 s19 => R.ok [x18] s19).bind fun l20 s21 => R.of (phSSI l20 s21) s21).an fun w_some s11 =>
    ((lcP (R.of (src w_some s11) s11) pV (fun p s => ct_law_come_1 w_left_out w_found p s) (fun p s => ce_law_come_2 p s)).bind fun x29 s30 => R.of (phAdd w_found x29 s30) s30).an fun w_found s22 =>
    (R.of (phAdd w_at (Vl.dat (.int 1)) s22) s22).an fun w_at s31 =>
    .nx (w_found, w_at) s31
noncomputable def wl_law_come_1 {L : Type} (w_blocks_here : Vl) (w_left_out : Vl) : (Vl × Vl) → Sto → An (Vl × Vl) L := whl (mk_law_come_1 w_blocks_here w_left_out) (fun a s => tb_law_come_1 w_blocks_here w_left_out a.1 a.2 s) (fun a s => nb_law_come_1 w_blocks_here w_left_out a.1 a.2 s)
theorem wl_law_come_1_un {L : Type} (w_blocks_here : Vl) (w_left_out : Vl) {a : (Vl × Vl)} {s : Sto} : (wl_law_come_1 (L := L) w_blocks_here w_left_out a s) = (tb_law_come_1 w_blocks_here w_left_out a.1 a.2 s).an fun c s1 => if c = true then (nb_law_come_1 w_blocks_here w_left_out a.1 a.2 s1).lp (mk_law_come_1 w_blocks_here w_left_out) s1.length (wl_law_come_1 w_blocks_here w_left_out) else .nx a s1 := whl_unfold
noncomputable def kt_law_come_1 (w_blocks_here : Vl) (w_left_out : Vl) (w_found : Vl) (w_at : Vl) : Sto → An Unit Empty := fun s =>
  (R.ok w_found s).an fun x34 s35 => .rt x34 s35
noncomputable def n_law_come (w_blocks_here : Vl) (w_left_out : Vl) : Sto → An Unit Empty := fun s =>
  (((R.of (phEq w_left_out (Vl.dat (.int 0)) s) s).bind fun x2 s3 => R.of (bool? x2) s3).bind fun c4 s5 => if c4 = true then R.of (lstN []) s5 else R.of (lstN [(Vl.dat (.int 0))]) s5).an fun w_found s1 =>
    (R.ok (Vl.dat (.int 0)) s1).an fun w_at s6 =>
    (wl_law_come_1 w_blocks_here w_left_out (w_found, w_at) s6).thn fun j32 s33 => kt_law_come_1 w_blocks_here w_left_out j32.1 j32.2 s33
noncomputable def r_law_come : MF := runN fun xs => match xs with
  | [w_blocks_here, w_left_out] => n_law_come w_blocks_here w_left_out
  | _ => fun _ => .bad
noncomputable def G_law_come : MF := frameG (r_law_come)
section
variable {bs : List Blk}
theorem G_after_eq {b : Int} {x : Blk} (hx : atI bs b = some x) (s : Sto) : G_law_after_k55 [.dat (blksD bs), .dat (.int b)] s = .ok (.dat (.list (x.fin.all.map .int))) s := by
  refine fr0 (s2 := []) ?_
  rw [r_law_after_k55, runN_ap]
  refine wp_of (Q := fun z => An.fin z = _) ?_
  simp only [n_law_after_k55]
  refine wp_an (a := .dat x.fin.d) (s := []) (by simp [blksD, atI_map, hx, Blk.d]) ?_
  simp only [Wp]
  rw [parts_eq]
  simp [phList, seqD, intsD]
theorem allB_at {b : Int} {x : Blk} (hx : atI bs b = some x) : allB bs b = x.fin.all := by unfold allB; rw [hx]
theorem goalsB_ris {b : Int} : goalsB bs b = risI (allB bs b) := by
  unfold goalsB allB
  cases atI bs b with
  | none => rfl
  | some k => rfl
theorem allB_len {b : Int} : (allB bs b).length ≤ 2 := by
  unfold allB
  cases atI bs b with
  | none => exact Nat.zero_le _
  | some k =>
    have : ∀ e : Endd, e.all.length ≤ 2 := fun e => by cases e <;> simp [Endd.all]
    exact this _
/-- reached, one left out or none -/
def RchL (bs : List Blk) : Option Int → Int → Prop
  | none => Rch bs
  | some o => RchO bs o
def lvl : Option Int → PyData
  | none => .none
  | some o => .int o
theorem RchL.in (ok : GoIn bs) : ∀ {o : Option Int} {x : Int}, RchL bs o x → 0 ≤ x ∧ x < (bs.length : Int)
  | none, _, h => Rch.in ok h
  | some _, _, h => RchO.in ok h
theorem RchL.next : ∀ {o : Option Int} {a b : Int}, RchL bs o a → b ∈ goalsB bs a → o ≠ some b → RchL bs o b
  | none, _, _, h, hb, _ => .step h (mem_goalsB.mp hb)
  | some o, _, _, h, hb, ne => .step h hb (fun e => ne (by rw [e]))
theorem RchL.ind {o : Option Int} {P : Int → Prop} (h0 : o ≠ some 0 → P 0) (hs : ∀ a b, P a → b ∈ goalsB bs a → o ≠ some b → P b) : ∀ x, RchL bs o x → P x := by
  cases o with
  | none =>
    have key : ∀ x, Rch bs x → P x := fun x h => by
      induction h with
      | zero => exact h0 (by simp)
      | step _ hb ih => exact hs _ _ ih (mem_goalsB.mpr hb) (by simp)
    exact key
  | some o =>
    have key : ∀ x, RchO bs o x → P x := fun x h => by
      induction h with
      | zero h => exact h0 (by simpa using h)
      | step _ hb ne ih => exact hs _ _ ih hb (fun e => ne (by injection e with e; exact e.symm))
    exact key
structure CmI (bs : List Blk) (o : Option Int) (L : List Int) (k : Nat) : Prop where
  nd : L.Nodup
  rch : ∀ x ∈ L, RchL bs o x
  fst : o ≠ some 0 → (0 : Int) ∈ L
  le : k ≤ L.length
  all : ∀ i x, i < k → L[i]? = some x → ∀ g ∈ goalsB bs x, o ≠ some g → g ∈ L
theorem CmI.len (ok : GoIn bs) {o : Option Int} {L : List Int} {k : Nat} (h : CmI bs o L k) : L.length ≤ bs.length := few_in h.nd fun x hx => (h.rch x hx).in ok
def newC (bs : List Blk) (o : Option Int) (L : List Int) (b : Int) : List Int := (goalsB bs b).filter fun g => !decide (g ∈ L) && !decide (o = some g)
theorem CmI.next {o : Option Int} {L : List Int} {k : Nat} {b : Int} (h : CmI bs o L k) (hb : L[k]? = some b) : CmI bs o (L ++ newC bs o L b) (k + 1) := by
  have hm : ∀ x, x ∈ newC bs o L b ↔ x ∈ goalsB bs b ∧ x ∉ L ∧ o ≠ some x := fun x => by
    unfold newC
    rw [List.mem_filter]
    simp
  have hk : k < L.length := (List.getElem?_eq_some_iff.mp hb).1
  refine ⟨?_, fun x hx => ?_, fun z => List.mem_append_left _ (h.fst z), by rw [List.length_append]; omega, fun i x hi hx g hg ho => ?_⟩
  · rw [List.nodup_append]
    refine ⟨h.nd, ?_, fun x hx y hy e => ?_⟩
    · refine List.Nodup.sublist List.filter_sublist ?_
      rw [goalsB_ris]
      exact nd_lt (sorted_risI _)
    · subst e
      exact ((hm x).mp hy).2.1 hx
  · rcases List.mem_append.mp hx with hx | hx
    · exact h.rch x hx
    · obtain ⟨h1, _, h2⟩ := (hm x).mp hx
      exact (h.rch b (List.mem_of_getElem? hb)).next h1 h2
  · by_cases e : i = k
    · subst e
      rw [List.getElem?_append_left hk, hb] at hx
      cases hx
      by_cases hgl : g ∈ L
      · exact List.mem_append_left _ hgl
      · exact List.mem_append_right _ ((hm g).mpr ⟨hg, hgl, ho⟩)
    · rw [List.getElem?_append_left (by omega)] at hx
      exact List.mem_append_left _ (h.all i x (by omega) hx g hg ho)
theorem CmI.fin {o : Option Int} {L : List Int} {k : Nat} (h : CmI bs o L k) (hk : L.length ≤ k) : ∀ x, x ∈ L ↔ RchL bs o x := fun x => ⟨h.rch x, RchL.ind h.fst (fun a b ha hb ho => by
  obtain ⟨i, hi⟩ := List.mem_iff_getElem?.mp ha
  exact h.all i a (by have := (List.getElem?_eq_some_iff.mp hi).1; omega) hi b hb ho) x⟩
theorem wl_come (ok : GoIn bs) (few : bs.length ≤ 30) {o : Option Int} {L' : Type} : ∀ (m : Nat) (L : List Int) (k : Nat), CmI bs o L k → bs.length - k ≤ m →
    ∃ (L2 : List Int) (k2 : Nat), (wl_law_come_1 (L := L') (.dat (blksD bs)) (.dat (lvl o)) (.dat (.list (L.map .int)), .dat (.int (k : Int))) []) = .nx (.dat (.list (L2.map .int)), .dat (.int (k2 : Int))) [] ∧ CmI bs o L2 k2 ∧ L2.length ≤ k2 := by
  intro m
  induction m with
  | zero =>
    intro L k h hm
    have hl := h.len ok
    have hk := h.le
    refine ⟨L, k, ?_, h, by omega⟩
    rw [wl_law_come_1_un]
    have : ¬((k : Int) < (L.length : Int)) := by omega
    simp [tb_law_come_1, phLen, this]
  | succ m ih =>
    intro L k h hm
    have hl := h.len ok
    have hk := h.le
    by_cases e : L.length ≤ k
    · refine ⟨L, k, ?_, h, e⟩
      rw [wl_law_come_1_un]
      have : ¬((k : Int) < (L.length : Int)) := by omega
      simp [tb_law_come_1, phLen, this]
    · have hlt : k < L.length := by omega
      have hb : L[k]? = some L[k] := List.getElem?_eq_getElem hlt
      have hi := (h.rch _ (List.mem_of_getElem? hb)).in ok
      obtain ⟨x, hx, _⟩ := atI_in hi.1 hi.2
      have I' := h.next hb
      obtain ⟨L2, k2, e1, e2, e3⟩ := ih _ _ I' (by omega)
      refine ⟨L2, k2, ?_, e2, e3⟩
      rw [wl_law_come_1_un]
      have ht : (tb_law_come_1 (.dat (blksD bs)) (.dat (lvl o)) (.dat (.list (L.map .int))) (.dat (.int (k : Int))) []) = .ok true [] := by
        have : (k : Int) < (L.length : Int) := by omega
        simp [tb_law_come_1, phLen, this]
      have hbody : nb_law_come_1 (.dat (blksD bs)) (.dat (lvl o)) (.dat (.list (L.map .int))) (.dat (.int (k : Int))) [] = .nx (.dat (.list ((L ++ newC bs o L L[k]).map .int)), .dat (.int ((k + 1 : Nat) : Int))) [] := by
        refine wp_of (Q := fun z => z = _) ?_
        simp only [nb_law_come_1]
        have eix : phIx (.dat (.list (L.map .int))) (.dat (.int (k : Int))) [] = some (.dat (.int L[k])) := by
          show (atI (L.map PyData.int) (k : Int)).map Vl.dat = _
          rw [atI_map, atI_nat', hb]
          rfl
        refine wp_an (a := .dat (.list ((goalsB bs L[k]).map .int))) (s := []) ?_ ?_
        · have el := phSSI_l (ns := x.fin.all) (s := []) (by have := allB_len (bs := bs) (b := L[k]); rw [allB_at hx] at this; omega)
          simp only [eix, R.of_some, R.bind_ok, callN_ap, List.length_cons, List.length_nil, List.all_cons, List.all_nil, noX, Bool.and_self, and_self, if_true, G_after_eq hx, el]
          rw [goalsB_ris, allB_at hx]
        have ec := lcP_pure (pat := pV) (t := fun p s => ct_law_come_1 (.dat (lvl o)) (.dat (.list (L.map .int))) p s) (e := fun p s => ce_law_come_2 p s) (s := []) (a' := none) (l := goalsB bs L[k]) (fun x => Vl.dat (.int x)) (fun x => Vl.dat (.int x)) (fun g => !decide (g ∈ L) && !decide (o = some g)) (fun x => .int x) trivial (fun y hy => ⟨rfl, by
          have en : phNe (.dat (.int y)) (.dat (lvl o)) [] = some (.dat (.bool (!decide (o = some y)))) := by
            cases o with
            | none =>
              show phNe (.dat (.int y)) (.dat .none) [] = _
              rw [phNe_in]
              simp
            | some o =>
              show phNe (.dat (.int y)) (.dat (.int o)) [] = _
              rw [phNe_i]
              have : decide (y = o) = decide (some o = some y) := by
                rw [Bool.eq_iff_iff, decide_eq_true_iff, decide_eq_true_iff]
                exact ⟨fun e => by rw [e], fun e => by injection e with e; exact e.symm⟩
              rw [this]
          by_cases hm : y ∈ L
          · simp [ct_law_come_1, phIn_l, hm]
          · simp [ct_law_come_1, phIn_l, hm, en], fun _ => rfl⟩) (th_mil (by have := goalsB_len (bs := bs) (b := L[k]); omega))
        have es : src (.dat (.list ((goalsB bs L[k]).map .int))) [] = some ⟨(goalsB bs L[k]).map fun x => Vl.dat (.int x), none⟩ := by simp [src, Function.comp_def]
        have ln : (newC bs o L L[k]).length ≤ 2 := Nat.le_trans (List.length_filter_le _ _) goalsB_len
        refine wp_an (a := .dat (.list ((L ++ newC bs o L L[k]).map .int))) (s := []) ?_ ?_
        · rw [es, R.of_some, ec, R.bind_ok]
          have : phAdd (.dat (.list (L.map .int))) (.dat (.list ((newC bs o L L[k]).map PyData.int))) [] = some (.dat (.list ((L ++ newC bs o L L[k]).map .int))) := by
            have hl2 : L.length + (newC bs o L L[k]).length ≤ mil := th_mil (by omega)
            simp [phAdd, hl2]
          show R.of (phAdd _ (.dat (.list ((newC bs o L L[k]).map PyData.int))) []) [] = _
          rw [this]
          rfl
        refine wp_an (a := .dat (.int ((k + 1 : Nat) : Int))) (s := []) (by simp) rfl
      rw [ht]
      simp only [R.an_ok, if_true]
      rw [hbody, lp_nx, tidy_same (by simp), e1]
theorem G_come_eq (ok : GoIn bs) (few : bs.length ≤ 30) (o : Option Int) : ∃ L : List Int, L.Nodup ∧ (∀ x, x ∈ L ↔ RchL bs o x) ∧ ∀ s, G_law_come [.dat (blksD bs), .dat (lvl o)] s = .ok (.dat (.list (L.map .int))) s := by
  obtain ⟨L0, hL0⟩ : ∃ L0 : List Int, L0 = if o = some 0 then [] else [0] := ⟨_, rfl⟩
  have I0 : CmI bs o L0 0 := by
    rw [hL0]
    by_cases e : o = some 0
    · rw [if_pos e]
      exact ⟨List.nodup_nil, (fun _ h => by cases h), fun h => absurd e h, Nat.le_refl _, fun i x h => by omega⟩
    · rw [if_neg e]
      refine ⟨by simp, fun x hx => ?_, fun _ => by simp, by simp, fun i x h => by omega⟩
      have : x = 0 := by simpa using hx
      subst this
      cases o with
      | none => exact Rch.zero
      | some o => exact RchO.zero fun z => e (by rw [z])
  obtain ⟨L, k, h, I, hk⟩ := wl_come ok few (L' := Empty) bs.length L0 0 I0 (by omega)
  refine ⟨L, I.nd, I.fin hk, fun s => fr0 (s2 := []) ?_⟩
  rw [r_law_come, runN_ap]
  refine wp_of (Q := fun z => An.fin z = _) ?_
  simp only [n_law_come]
  refine wp_an (a := .dat (.list (L0.map .int))) (s := []) ?_ ?_
  · rw [hL0]
    cases o with
    | none => simp [lvl, phEq_ni]
    | some o =>
      by_cases e : o = 0
      · subst e; simp [lvl]
      · simp [lvl, e]
  refine wp_an (a := .dat (.int ((0 : Nat) : Int))) (s := []) rfl ?_
  refine wp_thn h ?_
  simp [Wp, kt_law_come_1]
end
end Pm
set_option maxRecDepth 100000
set_option maxHeartbeats 4000000
namespace Pm
open PySem PySem.Spec PyProof.Rows L2 Sw
noncomputable def ct_law_makers_k55_1 (w_rows : Vl) (w_at : Vl) : Sto → R Bool := fun s => (((R.of (phIx w_rows w_at s) s).bind fun x9 s10 => R.of (phIx x9 (Vl.dat (.int 0)) s10) s10).bind fun x11 s12 => (R.of (tupN [(Vl.dat (.str "store")), (Vl.dat (.str "call"))]) s12).bind fun x13 s14 => R.of ((phIn false) x11 x13 s14) s14).bind fun x15 s16 => R.of (bool? x15) s16
noncomputable def ce_law_makers_k55_2  (w_at : Vl) : Sto → R Vl := fun s => R.ok w_at s
noncomputable def ce_law_makers_k55_3 (w_label : Vl) (w_block : Vl) (w_rows : Vl) (w_at : Vl) : Sto → R Vl := fun s => ((((((R.of (phIx w_rows w_at s) s).bind fun x17 s18 => R.of (phIx x17 (Vl.dat (.int 0)) s18) s18).bind fun x19 s20 => ((R.of (tupN [w_label, w_block, w_at]) s20).bind fun x21 s22 => R.ok [x21] s22).bind fun l23 s24 => R.ok (x19 :: l23) s24).bind fun l25 s26 => R.of (tupN l25) s26).bind fun x27 s28 => R.ok [x27] s28).bind fun l29 s30 => R.ok (w_at :: l29) s30).bind fun l31 s32 => R.of (tupN l31) s32
noncomputable def n_law_makers_k55 (w_label : Vl) (w_blocks_here : Vl) (w_block : Vl) : Sto → An Unit Empty := fun s =>
  ((R.of (phIx w_blocks_here w_block s) s).bind fun x2 s3 => R.of (phIx x2 (Vl.dat (.int 0)) s3) s3).an fun w_rows s1 =>
    (lcP (((R.of (phLen [w_rows] s1) s1).bind fun x5 s6 => R.ok [x5] s6).bind fun l7 s8 => rngN1 l7 s8) pV (fun p s => ct_law_makers_k55_1 w_rows p s) (fun p s => ce_law_makers_k55_2 p s)).an fun w_some s4 =>
    (((lcP (R.of (src w_some s4) s4) pV (fun p s => R.ok true s) (fun p s => ce_law_makers_k55_3 w_label w_block w_rows p s)).bind fun x33 s34 => R.ok [x33] s34).bind fun l35 s36 => R.of (phDictL l35 s36) s36).an fun x37 s38 => .rt x37 s38
noncomputable def r_law_makers_k55 : MF := runN fun xs => match xs with
  | [w_label, w_blocks_here, w_block] => n_law_makers_k55 w_label w_blocks_here w_block
  | _ => fun _ => .bad
noncomputable def G_law_makers_k55 : MF := frameG (r_law_makers_k55)
theorem dMergeD_ints {f : Nat → PyData} {l : List Nat} (nd : l.Nodup) : dMergeD (l.map fun (k : Nat) => (PyData.int (k : Int), f k)) = l.map fun (k : Nat) => (PyData.int (k : Int), f k) := by
  have main : ∀ (l acc : List Nat), (acc ++ l).Nodup → (l.map fun (k : Nat) => (PyData.int (k : Int), f k)).foldl (fun acc p => dPut acc p.1 p.2) (acc.map fun (k : Nat) => (PyData.int (k : Int), f k)) = (acc ++ l).map fun (k : Nat) => (PyData.int (k : Int), f k) := fun l => by
    induction l with
    | nil => intro acc _; rw [List.append_nil]; rfl
    | cons p l ih =>
      intro acc h
      have hn : ∀ q ∈ acc, q ≠ p := fun q hq z => by
        rw [List.nodup_append] at h
        exact h.2.2 q hq p List.mem_cons_self z
      have hd : dPut (acc.map fun (k : Nat) => (PyData.int (k : Int), f k)) (.int (p : Int)) (f p) = (acc ++ [p]).map fun (k : Nat) => (PyData.int (k : Int), f k) := by
        unfold dPut dHas
        rw [if_neg, List.map_append]
        · rfl
        · intro z
          obtain ⟨q1, hq1, e⟩ := List.any_eq_true.mp z
          obtain ⟨q2, hq2, rfl⟩ := List.mem_map.mp hq1
          have e : kEq (.int (q2 : Int)) (.int (p : Int)) = true := e
          rw [kEq_i] at e
          have := of_decide_eq_true e
          exact hn q2 hq2 (by omega)
      rw [List.map_cons, List.foldl_cons]
      show List.foldl _ (dPut (acc.map fun (k : Nat) => (PyData.int (k : Int), f k)) (.int (p : Int)) (f p)) _ = _
      rw [hd, ih (acc ++ [p]) (by rw [List.append_assoc]; exact h), List.append_assoc]
      rfl
  exact main l [] nd
/-- the dict of those that give -/
def mkKv (nm : Str) (b : Int) (rows : List Row) : List (PyData × PyData) := ((List.range rows.length).filter (gvAt rows)).map fun (k : Nat) => (PyData.int (k : Int), (Ver.gvn (stAt rows k) b (k : Int)).d nm)
theorem mkKv_vals {nm : Str} {b : Int} {rows : List Row} : (mkKv nm b rows).map (fun p => p.2) = (givR rows b).map (Ver.d nm) := by
  unfold mkKv givR
  rw [List.map_map, List.map_map]
  rfl
theorem mkKv_emp {nm : Str} {b : Int} {rows : List Row} : (mkKv nm b rows).isEmpty = (givR rows b).isEmpty := by
  unfold mkKv givR
  rw [List.isEmpty_map, List.isEmpty_map]
theorem pairs2L_kv {f : Nat → PyData} (hf : ∀ k : Nat, isO [.int (k : Int), f k] = false) : ∀ l : List Nat, pairs2L (l.map fun (k : Nat) => PyData.tuple [.int (k : Int), f k]) = some (l.map fun (k : Nat) => (PyData.int (k : Int), f k))
  | [] => rfl
  | k :: l => by
    rw [List.map_cons, pairs2L, pairs2L_kv hf l]
    have : pair2L (PyData.tuple [.int (k : Int), f k]) = some (PyData.int (k : Int), f k) := by
      unfold pair2L
      exact if_pos ⟨rfl, hf k, rfl⟩
    rw [this]
    rfl
section
variable {bs : List Blk} {nm : Str}
theorem G_makers_eq (fr : FewR bs) {b : Int} {x : Blk} (hx : atI bs b = some x) (hm : x ∈ bs) (s : Sto) : G_law_makers_k55 [.dat (.str nm), .dat (blksD bs), .dat (.int b)] s = .ok (.dat (.dict (mkKv nm b x.rows))) s := by
  refine fr0 (s2 := []) ?_
  have lr := fr x hm
  rw [r_law_makers_k55, runN_ap]
  refine wp_of (Q := fun z => An.fin z = _) ?_
  simp only [n_law_makers_k55]
  refine wp_an (a := .dat (rowsD x.rows)) (s := []) (by simp [blksD, atI_map, hx, Blk.d]) ?_
  obtain ⟨K, hK⟩ : ∃ K, K = (List.range x.rows.length).filter (gvAt x.rows) := ⟨_, rfl⟩
  have mK : ∀ k ∈ K, ∃ r, x.rows[k]? = some r ∧ r.g = true := fun k hk => by
    rw [hK] at hk
    obtain ⟨h1, h2⟩ := List.mem_filter.mp hk
    unfold gvAt at h2
    cases e : x.rows[k]? with
    | none => rw [e] at h2; cases h2
    | some r => rw [e] at h2; exact ⟨r, rfl, h2⟩
  have lK : K.length ≤ 30 := by
    rw [hK]
    exact Nat.le_trans (List.length_filter_le _ _) (by rw [List.length_range]; exact lr)
  have ix : ∀ (k : Nat) (r : Row) (s : Sto), x.rows[k]? = some r → phIx (.dat (rowsD x.rows)) (.dat (.int (k : Int))) s = some (.dat r.d) := fun k r s h => by
    show (atI (x.rows.map Row.d) (k : Int)).map Vl.dat = _
    rw [atI_map, atI_nat', h]
    rfl
  have e1 := lcP_pure (pat := pV) (t := fun p s => ct_law_makers_k55_1 (.dat (rowsD x.rows)) p s) (e := fun p s => ce_law_makers_k55_2 p s) (s := []) (a' := none) (l := List.range x.rows.length) (fun (k : Nat) => Vl.dat (.int (k : Int))) (fun (k : Nat) => Vl.dat (.int (k : Int))) (gvAt x.rows) (fun (k : Nat) => .int (k : Int)) trivial (fun k hk => ⟨rfl, by
    have hk := List.mem_range.mp hk
    have hr := List.getElem?_eq_getElem hk
    simp only [ct_law_makers_k55_1, ix k _ _ hr, row_w, R.of_some, R.bind_ok, tupN_ap, datas_cons, datas_nil, Option.map_some, Option.bind_some]
    have : ([PyData.str "store", PyData.str "call"] : List PyData).length ≤ 1000 := by decide
    rw [if_pos this]
    simp only [R.of_some, R.bind_ok, in_giv, bool?_b, Bool.false_eq_true, if_false, g_row, gvAt, hr], fun _ => rfl⟩) (by rw [List.length_range]; exact th_mil (by omega))
  rw [← hK] at e1
  refine wp_an (a := .dat (.list (K.map fun (k : Nat) => PyData.int (k : Int)))) (s := []) ?_ ?_
  · have el : phLen [.dat (rowsD x.rows)] [] = some (.dat (.int ((x.rows.length : Nat) : Int))) := by
      show some (Vl.dat (.int ((x.rows.map Row.d).length : Int))) = _
      rw [List.length_map]
    rw [el, R.of_some, R.bind_ok, R.bind_ok, rngN1_n (th_mil (by omega)), rgs0, e1]
  have e2 := lcP_map (pat := pV) (e := fun p s => ce_law_makers_k55_3 (.dat (.str nm)) (.dat (.int b)) (.dat (rowsD x.rows)) p s) (s := []) (a' := none) (l := K) (fun (k : Nat) => Vl.dat (.int (k : Int))) (fun (k : Nat) => Vl.dat (.int (k : Int))) (fun (k : Nat) => PyData.tuple [.int (k : Int), (Ver.gvn (stAt x.rows k) b (k : Int)).d nm]) trivial (fun k hk => ⟨rfl, by
    obtain ⟨r, hr, hg⟩ := mK k hk
    simp only [ce_law_makers_k55_3, ix k _ _ hr, row_w, R.of_some, R.bind_ok, tupN_ap, datas_cons, datas_nil, Option.map_some, Option.bind_some, gW_row hg]
    have : stAt x.rows k = r.st := by unfold stAt; rw [hr]
    rw [this]
    rfl⟩) (th_mil (by omega))
  have es : src (.dat (.list (K.map fun (k : Nat) => PyData.int (k : Int)))) [] = some ⟨K.map fun (k : Nat) => Vl.dat (.int (k : Int)), none⟩ := by simp [src, Function.comp_def]
  have ed : phDictL [.dat (.list (K.map fun (k : Nat) => PyData.tuple [.int (k : Int), (Ver.gvn (stAt x.rows k) b (k : Int)).d nm]))] [] = some (.dat (.dict (mkKv nm b x.rows))) := by
    show ((pairs2L (K.map fun (k : Nat) => PyData.tuple [.int (k : Int), (Ver.gvn (stAt x.rows k) b (k : Int)).d nm])).map fun kvs => Vl.dat (.dict (dMergeD kvs))) = _
    rw [pairs2L_kv (f := fun k => (Ver.gvn (stAt x.rows k) b (k : Int)).d nm) (fun k => rfl)]
    rw [Option.map_some, dMergeD_ints (by rw [hK]; exact List.nodup_range.sublist List.filter_sublist), hK]
    rfl
  simp only [Wp]
  rw [es, R.of_some, e2, R.bind_ok, R.bind_ok, ed]
  rfl
end
theorem pop_at {s : Sto} {n : Nat} {T : List Int} {b : Int} (h : s[n]? = some (inL (T ++ [b]))) : popN (.ref n) s = .ok (.dat (.int b)) (s.set n (inL T)) := by
  have em : (T ++ [b]).map (fun x => Vl.dat (.int x)) = T.map (fun x => Vl.dat (.int x)) ++ [.dat (.int b)] := by rw [List.map_append]; rfl
  have hl : lstAt s n = some (T.map (fun x => Vl.dat (.int x)) ++ [.dat (.int b)]) := by
    unfold lstAt
    rw [h, ← em]
  show (match lstAt s n with
    | some l => (match l[l.length - 1]? with
      | some y => R.ok y (s.set n (.lst l.dropLast))
      | none => .bad)
    | none => .bad) = _
  rw [hl]
  simp only []
  rw [List.length_append, List.length_singleton, Nat.add_sub_cancel, List.dropLast_concat, List.getElem?_append_right (Nat.le_refl _), Nat.sub_self]
  rfl
theorem app_at {s : Sto} {n : Nat} {T : List Int} {b : Int} (h : s[n]? = some (inL T)) (hl : T.length ≤ 999) : appN (.ref n) s (fun s => R.ok [.dat (.int b)] s) = .ok (.dat .none) (s.set n (inL (T ++ [b]))) := by
  have h0 : lstAt s n = some (T.map fun x => .dat (.int x)) := by
    unfold lstAt
    rw [h]
  have h3 : (T.map fun x => Vl.dat (.int x)).length < mil := by rw [List.length_map]; exact Nat.lt_of_lt_of_le (Nat.lt_succ_of_le hl) (th_mil (Nat.le_refl 1000))
  unfold appN
  simp only [h0, R.bind_ok]
  rw [if_pos ⟨h3, rfl⟩, inL, List.map_append]
  rfl
theorem ne_at {s : Sto} {n : Nat} {T : List Int} (h : s[n]? = some (inL T)) : phNe (.ref n) (.dat (.list [])) s = some (.dat (.bool (!T.isEmpty))) := by
  have hd : datL (.ref n) s = some (.list (T.map PyData.int)) := by
    show (match s[n]? with
      | some (.lst l) => (datas l).map PyData.list
      | _ => none) = _
    rw [h]
    show (datas (T.map fun x => Vl.dat (.int x))).map PyData.list = _
    rw [datas_dats (f := fun x => PyData.int x) T]
    rfl
  show ((datL (.ref n) s).bind fun a => (datL (.dat (.list [])) s).bind fun b => if SeqAt.shaped a = true ∧ SeqAt.shaped b = true then some (Vl.dat (.bool (!PyData.eqv a b))) else none) = _
  rw [hd]
  show (if SeqAt.shaped (.list (T.map PyData.int)) = true ∧ SeqAt.shaped (.list []) = true then some (Vl.dat (.bool (!PyData.eqv (.list (T.map PyData.int)) (.list [])))) else none) = _
  rw [if_pos ⟨sh_ints T, sh_ints []⟩]
  cases T <;> rfl
end Pm
set_option maxRecDepth 100000
set_option maxHeartbeats 4000000
namespace Pm
open PySem PySem.Spec PyProof.Rows L2 Sw
def mk_law_merged_k55_1 (w_label : Vl) (w_blocks_here : Vl) (w_here : Vl) (w_under : Vl) : Unit → Loc := fun a => [some w_label, some w_blocks_here, some w_here, some w_under, none, none, none, none, none, none]
noncomputable def ct_law_merged_k55_1 (w_apart : Vl) (w_block : Vl) : Sto → R Bool := fun s => (R.of ((phIn true) w_block w_apart s) s).bind fun x4 s5 => R.of (bool? x4) s5
noncomputable def ce_law_merged_k55_2  (w_block : Vl) : Sto → R Vl := fun s => R.ok w_block s
noncomputable def nb_law_merged_k55_1 (w_label : Vl) (w_blocks_here : Vl) (w_here : Vl) (w_under : Vl) (w_one : Vl) : Sto → An Unit Unit := fun s =>
  (callN 2 G_law_come [w_blocks_here, w_one] s).an fun w_apart s3 =>
    (lcP (R.of (src w_here s3) s3) pV (fun p s => ct_law_merged_k55_1 w_apart p s) (fun p s => ce_law_merged_k55_2 p s)).an fun x6 s7 => stoN (subU (R.ok w_under s7) (fun z => R.ok w_one z) x6) fun s8 =>
    .nx () s8
noncomputable def lp_law_merged_k55_1 {L : Type} (w_label : Vl) (w_blocks_here : Vl) (w_here : Vl) (w_under : Vl) (ck : Sto → Prop) : List Vl → Unit → Sto → An Unit L := forN ck (mk_law_merged_k55_1 w_label w_blocks_here w_here w_under) (fun v a s => patN (pV v) fun p => nb_law_merged_k55_1 w_label w_blocks_here w_here w_under p s)
@[simp] theorem lp_law_merged_k55_1_nil {L : Type} (w_label : Vl) (w_blocks_here : Vl) (w_here : Vl) (w_under : Vl) {a : Unit} {s : Sto} : (lp_law_merged_k55_1 (L := L) w_label w_blocks_here w_here w_under okT [] a s) = .nx a s := forN_nil
theorem lp_law_merged_k55_1_cons {L : Type} (w_label : Vl) (w_blocks_here : Vl) (w_here : Vl) (w_under : Vl) {v : Vl} {r : List Vl} {a : Unit} {s : Sto} : (lp_law_merged_k55_1 (L := L) w_label w_blocks_here w_here w_under okT (v :: r) a s) = (patN (pV v) fun p => nb_law_merged_k55_1 w_label w_blocks_here w_here w_under p s).lp (mk_law_merged_k55_1 w_label w_blocks_here w_here w_under) s.length (lp_law_merged_k55_1 w_label w_blocks_here w_here w_under okT r) := forN_cons
noncomputable def ct_law_merged_k55_3 (w_label : Vl) (w_blocks_here : Vl) (w_block : Vl) : Sto → R Bool := fun s => ((callN 3 G_law_makers_k55 [w_label, w_blocks_here, w_block] s).bind fun x15 s16 => (R.ok (.ref s16.length) (s16 ++ [.dic false []])).bind fun x17 s18 => R.of (phNeE x15 x17 s18) s18).bind fun x19 s20 => R.of (bool? x19) s20
noncomputable def ce_law_merged_k55_4  (w_block : Vl) : Sto → R Vl := fun s => R.ok w_block s
def mk_law_merged_k55_2 (w_blocks_here : Vl) (w_under : Vl) (w_found : Vl) (w_left : Vl) : Unit → Loc := fun a => [none, some w_blocks_here, none, some w_under, none, none, some w_found, some w_left, none, none]
noncomputable def tb_law_merged_k55_2 (w_blocks_here : Vl) (w_under : Vl) (w_found : Vl) (w_left : Vl) : Sto → R Bool := fun s => ((R.of (lstN []) s).bind fun x27 s28 => R.of (phNe w_left x27 s28) s28).bind fun x29 s30 => R.of (bool? x29) s30
def mk_law_merged_k55_3 (w_blocks_here : Vl) (w_under : Vl) (w_found : Vl) (w_left : Vl) (w_over : Vl) : Unit → Loc := fun a => [none, some w_blocks_here, none, some w_under, none, none, some w_found, some w_left, some w_over, none]
def mk_law_merged_k55_4 (w_blocks_here : Vl) (w_under : Vl) (w_found : Vl) (w_left : Vl) (w_over : Vl) : Unit → Loc := fun a => [none, some w_blocks_here, none, some w_under, none, none, some w_found, some w_left, some w_over, none]
noncomputable def nb_law_merged_k55_4 (w_blocks_here : Vl) (w_under : Vl) (w_found : Vl) (w_left : Vl) (w_over : Vl) (w_one : Vl) : Sto → An Unit Unit := fun s =>
  ((((R.of (phEq w_one w_over s) s).bind fun x36 s37 => R.of (bool? x36) s37).bind fun c38 s39 => if c38 = true then R.ok true s39 else ((R.of (phIx w_under w_over s39) s39).bind fun x40 s41 => R.of ((phIn true) w_one x40 s41) s41).bind fun x42 s43 => R.of (bool? x42) s43).bind fun c44 s45 => if c44 = true then (R.of ((phIn true) w_one w_found s45) s45).bind fun x46 s47 => R.of (bool? x46) s47 else R.ok false s45).an fun c48 s49 => if c48 = true then
    (appN w_found s49 (fun s50 => R.ok [w_one] s50)).an fun _ s51 =>
      (appN w_left s51 (fun s52 => R.ok [w_one] s52)).an fun _ s53 =>
      .nx () s53
    else
    .nx () s49
noncomputable def lp_law_merged_k55_4 {L : Type} (w_blocks_here : Vl) (w_under : Vl) (w_found : Vl) (w_left : Vl) (w_over : Vl) (ck : Sto → Prop) : List Vl → Unit → Sto → An Unit L := forN ck (mk_law_merged_k55_4 w_blocks_here w_under w_found w_left w_over) (fun v a s => patN (pV v) fun p => nb_law_merged_k55_4 w_blocks_here w_under w_found w_left w_over p s)
@[simp] theorem lp_law_merged_k55_4_nil {L : Type} (w_blocks_here : Vl) (w_under : Vl) (w_found : Vl) (w_left : Vl) (w_over : Vl) {a : Unit} {s : Sto} : (lp_law_merged_k55_4 (L := L) w_blocks_here w_under w_found w_left w_over okT [] a s) = .nx a s := forN_nil
theorem lp_law_merged_k55_4_cons {L : Type} (w_blocks_here : Vl) (w_under : Vl) (w_found : Vl) (w_left : Vl) (w_over : Vl) {v : Vl} {r : List Vl} {a : Unit} {s : Sto} : (lp_law_merged_k55_4 (L := L) w_blocks_here w_under w_found w_left w_over okT (v :: r) a s) = (patN (pV v) fun p => nb_law_merged_k55_4 w_blocks_here w_under w_found w_left w_over p s).lp (mk_law_merged_k55_4 w_blocks_here w_under w_found w_left w_over) s.length (lp_law_merged_k55_4 w_blocks_here w_under w_found w_left w_over okT r) := forN_cons
noncomputable def kt_law_merged_k55_2 (w_blocks_here : Vl) (w_under : Vl) (w_found : Vl) (w_left : Vl) (w_over : Vl) : Sto → An Unit Unit := fun s =>
  .nx () s
noncomputable def nb_law_merged_k55_3 (w_blocks_here : Vl) (w_under : Vl) (w_found : Vl) (w_left : Vl) (w_over : Vl) (w_block : Vl) : Sto → An Unit Unit := fun s =>
  (((callN 2 G_law_after_k55 [w_blocks_here, w_block] s).bind fun x34 s35 => R.of (src x34 s35) s35).an fun c54 s55 => lp_law_merged_k55_4 w_blocks_here w_under w_found w_left w_over c54.ok c54.items () s55).thn fun j56 s57 => kt_law_merged_k55_2 w_blocks_here w_under w_found w_left w_over  s57
noncomputable def lp_law_merged_k55_3 {L : Type} (w_blocks_here : Vl) (w_under : Vl) (w_found : Vl) (w_left : Vl) (w_over : Vl) (ck : Sto → Prop) : List Vl → Unit → Sto → An Unit L := forN ck (mk_law_merged_k55_3 w_blocks_here w_under w_found w_left w_over) (fun v a s => patN (pV v) fun p => nb_law_merged_k55_3 w_blocks_here w_under w_found w_left w_over p s)
@[simp] theorem lp_law_merged_k55_3_nil {L : Type} (w_blocks_here : Vl) (w_under : Vl) (w_found : Vl) (w_left : Vl) (w_over : Vl) {a : Unit} {s : Sto} : (lp_law_merged_k55_3 (L := L) w_blocks_here w_under w_found w_left w_over okT [] a s) = .nx a s := forN_nil
theorem lp_law_merged_k55_3_cons {L : Type} (w_blocks_here : Vl) (w_under : Vl) (w_found : Vl) (w_left : Vl) (w_over : Vl) {v : Vl} {r : List Vl} {a : Unit} {s : Sto} : (lp_law_merged_k55_3 (L := L) w_blocks_here w_under w_found w_left w_over okT (v :: r) a s) = (patN (pV v) fun p => nb_law_merged_k55_3 w_blocks_here w_under w_found w_left w_over p s).lp (mk_law_merged_k55_3 w_blocks_here w_under w_found w_left w_over) s.length (lp_law_merged_k55_3 w_blocks_here w_under w_found w_left w_over okT r) := forN_cons
noncomputable def kt_law_merged_k55_3 (w_blocks_here : Vl) (w_under : Vl) (w_found : Vl) (w_left : Vl) (w_over : Vl) : Sto → An Unit Unit := fun s =>
  .nx () s
noncomputable def nb_law_merged_k55_2 (w_blocks_here : Vl) (w_under : Vl) (w_found : Vl) (w_left : Vl) : Sto → An Unit Unit := fun s =>
  (popN w_left s).an fun w_over s31 =>
    (((R.of (phIx w_under w_over s31) s31).bind fun x32 s33 => R.of (src x32 s33) s33).an fun c58 s59 => lp_law_merged_k55_3 w_blocks_here w_under w_found w_left w_over c58.ok c58.items () s59).thn fun j60 s61 => kt_law_merged_k55_3 w_blocks_here w_under w_found w_left w_over  s61
noncomputable def wl_law_merged_k55_2 {L : Type} (w_blocks_here : Vl) (w_under : Vl) (w_found : Vl) (w_left : Vl) : Unit → Sto → An Unit L := whl (mk_law_merged_k55_2 w_blocks_here w_under w_found w_left) (fun a s => tb_law_merged_k55_2 w_blocks_here w_under w_found w_left s) (fun a s => nb_law_merged_k55_2 w_blocks_here w_under w_found w_left s)
theorem wl_law_merged_k55_2_un {L : Type} (w_blocks_here : Vl) (w_under : Vl) (w_found : Vl) (w_left : Vl) {a : Unit} {s : Sto} : (wl_law_merged_k55_2 (L := L) w_blocks_here w_under w_found w_left a s) = (tb_law_merged_k55_2 w_blocks_here w_under w_found w_left s).an fun c s1 => if c = true then (nb_law_merged_k55_2 w_blocks_here w_under w_found w_left s1).lp (mk_law_merged_k55_2 w_blocks_here w_under w_found w_left) s1.length (wl_law_merged_k55_2 w_blocks_here w_under w_found w_left) else .nx a s1 := whl_unfold
noncomputable def kt_law_merged_k55_4 (w_blocks_here : Vl) (w_under : Vl) (w_found : Vl) (w_left : Vl) : Sto → An Unit Empty := fun s =>
  (((R.of (phSorted [w_found] s) s).bind fun x64 s65 => R.ok [x64] s65).bind fun l66 s67 => R.of (phTuple l66 s67) s67).an fun x68 s69 => .rt x68 s69
noncomputable def kt_law_merged_k55_1 (w_label : Vl) (w_blocks_here : Vl) (w_here : Vl) (w_under : Vl) : Sto → An Unit Empty := fun s =>
  ((newN [] s).bind fun x13 s14 => ((lcPN (R.of (src w_here s14) s14) pV (fun p s => ct_law_merged_k55_3 w_label w_blocks_here p s) (fun p s => ce_law_merged_k55_4 p s)).bind fun x21 s22 => R.ok [x21] s22).bind fun l23 s24 => R.ok (x13 :: l23) s24).an fun l26 s25 => par2N l26 fun w_found w_left =>
    (wl_law_merged_k55_2 w_blocks_here w_under w_found w_left () s25).thn fun j62 s63 => kt_law_merged_k55_4 w_blocks_here w_under w_found w_left  s63
noncomputable def n_law_merged_k55 (w_label : Vl) (w_blocks_here : Vl) : Sto → An Unit Empty := fun s =>
  (callN 2 G_law_come [w_blocks_here, (Vl.dat .none)] s).an fun w_here s1 =>
    (R.ok (.ref s1.length) (s1 ++ [.dic false []])).an fun w_under s2 =>
    ((R.of (src w_here s2) s2).an fun c9 s10 => lp_law_merged_k55_1 w_label w_blocks_here w_here w_under c9.ok c9.items () s10).thn fun j11 s12 => kt_law_merged_k55_1 w_label w_blocks_here w_here w_under  s12
noncomputable def r_law_merged_k55 : MF := runN fun xs => match xs with
  | [w_label, w_blocks_here] => n_law_merged_k55 w_label w_blocks_here
  | _ => fun _ => .bad
noncomputable def G_law_merged_k55 : MF := frameG (r_law_merged_k55)
/-- the store as the law keeps it -/
def stM (U : List (Int × PyData)) (F : List Int) (E : Sto) (T : List Int) : Sto := kvL U :: inL F :: (E ++ [inL T])
section
variable {U : List (Int × PyData)} {F T : List Int} {E : Sto}
theorem stM_0 : (stM U F E T)[0]? = some (kvL U) := rfl
theorem stM_1 : (stM U F E T)[1]? = some (inL F) := rfl
theorem stM_2 : (stM U F E T)[2 + E.length]? = some (inL T) := by
  show (kvL U :: inL F :: (E ++ [inL T]))[2 + E.length]? = _
  rw [Nat.add_comm 2, List.getElem?_cons_succ, List.getElem?_cons_succ, List.getElem?_append_right (Nat.le_refl _), Nat.sub_self]
  rfl
theorem stM_set1 {F' : List Int} : (stM U F E T).set 1 (inL F') = stM U F' E T := rfl
theorem stM_set2 {T' : List Int} : (stM U F E T).set (2 + E.length) (inL T') = stM U F E T' := by
  show (kvL U :: inL F :: (E ++ [inL T])).set (2 + E.length) _ = _
  rw [Nat.add_comm 2, List.set_cons_succ, List.set_cons_succ, List.set_append_right _ _ (Nat.le_refl _), Nat.sub_self]
  rfl
theorem stM_len {F' T' : List Int} : (stM U F E T).length = (stM U F' E T').length := by simp [stM]
end
/-- the lists of blocks under each -/
def undK (l : List Int) (u : Int → List Int) : List (Int × PyData) := l.map fun x => (x, PyData.list ((u x).map .int))
theorem undK_keys {l : List Int} {u : Int → List Int} : (undK l u).map (·.1) = l := by
  unfold undK
  rw [List.map_map]
  exact List.map_id l
theorem undK_look {l : List Int} {u : Int → List Int} {x : Int} (h : x ∈ l) : (undK l u).lookup x = some (.list ((u x).map .int)) := by
  unfold undK
  induction l with
  | nil => cases h
  | cons y l ih =>
    rw [List.map_cons, List.lookup_cons]
    by_cases e : x = y
    · subst e
      rw [beq_self_eq_true]
    · rw [beq_eq_false_iff_ne.mpr e]
      exact ih ((List.mem_cons.mp h).resolve_left e)
theorem ix_kvL {K : List (Int × PyData)} {x : Int} {d : PyData} {s : Sto} (hs : s[0]? = some (kvL K)) (h : K.lookup x = some d) : phIx (.ref 0) (.dat (.int x)) s = some (.dat d) := by
  unfold phIx
  simp only [hs]
  rw [if_pos (show kOk false (.int x) = true from rfl), look_kv h]
section
variable {bs : List Blk} {nm : Str} {hr : Vl}
theorem nb_mg1 {Lh : List Int} {ap : Int → List Int} (hap : ∀ (o : Int) s, G_law_come [.dat (blksD bs), .dat (.int o)] s = .ok (.dat (.list ((ap o).map .int))) s) (lh : Lh.length ≤ 30) {o : Int} {K : List (Int × PyData)} (hK : K.length ≤ 900) (ho : o ∉ K.map (·.1)) :
    nb_law_merged_k55_1 (.dat (.str nm)) (.dat (blksD bs)) (.dat (.list (Lh.map .int))) (.ref 0) (.dat (.int o)) [kvL K] = .nx () [kvL (K ++ [(o, .list ((Lh.filter fun x => !decide (x ∈ ap o)).map .int))])] := by
  refine wp_of (Q := fun z => z = _) ?_
  simp only [nb_law_merged_k55_1]
  refine wp_an (a := .dat (.list ((ap o).map .int))) (s := [kvL K]) (by simp [hap]) ?_
  have e1 := lcP_pure (pat := pV) (t := fun p s => ct_law_merged_k55_1 (.dat (.list ((ap o).map .int))) p s) (e := fun p s => ce_law_merged_k55_2 p s) (s := [kvL K]) (a' := none) (l := Lh) (fun x => Vl.dat (.int x)) (fun x => Vl.dat (.int x)) (fun x => !decide (x ∈ ap o)) (fun x => .int x) trivial (fun x _ => ⟨rfl, by simp [ct_law_merged_k55_1, phIn_l], fun _ => rfl⟩) (th_mil (by omega))
  have es : src (.dat (.list (Lh.map .int))) [kvL K] = some ⟨Lh.map fun x => Vl.dat (.int x), none⟩ := by simp [src, Function.comp_def]
  refine wp_an (a := .dat (.list ((Lh.filter fun x => !decide (x ∈ ap o)).map .int))) (s := [kvL K]) (by rw [es, R.of_some, e1]) ?_
  have hs : ∀ d : PyData, subU (.ok (.ref 0) [kvL K]) (fun z => .ok (.dat (.int o)) z) (.dat d) = some [kvL (K ++ [(o, d)])] := fun d => by
    show (if kOk false (.int o) = true ∧ noX (.dat d) = true ∧ (K.map fun p => (PyData.int p.1, Vl.dat p.2)).length < mil then some [Ob.dic false (dPut (K.map fun p => (PyData.int p.1, Vl.dat p.2)) (.int o) (.dat d))] else none) = _
    rw [if_pos ⟨rfl, rfl, by rw [List.length_map]; have := th_mil (n := 901) (by decide); omega⟩, dPut_int ho]
  simp only [Wp, hs, stoN_some]
theorem lp_mg1 {Lh : List Int} {ap : Int → List Int} (hap : ∀ (o : Int) s, G_law_come [.dat (blksD bs), .dat (.int o)] s = .ok (.dat (.list ((ap o).map .int))) s) (lh : Lh.length ≤ 30) {L : Type} : ∀ (l done : List Int), (done ++ l).Nodup → done.length + l.length ≤ 900 →
    (lp_law_merged_k55_1 (L := L) (.dat (.str nm)) (.dat (blksD bs)) (.dat (.list (Lh.map .int))) (.ref 0) okT (l.map fun x => .dat (.int x)) () [kvL (undK done fun o => Lh.filter fun x => !decide (x ∈ ap o))]) = .nx () [kvL (undK (done ++ l) fun o => Lh.filter fun x => !decide (x ∈ ap o))]
  | [], done, _, _ => by rw [List.map_nil, lp_law_merged_k55_1_nil, List.append_nil]
  | o :: l, done, nd, hl => by
    rw [List.length_cons] at hl
    have hb := nb_mg1 (nm := nm) hap lh (o := o) (K := undK done fun o => Lh.filter fun x => !decide (x ∈ ap o)) (by unfold undK; rw [List.length_map]; omega) (by
      rw [undK_keys]
      intro z
      rw [List.nodup_append] at nd
      exact nd.2.2 o z o List.mem_cons_self rfl)
    have ek : (undK done fun o => Lh.filter fun x => !decide (x ∈ ap o)) ++ [(o, PyData.list ((Lh.filter fun x => !decide (x ∈ ap o)).map .int))] = undK (done ++ [o]) fun o => Lh.filter fun x => !decide (x ∈ ap o) := by
      unfold undK
      rw [List.map_append]
      rfl
    rw [ek] at hb
    have ih := lp_mg1 hap lh (L := L) l (done ++ [o]) (by rw [List.append_assoc]; exact nd) (by rw [List.length_append, List.length_singleton]; omega)
    rw [List.map_cons, lp_law_merged_k55_1_cons, pV_ap, patN_some, hb, lp_nx, tidy_same (by simp), ih, List.append_assoc]
    rfl
/-- a comprehension whose test lays an empty dict each time -/
theorem compP_lay {t e : Vl → Sto → R Bool} {e' : Vl → Sto → R Vl} {b : Int → Bool} : ∀ (l : List Int) (acc : List Vl) (s : Sto), (∀ x ∈ l, ∀ s, t (.dat (.int x)) s = .ok (b x) (s ++ [.dic false []])) → (∀ x s, e' (.dat (.int x)) s = .ok (.dat (.int x)) s) → acc.length + l.length ≤ 900 → ∀ l0 : List Vl,
    compP (Src.ok ⟨l0, none⟩) pV t e' (l.map fun x => .dat (.int x)) acc s = .ok (acc ++ (l.filter b).map fun x => .dat (.int x)) (s ++ List.replicate l.length (.dic false []))
  | [], acc, s, _, _, _, l0 => by rw [List.map_nil, compP_nil trivial]; simp
  | x :: l, acc, s, ht, he, hl, l0 => by
    rw [List.length_cons] at hl
    have h1 := ht x List.mem_cons_self s
    have hrep : ∀ s : Sto, s ++ [Ob.dic false []] ++ List.replicate l.length (Ob.dic false []) = s ++ List.replicate (l.length + 1) (Ob.dic false []) := fun s => by rw [List.append_assoc, List.replicate_succ]; rfl
    cases hb : b x with
    | true =>
      rw [hb] at h1
      rw [List.map_cons, compP_yes (ok := Src.ok ⟨l0, none⟩) (pat := pV) (acc := acc) trivial rfl h1 (he x _) (by have := th_mil (n := 901) (by decide); omega)]
      rw [compP_lay (e := e) l _ _ (fun y hy => ht y (List.mem_cons_of_mem _ hy)) he (by rw [List.length_append, List.length_singleton]; omega) l0, List.filter_cons_of_pos hb, List.map_cons, List.append_assoc, List.length_cons, hrep]
      rfl
    | false =>
      rw [hb] at h1
      rw [List.map_cons, compP_no (ok := Src.ok ⟨l0, none⟩) (pat := pV) trivial rfl h1]
      rw [compP_lay (e := e) l _ _ (fun y hy => ht y (List.mem_cons_of_mem _ hy)) he (by omega) l0, List.filter_cons_of_neg (by rw [hb]; decide), List.length_cons, hrep]
theorem ct_mg3 (fr : FewR bs) {b : Int} {x : Blk} (hx : atI bs b = some x) (hm : x ∈ bs) (s : Sto) : ct_law_merged_k55_3 (.dat (.str nm)) (.dat (blksD bs)) (.dat (.int b)) s = .ok (!(givB bs b).isEmpty) (s ++ [.dic false []]) := by
  have e1 : ∀ s, callN 3 G_law_makers_k55 [.dat (.str nm), .dat (blksD bs), .dat (.int b)] s = .ok (.dat (.dict (mkKv nm b x.rows))) s := fun s => by simp [G_makers_eq fr hx hm]
  have e2 : dOf (.dat (.dict (mkKv nm b x.rows))) (s ++ [Ob.dic false []]) = some (false, (mkKv nm b x.rows).map fun p => (p.1, Vl.dat p.2)) := by
    unfold mkKv
    cases (List.range x.rows.length).filter (gvAt x.rows) with
    | nil => rfl
    | cons k l => rfl
  have e3 : dOf (.ref s.length) (s ++ [Ob.dic false []]) = some (false, []) := by
    show (match (s ++ [Ob.dic false []])[s.length]? with
      | some (.dic t l) => some (t, l)
      | _ => none) = _
    rw [List.getElem?_append_right (Nat.le_refl _), Nat.sub_self]
    rfl
  have e4 : phNeE (.dat (.dict (mkKv nm b x.rows))) (.ref s.length) (s ++ [Ob.dic false []]) = some (.dat (.bool (!(givB bs b).isEmpty))) := by
    show ((dOf (.dat (.dict (mkKv nm b x.rows))) (s ++ [Ob.dic false []])).bind fun p => (dOf (.ref s.length) (s ++ [Ob.dic false []])).bind fun q => if p.1 = false ∧ q.1 = false ∧ q.2 = [] then some (Vl.dat (.bool (!p.2.isEmpty))) else none) = _
    rw [e2, e3, Option.bind_some, Option.bind_some]
    simp only [and_self, if_true, List.isEmpty_map]
    rw [mkKv_emp, givB_at hx]
  simp only [ct_law_merged_k55_3, e1, R.bind_ok, e4, R.of_some, bool?_b]
end
end Pm
set_option maxRecDepth 100000
set_option maxHeartbeats 4000000
namespace Pm
open PySem PySem.Spec PyProof.Rows L2 Sw
theorem in_at {neg : Bool} {s : Sto} {n : Nat} {F : List Int} {z : Int} (h : s[n]? = some (inL F)) : phIn neg (.dat (.int z)) (.ref n) s = some (.dat (.bool (if neg = true then !decide (z ∈ F) else decide (z ∈ F)))) := by
  have hd : dOf (.ref n) s = none := by
    show (match s[n]? with
      | some (.dic t l) => some (t, l)
      | _ => none) = _
    rw [h]
  have hq : seqD (.ref n) s = some (F.map PyData.int) := by
    show (match s[n]? with
      | some (.lst l) => datas l
      | _ => none) = _
    rw [h]
    exact datas_dats (f := fun x => PyData.int x) F
  show (match dOf (.ref n) s with
    | some (t, kvs) => if kOk t (.int z) = true then some (Vl.dat (.bool (if neg = true then !dHas kvs (.int z) else dHas kvs (.int z)))) else none
    | none => (fV (.int z)).bind fun vx => (seqD (.ref n) s).bind fun ds => (fVs ds).map fun vs => Vl.dat (.bool (if neg = true then !inV vx vs else inV vx vs))) = _
  rw [hd, hq]
  show ((fVs (F.map PyData.int)).map fun vs => Vl.dat (.bool (if neg = true then !inV (.int z) vs else inV (.int z) vs))) = _
  rw [fVs_ints]
  simp only [Option.map_some, inV_ints]
section
variable {bs : List Blk} {l : List Int} {u : Int → List Int} {E : Sto} {o : Int}
theorem nb_mg4 (ho : o ∈ l) {F T : List Int} {x : Int} (hF : F.length ≤ 900) (hT : T.length ≤ 900) :
    nb_law_merged_k55_4 (.dat (blksD bs)) (.ref 0) (.ref 1) (.ref (2 + E.length)) (.dat (.int o)) (.dat (.int x)) (stM (undK l u) F E T) = if (x = o ∨ x ∉ u o) ∧ x ∉ F then .nx () (stM (undK l u) (F ++ [x]) E (T ++ [x])) else .nx () (stM (undK l u) F E T) := by
  have e1 := ix_kvL (x := o) (stM_0 (U := undK l u) (F := F) (E := E) (T := T)) (undK_look ho)
  have e2 : phIn true (.dat (.int x)) (.dat (.list ((u o).map .int))) (stM (undK l u) F E T) = some (.dat (.bool (!decide (x ∈ u o)))) := by rw [phIn_l]; rfl
  have e3 : phIn true (.dat (.int x)) (.ref 1) (stM (undK l u) F E T) = some (.dat (.bool (!decide (x ∈ F)))) := by rw [in_at stM_1]; rfl
  have hc : ((((R.of (phEq (.dat (.int x)) (.dat (.int o)) (stM (undK l u) F E T)) (stM (undK l u) F E T)).bind fun x36 s37 => R.of (bool? x36) s37).bind fun c38 s39 => if c38 = true then R.ok true s39 else ((R.of (phIx (.ref 0) (.dat (.int o)) s39) s39).bind fun x40 s41 => R.of ((phIn true) (.dat (.int x)) x40 s41) s41).bind fun x42 s43 => R.of (bool? x42) s43).bind fun c44 s45 => if c44 = true then (R.of ((phIn true) (.dat (.int x)) (.ref 1) s45) s45).bind fun x46 s47 => R.of (bool? x46) s47 else R.ok false s45) = .ok (decide ((x = o ∨ x ∉ u o) ∧ x ∉ F)) (stM (undK l u) F E T) := by
    by_cases h1 : x = o
    · subst h1
      simp [e3]
    · by_cases h2 : x ∈ u o
      · simp [h1, e1, e2, h2]
      · simp [h1, e1, e2, h2, e3]
  simp only [nb_law_merged_k55_4]
  rw [hc, R.an_ok]
  by_cases h : (x = o ∨ x ∉ u o) ∧ x ∉ F
  · rw [if_pos h, decide_eq_true h, if_pos rfl]
    have a1 := app_at (b := x) (stM_1 (U := undK l u) (F := F) (E := E) (T := T)) (by omega)
    rw [stM_set1] at a1
    have a2 := app_at (b := x) (stM_2 (U := undK l u) (F := F ++ [x]) (E := E) (T := T)) (by omega)
    rw [stM_set2] at a2
    rw [a1, R.an_ok, a2, R.an_ok]
  · rw [if_neg h, decide_eq_false h, if_neg (by decide)]
theorem lp_mg4 (ho : o ∈ l) {L : Type} : ∀ (gs F T : List Int), F.length + gs.length ≤ 900 → T.length + gs.length ≤ 900 → F.Nodup →
    ∃ N : List Int, (lp_law_merged_k55_4 (L := L) (.dat (blksD bs)) (.ref 0) (.ref 1) (.ref (2 + E.length)) (.dat (.int o)) okT (gs.map fun g => .dat (.int g)) () (stM (undK l u) F E T)) = .nx () (stM (undK l u) (F ++ N) E (T ++ N)) ∧ N.length ≤ gs.length ∧ (F ++ N).Nodup ∧ (∀ x ∈ N, x ∈ gs ∧ (x = o ∨ x ∉ u o)) ∧ ∀ g ∈ gs, (g = o ∨ g ∉ u o) → g ∈ F ++ N
  | [], F, T, _, _, nd => ⟨[], by rw [List.map_nil, lp_law_merged_k55_4_nil, List.append_nil, List.append_nil], Nat.le_refl _, by rw [List.append_nil]; exact nd, (fun x h => by cases h), fun x h => by cases h⟩
  | g :: gs, F, T, hK, hT, nd => by
    rw [List.length_cons] at hK hT
    have hb := nb_mg4 (bs := bs) (E := E) (u := u) ho (F := F) (T := T) (x := g) (by omega) (by omega)
    by_cases h : (g = o ∨ g ∉ u o) ∧ g ∉ F
    · rw [if_pos h] at hb
      obtain ⟨N, e1, e2, e3, e4, e5⟩ := lp_mg4 ho (L := L) gs (F ++ [g]) (T ++ [g]) (by rw [List.length_append, List.length_singleton]; omega) (by rw [List.length_append, List.length_singleton]; omega) (by
        rw [List.nodup_append]
        refine ⟨nd, by simp, fun a ha b hb => ?_⟩
        have : b = g := by simpa using hb
        intro e; exact h.2 (by rw [← this, ← e]; exact ha))
      have ea : ∀ M : List Int, M ++ [g] ++ N = M ++ g :: N := fun M => by rw [List.append_assoc]; rfl
      rw [ea] at e1 e3
      rw [ea] at e1
      refine ⟨g :: N, ?_, by rw [List.length_cons, List.length_cons]; omega, e3, fun x hx => ?_, fun x hx hc => ?_⟩
      · rw [List.map_cons, lp_law_merged_k55_4_cons, pV_ap, patN_some, hb, lp_nx, tidy_same stM_len.symm, e1]
      · rcases List.mem_cons.mp hx with rfl | hx
        · exact ⟨List.mem_cons_self, h.1⟩
        · exact ⟨List.mem_cons_of_mem _ (e4 x hx).1, (e4 x hx).2⟩
      · rcases List.mem_cons.mp hx with rfl | hx
        · simp
        · have := e5 x hx hc
          rwa [ea] at this
    · rw [if_neg h] at hb
      obtain ⟨N, e1, e2, e3, e4, e5⟩ := lp_mg4 ho (L := L) gs F T (by omega) (by omega) nd
      refine ⟨N, ?_, by rw [List.length_cons]; omega, e3, fun x hx => ⟨List.mem_cons_of_mem _ (e4 x hx).1, (e4 x hx).2⟩, fun x hx hc => ?_⟩
      · rw [List.map_cons, lp_law_merged_k55_4_cons, pV_ap, patN_some, hb, lp_nx, tidy_same rfl, e1]
      · rcases List.mem_cons.mp hx with rfl | hx
        · exact List.mem_append_left _ (Classical.byContradiction fun z => h ⟨hc, z⟩)
        · exact e5 x hx hc
theorem lp_mg3 (ok : GoIn bs) (ho : o ∈ l) {L : Type} : ∀ (ys F T : List Int), (∀ y ∈ ys, 0 ≤ y ∧ y < (bs.length : Int)) → F.length + 2 * ys.length ≤ 900 → T.length + 2 * ys.length ≤ 900 → F.Nodup →
    ∃ N : List Int, (lp_law_merged_k55_3 (L := L) (.dat (blksD bs)) (.ref 0) (.ref 1) (.ref (2 + E.length)) (.dat (.int o)) okT (ys.map fun g => .dat (.int g)) () (stM (undK l u) F E T)) = .nx () (stM (undK l u) (F ++ N) E (T ++ N)) ∧ (F ++ N).Nodup ∧ (∀ x ∈ N, ∃ y ∈ ys, x ∈ allB bs y ∧ (x = o ∨ x ∉ u o)) ∧ ∀ y ∈ ys, ∀ g ∈ allB bs y, (g = o ∨ g ∉ u o) → g ∈ F ++ N
  | [], F, T, _, _, _, nd => ⟨[], by rw [List.map_nil, lp_law_merged_k55_3_nil, List.append_nil, List.append_nil], by rw [List.append_nil]; exact nd, (fun x h => by cases h), fun x h => by cases h⟩
  | y :: ys, F, T, hy, hK, hT, nd => by
    rw [List.length_cons] at hK hT
    have hi := hy y List.mem_cons_self
    obtain ⟨k, hk, _⟩ := atI_in hi.1 hi.2
    have l2 := allB_len (bs := bs) (b := y)
    obtain ⟨N1, a1, a2, a3, a4, a5⟩ := lp_mg4 (bs := bs) (E := E) (u := u) ho (L := Unit) (allB bs y) F T (by omega) (by omega) nd
    have hb : nb_law_merged_k55_3 (.dat (blksD bs)) (.ref 0) (.ref 1) (.ref (2 + E.length)) (.dat (.int o)) (.dat (.int y)) (stM (undK l u) F E T) = .nx () (stM (undK l u) (F ++ N1) E (T ++ N1)) := by
      refine wp_of (Q := fun z => z = _) ?_
      simp only [nb_law_merged_k55_3]
      refine wp_thn (a := ()) (s := stM (undK l u) (F ++ N1) E (T ++ N1)) ?_ rfl
      have em : (k.fin.all.map PyData.int).map Vl.dat = (allB bs y).map fun g => Vl.dat (.int g) := by rw [allB_at hk, List.map_map]; rfl
      simp only [callN_ap, List.length_cons, List.length_nil, List.all_cons, List.all_nil, noX, Bool.and_self, and_self, if_true, G_after_eq hk, R.bind_ok, src, R.of_some, em, R.an_ok, src_ok_none]
      exact a1
    obtain ⟨N, e1, e3, e4, e5⟩ := lp_mg3 ok ho (L := L) ys (F ++ N1) (T ++ N1) (fun z hz => hy z (List.mem_cons_of_mem _ hz)) (by rw [List.length_append]; omega) (by rw [List.length_append]; omega) a3
    rw [List.append_assoc] at e1 e3
    rw [List.append_assoc] at e1
    refine ⟨N1 ++ N, ?_, e3, fun x hx => ?_, fun z hz g hg hc => ?_⟩
    · rw [List.map_cons, lp_law_merged_k55_3_cons, pV_ap, patN_some, hb, lp_nx, tidy_same stM_len.symm, e1]
    · rcases List.mem_append.mp hx with hx | hx
      · exact ⟨y, List.mem_cons_self, (a4 x hx).1, (a4 x hx).2⟩
      · obtain ⟨z, h1, h2⟩ := e4 x hx
        exact ⟨z, List.mem_cons_of_mem _ h1, h2⟩
    · rcases List.mem_cons.mp hz with rfl | hz
      · rw [← List.append_assoc]
        exact List.mem_append_left _ (a5 g hg hc)
      · have := e5 z hz g hg hc
        rwa [List.append_assoc] at this
theorem wl_mg2 (ok : GoIn bs) (few : bs.length ≤ 30) {G : List Int} (hl : ∀ x, x ∈ l ↔ Rch bs x) (hu : ∀ o x, x ∈ u o ↔ Und bs o x) (ul : ∀ o, (u o).length ≤ 30) (hG : ∀ x ∈ G, Rch bs x) {L : Type} : ∀ (m : Nat) (F T : List Int), ClI bs G F T → T.length ≤ 60 + F.length → 2 * (bs.length - F.length) + T.length ≤ m →
    ∃ F', (wl_law_merged_k55_2 (L := L) (.dat (blksD bs)) (.ref 0) (.ref 1) (.ref (2 + E.length)) () (stM (undK l u) F E T)) = .nx () (stM (undK l u) F' E []) ∧ ClI bs G F' [] := by
  have tb : ∀ F T : List Int, tb_law_merged_k55_2 (.dat (blksD bs)) (.ref 0) (.ref 1) (.ref (2 + E.length)) (stM (undK l u) F E T) = .ok (!T.isEmpty) (stM (undK l u) F E T) := fun F T => by
    have e : R.of (lstN []) (stM (undK l u) F E T) = .ok (.dat (.list [])) (stM (undK l u) F E T) := rfl
    simp only [tb_law_merged_k55_2]
    rw [e, R.bind_ok, ne_at stM_2, R.of_some, R.bind_ok, bool?_b, R.of_some]
  intro m
  induction m with
  | zero =>
    intro F T h hT hm
    have hT : T = [] := List.eq_nil_of_length_eq_zero (by omega)
    subst hT
    refine ⟨F, ?_, h⟩
    rw [wl_law_merged_k55_2_un, tb]
    simp
  | succ m ih =>
    intro F T h hT hm
    rcases List.eq_nil_or_concat T with rfl | ⟨T0, b, rfl⟩
    · refine ⟨F, ?_, h⟩
      rw [wl_law_merged_k55_2_un, tb]
      simp
    · rw [List.concat_eq_append] at h hm hT ⊢
      rw [List.length_append, List.length_singleton] at hm hT
      have hlF := h.len ok
      have hb : b ∈ l := (hl b).mpr ((h.tin b (by simp)).elim (hG b) fun z => (h.cl b z).rch)
      have lu := ul b
      obtain ⟨N, e1, e3, e4, e5⟩ := lp_mg3 (E := E) (u := u) ok hb (L := Unit) (u b) F T0 (fun y hy => ((hu b y).mp hy).1.in ok) (by omega) (by omega) h.nd
      have I' : ClI bs G (F ++ N) (T0 ++ N) := h.next e3 (fun x hx => by
        obtain ⟨y, h1, h2, h3⟩ := e4 x hx
        exact ⟨y, (hu b y).mp h1, mem_goalsB.mpr h2, h3.imp_right fun z w => z ((hu b x).mpr w)⟩) fun x ⟨y, h1, h2, h3⟩ => e5 y ((hu b y).mpr h1) x (mem_goalsB.mp h2) (h3.imp_right fun z w => z ((hu b x).mp w))
      have hl' := I'.len ok
      rw [List.length_append] at hl'
      obtain ⟨F2, g1, g2⟩ := ih (F ++ N) (T0 ++ N) I' (by simp only [List.length_append]; omega) (by simp only [List.length_append]; omega)
      refine ⟨F2, ?_, g2⟩
      have hbody : nb_law_merged_k55_2 (.dat (blksD bs)) (.ref 0) (.ref 1) (.ref (2 + E.length)) (stM (undK l u) F E (T0 ++ [b])) = .nx () (stM (undK l u) (F ++ N) E (T0 ++ N)) := by
        refine wp_of (Q := fun z => z = _) ?_
        simp only [nb_law_merged_k55_2]
        have ep := pop_at (stM_2 (U := undK l u) (F := F) (E := E) (T := T0 ++ [b]))
        rw [stM_set2] at ep
        refine wp_an ep ?_
        refine wp_thn (a := ()) (s := stM (undK l u) (F ++ N) E (T0 ++ N)) ?_ rfl
        have ei := ix_kvL (x := b) (stM_0 (U := undK l u) (F := F) (E := E) (T := T0)) (undK_look hb)
        have es : src (.dat (.list ((u b).map .int))) (stM (undK l u) F E T0) = some ⟨(u b).map fun x => Vl.dat (.int x), none⟩ := by simp [src, Function.comp_def]
        rw [ei, R.of_some, R.bind_ok, es, R.of_some, R.an_ok]
        simp only [src_ok_none]
        exact e1
      rw [wl_law_merged_k55_2_un, tb, R.an_ok]
      have : (!(T0 ++ [b]).isEmpty) = true := by cases T0 <;> rfl
      rw [this, if_pos rfl, hbody, lp_nx, tidy_same stM_len.symm, g1]
end
end Pm
set_option maxRecDepth 100000
set_option maxHeartbeats 4000000
namespace Pm
open PySem PySem.Spec PyProof.Rows L2 Sw
noncomputable def ce_law_versions_1  (w_block : Vl) : Sto → R Vl := fun s => R.of (tupN [(Vl.dat (.str "merge")), w_block]) s
def mk_law_versions_1 (w_label : Vl) (w_blocks_here : Vl) (w_found : Vl) : Unit → Loc := fun a => [some w_label, some w_blocks_here, some w_found, none, none, none]
noncomputable def nb_law_versions_1 (w_label : Vl) (w_blocks_here : Vl) (w_found : Vl) (w_block : Vl) : Sto → An Unit Unit := fun s =>
  (callN 3 G_law_makers_k55 [w_label, w_blocks_here, w_block] s).an fun w_makers_here s14 =>
    (extN w_found s14 (fun s15 => (R.of (phVals w_makers_here s15) s15).bind fun x16 s17 => R.ok [x16] s17)).an fun _ s18 =>
    .nx () s18
noncomputable def lp_law_versions_1 {L : Type} (w_label : Vl) (w_blocks_here : Vl) (w_found : Vl) (ck : Sto → Prop) : List Vl → Unit → Sto → An Unit L := forN ck (mk_law_versions_1 w_label w_blocks_here w_found) (fun v a s => patN (pV v) fun p => nb_law_versions_1 w_label w_blocks_here w_found p s)
@[simp] theorem lp_law_versions_1_nil {L : Type} (w_label : Vl) (w_blocks_here : Vl) (w_found : Vl) {a : Unit} {s : Sto} : (lp_law_versions_1 (L := L) w_label w_blocks_here w_found okT [] a s) = .nx a s := forN_nil
theorem lp_law_versions_1_cons {L : Type} (w_label : Vl) (w_blocks_here : Vl) (w_found : Vl) {v : Vl} {r : List Vl} {a : Unit} {s : Sto} : (lp_law_versions_1 (L := L) w_label w_blocks_here w_found okT (v :: r) a s) = (patN (pV v) fun p => nb_law_versions_1 w_label w_blocks_here w_found p s).lp (mk_law_versions_1 w_label w_blocks_here w_found) s.length (lp_law_versions_1 w_label w_blocks_here w_found okT r) := forN_cons
noncomputable def kt_law_versions_1 (w_label : Vl) (w_blocks_here : Vl) (w_found : Vl) : Sto → An Unit Empty := fun s =>
  (((R.of (phSortedM [w_found] s) s).bind fun x23 s24 => R.ok [x23] s24).bind fun l25 s26 => R.of (phTuple l25 s26) s26).an fun x27 s28 => .rt x27 s28
noncomputable def n_law_versions (w_label : Vl) (w_blocks_here : Vl) : Sto → An Unit Empty := fun s =>
  ((((R.of (tupN [(Vl.dat (.str "begin"))]) s).bind fun x2 s3 => R.ok [x2] s3).bind fun l4 s5 => R.of (lstN l4) s5).bind fun x6 s7 => (lcP ((callN 2 G_law_merged_k55 [w_label, w_blocks_here] s7).bind fun x8 s9 => R.of (src x8 s9) s9) pV (fun p s => R.ok true s) (fun p s => ce_law_versions_1 p s)).bind fun x10 s11 => addK x6 x10 s11).an fun w_found s1 =>
    (((callN 2 G_law_come [w_blocks_here, (Vl.dat .none)] s1).bind fun x12 s13 => R.of (src x12 s13) s13).an fun c19 s20 => lp_law_versions_1 w_label w_blocks_here w_found c19.ok c19.items () s20).thn fun j21 s22 => kt_law_versions_1 w_label w_blocks_here w_found  s22
noncomputable def r_law_versions : MF := runN fun xs => match xs with
  | [w_label, w_blocks_here] => n_law_versions w_label w_blocks_here
  | _ => fun _ => .bad
noncomputable def G_law_versions : MF := frameG (r_law_versions)
theorem sorted_at {s : Sto} {n : Nat} {F : List Int} (h : s[n]? = some (inL F)) (hl : F.length < 64) : phSorted [.ref n] s = some (.dat (.list ((srtI F).map .int))) := by
  have hd : dOf (.ref n) s = none := by
    show (match s[n]? with
      | some (.dic t l) => some (t, l)
      | _ => none) = _
    rw [h]
  have hq : lsD (.ref n) s = some (F.map PyData.int) := by
    show (match s[n]? with
      | some (.lst l) => datas l
      | _ => none) = _
    rw [h]
    exact datas_dats (f := fun x => PyData.int x) F
  show (match dOf (.ref n) s with
    | some (false, kvs) => srtD (kvs.map (Prod.fst : PyData × Vl → PyData))
    | some (true, _) => none
    | none => (lsD (.ref n) s).bind srtD) = _
  rw [hd, hq]
  exact srtD_ints hl
theorem nd_perm : ∀ {l m : List Int}, l.Nodup → m.Nodup → (∀ x, x ∈ l ↔ x ∈ m) → l.Perm m
  | [], m, _, _, h => by
    cases m with
    | nil => exact .refl _
    | cons y r => exact absurd ((h y).mpr List.mem_cons_self) (by simp)
  | y :: l, m, n1, n2, h => by
    obtain ⟨a, b⟩ := List.nodup_cons.mp n1
    have hy := (h y).mp List.mem_cons_self
    have p := List.perm_cons_erase hy
    have nM := p.nodup_iff.mp n2
    obtain ⟨c, d⟩ := List.nodup_cons.mp nM
    refine ((nd_perm b d (fun x => ?_)).cons y).trans p.symm
    constructor
    · intro hx
      have ne : x ≠ y := fun e => a (e ▸ hx)
      exact (List.mem_erase_of_ne ne).mpr ((h x).mp (List.mem_cons_of_mem _ hx))
    · intro hx
      have ne : x ≠ y := fun e => c (e ▸ hx)
      rcases List.mem_cons.mp ((h x).mpr (List.mem_of_mem_erase hx)) with e | e
      · exact absurd e ne
      · exact e
theorem flat_len {bs : List Blk} (fr : FewR bs) (l : List Int) : (l.flatMap fun x => givB bs x).length ≤ 30 * l.length := by
  induction l with
  | nil => simp
  | cons x l ih =>
    have := givB_len fr (b := x)
    rw [List.flatMap_cons, List.length_append, List.length_cons]
    omega
section
variable {bs : List Blk} {nm : Str}
theorem lp_lvers (ok : GoIn bs) (fr : FewR bs) {L : Type} : ∀ (l : List Int) (vs : List Ver), (∀ x ∈ l, Rch bs x) → vs.length + 30 * l.length ≤ 1000 →
    (lp_law_versions_1 (L := L) (.dat (.str nm)) (.dat (blksD bs)) (.ref 0) okT (l.map fun x => .dat (.int x)) () [vL nm vs]) = .nx () [vL nm (vs ++ l.flatMap fun x => givB bs x)]
  | [], vs, _, _ => by rw [List.map_nil, lp_law_versions_1_nil, List.flatMap_nil, List.append_nil]
  | x :: l, vs, h, hl => by
    rw [List.length_cons] at hl
    have hi := (h x List.mem_cons_self).in ok
    obtain ⟨k, hk, hm⟩ := atI_in hi.1 hi.2
    have hg := givB_len fr (b := x)
    have ih := lp_lvers ok fr (L := L) l (vs ++ givB bs x) (fun y hy => h y (List.mem_cons_of_mem _ hy)) (by rw [List.length_append]; omega)
    have ev : ∀ s, phVals (.dat (.dict (mkKv nm x k.rows))) s = some (.dat (.list ((givB bs x).map (Ver.d nm)))) := fun s => by
      unfold phVals
      simp only []
      rw [mkKv_vals, ← givB_at hk, if_pos]
      refine ⟨?_, ?_, ?_⟩
      · unfold mkKv
        cases (List.range k.rows.length).filter (gvAt k.rows) with
        | nil => rfl
        | cons _ _ => rfl
      · unfold mkKv
        rw [List.map_map]
        refine List.Pairwise.map _ (fun a b (h : a ≠ b) => ?_) (List.nodup_range.sublist List.filter_sublist)
        intro e
        have e : PyData.int (a : Int) = PyData.int (b : Int) := e
        injection e with e
        exact h (by omega)
      · unfold mkKv
        rw [List.length_map]
        have := fr k hm
        exact Nat.le_trans (List.length_filter_le _ _) (by rw [List.length_range]; omega)
    have hb : nb_law_versions_1 (.dat (.str nm)) (.dat (blksD bs)) (.ref 0) (.dat (.int x)) [vL nm vs] = .nx () [vL nm (vs ++ givB bs x)] := by
      have e0 : ∀ s, callN 3 G_law_makers_k55 [.dat (.str nm), .dat (blksD bs), .dat (.int x)] s = .ok (.dat (.dict (mkKv nm x k.rows))) s := fun s => by simp [G_makers_eq fr hk hm]
      have e := ext_q (s := [vL nm vs]) (s2 := [vL nm vs]) (l := (vs.map (Ver.d nm)).map Vl.dat) (es := (givB bs x).map (Ver.d nm)) (r := fun s15 => (R.of (phVals (.dat (.dict (mkKv nm x k.rows))) s15) s15).bind fun x16 s17 => R.ok [x16] s17) (by rw [ev]; rfl) rfl rfl (by simp only [List.length_map]; omega)
      simp only [nb_law_versions_1, e0, R.an_ok, e, List.set_cons_zero]
      rw [vL_app]
    rw [List.map_cons, lp_law_versions_1_cons, pV_ap, patN_some, hb, lp_nx, tidy_same (by simp), ih, List.flatMap_cons, List.append_assoc]
/-- what the law tells of a routine -/
theorem law_told (ok : GoIn bs) (few : bs.length ≤ 30) (fr : FewR bs) (nm : Str) : ∃ Lo Lm : List Int, Lo.Nodup ∧ (∀ x, x ∈ Lo ↔ Rch bs x) ∧ Lm.Pairwise (· < ·) ∧ (∀ x, x ∈ Lm ↔ Cl bs (gvs bs Lo) x) ∧
    (∀ s, G_law_merged_k55 [.dat (.str nm), .dat (blksD bs)] s = .ok (.dat (intsD Lm)) s) ∧
    ∀ s, G_law_versions [.dat (.str nm), .dat (blksD bs)] s = .ok (.dat (.tuple (((Ver.beg :: Lm.map Ver.mrg ++ Lo.flatMap fun x => givB bs x).map (Ver.d nm)).mergeSort (PySem.W.dataLe false id)))) s := by
  obtain ⟨Lo, o1, o2, eo⟩ := G_come_eq ok few none
  obtain ⟨ap, hap⟩ := Classical.axiomOfChoice fun o : Int => G_come_eq ok few (some o)
  have lo : Lo.length ≤ bs.length := few_in o1 fun x hx => ((o2 x).mp hx).in ok
  obtain ⟨u, hu0⟩ : ∃ u : Int → List Int, u = fun o => Lo.filter fun x => !decide (x ∈ ap o) := ⟨_, rfl⟩
  have hu : ∀ o x, x ∈ u o ↔ Und bs o x := fun o x => by
    rw [hu0]
    show x ∈ Lo.filter (fun x => !decide (x ∈ ap o)) ↔ _
    rw [List.mem_filter, o2]
    simp only [Bool.not_eq_true', decide_eq_false_iff_not, (hap o).2.1 x]
    rfl
  have ul : ∀ o, (u o).length ≤ 30 := fun o => by
    rw [hu0]
    exact Nat.le_trans (List.length_filter_le _ _) (by omega)
  have lG : (gvs bs Lo).length ≤ 60 := Nat.le_trans (List.length_filter_le _ _) (by omega)
  obtain ⟨F, h, I⟩ := wl_mg2 (l := Lo) (u := u) (E := List.replicate Lo.length (.dic false [])) ok few (G := gvs bs Lo) o2 hu ul (fun x hx => (o2 x).mp (List.mem_filter.mp hx).1) (L := Empty) (2 * bs.length + 60) [] (gvs bs Lo) ClI.start (by simp only [List.length_nil]; omega) (by simp only [List.length_nil]; omega)
  have lF := I.len ok
  have eo' : ∀ s, callN 2 G_law_come [.dat (blksD bs), .dat .none] s = .ok (.dat (.list (Lo.map .int))) s := fun s => by simpa [lvl] using eo s
  have es : ∀ s, src (.dat (.list (Lo.map .int))) s = some ⟨Lo.map fun x => Vl.dat (.int x), none⟩ := fun s => by simp [src, Function.comp_def]
  have EM : ∀ s, G_law_merged_k55 [.dat (.str nm), .dat (blksD bs)] s = .ok (.dat (intsD (srtI F))) s := fun s => by
    refine fr0 (s2 := stM (undK Lo u) F (List.replicate Lo.length (.dic false [])) []) ?_
    rw [r_law_merged_k55, runN_ap]
    refine wp_of (Q := fun z => An.fin z = _) ?_
    simp only [n_law_merged_k55]
    refine wp_an (eo' []) ?_
    refine wp_an (a := .ref 0) (s := [kvL (undK [] u)]) rfl ?_
    rw [es, R.of_some, R.an_ok]
    simp only [src_ok_none]
    have e1 := lp_mg1 (bs := bs) (nm := nm) (Lh := Lo) (fun o s => (hap o).2.2 s) (by omega) (L := Empty) Lo [] (by simpa using o1) (by simp only [List.length_nil]; omega)
    rw [← hu0, List.nil_append] at e1
    refine wp_thn e1 ?_
    simp only [kt_law_merged_k55_1]
    have ec := compP_lay (t := fun p s => ct_law_merged_k55_3 (.dat (.str nm)) (.dat (blksD bs)) p s) (e := fun _ _ => .bad) (e' := fun p s => ce_law_merged_k55_4 p s) (b := fun b => !(givB bs b).isEmpty) Lo [] [kvL (undK Lo u), inL []] (fun x hx s => by
      have hi := ((o2 x).mp hx).in ok
      obtain ⟨k, hk, hm⟩ := atI_in hi.1 hi.2
      exact ct_mg3 fr hk hm s) (fun x s => rfl) (by simp only [List.length_nil]; omega) (Lo.map fun x => Vl.dat (.int x))
    refine wp_an (a := [.ref 1, .ref (2 + (List.replicate Lo.length (Ob.dic false [])).length)]) (s := stM (undK Lo u) [] (List.replicate Lo.length (.dic false [])) (gvs bs Lo)) ?_ ?_
    · have e0 : newN [] [kvL (undK Lo u)] = .ok (.ref 1) [kvL (undK Lo u), inL []] := rfl
      rw [e0, R.bind_ok, es, R.of_some]
      unfold lcPN
      rw [R.bind_ok, ec, R.bind_ok]
      unfold finN
      rw [if_pos (by
        rw [List.nil_append]
        exact List.all_eq_true.mpr fun v hv => by obtain ⟨x, _, rfl⟩ := List.mem_map.mp hv; rfl)]
      rw [R.bind_ok, R.bind_ok, List.length_append]
      rfl
    simp only [par2N]
    refine wp_thn h ?_
    simp only [Wp, kt_law_merged_k55_4]
    rw [sorted_at stM_1 (by omega), R.of_some, R.bind_ok, R.bind_ok]
    rfl
  refine ⟨Lo, srtI F, o1, o2, srtI_rise I.nd, fun x => by rw [mem_srtI, I.fin], EM, fun s => fr0 (s2 := [vL nm (Ver.beg :: (srtI F).map Ver.mrg ++ Lo.flatMap fun x => givB bs x)]) ?_⟩
  have lM : (srtI F).length ≤ 30 := by
    have : (srtI F).length = F.length := (srtB_perm (le := leI) F).length_eq
    omega
  rw [r_law_versions, runN_ap]
  refine wp_of (Q := fun z => An.fin z = _) ?_
  simp only [n_law_versions]
  have e3 := fun s => lcP_map (pat := pV) (e := fun p s => ce_law_versions_1 p s) (s := s) (a' := none) (l := srtI F) (fun x => Vl.dat (.int x)) (fun x => Vl.dat (.int x)) (fun x => (Ver.mrg x).d nm) trivial (fun x _ => ⟨rfl, rfl⟩) (th_mil (by omega))
  have e4 : ∀ s, callN 2 G_law_merged_k55 [.dat (.str nm), .dat (blksD bs)] s = .ok (.dat (intsD (srtI F))) s := fun s => by simp [EM]
  have e5 : ∀ s, src (.dat (intsD (srtI F))) s = some ⟨(srtI F).map fun x => Vl.dat (.int x), none⟩ := fun s => by simp [src, intsD, Function.comp_def]
  refine wp_an (a := .ref 0) (s := [vL nm (Ver.beg :: (srtI F).map Ver.mrg)]) ?_ ?_
  · have e6 : (((R.of (tupN [(Vl.dat (.str "begin"))]) []).bind fun x2 s3 => R.ok [x2] s3).bind fun l4 s5 => R.of (lstN l4) s5) = .ok (.dat (.list [Ver.beg.d nm])) [] := rfl
    rw [e6, R.bind_ok, e4, R.bind_ok, e5, R.of_some, e3, R.bind_ok]
    unfold addK
    simp only [lsD]
    rw [if_pos (by simp only [List.length_map, List.length_singleton]; exact th_mil (by omega))]
    simp [vL, Function.comp_def]
  rw [eo', R.bind_ok, es, R.of_some, R.an_ok]
  simp only [src_ok_none]
  have e7 := lp_lvers (nm := nm) ok fr (L := Empty) Lo (Ver.beg :: (srtI F).map Ver.mrg) (fun x hx => (o2 x).mp hx) (by simp only [List.length_cons, List.length_map]; omega)
  refine wp_thn e7 ?_
  have fl := flat_len fr Lo
  have e8 := phSM_vers (nm := nm) (l := Ver.beg :: (srtI F).map Ver.mrg ++ Lo.flatMap fun x => givB bs x) (v := .ref 0) (s := [vL nm (Ver.beg :: (srtI F).map Ver.mrg ++ Lo.flatMap fun x => givB bs x)]) (show datas _ = _ from datas_map _) (by
    simp only [List.length_append, List.length_cons, List.length_map]
    omega)
  simp only [Wp, kt_law_versions_1]
  rw [e8, R.of_some, R.bind_ok, R.bind_ok]
  rfl
/-- both tell the same -/
theorem told_same {c : Cod} (hc : c.rts.lookup nm = some bs) (ok : GoIn bs) (few : bs.length ≤ 30) (fr : FewR bs) : ∃ (M : List Int) (W : List PyData),
    (∀ s, G_merged_blocks [.dat c.d, .dat (.str nm)] s = .ok (.dat (intsD M)) s) ∧ (∀ s, G_law_merged_k55 [.dat (.str nm), .dat (blksD bs)] s = .ok (.dat (intsD M)) s) ∧
    (∀ s, G_versions_of [.dat c.d, .dat (.str nm)] s = .ok (.dat (.tuple W)) s) ∧ (∀ s, G_law_versions [.dat (.str nm), .dat (blksD bs)] s = .ok (.dat (.tuple W)) s) ∧ M.length ≤ 30 ∧ W.length ≤ 1000 ∧ (∀ x ∈ M, 0 ≤ x ∧ x < (bs.length : Int)) ∧
    ∀ d ∈ W, ∃ v : Ver, d = v.d nm ∧ ∀ b k, (v = .mrg b → 0 ≤ b ∧ b < (bs.length : Int)) ∧ ∀ st, v = .gvn st b k → 0 ≤ b ∧ b < (bs.length : Int) ∧ 0 ≤ k ∧ k < 30 := by
  obtain ⟨Ro, Rm, r1, r2, m1, m2, p1, p2⟩ := prog_told hc ok few fr
  obtain ⟨Lo, Lm, o1, o2, n1, n2, q1, q2⟩ := law_told ok few fr nm
  have ho : ∀ x, x ∈ Lo ↔ x ∈ Ro := fun x => by rw [o2, r2]
  have hg : ∀ x, x ∈ gvs bs Lo ↔ x ∈ gvs bs Ro := fun x => by
    unfold gvs
    rw [List.mem_filter, List.mem_filter, ho]
  have em : Lm = Rm := ris_eq n1 m1 fun x => by
    rw [n2, m2]
    exact ⟨Cl.mono fun x hx => (hg x).mp hx, Cl.mono fun x hx => (hg x).mpr hx⟩
  subst em
  have pr : Lo.Perm Ro := nd_perm o1 (nd_lt r1) ho
  have pv : (Ver.beg :: Lm.map Ver.mrg ++ Lo.flatMap fun x => givB bs x).Perm (Ver.beg :: Lm.map Ver.mrg ++ Ro.flatMap fun x => givB bs x) := (List.Perm.refl _).append (pr.flatMap_right _)
  rw [vers_sort pv] at q2
  have lR : Ro.length ≤ bs.length := few_in (nd_lt r1) fun x hx => ((r2 x).mp hx).in ok
  have lM : Lm.length ≤ bs.length := few_in (nd_lt m1) fun x hx => ((m2 x).mp hx).rch.in ok
  have fl := flat_len fr Ro
  refine ⟨Lm, _, p1, q1, p2, q2, by omega, ?_, fun x hx => ((m2 x).mp hx).rch.in ok, fun d hd => ?_⟩
  · rw [(List.mergeSort_perm _ _).length_eq]
    simp only [List.length_map, List.length_append, List.length_cons]
    omega
  · obtain ⟨v, hv, rfl⟩ := List.mem_map.mp ((List.mergeSort_perm _ _).mem_iff.mp hd)
    refine ⟨v, rfl, fun b k => ⟨fun e => ?_, fun st e => ?_⟩⟩
    · subst e
      rcases List.mem_append.mp hv with hv | hv
      · rcases List.mem_cons.mp hv with hv | hv
        · cases hv
        · obtain ⟨y, hy, e⟩ := List.mem_map.mp hv
          cases e
          exact ((m2 _).mp hy).rch.in ok
      · obtain ⟨y, _, h⟩ := List.mem_flatMap.mp hv
        unfold givB at h
        cases e : atI bs y with
        | none => rw [e] at h; cases h
        | some z =>
          rw [e] at h
          obtain ⟨_, _, h⟩ := List.mem_map.mp h
          cases h
    · subst e
      rcases List.mem_append.mp hv with hv | hv
      · rcases List.mem_cons.mp hv with hv | hv
        · cases hv
        · obtain ⟨y, hy, e⟩ := List.mem_map.mp hv
          cases e
      · obtain ⟨y, hy, h⟩ := List.mem_flatMap.mp hv
        have hi := ((r2 y).mp hy).in ok
        obtain ⟨z, hz, hm⟩ := atI_in hi.1 hi.2
        rw [givB_at hz] at h
        obtain ⟨j, hj, h⟩ := List.mem_map.mp h
        cases h
        have := List.mem_range.mp (List.mem_filter.mp hj).1
        have := fr z hm
        exact ⟨hi.1, hi.2, by omega, by omega⟩
end
end Pm
set_option maxRecDepth 100000
set_option maxHeartbeats 4000000
namespace Pm
open PySem PySem.Spec PyProof.Rows L2 Sw
def mk_law_graph_1 (w_feed_here : Vl) (w_many : Vl) (w_blocks : Vl) : Unit → Loc := fun a => [some w_feed_here, none, some w_many, some w_blocks, none, none, none, none, none]
noncomputable def nb_law_graph_1 (dr : MF) (w_feed_here : Vl) (w_many : Vl) (w_blocks : Vl) (w_block : Vl) : Sto → An Unit Unit := fun s =>
  ((callN 2 dr [w_feed_here, w_many] s).bind fun x5 s6 => ((callN 2 dr [w_feed_here, w_many] s6).bind fun x7 s8 => (((R.of (phAdd w_block (Vl.dat (.int 1)) s8) s8).bind fun x9 s10 => R.of (phMod x9 w_many s10) s10).bind fun x11 s12 => R.ok [x11] s12).bind fun l13 s14 => R.ok (x7 :: l13) s14).bind fun l15 s16 => R.ok (x5 :: l15) s16).an fun l18 s17 => par3N l18 fun w_first w_second w_near =>
    (((R.of (tupN [(Vl.dat (.str "go")), w_first]) s17).bind fun x20 s21 => ((R.of (tupN [(Vl.dat (.str "go")), w_near]) s21).bind fun x22 s23 => ((R.of (tupN [(Vl.dat (.str "if")), (Vl.dat (.str "i")), w_first, w_second]) s23).bind fun x24 s25 => ((R.of (tupN [(Vl.dat (.str "if")), (Vl.dat (.str "i")), w_near, w_first]) s25).bind fun x26 s27 => ((R.of (tupN [(Vl.dat (.str "back"))]) s27).bind fun x28 s29 => R.ok [x28] s29).bind fun l30 s31 => R.ok (x26 :: l30) s31).bind fun l32 s33 => R.ok (x24 :: l32) s33).bind fun l34 s35 => R.ok (x22 :: l34) s35).bind fun l36 s37 => R.ok (x20 :: l36) s37).bind fun l38 s39 => R.of (lstN l38) s39).an fun w_ends s19 =>
    (appN w_blocks s19 (fun s40 => (((R.of (tupN []) s40).bind fun x41 s42 => (((callN 2 dr [w_feed_here, (Vl.dat (.int 5))] s42).bind fun x43 s44 => R.of (phIx w_ends x43 s44) s44).bind fun x45 s46 => R.ok [x45] s46).bind fun l47 s48 => R.ok (x41 :: l47) s48).bind fun l49 s50 => R.of (tupN l49) s50).bind fun x51 s52 => R.ok [x51] s52)).an fun _ s53 =>
    .nx () s53
noncomputable def lp_law_graph_1 {L : Type} (dr : MF) (w_feed_here : Vl) (w_many : Vl) (w_blocks : Vl) (ck : Sto → Prop) : List Vl → Unit → Sto → An Unit L := forN ck (mk_law_graph_1 w_feed_here w_many w_blocks) (fun v a s => patN (pV v) fun p => nb_law_graph_1 dr w_feed_here w_many w_blocks p s)
@[simp] theorem lp_law_graph_1_nil {L : Type} (dr : MF) (w_feed_here : Vl) (w_many : Vl) (w_blocks : Vl) {a : Unit} {s : Sto} : (lp_law_graph_1 (L := L) dr w_feed_here w_many w_blocks okT [] a s) = .nx a s := forN_nil
end Pm
set_option maxRecDepth 100000
set_option maxHeartbeats 4000000
namespace Pm
open PySem PySem.Spec PyProof.Rows L2 Sw
structure ComI (bs : List Blk) (F : List Int) : Prop where
  nd : F.Nodup
  rch : ∀ x ∈ F, Rch bs x
  fst : (0 : Int) ∈ F
theorem ComI.len {bs : List Blk} (ok : GoIn bs) {F : List Int} (h : ComI bs F) : F.length ≤ bs.length := few_in h.nd fun x hx => (h.rch x hx).in ok
end Pm
set_option maxRecDepth 100000
set_option maxHeartbeats 4000000
namespace Pm
open PySem PySem.Spec PyProof.Rows L2 Sw
theorem word_wt {z : Str} (h : IsWord z) : leaf 2000000 (.str z) = true ∧ lens 1000 (.str z) = true ∧ (PyData.str z).depth ≤ 0 ∧ wt (.str z) ≤ 250 := by
  refine ⟨leaf_str.mpr h.ascii, rfl, Nat.le_refl _, ?_⟩
  have := h.hi
  simp only [Sw.wt]
  omega
structure Lt (n B : Nat) (d : PyData) : Prop where
  lf : leaf 2000000 d = true
  ln : lens 1000 d = true
  dp : d.depth ≤ n
  wg : wt d ≤ B
theorem Lt.mono {n B n' B' : Nat} {d : PyData} (h : Lt n B d) (h1 : n ≤ n') (h2 : B ≤ B') : Lt n' B' d := ⟨h.lf, h.ln, Nat.le_trans h.dp h1, Nat.le_trans h.wg h2⟩
theorem Lt.tup {n B : Nat} {xs : List PyData} (h : ∀ x ∈ xs, Lt n B x) (hl : xs.length ≤ 1000) : Lt (n + 1) ((B + 2) * xs.length + 5) (.tuple xs) := by
  have hw := wtAll_le (c := B) (xs := xs) fun x hx => (h x hx).wg
  have f := Fit.tup (M := 2000000) (l := 1000) (n := n) (B := (B + 2) * xs.length + 5) hl (fun x hx => ⟨(h x hx).lf, (h x hx).ln, (h x hx).dp⟩) (by omega)
  exact ⟨f.lf, f.ln, f.dp, f.wg⟩
theorem Lt.word {z : Str} (h : IsWord z) : Lt 0 250 (.str z) := ⟨(word_wt h).1, (word_wt h).2.1, (word_wt h).2.2.1, (word_wt h).2.2.2⟩
theorem Lt.int {i : Int} (h : -1000000 ≤ i) (h2 : i ≤ 1000000) : Lt 0 250 (.int i) := ⟨by simp only [leaf, decide_eq_true_eq]; omega, rfl, Nat.le_refl _, Nat.le_refl _⟩
theorem Lt.txt {z : Str} (h : (z.cps.toList.all fun c => decide (c < 128)) = true := by decide) (h2 : z.length ≤ 20 := by decide) : Lt 0 250 (.str z) := ⟨by simp only [leaf]; exact h, rfl, Nat.le_refl _, by simp only [wt]; omega⟩
theorem Lt.cons {n B : Nat} {x : PyData} {xs : List PyData} (h : Lt n B x) (h2 : ∀ y ∈ xs, Lt n B y) : ∀ y ∈ x :: xs, Lt n B y := fun y hy => by
  rcases List.mem_cons.mp hy with rfl | hy
  · exact h
  · exact h2 y hy
theorem Lt.nil {n B : Nat} : ∀ y ∈ ([] : List PyData), Lt n B y := fun y hy => by cases hy
theorem OpdOk.lt {o : Opd} (h : OpdOk o) : Lt 0 250 o.d := by
  cases o with
  | n i => have := h.num i rfl; exact Lt.int this.1 this.2
  | v x => exact Lt.word (h.word x rfl)
theorem AdrOk.lt {os : List (Str × Int)} (ok : ObjsOk os) {a : Adr} (h : AdrOk os a) : Lt 2 6000 a.d := by
  have hf := h.few
  have hf2 := ok.few
  have n1 : Lt 1 1900 (strsD a.names) := by
    refine (Lt.tup (n := 0) (B := 250) (xs := a.names.map .str) (fun x hx => ?_) (by rw [List.length_map]; omega)).mono (Nat.le_refl _) (by rw [List.length_map]; omega)
    obtain ⟨z, hz, rfl⟩ := List.mem_map.mp hx
    obtain ⟨o, ho, rfl⟩ := List.mem_map.mp (h.sub z hz)
    exact Lt.word (ok.word o ho)
  have n2 : Lt 1 1900 a.pick.d := by
    cases e : a.pick with
    | n i => have := h.pick i e; exact (Lt.int (i := i) (by omega) (by omega)).mono (by decide) (by decide)
    | v x =>
      rcases h.pickV x e with rfl | rfl
      · exact (Lt.txt (z := "i")).mono (by decide) (by decide)
      · exact (Lt.txt (z := "p")).mono (by decide) (by decide)
  have n3 : Lt 1 1900 a.index.d := by
    cases e : a.index with
    | n i =>
      have h3 := h.index i e
      obtain ⟨x, hx⟩ := List.exists_mem_of_length_pos h.pos
      have h4 := ok.look (h.sub x hx)
      have h5 := h3.2 x hx _ h4.1
      exact (Lt.int (i := i) (by omega) (by omega)).mono (by decide) (by decide)
    | v x =>
      rcases h.indexV x e with rfl | rfl
      · exact (Lt.txt (z := "i")).mono (by decide) (by decide)
      · exact (Lt.txt (z := "j")).mono (by decide) (by decide)
  exact (Lt.tup (.cons n1 (.cons n2 (.cons n3 .nil))) (by simp)).mono (Nat.le_refl _) (by simp)
theorem ijn_lt {x : Str} (h : x = "i" ∨ x = "j" ∨ x = "n") : Lt 0 250 (.str x) := by
  rcases h with rfl | rfl | rfl
  · exact Lt.txt
  · exact Lt.txt
  · exact Lt.txt
theorem sign_lt {x : Str} (h : x = "+" ∨ x = "-" ∨ x = "*" ∨ x = "<") : Lt 0 250 (.str x) := by
  rcases h with rfl | rfl | rfl | rfl
  · exact Lt.txt
  · exact Lt.txt
  · exact Lt.txt
  · exact Lt.txt
theorem RowOk.lt {os : List (Str × Int)} (ok : ObjsOk os) {called : List Str} (hw : ∀ z ∈ called, IsWord z) {r : Row} (h : RowOk os called r) : Lt 3 40000 r.d := by
  have up : ∀ {d : PyData}, Lt 0 250 d → Lt 2 6000 d := fun h => h.mono (by decide) (by decide)
  have fin : ∀ {xs : List PyData}, (∀ x ∈ xs, Lt 2 6000 x) → xs.length ≤ 5 → Lt 3 40000 (.tuple xs) := fun h hl => (Lt.tup h (by omega)).mono (Nat.le_refl _) (by omega)
  cases h with
  | load hx ha => exact fin (.cons (up Lt.txt) (.cons (up (ijn_lt hx)) (.cons (ha.lt ok) .nil))) (by simp)
  | store ha ho => exact fin (.cons (up Lt.txt) (.cons (ha.lt ok) (.cons (up ho.lt) .nil))) (by simp)
  | touch ha => exact fin (.cons (up Lt.txt) (.cons (ha.lt ok) .nil)) (by simp)
  | set hx hw hp hq => exact fin (.cons (up Lt.txt) (.cons (up (ijn_lt hx)) (.cons (up (sign_lt hw)) (.cons (up hp.lt) (.cons (up hq.lt) .nil))))) (by simp)
  | tell ho => exact fin (.cons (up Lt.txt) (.cons (up ho.lt) .nil)) (by simp)
  | need ho => exact fin (.cons (up Lt.txt) (.cons (up ho.lt) .nil)) (by simp)
  | call hf => exact fin (.cons (up Lt.txt) (.cons (up (Lt.word (hw _ hf))) .nil)) (by simp)
theorem EndOk.lt {m : Int} (hm : m ≤ 1000) {e : Endd} (h : EndOk m e) : Lt 1 2000 e.d := by
  have num : ∀ x ∈ e.all, Lt 0 250 (.int x) := fun x hx => by have := h.rng x hx; exact Lt.int (by omega) (by omega)
  cases e with
  | go a => exact (Lt.tup (.cons Lt.txt (.cons (num a (by simp [Endd.all])) .nil)) (by simp)).mono (by decide) (by simp)
  | iff o a b => exact (Lt.tup (.cons Lt.txt (.cons (h.opd o a b rfl).lt (.cons (num a (by simp [Endd.all])) (.cons (num b (by simp [Endd.all])) .nil)))) (by simp)).mono (by decide) (by simp)
  | back => exact (Lt.tup (.cons Lt.txt .nil) (by simp)).mono (by decide) (by simp)
structure Good (c : Cod) : Prop where
  ok : ∃ called, CodG 5 6 3 called c
theorem BkG.lt {os : List (Str × Int)} (ok : ObjsOk os) {called : List Str} (hw : ∀ z ∈ called, IsWord z) {W : Nat} {m : Int} (hm : m ≤ 1000) (hW : W ≤ 3) {b : Blk} (h : BkG os called W m b) : Lt 5 250000 b.d := by
  have hf := h.few
  have n1 : Lt 4 121000 (rowsD b.rows) := (Lt.tup (n := 3) (B := 40000) (xs := b.rows.map Row.d) (fun x hx => by
    obtain ⟨r, hr, rfl⟩ := List.mem_map.mp hx
    exact (h.rows r hr).lt ok hw) (by rw [List.length_map]; omega)).mono (Nat.le_refl _) (by rw [List.length_map]; omega)
  have n2 : Lt 4 121000 b.fin.d := (h.fin.lt hm).mono (by decide) (by decide)
  exact (Lt.tup (.cons n1 (.cons n2 .nil)) (by simp)).mono (Nat.le_refl _) (by simp)
theorem CodG.lt {R B W : Nat} {called : List Str} {c : Cod} (h : CodG R B W called c) (hR : R ≤ 5) (hB : B ≤ 6) (hW : W ≤ 3) : Lt 9 15990000 c.d := by
  have ok := h.objs
  have hfew := ok.few
  have hnm : ∀ r ∈ c.rts, IsWord r.1 := fun r hr => by
    have : r.1 ∈ srtS (called ++ [mainS]) := h.names ▸ List.mem_map.mpr ⟨r, hr, rfl⟩
    rcases List.mem_append.mp ((srtB_perm (le := leS) _).mem_iff.mp this) with h2 | h2
    · exact h.word _ h2
    · have : r.1 = mainS := by simpa using h2
      rw [this]; exact main_word
  have hlen : c.rts.length ≤ 5 := by
    have := congrArg List.length h.names
    rw [List.length_map, (srtB_perm (le := leS) _).length_eq, List.length_append, List.length_singleton] at this
    have := h.few
    omega
  have n1 : Lt 8 7900000 (objsD c.objs) := (Lt.tup (n := 1) (B := 600) (xs := c.objs.map objD) (fun x hx => by
    obtain ⟨o, ho, rfl⟩ := List.mem_map.mp hx
    have := ok.size o ho
    exact (Lt.tup (.cons (Lt.word (ok.word o ho)) (.cons (Lt.int (by omega) (by omega)) .nil)) (by simp)).mono (Nat.le_refl _) (by simp)) (by rw [List.length_map]; omega)).mono (by decide) (by rw [List.length_map]; omega)
  have n2 : Lt 8 15000000 (.tuple (c.rts.map rtD)) := (Lt.tup (n := 7) (B := 2999000) (xs := c.rts.map rtD) (fun x hx => by
    obtain ⟨r, hr, rfl⟩ := List.mem_map.mp hx
    have g := h.rts r hr
    have gf := g.few
    have b1 : Lt 6 1500020 (blksD r.2) := (Lt.tup (n := 5) (B := 250000) (xs := r.2.map Blk.d) (fun x hx => by
      obtain ⟨b, hb, rfl⟩ := List.mem_map.mp hx
      exact (g.blks b hb).lt ok h.word (by omega) hW) (by rw [List.length_map]; omega)).mono (Nat.le_refl _) (by rw [List.length_map]; omega)
    have w1 := Lt.word (hnm r hr)
    have f := Fit.tup (M := 2000000) (l := 1000) (n := 6) (B := 2999000) (xs := [.str r.1, blksD r.2]) (by simp) (fun x hx => by
      have := Lt.cons (w1.mono (n' := 6) (B' := 1500020) (by decide) (by decide)) (.cons b1 .nil) x hx
      exact ⟨this.lf, this.ln, this.dp⟩) (by
      have a1 := w1.wg
      have a2 := b1.wg
      simp only [wtAll]
      omega)
    exact ⟨f.lf, f.ln, f.dp, f.wg⟩) (by rw [List.length_map]; omega)).mono (by decide) (by rw [List.length_map]; omega)
  have n3 := (Lt.tup (n := 1) (B := 600) (xs := c.objs.map objD) (fun x hx => by
    obtain ⟨o, ho, rfl⟩ := List.mem_map.mp hx
    have := ok.size o ho
    exact (Lt.tup (.cons (Lt.word (ok.word o ho)) (.cons (Lt.int (by omega) (by omega)) .nil)) (by simp)).mono (Nat.le_refl _) (by simp)) (by rw [List.length_map]; omega)).wg
  rw [List.length_map] at n3
  have f := Fit.tup (M := 2000000) (l := 1000) (n := 8) (B := 15990000) (xs := [objsD c.objs, .tuple (c.rts.map rtD)]) (by simp) (fun x hx => by
    rcases List.mem_cons.mp hx with rfl | hx
    · exact ⟨n1.lf, n1.ln, n1.dp⟩
    · rcases List.mem_cons.mp hx with rfl | hx
      · exact ⟨n2.lf, n2.ln, n2.dp⟩
      · cases hx) (by
    have a2 := n2.wg
    have a1 : wt (objsD c.objs) ≤ (600 + 2) * c.objs.length + 5 := n3
    have : (600 + 2) * c.objs.length ≤ 602 * 4 := Nat.mul_le_mul_left _ hfew
    simp only [wtAll]
    omega)
  exact ⟨f.lf, f.ln, f.dp, f.wg⟩
theorem Good.rpr {c : Cod} (h : Good c) : Rpr c.d := by
  obtain ⟨called, g⟩ := h.ok
  have l := g.lt (by decide) (by decide) (by decide)
  exact Rpr.of (M := 2000000) (l := 1000) (n := 9) (B := 15990000) ⟨l.lf, l.ln, l.dp, l.wg⟩ (by decide +kernel) (by decide) (by decide)
end Pm
set_option maxRecDepth 100000
set_option maxHeartbeats 4000000
namespace Pm
open PySem PySem.Spec PyProof.Rows L2 Sw
noncomputable def n_law_well (w_script : Vl) : Sto → An Unit Empty := fun s =>
  ((((R.of ((int? (Vl.dat (.int 63))).map some) s).bind fun o1 s2 => R.of (phSl w_script none o1 s2) s2).bind fun x3 s4 => R.ok [x3, (Vl.dat (.int 0)), (Vl.dat (.int 0)), (Vl.dat (.int 0))] s4).bind fun l5 s6 => newN l5 s6).an fun x7 s8 => .rt x7 s8
noncomputable def r_law_well : MF := runN fun xs => match xs with
  | [w_script] => n_law_well w_script
  | _ => fun _ => .bad
noncomputable def G_law_well : MF := r_law_well
noncomputable def n_law_dip (w_well_here : Vl) (w_many : Vl) : Sto → An Unit Empty := fun s =>
  (R.of (phIx w_well_here (Vl.dat (.int 2)) s) s).an fun w_turn s1 =>
    (R.of (phAdd w_turn (Vl.dat (.int 1)) s1) s1).an fun x2 s3 => stoN (subU (R.ok w_well_here s3) (fun z => R.ok (Vl.dat (.int 2)) z) x2) fun s4 =>
    (((R.of (phIx w_well_here (Vl.dat (.int 1)) s4) s4).bind fun x5 s6 => R.of (phGt x5 (Vl.dat (.int 0)) s6) s6).bind fun x7 s8 => R.of (bool? x7) s8).an fun c9 s10 => if c9 = true then
    (((R.of (phIx w_well_here (Vl.dat (.int 1)) s10) s10).bind fun x12 s13 => R.of (phMod x12 w_many s13) s13).an fun w_found s11 =>
      ((R.of (phIx w_well_here (Vl.dat (.int 1)) s11) s11).bind fun x14 s15 => R.of (phDiv x14 w_many s15) s15).an fun x16 s17 => stoN (subU (R.ok w_well_here s17) (fun z => R.ok (Vl.dat (.int 1)) z) x16) fun s18 =>
      (R.ok w_found s18).an fun x19 s20 => .rt x19 s20 : An Empty _).up
    else
    (R.of (phIx w_well_here (Vl.dat (.int 3)) s10) s10).an fun w_at s21 =>
    (R.of (phAdd w_at (Vl.dat (.int 1)) s21) s21).an fun x22 s23 => stoN (subU (R.ok w_well_here s23) (fun z => R.ok (Vl.dat (.int 3)) z) x22) fun s24 =>
    ((((R.of (phIx w_well_here (Vl.dat (.int 0)) s24) s24).bind fun x26 s27 => (R.of (lstN []) s27).bind fun x28 s29 => R.of (phNe x26 x28 s29) s29).bind fun x30 s31 => R.of (bool? x30) s31).bind fun c32 s33 => if c32 = true then (R.of (phIx w_well_here (Vl.dat (.int 0)) s33) s33).bind fun x34 s35 => ((((R.of (phIx w_well_here (Vl.dat (.int 0)) s35) s35).bind fun x36 s37 => R.ok [x36] s37).bind fun l38 s39 => R.of (phLen l38 s39) s39).bind fun x40 s41 => R.of (phMod w_at x40 s41) s41).bind fun x42 s43 => R.of (phIx x34 x42 s43) s43 else R.ok (Vl.dat (.int 12)) s33).an fun w_figure s25 =>
    ((((R.of (phPow (Vl.dat (.int 10)) (Vl.dat (.int 18)) s25) s25).bind fun x44 s45 => R.of (phGe w_figure x44 s45) s45).bind fun x46 s47 => R.of (bool? x46) s47).bind fun c48 s49 => if c48 = true then ((((R.of (phIx w_well_here (Vl.dat (.int 0)) s49) s49).bind fun x50 s51 => R.ok [x50] s51).bind fun l52 s53 => R.of (phLen l52 s53) s53).bind fun x54 s55 => R.of (phLt w_at x54 s55) s55).bind fun x56 s57 => R.of (bool? x56) s57 else R.ok false s49).an fun c58 s59 => if c58 = true then
    ((R.of (phDiv w_figure w_many s59) s59).an fun x60 s61 => stoN (subU (R.ok w_well_here s61) (fun z => R.ok (Vl.dat (.int 1)) z) x60) fun s62 =>
      (R.of (phMod w_figure w_many s62) s62).an fun x63 s64 => .rt x63 s64 : An Empty _).up
    else
    ((((R.of (phMod w_figure (Vl.dat (.int 2147483587)) s59) s59).bind fun x66 s67 => ((R.of (phMul (Vl.dat (.int 7907)) w_turn s67) s67).bind fun x68 s69 => R.of (phMul x68 w_turn s69) s69).bind fun x70 s71 => R.of (phAdd x66 x70 s71) s71).bind fun x72 s73 => (R.of (phMul (Vl.dat (.int 911)) w_turn s73) s73).bind fun x74 s75 => R.of (phAdd x72 x74 s75) s75).bind fun x76 s77 => R.of (phAdd x76 (Vl.dat (.int 257)) s77) s77).an fun w_mixed s65 =>
    ((((R.of (phMul w_mixed w_mixed s65) s65).bind fun x79 s80 => (R.of (phMul (Vl.dat (.int 50021)) w_turn s80) s80).bind fun x81 s82 => R.of (phAdd x79 x81 s82) s82).bind fun x83 s84 => R.of (phAdd x83 (Vl.dat (.int 59)) s84) s84).bind fun x85 s86 => R.of (phMod x85 (Vl.dat (.int 2147483563)) s86) s86).an fun w_mixed s78 =>
    (((((R.of (phMul w_mixed w_mixed s78) s78).bind fun x87 s88 => (R.of (phMul (Vl.dat (.int 23)) w_mixed s88) s88).bind fun x89 s90 => R.of (phAdd x87 x89 s90) s90).bind fun x91 s92 => R.of (phMod x91 (Vl.dat (.int 2147483549)) s92) s92).bind fun x93 s94 => R.of (phDiv x93 (Vl.dat (.int 64)) s94) s94).bind fun x95 s96 => R.of (phMod x95 w_many s96) s96).an fun x97 s98 => .rt x97 s98
noncomputable def r_law_dip : MF := runN fun xs => match xs with
  | [w_well_here, w_many] => n_law_dip w_well_here w_many
  | _ => fun _ => .bad
noncomputable def G_law_dip : MF := frameG (r_law_dip)
noncomputable def n_law_operand_k55 (w_well_here : Vl) : Sto → An Unit Empty := fun s =>
  ((R.of (lstN [(Vl.dat (.int 0)), (Vl.dat (.int 1)), (Vl.dat (.int 2)), (Vl.dat (.str "p")), (Vl.dat (.str "q")), (Vl.dat (.str "p")), (Vl.dat (.int 5))]) s).bind fun x1 s2 => (callN 2 G_law_dip [w_well_here, (Vl.dat (.int 7))] s2).bind fun x3 s4 => R.of (phIx x1 x3 s4) s4).an fun x5 s6 => .rt x5 s6
noncomputable def r_law_operand_k55 : MF := runN fun xs => match xs with
  | [w_well_here] => n_law_operand_k55 w_well_here
  | _ => fun _ => .bad
noncomputable def G_law_operand_k55 : MF := frameG (r_law_operand_k55)
noncomputable def n_law_address_k55 (w_well_here : Vl) : Sto → An Unit Empty := fun s =>
  (callN 2 G_law_dip [w_well_here, (Vl.dat (.int 8))] s).an fun w_way s1 =>
    ((R.of (phLt w_way (Vl.dat (.int 3)) s1) s1).bind fun x2 s3 => R.of (bool? x2) s3).an fun c4 s5 => if c4 = true then
    (((((((R.of (tupN [(Vl.dat (.str "a"))]) s5).bind fun x6 s7 => R.ok [x6, (Vl.dat (.int 0)), (Vl.dat (.int 0))] s7).bind fun l8 s9 => R.of (tupN l8) s9).bind fun x10 s11 => ((((R.of (tupN [(Vl.dat (.str "b"))]) s11).bind fun x12 s13 => R.ok [x12, (Vl.dat (.int 0)), (Vl.dat (.int 0))] s13).bind fun l14 s15 => R.of (tupN l14) s15).bind fun x16 s17 => ((((R.of (tupN [(Vl.dat (.str "b"))]) s17).bind fun x18 s19 => R.ok [x18, (Vl.dat (.int 0)), (Vl.dat (.int 1))] s19).bind fun l20 s21 => R.of (tupN l20) s21).bind fun x22 s23 => R.ok [x22] s23).bind fun l24 s25 => R.ok (x16 :: l24) s25).bind fun l26 s27 => R.ok (x10 :: l26) s27).bind fun l28 s29 => R.of (lstN l28) s29).bind fun x30 s31 => R.of (phIx x30 w_way s31) s31).an fun x32 s33 => .rt x32 s33 : An Empty _).up
    else
    (((((R.of (tupN [(Vl.dat (.str "b"))]) s5).bind fun x35 s36 => R.ok [x35, (Vl.dat (.int 0)), (Vl.dat (.str "p"))] s36).bind fun l37 s38 => R.of (tupN l37) s38).bind fun x39 s40 => ((((R.of (tupN [(Vl.dat (.str "a")), (Vl.dat (.str "b"))]) s40).bind fun x41 s42 => R.ok [x41, (Vl.dat (.str "q")), (Vl.dat (.int 0))] s42).bind fun l43 s44 => R.of (tupN l43) s44).bind fun x45 s46 => ((((R.of (tupN [(Vl.dat (.str "b")), (Vl.dat (.str "a"))]) s46).bind fun x47 s48 => R.ok [x47, (Vl.dat (.str "p")), (Vl.dat (.str "q"))] s48).bind fun l49 s50 => R.of (tupN l49) s50).bind fun x51 s52 => ((((R.of (tupN [(Vl.dat (.str "a"))]) s52).bind fun x53 s54 => R.ok [x53, (Vl.dat (.str "p")), (Vl.dat (.str "q"))] s54).bind fun l55 s56 => R.of (tupN l55) s56).bind fun x57 s58 => ((((R.of (tupN [(Vl.dat (.str "b")), (Vl.dat (.str "a"))]) s58).bind fun x59 s60 => R.ok [x59, (Vl.dat (.int 1)), (Vl.dat (.str "p"))] s60).bind fun l61 s62 => R.of (tupN l61) s62).bind fun x63 s64 => R.ok [x63] s64).bind fun l65 s66 => R.ok (x57 :: l65) s66).bind fun l67 s68 => R.ok (x51 :: l67) s68).bind fun l69 s70 => R.ok (x45 :: l69) s70).bind fun l71 s72 => R.ok (x39 :: l71) s72).bind fun l73 s74 => R.of (lstN l73) s74).an fun w_some s34 =>
    ((R.of (phSub w_way (Vl.dat (.int 3)) s34) s34).bind fun x75 s76 => R.of (phIx w_some x75 s76) s76).an fun x77 s78 => .rt x77 s78
noncomputable def r_law_address_k55 : MF := runN fun xs => match xs with
  | [w_well_here] => n_law_address_k55 w_well_here
  | _ => fun _ => .bad
noncomputable def G_law_address_k55 : MF := frameG (r_law_address_k55)
def FdP (j : Nat) (o : Ob) : Prop := ∃ (ns : List Int) (a b c : Int), o = fdL ns a b c ∧ ns.length ≤ 63 ∧ 0 ≤ b ∧ b ≤ (j : Int) ∧ 0 ≤ c
section
variable {ns : List Int} {a b c x : Int} {t : Sto}
theorem fdL_sub1 : subU (.ok (.ref 0) (fdL ns a b c :: t)) (fun z => .ok (.dat (.int 1)) z) (.dat (.int x)) = some (fdL ns x b c :: t) := rfl
theorem fdL_sub3 : subU (.ok (.ref 0) (fdL ns a b c :: t)) (fun z => .ok (.dat (.int 3)) z) (.dat (.int x)) = some (fdL ns a b x :: t) := rfl
end
theorem draw_dip : DrawSp G_law_dip FdP := by
  refine ⟨fun ⟨ns, a, b, c, h1, h2, h3, h4, h5⟩ h => ⟨ns, a, b, c, h1, h2, h3, by omega, h5⟩, fun ⟨ns, a, b, c, h1, _⟩ => by subst h1; simp [fdL], ?_⟩
  rintro j k f s m ⟨ns, a, b, c, rfl, hn, hb0, hbj, hc0⟩ hj m1 m2 hs
  have key : ∃ r a' c', r_law_dip [.ref 0, .dat (.int m)] [fdL ns a b c] = .ok (.dat (.int r)) [fdL ns a' (b + 1) c'] ∧ 0 ≤ c' ∧ 0 ≤ r ∧ r < m := by
    have hm : (0 : Int) < m := by omega
    have fin : ∀ x : Int, 0 ≤ x % m ∧ x % m < m := fun x => ⟨Int.emod_nonneg x (by omega), Int.emod_lt_of_pos x hm⟩
    rw [r_law_dip, runN_ap]
    refine wp_of (Q := fun z => ∃ r a' c', An.fin z = .ok (.dat (.int r)) [fdL ns a' (b + 1) c'] ∧ 0 ≤ c' ∧ 0 ≤ r ∧ r < m) ?_
    simp only [n_law_dip]
    refine wp_an (a := .dat (.int b)) (s := [fdL ns a b c]) (by simp) ?_
    refine wp_an (a := .dat (.int (b + 1))) (s := [fdL ns a b c]) (by simp) ?_
    rw [fdL_sub2, stoN_some]
    by_cases ha : 0 < a
    · refine wp_if (b := true) (s := [fdL ns a (b + 1) c]) (by simp [ha]) ?_
      rw [if_pos rfl]
      refine ⟨a % m, a / m, c, ?_, hc0, fin a⟩
      simp [phMod_p hm, phDiv_p hm m2, fdL_sub1]
    · refine wp_if (b := false) (s := [fdL ns a (b + 1) c]) (by simp [ha]) ?_
      rw [if_neg (by decide)]
      refine wp_an (a := .dat (.int c)) (s := [fdL ns a (b + 1) c]) (by simp) ?_
      refine wp_an (a := .dat (.int (c + 1))) (s := [fdL ns a (b + 1) c]) (by simp) ?_
      rw [fdL_sub3, stoN_some]
      refine wp_ex (fun v s => ∃ q : Int, v = .dat (.int q) ∧ s = [fdL ns a (b + 1) (c + 1)]) ?_ ?_
      · cases he : ns.isEmpty with
        | true => exact ⟨_, _, by simp [phNe_ints, he], 12, rfl, rfl⟩
        | false =>
          obtain ⟨q, hq⟩ := cellL hc0 he
          have hl : (0 : Int) < (ns.length : Int) := by cases ns with
            | nil => simp at he
            | cons _ _ => simp
          exact ⟨_, _, by simp [phNe_ints, he, phMod_p hl, hq], q, rfl, rfl⟩
      rintro _ _ ⟨q, rfl, rfl⟩
      have ep : ∀ s, phPow (.dat (.int 10)) (.dat (.int 18)) s = some (.dat (.int 1000000000000000000)) := fun s => by rw [phPow_c (by decide)]; rfl
      by_cases h18 : (1000000000000000000 : Int) ≤ q ∧ c < (ns.length : Int)
      · refine wp_if (b := true) (s := [fdL ns a (b + 1) (c + 1)]) (by simp [ep, h18.1, h18.2]) ?_
        rw [if_pos rfl]
        refine ⟨q % m, q / m, c + 1, ?_, by omega, fin q⟩
        simp [phMod_p hm, phDiv_p hm m2, fdL_sub1]
      · refine wp_if (b := false) (s := [fdL ns a (b + 1) (c + 1)]) ?_ ?_
        · by_cases h1 : (1000000000000000000 : Int) ≤ q
          · have h2 : ¬ (c < (ns.length : Int)) := fun z => h18 ⟨h1, z⟩
            simp [ep, h1, h2]
          · simp [ep, h1]
        rw [if_neg (by decide)]
        have b6 : b ≤ 1000000 := by omega
        have hq := Int.emod_nonneg q (show (2147483587 : Int) ≠ 0 by decide)
        have hq2 := Int.emod_lt_of_pos q (show (0 : Int) < 2147483587 by decide)
        have p0 : 0 ≤ 7907 * b * b := Int.mul_nonneg (by omega) hb0
        have p1 : 7907 * b * b ≤ 7907000000 * 1000000 := Int.mul_le_mul (by omega) b6 hb0 (by omega)
        refine wp_an (a := .dat (.int (q % 2147483587 + 7907 * b * b + 911 * b + 257))) (s := [fdL ns a (b + 1) (c + 1)]) ?_ ?_
        · have x1 : ∀ s, phMul (.dat (.int 7907)) (.dat (.int b)) s = some (.dat (.int (7907 * b))) := fun s => phMul_l (by decide) (by decide)
          have x2 : ∀ s, phMul (.dat (.int (7907 * b))) (.dat (.int b)) s = some (.dat (.int (7907 * b * b))) := fun s => phMul_r hb0 (by omega)
          have x3 : ∀ s, phMul (.dat (.int 911)) (.dat (.int b)) s = some (.dat (.int (911 * b))) := fun s => phMul_l (by decide) (by decide)
          have x4 : ∀ s, phMod (.dat (.int q)) (.dat (.int 2147483587)) s = some (.dat (.int (q % 2147483587))) := fun s => phMod_p (by decide)
          simp [x1, x2, x3, x4]
        have M0 : 0 ≤ q % 2147483587 + 7907 * b * b + 911 * b + 257 := by omega
        have M1 : q % 2147483587 + 7907 * b * b + 911 * b + 257 ≤ 1000000000000000000 := by omega
        generalize q % 2147483587 + 7907 * b * b + 911 * b + 257 = M at M0 M1
        refine wp_an (a := .dat (.int ((M * M + 50021 * b + 59) % 2147483563))) (s := [fdL ns a (b + 1) (c + 1)]) ?_ ?_
        · have x1 : ∀ s, phMul (.dat (.int M)) (.dat (.int M)) s = some (.dat (.int (M * M))) := fun s => phMul_r M0 M1
          have x2 : ∀ s, phMul (.dat (.int 50021)) (.dat (.int b)) s = some (.dat (.int (50021 * b))) := fun s => phMul_l (by decide) (by decide)
          have x3 : ∀ s, phMod (.dat (.int (M * M + 50021 * b + 59))) (.dat (.int 2147483563)) s = some (.dat (.int ((M * M + 50021 * b + 59) % 2147483563))) := fun s => phMod_p (by decide)
          simp [x1, x2, x3]
        have N0 := Int.emod_nonneg (M * M + 50021 * b + 59) (show (2147483563 : Int) ≠ 0 by decide)
        have N1 := Int.emod_lt_of_pos (M * M + 50021 * b + 59) (show (0 : Int) < 2147483563 by decide)
        generalize (M * M + 50021 * b + 59) % 2147483563 = N at N0 N1
        have last : ∀ z : An Unit Empty, (∃ x : Int, z.fin = .ok (.dat (.int (x % m))) [fdL ns a (b + 1) (c + 1)]) → Wp (fun z => ∃ r a' c', An.fin z = .ok (.dat (.int r)) [fdL ns a' (b + 1) c'] ∧ 0 ≤ c' ∧ 0 ≤ r ∧ r < m) z := fun z ⟨x, h⟩ => ⟨x % m, a, c + 1, h, by omega, fin x⟩
        refine last _ ⟨(N * N + 23 * N) % 2147483549 / 64, ?_⟩
        have x1 : ∀ s, phMul (.dat (.int N)) (.dat (.int N)) s = some (.dat (.int (N * N))) := fun s => phMul_r N0 (by omega)
        have x2 : ∀ s, phMul (.dat (.int 23)) (.dat (.int N)) s = some (.dat (.int (23 * N))) := fun s => phMul_l (by decide) (by decide)
        have x3 : ∀ s, phMod (.dat (.int (N * N + 23 * N))) (.dat (.int 2147483549)) s = some (.dat (.int ((N * N + 23 * N) % 2147483549))) := fun s => phMod_p (by decide)
        have x4 : ∀ x s, phDiv (.dat (.int x)) (.dat (.int 64)) s = some (.dat (.int (x / 64))) := fun x s => phDiv_p (by decide) (by decide)
        simp [x1, x2, x3, x4, phMod_p hm]
  obtain ⟨r, a', c', e, h1, h2, h3⟩ := key
  exact ⟨r, _, fr1 e hs (by simp [fdL]) (by simp [fdL]), ⟨ns, a', b + 1, c', rfl, hn, by omega, by omega, h1⟩, h2, h3⟩
section
variable {j : Nat} {f : Ob} {t : Sto}
theorem dip (hf : FdP j f) (hj : j ≤ 600000) {m : Int} (h1 : 1 ≤ m) (h2 : m ≤ 1000) (t : Sto) : ∃ r f', G_law_dip [.ref 0, .dat (.int m)] (f :: t) = .ok (.dat (.int r)) (f' :: t) ∧ FdP (j + 1) f' ∧ 0 ≤ r ∧ r < m := draw_dip.go0 hf (by omega) h1 (by omega)
theorem G_operand_eq (hf : FdP j f) (hj : j ≤ 600000) : ∃ o f', G_law_operand_k55 [.ref 0] (f :: t) = .ok (.dat (Opd.d o)) (f' :: t) ∧ Lt 0 250 (Opd.d o) ∧ FdP (j + 1) f' := by
  obtain ⟨k, f1, d1, hf1, k0, k1⟩ := dip hf hj (m := 7) (by decide) (by decide) []
  obtain ⟨o, ho, hl⟩ : ∃ o : Opd, atI [PyData.int 0, .int 1, .int 2, .str "p", .str "q", .str "p", .int 5] k = some o.d ∧ Lt 0 250 o.d := by
    have : k = 0 ∨ k = 1 ∨ k = 2 ∨ k = 3 ∨ k = 4 ∨ k = 5 ∨ k = 6 := by omega
    rcases this with rfl | rfl | rfl | rfl | rfl | rfl | rfl
    · exact ⟨.n 0, rfl, Lt.int (by decide) (by decide)⟩
    · exact ⟨.n 1, rfl, Lt.int (by decide) (by decide)⟩
    · exact ⟨.n 2, rfl, Lt.int (by decide) (by decide)⟩
    · exact ⟨.v "p", rfl, Lt.txt⟩
    · exact ⟨.v "q", rfl, Lt.txt⟩
    · exact ⟨.v "p", rfl, Lt.txt⟩
    · exact ⟨.n 5, rfl, Lt.int (by decide) (by decide)⟩
  refine ⟨o, f1, fr1 (o' := f1) (more := []) ?_ rfl (draw_dip.ok hf) (draw_dip.ok hf1), hl, hf1⟩
  rw [r_law_operand_k55, runN_ap]
  simp [n_law_operand_k55, d1, ho]
theorem adr_lt {a : Adr} (h : ∀ x ∈ a.names, x = "a" ∨ x = "b") (hl : a.names.length ≤ 2) (h1 : Lt 0 250 a.pick.d) (h2 : Lt 0 250 a.index.d) : Lt 2 6000 a.d := by
  have n1 : Lt 1 1900 (strsD a.names) := by
    refine (Lt.tup (n := 0) (B := 250) (xs := a.names.map .str) (fun x hx => ?_) (by rw [List.length_map]; omega)).mono (Nat.le_refl _) (by rw [List.length_map]; omega)
    obtain ⟨z, hz, rfl⟩ := List.mem_map.mp hx
    rcases h z hz with rfl | rfl <;> exact Lt.txt
  exact (Lt.tup (.cons n1 (.cons (h1.mono (by decide) (by decide)) (.cons (h2.mono (by decide) (by decide)) .nil))) (by simp)).mono (Nat.le_refl _) (by simp)
theorem G_address_eq (hf : FdP j f) (hj : j ≤ 600000) : ∃ a f', G_law_address_k55 [.ref 0] (f :: t) = .ok (.dat (Adr.d a)) (f' :: t) ∧ Lt 2 6000 (Adr.d a) ∧ FdP (j + 1) f' := by
  obtain ⟨k, f1, d1, hf1, k0, k1⟩ := dip hf hj (m := 8) (by decide) (by decide) []
  have n1 : ∀ i : Int, 0 ≤ i → i ≤ 5 → Lt 0 250 (Opd.d (.n i)) := fun i h0 h1 => Lt.int (by omega) (by omega)
  have v1 : Lt 0 250 (Opd.d (.v "p")) := Lt.txt
  have v2 : Lt 0 250 (Opd.d (.v "q")) := Lt.txt
  by_cases h3 : k < 3
  · obtain ⟨a, ha, hl⟩ : ∃ a : Adr, atI [PyData.tuple [.tuple [.str "a"], .int 0, .int 0], .tuple [.tuple [.str "b"], .int 0, .int 0], .tuple [.tuple [.str "b"], .int 0, .int 1]] k = some a.d ∧ Lt 2 6000 a.d := by
      have : k = 0 ∨ k = 1 ∨ k = 2 := by omega
      rcases this with rfl | rfl | rfl
      · exact ⟨⟨["a"], .n 0, .n 0⟩, rfl, adr_lt (by simp) (by simp) (n1 _ (by decide) (by decide)) (n1 _ (by decide) (by decide))⟩
      · exact ⟨⟨["b"], .n 0, .n 0⟩, rfl, adr_lt (by simp) (by simp) (n1 _ (by decide) (by decide)) (n1 _ (by decide) (by decide))⟩
      · exact ⟨⟨["b"], .n 0, .n 1⟩, rfl, adr_lt (by simp) (by simp) (n1 _ (by decide) (by decide)) (n1 _ (by decide) (by decide))⟩
    refine ⟨a, f1, fr1 (o' := f1) (more := []) ?_ rfl (draw_dip.ok hf) (draw_dip.ok hf1), hl, hf1⟩
    rw [r_law_address_k55, runN_ap]
    simp [n_law_address_k55, d1, h3, ha]
  · obtain ⟨a, ha, hl⟩ : ∃ a : Adr, atI [PyData.tuple [.tuple [.str "b"], .int 0, .str "p"], .tuple [.tuple [.str "a", .str "b"], .str "q", .int 0], .tuple [.tuple [.str "b", .str "a"], .str "p", .str "q"], .tuple [.tuple [.str "a"], .str "p", .str "q"], .tuple [.tuple [.str "b", .str "a"], .int 1, .str "p"]] (k - 3) = some a.d ∧ Lt 2 6000 a.d := by
      have : k = 3 ∨ k = 4 ∨ k = 5 ∨ k = 6 ∨ k = 7 := by omega
      rcases this with rfl | rfl | rfl | rfl | rfl
      · exact ⟨⟨["b"], .n 0, .v "p"⟩, rfl, adr_lt (by simp) (by simp) (n1 _ (by decide) (by decide)) v1⟩
      · exact ⟨⟨["a", "b"], .v "q", .n 0⟩, rfl, adr_lt (by simp) (by simp) v2 (n1 _ (by decide) (by decide))⟩
      · exact ⟨⟨["b", "a"], .v "p", .v "q"⟩, rfl, adr_lt (by simp) (by simp) v1 v2⟩
      · exact ⟨⟨["a"], .v "p", .v "q"⟩, rfl, adr_lt (by simp) (by simp) v1 v2⟩
      · exact ⟨⟨["b", "a"], .n 1, .v "p"⟩, rfl, adr_lt (by simp) (by simp) (n1 _ (by decide) (by decide)) v1⟩
    refine ⟨a, f1, fr1 (o' := f1) (more := []) ?_ rfl (draw_dip.ok hf) (draw_dip.ok hf1), hl, hf1⟩
    rw [r_law_address_k55, runN_ap]
    simp [n_law_address_k55, d1, h3, ha]
end
end Pm
set_option maxRecDepth 100000
set_option maxHeartbeats 4000000
namespace Pm
open PySem PySem.Spec PyProof.Rows L2 Sw
noncomputable def n_law_row_k55 (w_well_here : Vl) (w_others : Vl) : Sto → An Unit Empty := fun s =>
  (callN 2 G_law_dip [w_well_here, (Vl.dat (.int 12))] s).an fun w_way s1 =>
    ((R.of (phLt w_way (Vl.dat (.int 4)) s1) s1).bind fun x2 s3 => R.of (bool? x2) s3).an fun c4 s5 => if c4 = true then
    (((((callN 1 G_law_address_k55 [w_well_here] s5).bind fun x6 s7 => ((callN 1 G_law_operand_k55 [w_well_here] s7).bind fun x8 s9 => R.ok [x8] s9).bind fun l10 s11 => R.ok (x6 :: l10) s11).bind fun l12 s13 => R.ok ((Vl.dat (.str "store")) :: l12) s13).bind fun l14 s15 => R.of (tupN l14) s15).an fun x16 s17 => .rt x16 s17 : An Empty _).up
    else
    ((R.of (phLt w_way (Vl.dat (.int 7)) s5) s5).bind fun x18 s19 => R.of (bool? x18) s19).an fun c20 s21 => if c20 = true then
    ((((((R.of (lstN [(Vl.dat (.str "p")), (Vl.dat (.str "q"))]) s21).bind fun x22 s23 => (callN 2 G_law_dip [w_well_here, (Vl.dat (.int 2))] s23).bind fun x24 s25 => R.of (phIx x22 x24 s25) s25).bind fun x26 s27 => ((callN 1 G_law_address_k55 [w_well_here] s27).bind fun x28 s29 => R.ok [x28] s29).bind fun l30 s31 => R.ok (x26 :: l30) s31).bind fun l32 s33 => R.ok ((Vl.dat (.str "load")) :: l32) s33).bind fun l34 s35 => R.of (tupN l34) s35).an fun x36 s37 => .rt x36 s37 : An Empty _).up
    else
    (((R.of (phLt w_way (Vl.dat (.int 10)) s21) s21).bind fun x38 s39 => R.of (bool? x38) s39).bind fun c40 s41 => if c40 = true then ((R.of (lstN []) s41).bind fun x42 s43 => R.of (phNe w_others x42 s43) s43).bind fun x44 s45 => R.of (bool? x44) s45 else R.ok false s41).an fun c46 s47 => if c46 = true then
    (((((((((R.of (phLen [w_others] s47) s47).bind fun x48 s49 => R.ok [x48] s49).bind fun l50 s51 => R.ok (w_well_here :: l50) s51).bind fun l52 s53 => callN 2 G_law_dip l52 s53).bind fun x54 s55 => R.of (phIx w_others x54 s55) s55).bind fun x56 s57 => R.ok [x56] s57).bind fun l58 s59 => R.ok ((Vl.dat (.str "call")) :: l58) s59).bind fun l60 s61 => R.of (tupN l60) s61).an fun x62 s63 => .rt x62 s63 : An Empty _).up
    else
    ((((((((R.of (tupN [(Vl.dat (.str "b"))]) s47).bind fun x65 s66 => R.ok [x65, (Vl.dat (.int 0)), (Vl.dat (.str "p"))] s66).bind fun l67 s68 => R.of (tupN l67) s68).bind fun x69 s70 => R.ok [x69] s70).bind fun l71 s72 => R.ok ((Vl.dat (.str "touch")) :: l71) s72).bind fun l73 s74 => R.of (tupN l73) s74).bind fun x75 s76 => ((R.of (tupN [(Vl.dat (.str "set")), (Vl.dat (.str "p")), (Vl.dat (.str "+")), (Vl.dat (.str "p")), (Vl.dat (.int 1))]) s76).bind fun x77 s78 => ((R.of (tupN [(Vl.dat (.str "tell")), (Vl.dat (.str "p"))]) s78).bind fun x79 s80 => ((R.of (tupN [(Vl.dat (.str "set")), (Vl.dat (.str "q")), (Vl.dat (.str "<")), (Vl.dat (.str "q")), (Vl.dat (.int 2))]) s80).bind fun x81 s82 => R.ok [x81] s82).bind fun l83 s84 => R.ok (x79 :: l83) s84).bind fun l85 s86 => R.ok (x77 :: l85) s86).bind fun l87 s88 => R.ok (x75 :: l87) s88).bind fun l89 s90 => R.of (lstN l89) s90).an fun w_some s64 =>
    ((callN 2 G_law_dip [w_well_here, (Vl.dat (.int 4))] s64).bind fun x91 s92 => R.of (phIx w_some x91 s92) s92).an fun x93 s94 => .rt x93 s94
noncomputable def r_law_row_k55 : MF := runN fun xs => match xs with
  | [w_well_here, w_others] => n_law_row_k55 w_well_here w_others
  | _ => fun _ => .bad
noncomputable def G_law_row_k55 : MF := frameG (r_law_row_k55)
noncomputable def n_law_end_k55 (w_well_here : Vl) (w_many : Vl) (w_block : Vl) : Sto → An Unit Empty := fun s =>
  (callN 2 G_law_dip [w_well_here, (Vl.dat (.int 6))] s).an fun w_way s1 =>
    (((R.of (phLt w_way (Vl.dat (.int 2)) s1) s1).bind fun x2 s3 => R.of (bool? x2) s3).bind fun c4 s5 => if c4 = true then R.ok true s5 else (((R.of (phSub w_many (Vl.dat (.int 1)) s5) s5).bind fun x6 s7 => R.of (phEq w_block x6 s7) s7).bind fun x8 s9 => R.of (bool? x8) s9).bind fun c10 s11 => if c10 = true then (R.of (phLt w_way (Vl.dat (.int 5)) s11) s11).bind fun x12 s13 => R.of (bool? x12) s13 else R.ok false s11).an fun c14 s15 => if c14 = true then
    ((R.of (tupN [(Vl.dat (.str "back"))]) s15).an fun x16 s17 => .rt x16 s17 : An Empty _).up
    else
    ((R.of (phLt w_way (Vl.dat (.int 4)) s15) s15).bind fun x18 s19 => R.of (bool? x18) s19).an fun c20 s21 => if c20 = true then
    ((((((callN 2 G_law_dip [w_well_here, w_many] s21).bind fun x22 s23 => ((callN 2 G_law_dip [w_well_here, w_many] s23).bind fun x24 s25 => R.ok [x24] s25).bind fun l26 s27 => R.ok (x22 :: l26) s27).bind fun l28 s29 => R.ok ((Vl.dat (.str "p")) :: l28) s29).bind fun l30 s31 => R.ok ((Vl.dat (.str "if")) :: l30) s31).bind fun l32 s33 => R.of (tupN l32) s33).an fun x34 s35 => .rt x34 s35 : An Empty _).up
    else
    (((R.of (phEq w_way (Vl.dat (.int 4)) s21) s21).bind fun x36 s37 => R.of (bool? x36) s37).bind fun c38 s39 => if c38 = true then (((((R.of (phAdd w_block (Vl.dat (.int 1)) s39) s39).bind fun x40 s41 => ((R.of (phSub w_many (Vl.dat (.int 1)) s41) s41).bind fun x42 s43 => R.ok [x42] s43).bind fun l44 s45 => R.ok (x40 :: l44) s45).bind fun l46 s47 => R.of (phMin2 l46 s47) s47).bind fun x48 s49 => R.ok [x48] s49).bind fun l50 s51 => R.ok ((Vl.dat (.str "go")) :: l50) s51).bind fun l52 s53 => R.of (tupN l52) s53 else (((callN 2 G_law_dip [w_well_here, w_many] s39).bind fun x54 s55 => R.ok [x54] s55).bind fun l56 s57 => R.ok ((Vl.dat (.str "go")) :: l56) s57).bind fun l58 s59 => R.of (tupN l58) s59).an fun x60 s61 => .rt x60 s61
noncomputable def r_law_end_k55 : MF := runN fun xs => match xs with
  | [w_well_here, w_many, w_block] => n_law_end_k55 w_well_here w_many w_block
  | _ => fun _ => .bad
noncomputable def G_law_end_k55 : MF := frameG (r_law_end_k55)
def mk_law_blocks_k55_1 (w_well_here : Vl) (w_others : Vl) (w_many : Vl) (w_found : Vl) : Unit → Loc := fun a => [some w_well_here, some w_others, some w_many, some w_found, none, none, none]
noncomputable def ce_law_blocks_k55_1 (w_well_here : Vl) (w_others : Vl) : Sto → R Vl := fun s => callN 2 G_law_row_k55 [w_well_here, w_others] s
noncomputable def nb_law_blocks_k55_1 (w_well_here : Vl) (w_others : Vl) (w_many : Vl) (w_found : Vl) (w_block : Vl) : Sto → An Unit Unit := fun s =>
  (((lcP (((callN 2 G_law_dip [w_well_here, (Vl.dat (.int 4))] s).bind fun x6 s7 => R.ok [x6] s7).bind fun l8 s9 => rngN1 l8 s9) pV (fun p s => R.ok true s) (fun p s => ce_law_blocks_k55_1 w_well_here w_others s)).bind fun x10 s11 => R.ok [x10] s11).bind fun l12 s13 => R.of (phTuple l12 s13) s13).an fun w_rows s5 =>
    (appN w_found s5 (fun s14 => ((((callN 3 G_law_end_k55 [w_well_here, w_many, w_block] s14).bind fun x15 s16 => R.ok [x15] s16).bind fun l17 s18 => R.ok (w_rows :: l17) s18).bind fun l19 s20 => R.of (tupN l19) s20).bind fun x21 s22 => R.ok [x21] s22)).an fun _ s23 =>
    .nx () s23
noncomputable def lp_law_blocks_k55_1 {L : Type} (w_well_here : Vl) (w_others : Vl) (w_many : Vl) (w_found : Vl) (ck : Sto → Prop) : List Vl → Unit → Sto → An Unit L := forN ck (mk_law_blocks_k55_1 w_well_here w_others w_many w_found) (fun v a s => patN (pV v) fun p => nb_law_blocks_k55_1 w_well_here w_others w_many w_found p s)
@[simp] theorem lp_law_blocks_k55_1_nil {L : Type} (w_well_here : Vl) (w_others : Vl) (w_many : Vl) (w_found : Vl) {a : Unit} {s : Sto} : (lp_law_blocks_k55_1 (L := L) w_well_here w_others w_many w_found okT [] a s) = .nx a s := forN_nil
theorem lp_law_blocks_k55_1_cons {L : Type} (w_well_here : Vl) (w_others : Vl) (w_many : Vl) (w_found : Vl) {v : Vl} {r : List Vl} {a : Unit} {s : Sto} : (lp_law_blocks_k55_1 (L := L) w_well_here w_others w_many w_found okT (v :: r) a s) = (patN (pV v) fun p => nb_law_blocks_k55_1 w_well_here w_others w_many w_found p s).lp (mk_law_blocks_k55_1 w_well_here w_others w_many w_found) s.length (lp_law_blocks_k55_1 w_well_here w_others w_many w_found okT r) := forN_cons
noncomputable def kt_law_blocks_k55_1 (w_well_here : Vl) (w_others : Vl) (w_many : Vl) (w_found : Vl) : Sto → An Unit Empty := fun s =>
  (R.of (phTuple [w_found] s) s).an fun x28 s29 => .rt x28 s29
noncomputable def n_law_blocks_k55 (w_well_here : Vl) (w_others : Vl) : Sto → An Unit Empty := fun s =>
  ((callN 2 G_law_dip [w_well_here, (Vl.dat (.int 4))] s).bind fun x2 s3 => R.of (phAdd (Vl.dat (.int 1)) x2 s3) s3).an fun w_many s1 =>
    (newN [] s1).an fun w_found s4 =>
    ((rngN1 [w_many] s4).an fun c24 s25 => lp_law_blocks_k55_1 w_well_here w_others w_many w_found c24.ok c24.items () s25).thn fun j26 s27 => kt_law_blocks_k55_1 w_well_here w_others w_many w_found  s27
noncomputable def r_law_blocks_k55 : MF := runN fun xs => match xs with
  | [w_well_here, w_others] => n_law_blocks_k55 w_well_here w_others
  | _ => fun _ => .bad
noncomputable def G_law_blocks_k55 : MF := frameG (r_law_blocks_k55)
def Oth (ms : List Str) : Prop := ms = [] ∨ ms = [("f" : Str)] ∨ ms = [("g" : Str)] ∨ ms = [("f" : Str), ("g" : Str)]
abbrev txD (ms : List Str) : PyData := .list (ms.map .str)
theorem oth_lt {ms : List Str} (h : Oth ms) : ∀ x ∈ ms, Lt 0 250 (.str x) := by
  intro x hx
  rcases h with rfl | rfl | rfl | rfl
  · cases hx
  · have : x = "f" := by simpa using hx
    subst this; exact Lt.txt
  · have : x = "g" := by simpa using hx
    subst this; exact Lt.txt
  · have : x = "f" ∨ x = "g" := by simpa using hx
    rcases this with rfl | rfl <;> exact Lt.txt
theorem oth_ne {ms : List Str} (h : Oth ms) (s : Sto) : phNe (.dat (txD ms)) (.dat (.list [])) s = some (.dat (.bool (!ms.isEmpty))) := by
  have sh : SeqAt.shaped (txD ms) = true := sh_data (M := 2000000) (by
    rcases h with rfl | rfl | rfl | rfl <;> decide) (by
    rcases h with rfl | rfl | rfl | rfl <;> simp [PyData.depth, PyData.depthAll])
  show phNe (.dat (txD ms)) (.dat (.list (([] : List Int).map PyData.int))) s = _
  rw [phNe_sh sh (sh_ints [])]
  cases ms <;> rfl
theorem oth_len {ms : List Str} (h : Oth ms) : ms.length ≤ 2 := by rcases h with rfl | rfl | rfl | rfl <;> decide
section
variable {j : Nat} {f : Ob} {t : Sto}
theorem G_row_eq {ms : List Str} (hm : Oth ms) (hf : FdP j f) (hj : j ≤ 500000) : ∃ r f', G_law_row_k55 [.ref 0, .dat (txD ms)] (f :: t) = .ok (.dat (Row.d r)) (f' :: t) ∧ Lt 3 40000 (Row.d r) ∧ FdP (j + 10) f' := by
  have up : ∀ {d : PyData}, Lt 0 250 d → Lt 2 6000 d := fun h => h.mono (by decide) (by decide)
  have fit : ∀ {xs : List PyData}, (∀ x ∈ xs, Lt 2 6000 x) → xs.length ≤ 5 → Lt 3 40000 (.tuple xs) := fun h hl => (Lt.tup h (by omega)).mono (Nat.le_refl _) (by omega)
  have ene := fun s => oth_ne hm s
  obtain ⟨k, f1, d1, hf1, k0, k1⟩ := dip hf (by omega) (m := 12) (by decide) (by decide) []
  have main : ∃ r f', r_law_row_k55 [.ref 0, .dat (txD ms)] [f] = .ok (.dat (Row.d r)) [f'] ∧ Lt 3 40000 (Row.d r) ∧ FdP (j + 10) f' := by
    rw [r_law_row_k55, runN_ap]
    refine wp_of (Q := fun z => ∃ r f', An.fin z = .ok (.dat (Row.d r)) [f'] ∧ Lt 3 40000 (Row.d r) ∧ FdP (j + 10) f') ?_
    simp only [n_law_row_k55]
    refine wp_an (a := .dat (.int k)) (s := [f1]) (by simp [d1]) ?_
    by_cases h4 : k < 4
    · refine wp_if (b := true) (s := [f1]) (by simp [h4]) ?_
      rw [if_pos rfl]
      obtain ⟨a, f2, d2, ha, hf2⟩ := G_address_eq (t := []) hf1 (by omega)
      obtain ⟨o, f3, d3, ho, hf3⟩ := G_operand_eq (t := []) hf2 (by omega)
      exact ⟨.store a o, f3, by simp [d2, d3, Row.d], fit (.cons (up Lt.txt) (.cons ha (.cons (up ho) .nil))) (by simp), draw_dip.mono hf3 (by omega)⟩
    refine wp_if (b := false) (s := [f1]) (by simp [h4]) ?_
    rw [if_neg (by decide)]
    by_cases h7 : k < 7
    · refine wp_if (b := true) (s := [f1]) (by simp [h7]) ?_
      rw [if_pos rfl]
      obtain ⟨g, f2, d2, hf2, g0, g1⟩ := dip hf1 (by omega) (m := 2) (by decide) (by decide) []
      obtain ⟨a, f3, d3, ha, hf3⟩ := G_address_eq (t := []) hf2 (by omega)
      obtain ⟨w, hw, hwl⟩ : ∃ w : Str, atI [PyData.str "p", .str "q"] g = some (.str w) ∧ Lt 0 250 (.str w) := by
        have : g = 0 ∨ g = 1 := by omega
        rcases this with rfl | rfl
        · exact ⟨"p", rfl, Lt.txt⟩
        · exact ⟨"q", rfl, Lt.txt⟩
      exact ⟨.load w a, f3, by simp [d2, hw, d3, Row.d], fit (.cons (up Lt.txt) (.cons (up hwl) (.cons ha .nil))) (by simp), draw_dip.mono hf3 (by omega)⟩
    refine wp_if (b := false) (s := [f1]) (by simp [h7]) ?_
    rw [if_neg (by decide)]
    by_cases h10 : k < 10 ∧ ms.isEmpty = false
    · refine wp_if (b := true) (s := [f1]) (by simp [h10.1, ene, h10.2]) ?_
      rw [if_pos rfl]
      have hl := oth_len hm
      have hpos : 0 < ms.length := List.length_pos_iff.mpr (by intro e; rw [e] at h10; exact absurd h10.2 (by decide))
      obtain ⟨g, f2, d2, hf2, g0, g1⟩ := dip hf1 (by omega) (m := (ms.length : Int)) (by omega) (by omega) []
      obtain ⟨m, rfl⟩ : ∃ m : Nat, g = m := ⟨g.toNat, by omega⟩
      have hmn : m < ms.length := by omega
      have ec : ∀ s, phIx (.dat (txD ms)) (.dat (.int (m : Int))) s = some (.dat (.str ms[m])) := fun s => by
        show (atI (ms.map PyData.str) (m : Int)).map Vl.dat = _
        rw [atI_map, atI_nat', List.getElem?_eq_getElem hmn]
        rfl
      have el : ∀ s, phLen [.dat (txD ms)] s = some (.dat (.int (ms.length : Int))) := fun s => by
        show some (Vl.dat (.int ((ms.map PyData.str).length : Int))) = _
        rw [List.length_map]
      have hx := oth_lt hm _ (List.getElem_mem hmn)
      generalize ms[m] = x at ec hx
      exact ⟨.call x, f2, by simp only [el, R.of_some, R.bind_ok]; simp [d2, ec, Row.d], fit (.cons (up Lt.txt) (.cons (up hx) .nil)) (by simp), draw_dip.mono hf2 (by omega)⟩
    refine wp_if (b := false) (s := [f1]) ?_ ?_
    · by_cases h : k < 10
      · have : ms.isEmpty = true := by
          cases e : ms.isEmpty with
          | true => rfl
          | false => exact absurd ⟨h, e⟩ h10
        simp [h, ene, this]
      · simp [h]
    rw [if_neg (by decide)]
    obtain ⟨g, f2, d2, hf2, g0, g1⟩ := dip hf1 (by omega) (m := 4) (by decide) (by decide) []
    obtain ⟨r, hr, hrl⟩ : ∃ r : Row, atI [PyData.tuple [.str "touch", .tuple [.tuple [.str "b"], .int 0, .str "p"]], .tuple [.str "set", .str "p", .str "+", .str "p", .int 1], .tuple [.str "tell", .str "p"], .tuple [.str "set", .str "q", .str "<", .str "q", .int 2]] g = some r.d ∧ Lt 3 40000 r.d := by
      have : g = 0 ∨ g = 1 ∨ g = 2 ∨ g = 3 := by omega
      rcases this with rfl | rfl | rfl | rfl
      · exact ⟨.touch ⟨["b"], .n 0, .v "p"⟩, rfl, fit (.cons (up Lt.txt) (.cons (adr_lt (a := ⟨["b"], .n 0, .v "p"⟩) (by simp) (by simp) (Lt.int (i := 0) (by decide) (by decide)) (Lt.txt (z := "p"))) .nil)) (by simp)⟩
      · exact ⟨.set "p" "+" (.v "p") (.n 1), rfl, fit (.cons (up Lt.txt) (.cons (up Lt.txt) (.cons (up Lt.txt) (.cons (up (Lt.txt (z := "p"))) (.cons (up (Lt.int (i := 1) (by decide) (by decide))) .nil))))) (by simp)⟩
      · exact ⟨.tell (.v "p"), rfl, fit (.cons (up Lt.txt) (.cons (up (Lt.txt (z := "p"))) .nil)) (by simp)⟩
      · exact ⟨.set "q" "<" (.v "q") (.n 2), rfl, fit (.cons (up Lt.txt) (.cons (up Lt.txt) (.cons (up Lt.txt) (.cons (up (Lt.txt (z := "q"))) (.cons (up (Lt.int (i := 2) (by decide) (by decide))) .nil))))) (by simp)⟩
    exact ⟨r, f2, by simp [Wp, d2, hr], hrl, draw_dip.mono hf2 (by omega)⟩
  obtain ⟨r, f', h, h2, h3⟩ := main
  exact ⟨r, f', fr1 (o' := f') (more := []) h rfl (draw_dip.ok hf) (draw_dip.ok h3) , h2, h3⟩
theorem G_end_eq {m b : Int} (m1 : 1 ≤ m) (m2 : m ≤ 100) (b0 : 0 ≤ b) (hf : FdP j f) (hj : j ≤ 500000) : ∃ e f', G_law_end_k55 [.ref 0, .dat (.int m), .dat (.int b)] (f :: t) = .ok (.dat (Endd.d e)) (f' :: t) ∧ (∀ x ∈ e.all, 0 ≤ x ∧ x < m) ∧ Lt 1 1300 (Endd.d e) ∧ FdP (j + 3) f' := by
  have fit : ∀ {xs : List PyData}, (∀ x ∈ xs, Lt 0 250 x) → xs.length ≤ 4 → Lt 1 1300 (.tuple xs) := fun h hl => (Lt.tup h (by omega)).mono (Nat.le_refl _) (by omega)
  have num : ∀ x : Int, 0 ≤ x ∧ x < m → Lt 0 250 (.int x) := fun x h => Lt.int (by omega) (by omega)
  obtain ⟨k, f1, d1, hf1, k0, k1⟩ := dip hf (by omega) (m := 6) (by decide) (by decide) []
  have main : ∃ e f', r_law_end_k55 [.ref 0, .dat (.int m), .dat (.int b)] [f] = .ok (.dat (Endd.d e)) [f'] ∧ (∀ x ∈ e.all, 0 ≤ x ∧ x < m) ∧ Lt 1 1300 (Endd.d e) ∧ FdP (j + 3) f' := by
    rw [r_law_end_k55, runN_ap]
    refine wp_of (Q := fun z => ∃ e f', An.fin z = .ok (.dat (Endd.d e)) [f'] ∧ (∀ x ∈ e.all, 0 ≤ x ∧ x < m) ∧ Lt 1 1300 (Endd.d e) ∧ FdP (j + 3) f') ?_
    simp only [n_law_end_k55]
    refine wp_an (a := .dat (.int k)) (s := [f1]) (by simp [d1]) ?_
    by_cases hback : k < 2 ∨ (b = m - 1 ∧ k < 5)
    · refine wp_if (b := true) (s := [f1]) ?_ ?_
      · by_cases h2 : k < 2
        · simp [h2]
        · obtain ⟨h3, h4⟩ := hback.resolve_left h2
          simp [h2, h3, h4]
      rw [if_pos rfl]
      exact ⟨.back, f1, by simp [Endd.d], fun x hx => by simp [Endd.all] at hx, fit (.cons Lt.txt .nil) (by simp), draw_dip.mono hf1 (by omega)⟩
    refine wp_if (b := false) (s := [f1]) ?_ ?_
    · have h2 : ¬k < 2 := fun z => hback (.inl z)
      by_cases h3 : b = m - 1
      · have h4 : ¬k < 5 := fun z => hback (.inr ⟨h3, z⟩)
        simp [h2, h3, h4]
      · simp [h2, h3]
    rw [if_neg (by decide)]
    by_cases h4 : k < 4
    · refine wp_if (b := true) (s := [f1]) (by simp [h4]) ?_
      rw [if_pos rfl]
      obtain ⟨x, f2, d2, hf2, x0, x1⟩ := dip hf1 (by omega) m1 (by omega) []
      obtain ⟨y, f3, d3, hf3, y0, y1⟩ := dip hf2 (by omega) m1 (by omega) []
      exact ⟨.iff (.v "p") x y, f3, by simp [d2, d3, Endd.d, Opd.d], fun z hz => by
        have : z = x ∨ z = y := by simpa [Endd.all] using hz
        rcases this with rfl | rfl
        · exact ⟨x0, x1⟩
        · exact ⟨y0, y1⟩, fit (.cons Lt.txt (.cons (Lt.txt (z := "p")) (.cons (num x ⟨x0, x1⟩) (.cons (num y ⟨y0, y1⟩) .nil)))) (by simp), draw_dip.mono hf3 (by omega)⟩
    refine wp_if (b := false) (s := [f1]) (by simp [h4]) ?_
    rw [if_neg (by decide)]
    by_cases h5 : k = 4
    · obtain ⟨z, hz⟩ : ∃ z : Int, z = if m - 1 < b + 1 then m - 1 else b + 1 := ⟨_, rfl⟩
      have hzr : 0 ≤ z ∧ z < m := by
        rw [hz]
        split <;> omega
      have em : ∀ s, phMin2 [.dat (.int (b + 1)), .dat (.int (m - 1))] s = some (.dat (.int z)) := fun s => by rw [hz]; rfl
      exact ⟨.go z, f1, by simp [Wp, h5, em, Endd.d], fun x hx => by
        have : x = z := by simpa [Endd.all] using hx
        subst this; exact hzr, fit (.cons Lt.txt (.cons (num z hzr) .nil)) (by simp), draw_dip.mono hf1 (by omega)⟩
    · obtain ⟨x, f2, d2, hf2, x0, x1⟩ := dip hf1 (by omega) m1 (by omega) []
      exact ⟨.go x, f2, by simp [Wp, h5, d2, Endd.d], fun y hy => by
        have : y = x := by simpa [Endd.all] using hy
        subst this; exact ⟨x0, x1⟩, fit (.cons Lt.txt (.cons (num x ⟨x0, x1⟩) .nil)) (by simp), draw_dip.mono hf2 (by omega)⟩
  obtain ⟨r, f', h, h2, h3, h4⟩ := main
  exact ⟨r, f', fr1 (o' := f') (more := []) h rfl (draw_dip.ok hf) (draw_dip.ok h4) , h2, h3, h4⟩
end
end Pm
set_option maxRecDepth 100000
set_option maxHeartbeats 4000000
namespace Pm
open PySem PySem.Spec PyProof.Rows L2 Sw
def mk_lets_around_1 (v_code : Vl) (v_name : Vl) (v_over : Vl) (v_under : Vl) (v_thing : Vl) : (Vl) → Loc := fun a => [some v_code, some v_name, some v_over, some v_under, some v_thing, some a, none, none]
noncomputable def nb_lets_around_1 (v_code : Vl) (v_name : Vl) (v_over : Vl) (v_under : Vl) (v_thing : Vl) (v_k : Vl) (v_block : Vl) (v_goals : Vl) : Sto → An (Vl) (Vl) := fun s =>
  ((R.of ((phIn true) v_block v_goals s) s).bind fun x18 s19 => R.of (bool? x18) s19).an fun c20 s21 => if c20 = true then
    ((R.ok [(Vl.dat (.str "next")), v_k] s21).an fun x22 s23 => raise2N "NoPaper" "word" "at" x22 s23 : An Empty _).up
    else
    ((R.of (phEq v_block v_over s21) s21).bind fun x24 s25 => R.of (bool? x24) s25).an fun c26 s27 => if c26 = true then
    ((R.ok [(Vl.dat (.str "over")), v_k] s27).an fun x28 s29 => raise2N "NoPaper" "word" "at" x28 s29 : An Empty _).up
    else
    (callN 3 G_nexts [v_code, v_name, v_block] s27).an fun v_goals s30 =>
    .nx v_goals s30
noncomputable def lp_lets_around_1 {L : Type} (v_code : Vl) (v_name : Vl) (v_over : Vl) (v_under : Vl) (v_thing : Vl) (ck : Sto → Prop) : List Vl → (Vl) → Sto → An (Vl) L := forN ck (mk_lets_around_1 v_code v_name v_over v_under v_thing) (fun v a s => patN ((pT2 pV pV) v) fun p => nb_lets_around_1 v_code v_name v_over v_under v_thing p.1 p.2 a s)
@[simp] theorem lp_lets_around_1_nil {L : Type} (v_code : Vl) (v_name : Vl) (v_over : Vl) (v_under : Vl) (v_thing : Vl) {a : (Vl)} {s : Sto} : (lp_lets_around_1 (L := L) v_code v_name v_over v_under v_thing okT [] a s) = .nx a s := forN_nil
def mk_lets_fence_1 (v_code : Vl) (v_name : Vl) (v_over : Vl) (v_under : Vl) (v_thing : Vl) : Unit → Loc := fun a => [some v_code, some v_name, some v_over, some v_under, some v_thing, none, none]
noncomputable def nb_lets_fence_1 (v_code : Vl) (v_name : Vl) (v_over : Vl) (v_under : Vl) (v_thing : Vl) (v_block : Vl) : Sto → An Unit Unit := fun s =>
  (((R.of (tupN [v_over, v_under]) s).bind fun x13 s14 => R.of ((phIn false) v_block x13 s14) s14).bind fun x15 s16 => R.of (bool? x15) s16).an fun c17 s18 => if c17 = true then
    (R.ok [(Vl.dat (.str "in")), v_block] s18).an fun x19 s20 => raise2N "NoPaper" "word" "at" x19 s20
    else
    .nx () s18
noncomputable def lp_lets_fence_1 {L : Type} (v_code : Vl) (v_name : Vl) (v_over : Vl) (v_under : Vl) (v_thing : Vl) (ck : Sto → Prop) : List Vl → Unit → Sto → An Unit L := forN ck (mk_lets_fence_1 v_code v_name v_over v_under v_thing) (fun v a s => patN (pV v) fun p => nb_lets_fence_1 v_code v_name v_over v_under v_thing p s)
@[simp] theorem lp_lets_fence_1_nil {L : Type} (v_code : Vl) (v_name : Vl) (v_over : Vl) (v_under : Vl) (v_thing : Vl) {a : Unit} {s : Sto} : (lp_lets_fence_1 (L := L) v_code v_name v_over v_under v_thing okT [] a s) = .nx a s := forN_nil
def mk_lets_fence_2 (v_code : Vl) (v_name : Vl) (v_over : Vl) (v_thing : Vl) : Unit → Loc := fun a => [some v_code, some v_name, some v_over, none, some v_thing, none, none]
noncomputable def ce_lets_fence_1 (v_over : Vl) (v_thing : Vl) (v_goal : Vl) : Sto → R Vl := fun s => (R.of (phEq v_goal v_over s) s).bind fun x41 s42 => orN x41 s42 (R.of ((phIn false) v_goal v_thing s42) s42)
noncomputable def nb_lets_fence_2 (v_code : Vl) (v_name : Vl) (v_over : Vl) (v_thing : Vl) (v_block : Vl) : Sto → An Unit Unit := fun s =>
  (((((lcP ((callN 3 G_nexts [v_code, v_name, v_block] s).bind fun x39 s40 => R.of (src x39 s40) s40) pV (fun p s => R.ok true s) (fun p s => ce_lets_fence_1 v_over v_thing p s)).bind fun x43 s44 => R.ok [x43] s44).bind fun l45 s46 => R.of (phAll l45 s46) s46).bind fun x47 s48 => R.of (tru x47 s48) s48).bind fun c49 s50 => R.ok (!c49) s50).an fun c51 s52 => if c51 = true then
    (R.ok [(Vl.dat (.str "next")), v_block] s52).an fun x53 s54 => raise2N "NoPaper" "word" "at" x53 s54
    else
    .nx () s52
noncomputable def lp_lets_fence_2 {L : Type} (v_code : Vl) (v_name : Vl) (v_over : Vl) (v_thing : Vl) (ck : Sto → Prop) : List Vl → Unit → Sto → An Unit L := forN ck (mk_lets_fence_2 v_code v_name v_over v_thing) (fun v a s => patN (pV v) fun p => nb_lets_fence_2 v_code v_name v_over v_thing p s)
@[simp] theorem lp_lets_fence_2_nil {L : Type} (v_code : Vl) (v_name : Vl) (v_over : Vl) (v_thing : Vl) {a : Unit} {s : Sto} : (lp_lets_fence_2 (L := L) v_code v_name v_over v_thing okT [] a s) = .nx a s := forN_nil
theorem sIx_at (n d k : Nat) (h : k ≤ n) : HT.sIx n d (some (k : Int)) = k := by rw [HT.sIx_nat]; omega
theorem cut_from {α : Type} (ds : List α) {k : Nat} (h : k ≤ ds.length) : cut ds (some (k : Int)) none = ds.drop k := by
  unfold cut
  rw [sIx_at _ _ _ h]
  show (ds.drop k).take (ds.length - k) = _
  rw [List.take_of_length_le (by rw [List.length_drop]; omega)]
end Pm
set_option maxRecDepth 100000
set_option maxHeartbeats 4000000
namespace Pm
open PySem PySem.Spec PyProof.Rows L2 Sw
def mk_law_prog_k55_1 (w_well_here : Vl) (w_in_a_ring : Vl) (w_more : Vl) (w_routines : Vl) : Unit → Loc := fun a => [some w_well_here, some w_in_a_ring, some w_more, some w_routines, none]
noncomputable def nb_law_prog_k55_1 (w_well_here : Vl) (w_in_a_ring : Vl) (w_more : Vl) (w_routines : Vl) (w_k : Vl) : Sto → An Unit Unit := fun s =>
  (appN w_routines s (fun s23 => (((R.of (phIx w_more w_k s23) s23).bind fun x24 s25 => ((((((R.of (tru w_in_a_ring s25) s25).bind fun c26 s27 => if c26 = true then R.ok w_more s27 else ((R.of (phAdd w_k (Vl.dat (.int 1)) s27) s27).bind fun x30 s31 => R.of ((int? x30).map some) s31).bind fun o28 s29 => R.of (phSl w_more o28 none s29) s29).bind fun x32 s33 => R.ok [x32] s33).bind fun l34 s35 => R.ok (w_well_here :: l34) s35).bind fun l36 s37 => callN 2 G_law_blocks_k55 l36 s37).bind fun x38 s39 => R.ok [x38] s39).bind fun l40 s41 => R.ok (x24 :: l40) s41).bind fun l42 s43 => R.of (tupN l42) s43).bind fun x44 s45 => R.ok [x44] s45)).an fun _ s46 =>
    .nx () s46
noncomputable def lp_law_prog_k55_1 {L : Type} (w_well_here : Vl) (w_in_a_ring : Vl) (w_more : Vl) (w_routines : Vl) (ck : Sto → Prop) : List Vl → Unit → Sto → An Unit L := forN ck (mk_law_prog_k55_1 w_well_here w_in_a_ring w_more w_routines) (fun v a s => patN (pV v) fun p => nb_law_prog_k55_1 w_well_here w_in_a_ring w_more w_routines p s)
@[simp] theorem lp_law_prog_k55_1_nil {L : Type} (w_well_here : Vl) (w_in_a_ring : Vl) (w_more : Vl) (w_routines : Vl) {a : Unit} {s : Sto} : (lp_law_prog_k55_1 (L := L) w_well_here w_in_a_ring w_more w_routines okT [] a s) = .nx a s := forN_nil
theorem lp_law_prog_k55_1_cons {L : Type} (w_well_here : Vl) (w_in_a_ring : Vl) (w_more : Vl) (w_routines : Vl) {v : Vl} {r : List Vl} {a : Unit} {s : Sto} : (lp_law_prog_k55_1 (L := L) w_well_here w_in_a_ring w_more w_routines okT (v :: r) a s) = (patN (pV v) fun p => nb_law_prog_k55_1 w_well_here w_in_a_ring w_more w_routines p s).lp (mk_law_prog_k55_1 w_well_here w_in_a_ring w_more w_routines) s.length (lp_law_prog_k55_1 w_well_here w_in_a_ring w_more w_routines okT r) := forN_cons
noncomputable def kt_law_prog_k55_1 (w_well_here : Vl) (w_in_a_ring : Vl) (w_more : Vl) (w_routines : Vl) : Sto → An Unit Empty := fun s =>
  (((((R.of (tupN [(Vl.dat (.str "a")), (Vl.dat (.int 1))]) s).bind fun x51 s52 => ((R.of (tupN [(Vl.dat (.str "b")), (Vl.dat (.int 2))]) s52).bind fun x53 s54 => R.ok [x53] s54).bind fun l55 s56 => R.ok (x51 :: l55) s56).bind fun l57 s58 => R.of (tupN l57) s58).bind fun x59 s60 => ((((R.of (phSortedM [w_routines] s60) s60).bind fun x61 s62 => R.ok [x61] s62).bind fun l63 s64 => R.of (phTuple l63 s64) s64).bind fun x65 s66 => R.ok [x65] s66).bind fun l67 s68 => R.ok (x59 :: l67) s68).bind fun l69 s70 => R.of (tupN l69) s70).an fun x71 s72 => .rt x71 s72
noncomputable def n_law_prog_k55 (w_well_here : Vl) (w_in_a_ring : Vl) : Sto → An Unit Empty := fun s =>
  ((R.of (lstN [(Vl.dat (.str "f")), (Vl.dat (.str "g"))]) s).bind fun x2 s3 => ((callN 2 G_law_dip [w_well_here, (Vl.dat (.int 3))] s3).bind fun x6 s7 => R.of ((int? x6).map some) s7).bind fun o4 s5 => R.of (phSl x2 none o4 s5) s5).an fun w_more s1 =>
    ((((((callN 2 G_law_blocks_k55 [w_well_here, w_more] s1).bind fun x9 s10 => R.ok [x9] s10).bind fun l11 s12 => R.ok ((Vl.dat (.str "main")) :: l11) s12).bind fun l13 s14 => R.of (tupN l13) s14).bind fun x15 s16 => R.ok [x15] s16).bind fun l17 s18 => newN l17 s18).an fun w_routines s8 =>
    ((((R.of (phLen [w_more] s8) s8).bind fun x19 s20 => R.ok [x19] s20).bind fun l21 s22 => rngN1 l21 s22).an fun c47 s48 => lp_law_prog_k55_1 w_well_here w_in_a_ring w_more w_routines c47.ok c47.items () s48).thn fun j49 s50 => kt_law_prog_k55_1 w_well_here w_in_a_ring w_more w_routines  s50
noncomputable def r_law_prog_k55 : MF := runN fun xs => match xs with
  | [w_well_here, w_in_a_ring] => n_law_prog_k55 w_well_here w_in_a_ring
  | _ => fun _ => .bad
noncomputable def G_law_prog_k55 : MF := frameG (r_law_prog_k55)
structure BkP (m : Int) (b : Blk) : Prop where
  few : b.rows.length ≤ 3
  rows : ∀ r ∈ b.rows, Lt 3 40000 r.d
  fin : ∀ x ∈ b.fin.all, 0 ≤ x ∧ x < m
  fl : Lt 1 1300 b.fin.d
structure RtP (bs : List Blk) : Prop where
  pos : 0 < bs.length
  few : bs.length ≤ 4
  blks : ∀ b ∈ bs, BkP bs.length b
theorem BkP.lt {m : Int} {b : Blk} (h : BkP m b) : Lt 5 240100 b.d := by
  have h1 : Lt 4 120020 (rowsD b.rows) := by
    refine (Lt.tup (n := 3) (B := 40000) (xs := b.rows.map Row.d) (fun x hx => ?_) (by rw [List.length_map]; have := h.few; omega)).mono (Nat.le_refl _) (by rw [List.length_map]; have := h.few; omega)
    obtain ⟨r, hr, rfl⟩ := List.mem_map.mp hx
    exact h.rows r hr
  exact (Lt.tup (.cons h1 (.cons (h.fl.mono (by decide) (by decide)) .nil)) (by simp)).mono (Nat.le_refl _) (by simp)
theorem RtP.lt {bs : List Blk} (h : RtP bs) : Lt 6 960500 (blksD bs) := by
  refine (Lt.tup (n := 5) (B := 240100) (xs := bs.map Blk.d) (fun x hx => ?_) (by rw [List.length_map]; have := h.few; omega)).mono (Nat.le_refl _) (by rw [List.length_map]; have := h.few; omega)
  obtain ⟨b, hb, rfl⟩ := List.mem_map.mp hx
  exact (h.blks b hb).lt
section
variable {j : Nat} {f : Ob} {t : Sto}
theorem nb_blocks {ms : List Str} (hm : Oth ms) {m : Nat} (m1 : 1 ≤ m) (m2 : m ≤ 4) {i : Int} (i0 : 0 ≤ i) {acc : List PyData} (ha : acc.length ≤ 900) (hf : FdP j f) (hj : j ≤ 400000) :
    ∃ b f', nb_law_blocks_k55_1 (.ref 0) (.dat (txD ms)) (.dat (.int (m : Int))) (.ref 1) (.dat (.int i)) [f, dtL acc] = .nx () [f', dtL (acc ++ [Blk.d b])] ∧ BkP m b ∧ FdP (j + 50) f' := by
  obtain ⟨k, f1, h1, hf1, k0, k1⟩ := dip hf (by omega) (m := 4) (by decide) (by decide) [dtL acc]
  obtain ⟨n, rfl⟩ : ∃ n : Nat, k = n := ⟨k.toNat, by omega⟩
  obtain ⟨ys, f2, h2, hf2, hq2⟩ := lcP_draw (α := Nat) (Fd := FdP) (pat := pV) (e := fun p' s => ce_law_blocks_k55_1 (.ref 0) (.dat (txD ms)) s) (fv := fun (k : Nat) => Vl.dat (.int (0 + (k : Int)))) (p := fun (k : Nat) => Vl.dat (.int (0 + (k : Int)))) (Q := fun _ y => ∃ r : Row, y = r.d ∧ Lt 3 40000 r.d) (c := 10) (J := 500000) (t := [dtL acc]) (List.range n) (j + 1) f1
    (fun k _ j f hf hj => ⟨rfl, by
      obtain ⟨r, f', h, hr, hf'⟩ := G_row_eq hm (t := [dtL acc]) hf (by omega)
      exact ⟨r.d, f', by simp [ce_law_blocks_k55_1, h], hf', r, rfl, hr⟩⟩) hf1 (by rw [List.length_range]; omega) (by rw [List.length_range]; exact th_mil (by omega))
  rw [List.length_range] at hf2
  obtain ⟨rs, rfl, hrs⟩ := paired_map hq2
  have hrl : rs.length = n := by rw [← Paired.length hrs, List.length_range]
  have er := fun s => rngN1_n (n := n) (s := s) (by unfold mil; omega)
  have hrows : ∀ r ∈ rs, Lt 3 40000 r.d := fun r hr => by
    obtain ⟨_, _, h⟩ := paired_mem hrs hr
    exact h
  obtain ⟨e, f3, h3, he, hel, hf3⟩ := G_end_eq (t := [dtL acc]) (m := (m : Int)) (by omega) (by omega) i0 hf2 (by omega)
  refine ⟨⟨rs, e⟩, f3, ?_, ⟨by show rs.length ≤ 3; omega, hrows, he, hel⟩, draw_dip.mono hf3 (by omega)⟩
  refine wp_of (Q := fun z => z = _) ?_
  simp only [nb_law_blocks_k55_1]
  refine wp_an (a := .dat (rowsD rs)) (s := [f2, dtL acc]) ?_ ?_
  · simp only [callN_ap, List.length_cons, List.length_nil, List.all_cons, List.all_nil, noX, Bool.and_self, and_self, if_true, h1, R.bind_ok, er, rgs_fv]
    rw [h2]
    rfl
  · rw [app_go (n := 1) (l0 := acc.map Vl.dat) (l := acc.map Vl.dat) (w := .dat (Blk.d ⟨rs, e⟩)) (s2 := [f3, dtL acc]) rfl (by
      simp only [callN_ap, List.length_cons, List.length_nil, List.all_cons, List.all_nil, noX, Bool.and_self, and_self, if_true, h3, R.bind_ok]
      rfl) rfl (by rw [List.length_map]; omega) rfl]
    show An.nx () [f3, .lst (acc.map Vl.dat ++ [.dat (Blk.d ⟨rs, e⟩)])] = _
    rw [dtL, List.map_append]
    rfl
theorem lp_blocks {ms : List Str} (hm : Oth ms) {m : Nat} (m1 : 1 ≤ m) (m2 : m ≤ 4) {L : Type} : ∀ (n : Nat) (i : Int) (j : Nat) (f : Ob) (acc : List Blk), 0 ≤ i → acc.length + n ≤ 900 → FdP j f → j + 50 * n ≤ 400000 →
    ∃ (bs : List Blk) (f' : Ob), (lp_law_blocks_k55_1 (L := L) (.ref 0) (.dat (txD ms)) (.dat (.int (m : Int))) (.ref 1) okT (rgs i n) () [f, dtL (acc.map Blk.d)]) = .nx () [f', dtL ((acc ++ bs).map Blk.d)] ∧ bs.length = n ∧ (∀ b ∈ bs, BkP m b) ∧ FdP (j + 50 * n) f'
  | 0, i, j, f, acc, _, ho, hf, hj => ⟨[], f, by rw [rgs_zero, lp_law_blocks_k55_1_nil, List.append_nil], rfl, fun b h => (by cases h), hf⟩
  | n + 1, i, j, f, acc, i0, ho, hf, hj => by
    obtain ⟨b, f1, h1, hb, hf1⟩ := nb_blocks hm m1 m2 i0 (acc := acc.map Blk.d) (by rw [List.length_map]; omega) hf (by omega)
    obtain ⟨bs, f', h2, hbl, hbs, hf2⟩ := lp_blocks hm m1 m2 (L := L) n (i + 1) (j + 50) f1 (acc ++ [b]) (by omega) (by rw [List.length_append, List.length_singleton]; omega) hf1 (by omega)
    rw [List.map_append, List.map_singleton] at h2
    refine ⟨b :: bs, f', ?_, by rw [List.length_cons, hbl], fun x hx => ?_, draw_dip.mono hf2 (by omega)⟩
    · rw [rgs_succ, lp_law_blocks_k55_1_cons, pV_ap, patN_some, h1, lp_nx, tidy_same (by simp), h2, List.append_assoc]
      rfl
    · rcases List.mem_cons.mp hx with rfl | hx
      · exact hb
      · exact hbs x hx
theorem G_blocks_eq {ms : List Str} (hm : Oth ms) (hf : FdP j f) (hj : j ≤ 300000) : ∃ bs f', G_law_blocks_k55 [.ref 0, .dat (txD ms)] (f :: t) = .ok (.dat (blksD bs)) (f' :: t) ∧ RtP bs ∧ FdP (j + 201) f' := by
  obtain ⟨k, f1, h1, hf1, k0, k1⟩ := dip hf (by omega) (m := 4) (by decide) (by decide) []
  obtain ⟨m, hmk⟩ : ∃ m : Nat, 1 + k = (m : Int) := ⟨(1 + k).toNat, by omega⟩
  obtain ⟨bs, f2, h2, hbl, hbs, hf2⟩ := lp_blocks hm (m := m) (by omega) (by omega) (L := Empty) m 0 (j + 1) f1 [] (by decide) (by show 0 + m ≤ 900; omega) hf1 (by omega)
  rw [List.nil_append] at h2
  refine ⟨bs, f2, fr1 (o' := f2) (more := [dtL (bs.map Blk.d)]) ?_ rfl (draw_dip.ok hf) (draw_dip.ok hf2), ⟨by omega, by omega, by rw [hbl]; exact hbs⟩, draw_dip.mono hf2 (by omega)⟩
  rw [r_law_blocks_k55, runN_ap]
  refine wp_of (Q := fun z => An.fin z = _) ?_
  simp only [n_law_blocks_k55]
  refine wp_an (a := .dat (.int (m : Int))) (s := [f1]) (by simp [h1, hmk]) ?_
  refine wp_an (a := .ref 1) (s := [f1, dtL []]) rfl ?_
  have er := fun s => rngN1_n (n := m) (s := s) (by unfold mil; omega)
  rw [er, R.an_ok]
  simp only [src_ok_none]
  refine wp_thn h2 ?_
  have et : phTuple [.ref 1] [f2, dtL (bs.map Blk.d)] = some (.dat (blksD bs)) := by
    show (datas ((bs.map Blk.d).map Vl.dat)).map (fun ds => Vl.dat (.tuple ds)) = _
    rw [datas_map]
    rfl
  simp only [Wp, kt_law_blocks_k55_1]
  rw [et]
  rfl
theorem nb_prog {ms ws : List Str} (hl : ms.length ≤ 2) {k : Nat} {x : Str} (hx : ms[k]? = some x) {ring : Bool} (hw : ws = if ring = true then ms else ms.drop (k + 1)) (how : Oth ws) {acc : List PyData} (ha : acc.length ≤ 900) (hf : FdP j f) (hj : j ≤ 300000) :
    ∃ bs f', nb_law_prog_k55_1 (.ref 0) (.dat (.bool ring)) (.dat (txD ms)) (.ref 1) (.dat (.int (k : Int))) [f, dtL acc] = .nx () [f', dtL (acc ++ [rtD (x, bs)])] ∧ RtP bs ∧ FdP (j + 201) f' := by
  obtain ⟨bs, f1, h1, hb, hf1⟩ := G_blocks_eq how (t := [dtL acc]) hf hj
  refine ⟨bs, f1, ?_, hb, hf1⟩
  have hk : k < ms.length := (List.getElem?_eq_some_iff.mp hx).1
  have e1 : ∀ s, phIx (.dat (txD ms)) (.dat (.int (k : Int))) s = some (.dat (.str x)) := fun s => by
    show (atI (ms.map PyData.str) (k : Int)).map Vl.dat = _
    rw [atI_map, atI_nat', hx]
    rfl
  have e2 : ∀ s, (((R.of (tru (.dat (.bool ring)) s) s).bind fun c26 s27 => if c26 = true then R.ok (.dat (txD ms)) s27 else ((R.of (phAdd (.dat (.int (k : Int))) (Vl.dat (.int 1)) s27) s27).bind fun x30 s31 => R.of ((int? x30).map some) s31).bind fun o28 s29 => R.of (phSl (.dat (txD ms)) o28 none s29) s29) : R Vl) = .ok (.dat (txD ws)) s := fun s => by
    have ht : tru (.dat (.bool ring)) s = some ring := rfl
    rw [ht, R.of_some, R.bind_ok, hw]
    cases ring with
    | true => rfl
    | false =>
      rw [if_neg (by decide), if_neg (by decide)]
      have ec : phSl (.dat (txD ms)) (some ((k : Int) + 1)) none s = some (.dat (txD (ms.drop (k + 1)))) := by
        have := cut_from (ms.map PyData.str) (k := k + 1) (by rw [List.length_map]; omega)
        rw [Int.natCast_add] at this
        show some (Vl.dat (.list (cut (ms.map PyData.str) (some ((k : Int) + 1)) none))) = _
        rw [show ((k : Int) + 1) = (k : Int) + ((1 : Nat) : Int) from rfl, this, ← List.map_drop]
      simp only [phAdd_i, R.of_some, R.bind_ok, int?, Option.map_some, ec]
  refine wp_of (Q := fun z => z = _) ?_
  simp only [nb_law_prog_k55_1]
  rw [app_go (n := 1) (l0 := acc.map Vl.dat) (l := acc.map Vl.dat) (w := .dat (rtD (x, bs))) (s2 := [f1, dtL acc]) rfl (by
    simp only [e1, R.of_some, R.bind_ok, e2, callN_ap, List.length_cons, List.length_nil, List.all_cons, List.all_nil, noX, Bool.and_self, and_self, if_true, h1]
    rfl) rfl (by rw [List.length_map]; omega) rfl]
  show An.nx () [f1, .lst (acc.map Vl.dat ++ [.dat (rtD (x, bs))])] = _
  rw [dtL, List.map_append]
  rfl
end
end Pm
set_option maxRecDepth 100000
set_option maxHeartbeats 4000000
namespace Pm
open PySem PySem.Spec PyProof.Rows L2 Sw
mutual
theorem alike_d {M : Nat} : ∀ {d : PyData}, leaf M d = true → PySem.W.alike d d = true
  | .none, _ => rfl
  | .bool _, _ => rfl
  | .int _, _ => rfl
  | .str _, _ => rfl
  | .list xs, h => by rw [PySem.W.alike]; exact alike_ds (by simpa [leaf] using h)
  | .tuple xs, h => by rw [PySem.W.alike]; exact alike_ds (by simpa [leaf] using h)
  | .dict _, h => by simp [leaf] at h
theorem alike_ds {M : Nat} : ∀ {xs : List PyData}, leafAll M xs = true → PySem.W.alikeAll xs xs = true
  | [], _ => by rw [PySem.W.alikeAll]
  | x :: xs, h => by
    rw [leafAll, Bool.and_eq_true] at h
    rw [PySem.W.alikeAll, alike_d h.1, alike_ds h.2]
    rfl
end
def prgO : List (Str × Int) := [("a", 1), ("b", 2)]
structure PrP (c : Cod) : Prop where
  objs : c.objs = prgO
  nd : (c.rts.map fun r => r.1).Nodup
  few : c.rts.length ≤ 3
  rts : ∀ r ∈ c.rts, RtP r.2 ∧ (r.1 = "main" ∨ r.1 = "f" ∨ r.1 = "g")
theorem rt_lt {r : Str × List Blk} (h : RtP r.2) (hn : r.1 = "main" ∨ r.1 = "f" ∨ r.1 = "g") : Lt 7 1921100 (rtD r) := by
  have n : Lt 0 250 (.str r.1) := by
    rcases hn with e | e | e <;> rw [e] <;> exact Lt.txt
  exact (Lt.tup (.cons (n.mono (by decide) (by decide)) (.cons (h.lt) .nil)) (by simp)).mono (Nat.le_refl _) (by simp)
theorem PrP.rpr {c : Cod} (h : PrP c) : Rpr c.d := by
  have h1 : Lt 8 5763400 (.tuple (c.rts.map rtD)) := by
    refine (Lt.tup (n := 7) (B := 1921100) (xs := c.rts.map rtD) (fun x hx => ?_) (by rw [List.length_map]; have := h.few; omega)).mono (Nat.le_refl _) (by rw [List.length_map]; have := h.few; omega)
    obtain ⟨r, hr, rfl⟩ := List.mem_map.mp hx
    exact rt_lt (h.rts r hr).1 (h.rts r hr).2
  have o1 : Lt 1 600 (objD ("a", 1)) := (Lt.tup (.cons (Lt.txt (z := "a")) (.cons (Lt.int (i := 1) (by decide) (by decide)) .nil)) (by simp)).mono (Nat.le_refl _) (by simp)
  have o2 : Lt 1 600 (objD ("b", 2)) := (Lt.tup (.cons (Lt.txt (z := "b")) (.cons (Lt.int (i := 2) (by decide) (by decide)) .nil)) (by simp)).mono (Nat.le_refl _) (by simp)
  have h2 : Lt 2 1300 (objsD c.objs) := by
    rw [h.objs]
    exact (Lt.tup (.cons o1 (.cons o2 .nil)) (by simp)).mono (Nat.le_refl _) (by simp)
  have h3 : Lt 9 11600000 c.d := (Lt.tup (.cons (h2.mono (by decide) (by decide)) (.cons h1 .nil)) (by simp)).mono (Nat.le_refl _) (by simp)
  exact Rpr.of (M := 2000000) (l := 1000) (n := 9) (B := 11600000) ⟨h3.lf, h3.ln, h3.dp, h3.wg⟩ (by decide) (by decide) (by decide)
theorem look_nd : ∀ {l : List (Str × List Blk)} {r : Str × List Blk}, (l.map fun r => r.1).Nodup → r ∈ l → l.lookup r.1 = some r.2
  | q :: l, r, nd, h => by
    rw [List.map_cons, List.nodup_cons] at nd
    rw [List.lookup_cons]
    rcases List.mem_cons.mp h with rfl | h
    · rw [beq_self_eq_true]
    · have ne : r.1 ≠ q.1 := fun e => nd.1 (e ▸ List.mem_map_of_mem (f := fun r : Str × List Blk => r.1) h)
      rw [beq_eq_false_iff_ne.mpr ne]
      exact look_nd nd.2 h
theorem rts_mix {rts : List (Str × List Blk)} (nd : (rts.map fun r => r.1).Nodup) (h : ∀ r ∈ rts, RtP r.2 ∧ (r.1 = "main" ∨ r.1 = "f" ∨ r.1 = "g")) : MixOk (rts.map rtD) := by
  refine ⟨fun d hd => ?_, fun x r r' h1 h2 => ?_⟩
  · obtain ⟨r, _, rfl⟩ := List.mem_map.mp hd
    exact ⟨r.1, [blksD r.2], rfl⟩
  · obtain ⟨p, hp, e⟩ := List.mem_map.mp h1
    obtain ⟨q, hq, e'⟩ := List.mem_map.mp h2
    obtain ⟨a1, b1⟩ := List.cons.inj (PyData.tuple.inj e)
    obtain ⟨a2, b2⟩ := List.cons.inj (PyData.tuple.inj e')
    have e1 : p.1 = x := PyData.str.inj a1
    have e2 : q.1 = x := PyData.str.inj a2
    have l1 := look_nd nd hp
    have l2 := look_nd nd hq
    rw [e1] at l1
    rw [e2, l1] at l2
    have e3 : p.2 = q.2 := Option.some.inj l2
    subst b1 b2
    rw [e3]
    exact alike_ds (M := 2000000) (by
      have := (h q hq).1.lt.lf
      simp [leafAll, this])
section
variable {j : Nat} {f : Ob} {t : Sto}
theorem kt_prog {rts : List (Str × List Blk)} (nd : (rts.map fun r => r.1).Nodup) (hl : rts.length ≤ 3) (h : ∀ r ∈ rts, RtP r.2 ∧ (r.1 = "main" ∨ r.1 = "f" ∨ r.1 = "g")) {w i m : Vl} : ∃ c : Cod, PrP c ∧ kt_law_prog_k55_1 w i m (.ref 1) [f, dtL (rts.map rtD)] = .rt (.dat c.d) [f, dtL (rts.map rtD)] := by
  obtain ⟨rs, hrs⟩ : ∃ rs, rs = rts.mergeSort fun p q => PySem.W.dataLe false id (rtD p) (rtD q) := ⟨_, rfl⟩
  have pm : rs.Perm rts := by rw [hrs]; exact List.mergeSort_perm _ _
  have es : (rts.map rtD).mergeSort (PySem.W.dataLe false id) = rs.map rtD := by
    rw [hrs]
    exact (List.map_mergeSort (r := fun p q => PySem.W.dataLe false id (rtD p) (rtD q)) (s := PySem.W.dataLe false id) (f := rtD) (l := rts) (fun a _ b _ => rfl)).symm
  have lt : ∀ d ∈ rts.map rtD, Lt 7 1921100 d := fun d hd => by
    obtain ⟨r, hr, rfl⟩ := List.mem_map.mp hd
    exact rt_lt (h r hr).1 (h r hr).2
  have ep : phSortedM [.ref 1] [f, dtL (rts.map rtD)] = some (.dat (.list (rs.map rtD))) := by
    have el : lsD (.ref 1) [f, dtL (rts.map rtD)] = some (rts.map rtD) := show datas ((rts.map rtD).map Vl.dat) = _ from datas_map _
    unfold phSortedM
    simp only []
    rw [el, Option.bind_some, if_pos ⟨rts_mix nd h, by rw [List.length_map]; omega, fun d hd => Nat.le_trans (lt d hd).dp (by decide), fun d hd => leaf_noDict d (lt d hd).lf⟩, es]
  refine ⟨⟨prgO, rs⟩, ⟨rfl, ?_, by rw [show (Cod.mk prgO rs).rts = rs from rfl, pm.length_eq]; exact hl, fun r hr => h r (pm.mem_iff.mp hr)⟩, ?_⟩
  · exact (pm.map _).nodup_iff.mpr nd
  · have eA : ∀ s, ((((R.of (tupN [(Vl.dat (.str "a")), (Vl.dat (.int 1))]) s).bind fun x51 s52 => ((R.of (tupN [(Vl.dat (.str "b")), (Vl.dat (.int 2))]) s52).bind fun x53 s54 => R.ok [x53] s54).bind fun l55 s56 => R.ok (x51 :: l55) s56).bind fun l57 s58 => R.of (tupN l57) s58) : R Vl) = .ok (.dat (objsD prgO)) s := fun s => rfl
    simp only [kt_law_prog_k55_1]
    rw [eA, R.bind_ok, ep]
    rfl
theorem G_prog_eq (ring : Bool) (hf : FdP j f) (hj : j ≤ 100000) : ∃ c f', G_law_prog_k55 [.ref 0, .dat (.bool ring)] (f :: t) = .ok (.dat (Cod.d c)) (f' :: t) ∧ PrP c ∧ FdP (j + 700) f' := by
  obtain ⟨k, f1, h1, hf1, k0, k1⟩ := dip hf (by omega) (m := 3) (by decide) (by decide) []
  obtain ⟨n, rfl⟩ : ∃ n : Nat, k = n := ⟨k.toNat, by omega⟩
  obtain ⟨ms, hms⟩ : ∃ ms : List Str, ms = [("f" : Str), ("g" : Str)].take n := ⟨_, rfl⟩
  have hn : n = 0 ∨ n = 1 ∨ n = 2 := by omega
  have hm : Oth ms := by
    rw [hms]
    rcases hn with rfl | rfl | rfl
    · exact .inl rfl
    · exact .inr (.inl rfl)
    · exact .inr (.inr (.inr rfl))
  have em : cut [PyData.str "f", PyData.str "g"] none (some (n : Int)) = ms.map PyData.str := by
    rw [hms]
    rcases hn with rfl | rfl | rfl <;> rfl
  obtain ⟨bs, f2, h2, hb, hf2⟩ := G_blocks_eq hm (t := []) hf1 (by omega)
  have main : ∃ c f', r_law_prog_k55 [.ref 0, .dat (.bool ring)] [f] = .ok (.dat (Cod.d c)) [f', dtL (c.rts.map rtD)] ∧ PrP c ∧ FdP (j + 700) f' ∨ ∃ c f' more, r_law_prog_k55 [.ref 0, .dat (.bool ring)] [f] = .ok (.dat (Cod.d c)) (f' :: more) ∧ PrP c ∧ FdP (j + 700) f' := by
    refine ⟨⟨[], []⟩, f, .inr ?_⟩
    rw [r_law_prog_k55, runN_ap]
    refine wp_of (Q := fun z => ∃ c f' more, An.fin z = .ok (.dat (Cod.d c)) (f' :: more) ∧ PrP c ∧ FdP (j + 700) f') ?_
    simp only [n_law_prog_k55]
    refine wp_an (a := .dat (txD ms)) (s := [f1]) (by simp [h1, int?, em]) ?_
    refine wp_an (a := .ref 1) (s := [f2, dtL [rtD (("main" : Str), bs)]]) ?_ ?_
    · simp only [callN_ap, List.length_cons, List.length_nil, List.all_cons, List.all_nil, noX, Bool.and_self, and_self, if_true, h2, R.bind_ok]
      rfl
    have el : ∀ s, phLen [.dat (txD ms)] s = some (.dat (.int (ms.length : Int))) := fun s => by
      show some (Vl.dat (.int ((ms.map PyData.str).length : Int))) = _
      rw [List.length_map]
    have er := fun s => rngN1_n (n := ms.length) (s := s) (th_mil (by have := oth_len hm; omega))
    simp only [el, R.of_some, R.bind_ok, er, R.an_ok, src_ok_none]
    have fin : ∀ (rts : List (Str × List Blk)) (f3 : Ob) (_ : (rts.map fun r => r.1).Nodup) (_ : rts.length ≤ 3) (_ : ∀ r ∈ rts, RtP r.2 ∧ (r.1 = "main" ∨ r.1 = "f" ∨ r.1 = "g")) (_ : FdP (j + 700) f3) (z : An Unit Empty), z = kt_law_prog_k55_1 (.ref 0) (.dat (.bool ring)) (.dat (txD ms)) (.ref 1) [f3, dtL (rts.map rtD)] → Wp (fun z => ∃ c f' more, An.fin z = .ok (.dat (Cod.d c)) (f' :: more) ∧ PrP c ∧ FdP (j + 700) f') z := fun rts f3 nd hl hr hf3 z hz => by
      obtain ⟨c, hc, e⟩ := kt_prog (f := f3) nd hl hr (w := .ref 0) (i := .dat (.bool ring)) (m := .dat (txD ms))
      rw [hz, e]
      exact ⟨c, f3, _, rfl, hc, hf3⟩
    rcases hn with rfl | rfl | rfl
    · subst hms
      refine wp_thn (a := ()) (s := [f2, dtL [rtD (("main" : Str), bs)]]) ?_ ?_
      · exact lp_law_prog_k55_1_nil _ _ _ _
      · exact fin [(("main" : Str), bs)] f2 (by simp) (by simp) (fun r hr => by
          have : r = (("main" : Str), bs) := by simpa using hr
          subst this; exact ⟨hb, .inl rfl⟩) (draw_dip.mono hf2 (by omega)) _ rfl
    · subst hms
      obtain ⟨b1, f3, h3, hb1, hf3⟩ := nb_prog (ms := [("f" : Str)]) (ws := if ring = true then [("f" : Str)] else []) (by simp) (k := 0) (x := "f") rfl (ring := ring) (by cases ring <;> rfl) (by cases ring <;> simp [Oth]) (acc := [rtD (("main" : Str), bs)]) (by simp) hf2 (by omega)
      refine wp_thn (a := ()) (s := [f3, dtL ([(("main" : Str), bs), (("f" : Str), b1)].map rtD)]) ?_ ?_
      · show lp_law_prog_k55_1 _ _ _ _ okT (rgs 0 1) () _ = _
        rw [rgs_succ, rgs_zero, lp_law_prog_k55_1_cons, pV_ap, patN_some]
        have h3' : nb_law_prog_k55_1 (.ref 0) (.dat (.bool ring)) (.dat (txD (List.take 1 [("f" : Str), ("g" : Str)]))) (.ref 1) (.dat (.int 0)) [f2, dtL [rtD (("main" : Str), bs)]] = _ := h3
        rw [h3', lp_nx, tidy_same (by simp), lp_law_prog_k55_1_nil]
        rfl
      · exact fin [(("main" : Str), bs), (("f" : Str), b1)] f3 (by show [("main" : Str), ("f" : Str)].Nodup; decide) (by simp) (fun r hr => by
          have : r = (("main" : Str), bs) ∨ r = (("f" : Str), b1) := by simpa using hr
          rcases this with rfl | rfl
          · exact ⟨hb, .inl rfl⟩
          · exact ⟨hb1, .inr (.inl rfl)⟩) (draw_dip.mono hf3 (by omega)) _ rfl
    · subst hms
      obtain ⟨b1, f3, h3, hb1, hf3⟩ := nb_prog (ms := [("f" : Str), ("g" : Str)]) (ws := if ring = true then [("f" : Str), ("g" : Str)] else [("g" : Str)]) (by simp) (k := 0) (x := "f") rfl (ring := ring) (by cases ring <;> rfl) (by cases ring <;> simp [Oth]) (acc := [rtD (("main" : Str), bs)]) (by simp) hf2 (by omega)
      obtain ⟨b2, f4, h4, hb2, hf4⟩ := nb_prog (ms := [("f" : Str), ("g" : Str)]) (ws := if ring = true then [("f" : Str), ("g" : Str)] else []) (by simp) (k := 1) (x := "g") rfl (ring := ring) (by cases ring <;> rfl) (by cases ring <;> simp [Oth]) (acc := [rtD (("main" : Str), bs)] ++ [rtD (("f" : Str), b1)]) (by simp) hf3 (by omega)
      refine wp_thn (a := ()) (s := [f4, dtL ([(("main" : Str), bs), (("f" : Str), b1), (("g" : Str), b2)].map rtD)]) ?_ ?_
      · show lp_law_prog_k55_1 _ _ _ _ okT (rgs 0 2) () _ = _
        rw [rgs_succ, rgs_succ, rgs_zero, lp_law_prog_k55_1_cons, pV_ap, patN_some]
        have h3' : nb_law_prog_k55_1 (.ref 0) (.dat (.bool ring)) (.dat (txD (List.take 2 [("f" : Str), ("g" : Str)]))) (.ref 1) (.dat (.int 0)) [f2, dtL [rtD (("main" : Str), bs)]] = _ := h3
        rw [h3', lp_nx, tidy_same (by simp), lp_law_prog_k55_1_cons, pV_ap, patN_some]
        have h4' : nb_law_prog_k55_1 (.ref 0) (.dat (.bool ring)) (.dat (txD (List.take 2 [("f" : Str), ("g" : Str)]))) (.ref 1) (.dat (.int (0 + 1))) [f3, dtL ([rtD (("main" : Str), bs)] ++ [rtD (("f" : Str), b1)])] = _ := h4
        rw [h4', lp_nx, tidy_same (by simp), lp_law_prog_k55_1_nil]
        rfl
      · exact fin [(("main" : Str), bs), (("f" : Str), b1), (("g" : Str), b2)] f4 (by show [("main" : Str), ("f" : Str), ("g" : Str)].Nodup; decide) (by simp) (fun r hr => by
          have : r = (("main" : Str), bs) ∨ r = (("f" : Str), b1) ∨ r = (("g" : Str), b2) := by simpa using hr
          rcases this with rfl | rfl | rfl
          · exact ⟨hb, .inl rfl⟩
          · exact ⟨hb1, .inr (.inl rfl)⟩
          · exact ⟨hb2, .inr (.inr rfl)⟩) (draw_dip.mono hf4 (by omega)) _ rfl
  obtain ⟨_, _, main⟩ := main
  rcases main with ⟨h, h2, h3⟩ | ⟨c, f', more, h, h2, h3⟩
  · exact ⟨_, _, fr1 h rfl (draw_dip.ok hf) (draw_dip.ok h3), h2, h3⟩
  · exact ⟨c, f', fr1 h rfl (draw_dip.ok hf) (draw_dip.ok h3), h2, h3⟩
end
end Pm
set_option maxRecDepth 100000
set_option maxHeartbeats 4000000
namespace Pm
open PySem PySem.Spec PyProof.Rows L2 Sw
def mk_law_k55_1 (w_well_here : Vl) : Unit → Loc := fun a => [none, some w_well_here, none, none, none, none, none, none]
def mk_law_k55_2 (w_well_here : Vl) (w_prog_here : Vl) (w_seen_now : Vl) : Unit → Loc := fun a => [none, some w_well_here, none, some w_prog_here, some w_seen_now, none, none, none]
noncomputable def nb_law_k55_2 (w_well_here : Vl) (w_prog_here : Vl) (w_seen_now : Vl) (w_label : Vl) (w_blocks_here : Vl) : Sto → An Unit Unit := fun s =>
  (((callN 2 G_law_merged_k55 [w_label, w_blocks_here] s).bind fun x15 s16 => R.ok [x15] s16).bind fun l17 s18 => R.of (phRepr l17 s18) s18).an fun w_due s14 =>
    ((((((callN 2 G_merged_blocks [w_prog_here, w_label] s14).bind fun x19 s20 => R.ok [x19] s20).bind fun l21 s22 => R.of (phRepr l21 s22) s22).bind fun x23 s24 => R.of (phNe x23 w_due s24) s24).bind fun x25 s26 => R.of (bool? x25) s26).bind fun c27 s28 => if c27 = true then R.ok true s28 else ((((callN 2 (prmF [1, 0] G_merged_blocks) [w_label, w_prog_here] s28).bind fun x29 s30 => R.ok [x29] s30).bind fun l31 s32 => R.of (phRepr l31 s32) s32).bind fun x33 s34 => R.of (phNe x33 w_due s34) s34).bind fun x35 s36 => R.of (bool? x35) s36).an fun c37 s38 => if c37 = true then
    ((R.ok (Vl.dat (.bool false)) s38).an fun x39 s40 => .rt x39 s40 : An Empty _).up
    else
    (((callN 2 G_law_versions [w_label, w_blocks_here] s38).bind fun x42 s43 => R.ok [x42] s43).bind fun l44 s45 => R.of (phRepr l44 s45) s45).an fun w_due s41 =>
    ((((((callN 2 G_versions_of [w_prog_here, w_label] s41).bind fun x46 s47 => R.ok [x46] s47).bind fun l48 s49 => R.of (phRepr l48 s49) s49).bind fun x50 s51 => R.of (phNe x50 w_due s51) s51).bind fun x52 s53 => R.of (bool? x52) s53).bind fun c54 s55 => if c54 = true then R.ok true s55 else ((((callN 2 (prmF [1, 0] G_versions_of) [w_label, w_prog_here] s55).bind fun x56 s57 => R.ok [x56] s57).bind fun l58 s59 => R.of (phRepr l58 s59) s59).bind fun x60 s61 => R.of (phNe x60 w_due s61) s61).bind fun x62 s63 => R.of (bool? x62) s63).an fun c64 s65 => if c64 = true then
    (R.ok (Vl.dat (.bool false)) s65).an fun x66 s67 => .rt x66 s67
    else
    .nx () s65
noncomputable def lp_law_k55_2 {L : Type} (w_well_here : Vl) (w_prog_here : Vl) (w_seen_now : Vl) (ck : Sto → Prop) : List Vl → Unit → Sto → An Unit L := forN ck (mk_law_k55_2 w_well_here w_prog_here w_seen_now) (fun v a s => patN ((pT2 pV pV) v) fun p => nb_law_k55_2 w_well_here w_prog_here w_seen_now p.1 p.2 s)
@[simp] theorem lp_law_k55_2_nil {L : Type} (w_well_here : Vl) (w_prog_here : Vl) (w_seen_now : Vl) {a : Unit} {s : Sto} : (lp_law_k55_2 (L := L) w_well_here w_prog_here w_seen_now okT [] a s) = .nx a s := forN_nil
noncomputable def kt_law_k55_1 (w_well_here : Vl) (w_prog_here : Vl) (w_seen_now : Vl) : Sto → An Unit Unit := fun s =>
  (((R.of (phRepr [w_prog_here] s) s).bind fun x72 s73 => R.of (phNe x72 w_seen_now s73) s73).bind fun x74 s75 => R.of (bool? x74) s75).an fun c76 s77 => if c76 = true then
    (R.ok (Vl.dat (.bool false)) s77).an fun x78 s79 => .rt x78 s79
    else
    .nx () s77
noncomputable def nb_law_k55_1 (w_well_here : Vl) (w_lap : Vl) : Sto → An Unit Unit := fun s =>
  (((((callN 2 G_law_dip [w_well_here, (Vl.dat (.int 2))] s).bind fun x3 s4 => R.of (phEq x3 (Vl.dat (.int 0)) s4) s4).bind fun x5 s6 => R.ok [x5] s6).bind fun l7 s8 => R.ok (w_well_here :: l7) s8).bind fun l9 s10 => callN 2 G_law_prog_k55 l9 s10).an fun w_prog_here s2 =>
    (R.of (phRepr [w_prog_here] s2) s2).an fun w_seen_now s11 =>
    (((R.of (phIx w_prog_here (Vl.dat (.int 1)) s11) s11).bind fun x12 s13 => R.of (src x12 s13) s13).an fun c68 s69 => lp_law_k55_2 w_well_here w_prog_here w_seen_now c68.ok c68.items () s69).thn fun j70 s71 => kt_law_k55_1 w_well_here w_prog_here w_seen_now  s71
noncomputable def lp_law_k55_1 {L : Type} (w_well_here : Vl) (ck : Sto → Prop) : List Vl → Unit → Sto → An Unit L := forN ck (mk_law_k55_1 w_well_here) (fun v a s => patN (pV v) fun p => nb_law_k55_1 w_well_here p s)
@[simp] theorem lp_law_k55_1_nil {L : Type} (w_well_here : Vl) {a : Unit} {s : Sto} : (lp_law_k55_1 (L := L) w_well_here okT [] a s) = .nx a s := forN_nil
theorem lp_law_k55_1_cons {L : Type} (w_well_here : Vl) {v : Vl} {r : List Vl} {a : Unit} {s : Sto} : (lp_law_k55_1 (L := L) w_well_here okT (v :: r) a s) = (patN (pV v) fun p => nb_law_k55_1 w_well_here p s).lp (mk_law_k55_1 w_well_here) s.length (lp_law_k55_1 w_well_here okT r) := forN_cons
noncomputable def kt_law_k55_2 (w_well_here : Vl) : Sto → An Unit Empty := fun s =>
  (R.ok (Vl.dat (.bool true)) s).an fun x84 s85 => .rt x84 s85
noncomputable def n_law_k55 (w_script : Vl) : Sto → An Unit Empty := fun s =>
  (callN 1 G_law_well [w_script] s).an fun w_well_here s1 =>
    ((rngN1 [(Vl.dat (.int 3))] s1).an fun c80 s81 => lp_law_k55_1 w_well_here c80.ok c80.items () s81).thn fun j82 s83 => kt_law_k55_2 w_well_here  s83
noncomputable def r_law_k55 : MF := runN fun xs => match xs with
  | [w_script] => n_law_k55 w_script
  | _ => fun _ => .bad
noncomputable def G_law_k55 : MF := frameG (r_law_k55)
theorem RtP.go {bs : List Blk} (h : RtP bs) : GoIn bs := ⟨h.pos, fun b hb x hx => (h.blks b hb).fin x hx⟩
theorem RtP.fewR {bs : List Blk} (h : RtP bs) : FewR bs := fun b hb => Nat.le_trans (h.blks b hb).few (by decide)
theorem rpr_ints {M : List Int} (hl : M.length ≤ 30) (h : ∀ x ∈ M, 0 ≤ x ∧ x < 1000) : Rpr (intsD M) := by
  have h1 : Lt 1 8000 (intsD M) := by
    refine (Lt.tup (n := 0) (B := 250) (xs := M.map .int) (fun x hx => ?_) (by rw [List.length_map]; omega)).mono (Nat.le_refl _) (by rw [List.length_map]; omega)
    obtain ⟨i, hi, rfl⟩ := List.mem_map.mp hx
    have := h i hi
    exact Lt.int (by omega) (by omega)
  exact Rpr.of (M := 2000000) (l := 1000) (n := 1) (B := 8000) ⟨h1.lf, h1.ln, h1.dp, h1.wg⟩ (by decide) (by decide) (by decide)
theorem rpr_vers {nm : Str} {bs : List Blk} (hn : Lt 0 250 (.str nm)) (hb : bs.length ≤ 30) {W : List PyData} (hl : W.length ≤ 1000) (h : ∀ d ∈ W, ∃ v : Ver, d = v.d nm ∧ ∀ b k, (v = .mrg b → 0 ≤ b ∧ b < (bs.length : Int)) ∧ ∀ st, v = .gvn st b k → 0 ≤ b ∧ b < (bs.length : Int) ∧ 0 ≤ k ∧ k < 30) : Rpr (.tuple W) := by
  have h1 : ∀ d ∈ W, Lt 2 1600 d := fun d hd => by
    obtain ⟨v, rfl, hv⟩ := h d hd
    cases v with
    | beg => exact (Lt.tup (.cons (Lt.txt (z := "begin")) .nil) (by simp)).mono (by decide) (by simp)
    | mrg b =>
      have := (hv b 0).1 rfl
      exact (Lt.tup (.cons (Lt.txt (z := "merge")) (.cons (Lt.int (i := b) (by omega) (by omega)) .nil)) (by simp)).mono (by decide) (by simp)
    | gvn st b k =>
      have := (hv b k).2 st rfl
      have w : Lt 1 770 (.str (gW st)) := by
        cases st
        · exact (Lt.txt (z := "call")).mono (by decide) (by decide)
        · exact (Lt.txt (z := "store")).mono (by decide) (by decide)
      have i : Lt 1 770 (.tuple [.str nm, .int b, .int k]) := (Lt.tup (.cons hn (.cons (Lt.int (i := b) (by omega) (by omega)) (.cons (Lt.int (i := k) (by omega) (by omega)) .nil))) (by simp)).mono (by decide) (by simp)
      exact (Lt.tup (.cons w (.cons i .nil)) (by simp)).mono (by decide) (by simp)
  have h2 : Lt 3 1700000 (.tuple W) := (Lt.tup h1 hl).mono (by decide) (by omega)
  exact Rpr.of (M := 2000000) (l := 1000) (n := 3) (B := 1700000) ⟨h2.lf, h2.ln, h2.dp, h2.wg⟩ (by decide) (by decide) (by decide)
section
variable {j : Nat} {f : Ob}
theorem nb_two {c : Cod} (hc : PrP c) {r : Str × List Blk} (hr : r ∈ c.rts) {sn : Vl} : nb_law_k55_2 (.ref 0) (.dat c.d) sn (.dat (.str r.1)) (.dat (blksD r.2)) [f] = .nx () [f] := by
  obtain ⟨hp, hnm⟩ := hc.rts r hr
  have lk := look_nd hc.nd hr
  obtain ⟨M, W, p1, q1, p2, q2, hM, hW, hMr, hWr⟩ := told_same (nm := r.1) lk hp.go (by have := hp.few; omega) hp.fewR
  have n : Lt 0 250 (.str r.1) := by
    rcases hnm with e | e | e <;> rw [e] <;> exact Lt.txt
  have rM := rpr_ints hM fun x hx => by
    have := hMr x hx
    have := hp.few
    omega
  have rW := rpr_vers n (by have := hp.few; omega) hW hWr
  have eM : ∀ s, phRepr [.dat (intsD M)] s = some (.dat (.str (intsD M).shown)) := fun s => repr_t rM
  have eW : ∀ s, phRepr [.dat (.tuple W)] s = some (.dat (.str (PyData.tuple W).shown)) := fun s => repr_t rW
  have k1 : ∀ s, callN 2 (prmF [1, 0] G_merged_blocks) [.dat (.str r.1), .dat c.d] s = .ok (.dat (intsD M)) s := fun s => by
    show callN 2 G_merged_blocks [.dat c.d, .dat (.str r.1)] s = _
    simp [p1]
  have k2 : ∀ s, callN 2 (prmF [1, 0] G_versions_of) [.dat (.str r.1), .dat c.d] s = .ok (.dat (.tuple W)) s := fun s => by
    show callN 2 G_versions_of [.dat c.d, .dat (.str r.1)] s = _
    simp [p2]
  have k3 : ∀ s, callN 2 G_merged_blocks [.dat c.d, .dat (.str r.1)] s = .ok (.dat (intsD M)) s := fun s => by simp [p1]
  have k4 : ∀ s, callN 2 G_versions_of [.dat c.d, .dat (.str r.1)] s = .ok (.dat (.tuple W)) s := fun s => by simp [p2]
  have k5 : ∀ s, callN 2 G_law_merged_k55 [.dat (.str r.1), .dat (blksD r.2)] s = .ok (.dat (intsD M)) s := fun s => by simp [q1]
  have k6 : ∀ s, callN 2 G_law_versions [.dat (.str r.1), .dat (blksD r.2)] s = .ok (.dat (.tuple W)) s := fun s => by simp [q2]
  have kn : ∀ (x : Str) s, phNe (.dat (.str x)) (.dat (.str x)) s = some (.dat (.bool false)) := fun x s => by simp
  refine wp_of (Q := fun z : An Unit Unit => z = _) ?_
  simp only [nb_law_k55_2]
  refine wp_an (a := .dat (.str (intsD M).shown)) (s := [f]) (by simp only [k5, R.bind_ok, eM, R.of_some]) ?_
  refine wp_if (b := false) (s := [f]) (by simp only [k3, k1, R.bind_ok, eM, R.of_some, kn, bool?_b, Bool.false_eq_true, if_false]) ?_
  rw [if_neg (by decide)]
  refine wp_an (a := .dat (.str (PyData.tuple W).shown)) (s := [f]) (by simp only [k6, R.bind_ok, eW, R.of_some]) ?_
  refine wp_if (b := false) (s := [f]) (by simp only [k4, k2, R.bind_ok, eW, R.of_some, kn, bool?_b, Bool.false_eq_true, if_false]) ?_
  rw [if_neg (by decide)]
  rfl
theorem nb_one (hf : FdP j f) (hj : j ≤ 50000) {v : Vl} : ∃ f', nb_law_k55_1 (.ref 0) v [f] = .nx () [f'] ∧ FdP (j + 701) f' := by
  obtain ⟨k, f1, h1, hf1, k0, k1⟩ := dip hf (by omega) (m := 2) (by decide) (by decide) []
  obtain ⟨c, f2, h2, hc, hf2⟩ := G_prog_eq (t := []) (decide (k = 0)) hf1 (by omega)
  refine ⟨f2, ?_, draw_dip.mono hf2 (by omega)⟩
  refine wp_of (Q := fun z : An Unit Unit => z = _) ?_
  simp only [nb_law_k55_1]
  refine wp_an (a := .dat c.d) (s := [f2]) (by simp [h1, h2]) ?_
  have er : ∀ s, phRepr [.dat c.d] s = some (.dat (.str c.d.shown)) := fun s => repr_t hc.rpr
  refine wp_an (a := .dat (.str c.d.shown)) (s := [f2]) (by rw [er]; rfl) ?_
  have es : (R.of (phIx (.dat c.d) (Vl.dat (.int 1)) [f2]) [f2]).bind (fun x12 s13 => R.of (src x12 s13) s13) = .ok ⟨c.rts.map fun r => Vl.dat (rtD r), none⟩ [f2] := by
    simp [Cod.d, src, Function.comp_def]
  rw [es, R.an_ok]
  simp only [src_ok_none]
  refine wp_thn (a := ()) (s := [f2]) ?_ ?_
  · refine forN_same fun v hv => ?_
    obtain ⟨r, hr, rfl⟩ := List.mem_map.mp hv
    have ep : (pT2 pV pV) (Vl.dat (rtD r)) = some (Vl.dat (.str r.1), Vl.dat (blksD r.2)) := by simp [rtD]
    rw [ep, patN_some]
    exact nb_two hc hr
  · have kn : ∀ (x : Str) s, phNe (.dat (.str x)) (.dat (.str x)) s = some (.dat (.bool false)) := fun x s => by simp
    simp only [Wp, kt_law_k55_1, er, R.of_some, R.bind_ok, kn, bool?_b, R.an_ok, Bool.false_eq_true, if_false]
theorem lp_one {L : Type} : ∀ (n : Nat) (i : Int) (j : Nat) (f : Ob), FdP j f → j + 701 * n ≤ 40000 → ∃ f', (lp_law_k55_1 (L := L) (.ref 0) okT (rgs i n) () [f]) = .nx () [f'] ∧ FdP (j + 701 * n) f'
  | 0, i, j, f, hf, hj => ⟨f, by rw [rgs_zero, lp_law_k55_1_nil], hf⟩
  | n + 1, i, j, f, hf, hj => by
    obtain ⟨f1, h1, hf1⟩ := nb_one (v := .dat (.int i)) hf (by omega)
    obtain ⟨f2, h2, hf2⟩ := lp_one (L := L) n (i + 1) (j + 701) f1 hf1 (by omega)
    refine ⟨f2, ?_, draw_dip.mono hf2 (by omega)⟩
    rw [rgs_succ, lp_law_k55_1_cons, pV_ap, patN_some, h1, lp_nx, tidy_same (by simp), h2]
end
theorem cut_map {α γ : Type} (g : α → γ) (xs : List α) (l h : Option Int) : cut (xs.map g) l h = (cut xs l h).map g := by
  unfold cut
  rw [List.length_map, List.map_take, List.map_drop]
theorem cut_le {α : Type} (xs : List α) (n : Nat) : cut xs none (some (n : Int)) = xs.take n := by
  unfold cut
  rw [HT.sIx_nat]
  show (xs.drop 0).take (min n xs.length - 0) = _
  rw [List.drop_zero, Nat.sub_zero, ← List.take_eq_take_min]
theorem n_law_well_eq {ns : List Int} (hl : ns.length ≤ 63) (s : Sto) : (n_law_well (.scr ns) s).fin = .ok (.ref s.length) (s ++ [fdL ns 0 0 0]) := by
  have e : ∀ s, phSl (.scr ns) none (some 63) s = some (.dat (.list (ns.map PyData.int))) := fun s => by
    simp only [phSl]
    rw [if_pos (show ns.length ≤ mil from Nat.le_trans hl (by unfold mil; omega)), cut_map, show (63 : Int) = ((63 : Nat) : Int) from rfl, cut_le, List.take_of_length_le hl]
  simp [n_law_well, e, fdL]
theorem law_k55_true : ∀ ns : List Int, ns.length ≤ 63 → (∀ z ∈ ns, PySem.Builtin.Int.intBits z ≤ 1048576) → ∃ s1, G_law_k55 [.scr ns] [] = .ok (.dat (.bool true)) s1 := by
  intro ns hl _
  obtain ⟨f', h1, hf1⟩ := lp_one (L := Empty) 3 0 0 (fdL ns 0 0 0) ⟨ns, 0, 0, 0, rfl, hl, Int.le_refl _, Int.le_refl _, Int.le_refl _⟩ (by omega)
  refine ⟨[], fr0 (s2 := [f']) ?_⟩
  rw [r_law_k55, runN_ap]
  refine wp_of (Q := fun z => An.fin z = _) ?_
  simp only [n_law_k55]
  have e0 : callN 1 G_law_well [.scr ns] [] = .ok (.ref 0) [fdL ns 0 0 0] := n_law_well_eq hl []
  refine wp_an e0 ?_
  have er := fun s => rngN1_n (n := 3) (s := s) (th_mil (by omega))
  simp only [show ((3 : Nat) : Int) = 3 from rfl] at er
  refine wp_thn (a := ()) (s := [f']) (by rw [er, R.an_ok, src_ok_none]; exact h1) ?_
  rfl
end Pm
set_option maxRecDepth 100000
set_option maxHeartbeats 4000000
namespace Pm
open PySem PySem.Spec PyProof.Rows L2 Sw
def topS (i : Nat) : Stmt := PySem.Challenge.pw_storeways_k55_merged.main.body.getD i (.Pass ⟨0, 0, 0, 0⟩)
structure Bn (mg : Str → Option Value) : Prop where
  b_dict : mg "dict" = none
  b_enumerate : mg "enumerate" = none
  b_len : mg "len" = none
  b_list : mg "list" = none
  b_min : mg "min" = none
  b_range : mg "range" = none
  b_repr : mg "repr" = none
  b_set : mg "set" = none
  b_sorted : mg "sorted" = none
  b_tuple : mg "tuple" = none
section
variable {P : Program} {w : World} {K : PySem.W.Frag} {mg : Str → Option Value} {base : Heap}
abbrev N_blocks_of : List Str := ["code", "name", "word", "blocks"]
theorem sc_blocks_of : FnScope N_blocks_of ["code", "name"] (defScope (topS 4)) := ⟨rfl, rfl, rfl, by decide +kernel, rfl, by decide +kernel, by decide +kernel⟩
theorem ok_blocks_of {f : Addr} {fd : FuncData} {k : Nat} (D : Df K mg "blocks_of" (topS 4) ["code", "name"] f fd) (B : Bn mg) :
    FnD P w K mg base (k + 1) f fd ["code", "name"] (frameG (r_blocks_of)) := by
  refine FnD.frame (fnN_of D.fn sc_blocks_of (fun cdv A outer s H E hg hr xs hx => ?_))
  have nd := sc_blocks_of.nd
  have hu := hr.units
  have hG : (A.deeper (envOfC "blocks_of" (defScope (topS 4)) s.heap.objs.size f cdv)).guards = some [] := hg
  have tk : Takes (cxOf (L2.CX P w) P w K mg base N_blocks_of "blocks_of" (defScope (topS 4)) f cdv A outer s H E) (fun c d _ H => E c d H) := takes_of rfl rfl rfl rfl
  match xs, hx with
  | [v_code, v_name], _ =>
  exact (nss_at (mkS := mkU 4) (mkL := mkE) (ρ := [some v_code, some v_name, none, none]) (n := n_blocks_of v_code v_name)
  (nss_cons (mk1 := (mk_blocks_of_1 v_name)) (ns_forP (mk1 := (mk_blocks_of_1 v_name)) (ρb := fun p a => [none, some v_name, some p.1, some p.2]) (a0 := ()) PassesOwn.leaving rfl (di_seq (de_ix (mx_ix hu) (de_var (i := 0) rfl (by first | exact Or.inl rfl | exact Or.inr (Or.inl rfl) | exact Or.inr (Or.inr rfl))) de_int (fun _ _ => rfl))) (dg_tup rfl (dgs_cons (dg_name (i := 2) nd rfl (by first | exact Or.inl rfl | exact Or.inr rfl)) (dgs_cons (dg_name (i := 3) nd rfl (by first | exact Or.inl rfl | exact Or.inr rfl)) dgs_nil))) (tgp_2 tgp_n tgp_n) (fun p a =>
  (let v_word : Vl := p.1; (let v_blocks : Vl := p.2; (nss_at (mkS := (mk_blocks_of_1 v_name)) (mkL := (mk_blocks_of_1 v_name)) (ρ := [none, some v_name, some v_word, some v_blocks]) (n := nb_blocks_of_1 v_name v_word v_blocks)
  (nss_if1 (dt_cmp (mo_eq hu) (de_var (i := 2) rfl (by first | exact Or.inl rfl | exact Or.inr (Or.inl rfl) | exact Or.inr (Or.inr rfl))) (de_var (i := 1) rfl (by first | exact Or.inl rfl | exact Or.inr (Or.inl rfl) | exact Or.inr (Or.inr rfl))) (nomark _))
  (nss_ret (de_var (i := 3) rfl (by first | exact Or.inl rfl | exact Or.inr (Or.inl rfl) | exact Or.inr (Or.inr rfl))) ox0)
  (nss_nil (a := ()) (.non (.som (.non (.non .nil))))) ox0))))) (.non (.som (.non (.non .nil)))) ox0) (fun j11 =>
  (nss_at (mkS := (mkU 4)) (mkL := mkE) (ρ := [none, some v_name, none, none]) (n := kt_blocks_of_1 v_name)
  nss_never))))
abbrev N_goals : List Str := ["end"]
theorem sc_goals : FnScope N_goals ["end"] (defScope (topS 6)) := ⟨rfl, rfl, rfl, by decide +kernel, rfl, by decide +kernel, by decide +kernel⟩
theorem ok_goals {f : Addr} {fd : FuncData} {k : Nat} (D : Df K mg "goals" (topS 6) ["end"] f fd) (B : Bn mg) :
    FnD P w K mg base (k + 1) f fd ["end"] (frameG (r_goals)) := by
  refine FnD.frame (fnN_of D.fn sc_goals (fun cdv A outer s H E hg hr xs hx => ?_))
  have nd := sc_goals.nd
  have hu := hr.units
  have hG : (A.deeper (envOfC "goals" (defScope (topS 6)) s.heap.objs.size f cdv)).guards = some [] := hg
  have tk : Takes (cxOf (L2.CX P w) P w K mg base N_goals "goals" (defScope (topS 6)) f cdv A outer s H E) (fun c d _ H => E c d H) := takes_of rfl rfl rfl rfl
  match xs, hx with
  | [v_end], _ =>
  exact (nss_at (mkS := mkU 1) (mkL := mkE) (ρ := [some v_end]) (n := n_goals v_end)
  (nss_ifx (mk0 := mkE) (dt_cmp (mo_eq hu) (de_ix (mx_ix hu) (de_var (i := 0) rfl (by first | exact Or.inl rfl | exact Or.inr (Or.inl rfl) | exact Or.inr (Or.inr rfl))) de_int (fun _ _ => rfl)) de_str (nomark _))
  (nss_ret (de_tup (da_cons (de_ix (mx_ix hu) (de_var (i := 0) rfl (by first | exact Or.inl rfl | exact Or.inr (Or.inl rfl) | exact Or.inr (Or.inr rfl))) de_int (fun _ _ => rfl)) da_nil)) ox0)
  (nss_ifx (mk0 := mkE) (dt_cmp (mo_eq hu) (de_ix (mx_ix hu) (de_var (i := 0) rfl (by first | exact Or.inl rfl | exact Or.inr (Or.inl rfl) | exact Or.inr (Or.inr rfl))) de_int (fun _ _ => rfl)) de_str (nomark _))
  (nss_ret (de_callTy mc_tuple (by rfl) B.b_tuple (by decide +kernel) (da_cons (de_ss rfl (by rfl) B.b_sorted (by rfl) B.b_set (da_cons (de_slice (de_var (i := 0) rfl (by first | exact Or.inl rfl | exact Or.inr (Or.inl rfl) | exact Or.inr (Or.inr rfl))) (do_some de_int) do_none) da_nil)) da_nil)) ox0)
  (nss_ret (de_tup da_nil) ox0) ox0) ox0))
abbrev N_nexts : List Str := ["code", "name", "block", "rows", "end"]
theorem sc_nexts : FnScope N_nexts ["code", "name", "block"] (defScope (topS 7)) := ⟨rfl, rfl, rfl, by decide +kernel, rfl, by decide +kernel, by decide +kernel⟩
theorem ok_nexts {f f1 f2 : Addr} {fd fd1 fd2 : FuncData} {k k1 k2 : Nat} (D : Df K mg "nexts" (topS 7) ["code", "name", "block"] f fd)
    (D1 : Df K mg "blocks_of" (topS 4) ["code", "name"] f1 fd1) (G1 : FnD P w K mg base k1 f1 fd1 ["code", "name"] G_blocks_of) (h1 : k1 ≤ k)
    (D2 : Df K mg "goals" (topS 6) ["end"] f2 fd2) (G2 : FnD P w K mg base k2 f2 fd2 ["end"] G_goals) (h2 : k2 ≤ k) (B : Bn mg) :
    FnD P w K mg base (k + 1) f fd ["code", "name", "block"] (frameG (r_nexts)) := by
  refine FnD.frame (fnN_of D.fn sc_nexts (fun cdv A outer s H E hg hr xs hx => ?_))
  have nd := sc_nexts.nd
  have hu := hr.units
  have hG : (A.deeper (envOfC "nexts" (defScope (topS 7)) s.heap.objs.size f cdv)).guards = some [] := hg
  have tk : Takes (cxOf (L2.CX P w) P w K mg base N_nexts "nexts" (defScope (topS 7)) f cdv A outer s H E) (fun c d _ H => E c d H) := takes_of rfl rfl rfl rfl
  match xs, hx with
  | [v_code, v_name, v_block], _ =>
  exact (nss_at (mkS := mkU 5) (mkL := mkE) (ρ := [some v_code, some v_name, some v_block, none, none]) (n := n_nexts v_code v_name v_block)
  (nss_asgT (ρ' := fun p3 => [some v_code, some v_name, some v_block, some p3.1, some p3.2]) (de_ix (mx_ix hu) (de_call hG G1 (hr.mono h1) D1.bd tk (by rfl) D1.gl D1.fn.kp (da_cons (de_var (i := 0) rfl (by first | exact Or.inl rfl | exact Or.inr (Or.inl rfl) | exact Or.inr (Or.inr rfl))) (da_cons (de_var (i := 1) rfl (by first | exact Or.inl rfl | exact Or.inr (Or.inl rfl) | exact Or.inr (Or.inr rfl))) da_nil))) (de_var (i := 2) rfl (by first | exact Or.inl rfl | exact Or.inr (Or.inl rfl) | exact Or.inr (Or.inr rfl))) (fun _ _ => rfl)) (dg_tup rfl (dgs_cons (dg_name (i := 3) nd rfl (by first | exact Or.inl rfl | exact Or.inr rfl)) (dgs_cons (dg_name (i := 4) nd rfl (by first | exact Or.inl rfl | exact Or.inr rfl)) dgs_nil))) (tgp_2 tgp_n tgp_n) (fun p3 =>
  (nss_ret (de_call hG G2 (hr.mono h2) D2.bd tk (by rfl) D2.gl D2.fn.kp (da_cons (de_var (i := 4) rfl (by first | exact Or.inl rfl | exact Or.inr (Or.inl rfl) | exact Or.inr (Or.inr rfl))) da_nil)) ox0)) ox0))
abbrev N_led_around : List Str := ["code", "name", "over", "ahead", "todo", "block", "goal"]
theorem sc_led_around : FnScope N_led_around ["code", "name", "over"] (defScope (topS 8)) := ⟨rfl, rfl, rfl, by decide +kernel, rfl, by decide +kernel, by decide +kernel⟩
theorem ok_led_around {f f1 : Addr} {fd fd1 : FuncData} {k k1 : Nat} (D : Df K mg "led_around" (topS 8) ["code", "name", "over"] f fd)
    (D1 : Df K mg "nexts" (topS 7) ["code", "name", "block"] f1 fd1) (G1 : FnD P w K mg base k1 f1 fd1 ["code", "name", "block"] G_nexts) (h1 : k1 ≤ k) (B : Bn mg) :
    FnD P w K mg base (k + 1) f fd ["code", "name", "over"] (frameG (r_led_around)) := by
  refine FnD.frame (fnN_of D.fn sc_led_around (fun cdv A outer s H E hg hr xs hx => ?_))
  have nd := sc_led_around.nd
  have hu := hr.units
  have hG : (A.deeper (envOfC "led_around" (defScope (topS 8)) s.heap.objs.size f cdv)).guards = some [] := hg
  have tk : Takes (cxOf (L2.CX P w) P w K mg base N_led_around "led_around" (defScope (topS 8)) f cdv A outer s H E) (fun c d _ H => E c d H) := takes_of rfl rfl rfl rfl
  match xs, hx with
  | [v_code, v_name, v_over], _ =>
  exact (nss_at (mkS := mkU 7) (mkL := mkE) (ρ := [some v_code, some v_name, some v_over, none, none, none, none]) (n := n_led_around v_code v_name v_over)
  (nss_ifx (mk0 := mkE) (dt_cmp (mo_eq hu) (de_var (i := 2) rfl (by first | exact Or.inl rfl | exact Or.inr (Or.inl rfl) | exact Or.inr (Or.inr rfl))) de_int (nomark _))
  (nss_ret de_newK ox0)
  (nss_set (i := 3) (ρ' := fun v_ahead => [some v_code, some v_name, some v_over, some v_ahead, none, none, none]) nd rfl (by first | exact Or.inl rfl | exact Or.inr rfl) (de_dispN (dps_cons de_int de_non dps_nil)) (fun v_ahead =>
  (nss_set (i := 4) (ρ' := fun v_todo => [some v_code, some v_name, some v_over, some v_ahead, some v_todo, none, none]) nd rfl (by first | exact Or.inl rfl | exact Or.inr rfl) (de_new (da_cons de_int da_nil)) (fun v_todo =>
  (nss_cons (mk1 := (mk_led_around_1 v_code v_name v_over v_ahead v_todo)) (ns_while (mk1 := (mk_led_around_1 v_code v_name v_over v_ahead v_todo)) (a0 := ()) PassesOwn.leaving (dt_tru (de_var (i := 4) rfl (by first | exact Or.inl rfl | exact Or.inr (Or.inl rfl) | exact Or.inr (Or.inr rfl)))) (fun a =>
  (nss_at (mkS := (mk_led_around_1 v_code v_name v_over v_ahead v_todo)) (mkL := (mk_led_around_1 v_code v_name v_over v_ahead v_todo)) (ρ := [some v_code, some v_name, some v_over, some v_ahead, some v_todo, none, none]) (n := nb_led_around_1 v_code v_name v_over v_ahead v_todo)
  (nss_set (i := 5) (ρ' := fun v_block => [some v_code, some v_name, some v_over, some v_ahead, some v_todo, some v_block, none]) nd rfl (by first | exact Or.inl rfl | exact Or.inr rfl) (de_pop (de_var (i := 4) rfl (by first | exact Or.inl rfl | exact Or.inr (Or.inl rfl) | exact Or.inr (Or.inr rfl)))) (fun v_block =>
  (nss_cons (mk1 := (mk_led_around_2 v_code v_name v_over v_ahead v_todo v_block)) (ns_forP (mk1 := (mk_led_around_2 v_code v_name v_over v_ahead v_todo v_block)) (ρb := fun p a => [some v_code, some v_name, some v_over, some v_ahead, some v_todo, some v_block, some p]) (a0 := ()) PassesOwn.leaving rfl (di_seq (de_call hG G1 (hr.mono h1) D1.bd tk (by rfl) D1.gl D1.fn.kp (da_cons (de_var (i := 0) rfl (by first | exact Or.inl rfl | exact Or.inr (Or.inl rfl) | exact Or.inr (Or.inr rfl))) (da_cons (de_var (i := 1) rfl (by first | exact Or.inl rfl | exact Or.inr (Or.inl rfl) | exact Or.inr (Or.inr rfl))) (da_cons (de_var (i := 5) rfl (by first | exact Or.inl rfl | exact Or.inr (Or.inl rfl) | exact Or.inr (Or.inr rfl))) da_nil))))) (dg_name (i := 6) nd rfl (by first | exact Or.inl rfl | exact Or.inr rfl)) tgp_n (fun p a =>
  (let v_goal : Vl := p; (nss_at (mkS := (mk_led_around_2 v_code v_name v_over v_ahead v_todo v_block)) (mkL := (mk_led_around_2 v_code v_name v_over v_ahead v_todo v_block)) (ρ := [some v_code, some v_name, some v_over, some v_ahead, some v_todo, some v_block, some v_goal]) (n := nb_led_around_2 v_code v_name v_over v_ahead v_todo v_block v_goal)
  (nss_if1 (dt_w (dw_and (dt_cmp (mo_ne hu) (de_var (i := 6) rfl (by first | exact Or.inl rfl | exact Or.inr (Or.inl rfl) | exact Or.inr (Or.inr rfl))) (de_var (i := 2) rfl (by first | exact Or.inl rfl | exact Or.inr (Or.inl rfl) | exact Or.inr (Or.inr rfl))) (nomark _)) (dw_and1 (dt_cmp (mo_notIn hu) (de_var (i := 6) rfl (by first | exact Or.inl rfl | exact Or.inr (Or.inl rfl) | exact Or.inr (Or.inr rfl))) (de_var (i := 3) rfl (by first | exact Or.inl rfl | exact Or.inr (Or.inl rfl) | exact Or.inr (Or.inr rfl))) (by with_unfolding_all rfl)))))
  (nss_asgS (de_var (i := 5) rfl (by first | exact Or.inl rfl | exact Or.inr (Or.inl rfl) | exact Or.inr (Or.inr rfl))) (dg_sub hu (de_var (i := 3) rfl (by first | exact Or.inl rfl | exact Or.inr (Or.inl rfl) | exact Or.inr (Or.inr rfl))) (de_var (i := 6) rfl (by first | exact Or.inl rfl | exact Or.inr (Or.inl rfl) | exact Or.inr (Or.inr rfl)))) (tgs_sub (fo := fun s21 => R.ok v_ahead s21) (fi := fun z => R.ok v_goal z))
  (nss_expr (de_append (de_var (i := 4) rfl (by first | exact Or.inl rfl | exact Or.inr (Or.inl rfl) | exact Or.inr (Or.inr rfl))) (da_cons (de_var (i := 6) rfl (by first | exact Or.inl rfl | exact Or.inr (Or.inl rfl) | exact Or.inr (Or.inr rfl))) da_nil))
  (nss_nil (a := ()) (.som (.som (.som (.som (.som (.som (.non .nil)))))))) ox0) ox0)
  (nss_nil (a := ()) (.som (.som (.som (.som (.som (.som (.non .nil)))))))) ox0)))) (.som (.som (.som (.som (.som (.som (.non .nil))))))) ox0) (fun j27 =>
  (nss_at (mkS := (mk_led_around_1 v_code v_name v_over v_ahead v_todo)) (mkL := (mk_led_around_1 v_code v_name v_over v_ahead v_todo)) (ρ := [some v_code, some v_name, some v_over, some v_ahead, some v_todo, some v_block, none]) (n := kt_led_around_1 v_code v_name v_over v_ahead v_todo v_block)
  (nss_nil (a := ()) (.som (.som (.som (.som (.som (.non (.non .nil)))))))))))) ox0))) (.som (.som (.som (.som (.som (.non (.non .nil))))))) (fun a => ox0)) (fun j29 =>
  (nss_at (mkS := (mkU 7)) (mkL := mkE) (ρ := [some v_code, some v_name, some v_over, some v_ahead, some v_todo, none, none]) (n := kt_led_around_2 v_code v_name v_over v_ahead v_todo)
  (nss_ret (de_var (i := 3) rfl (by first | exact Or.inl rfl | exact Or.inr (Or.inl rfl) | exact Or.inr (Or.inr rfl))) ox0))))) ox0)) ox0) ox0))
abbrev N_reached : List Str := ["code", "name"]
theorem sc_reached : FnScope N_reached ["code", "name"] (defScope (topS 9)) := ⟨rfl, rfl, rfl, by decide +kernel, rfl, by decide +kernel, by decide +kernel⟩
theorem ok_reached {f f1 : Addr} {fd fd1 : FuncData} {k k1 : Nat} (D : Df K mg "reached" (topS 9) ["code", "name"] f fd)
    (D1 : Df K mg "led_around" (topS 8) ["code", "name", "over"] f1 fd1) (G1 : FnD P w K mg base k1 f1 fd1 ["code", "name", "over"] G_led_around) (h1 : k1 ≤ k) (B : Bn mg) :
    FnD P w K mg base (k + 1) f fd ["code", "name"] (frameG (r_reached)) := by
  refine FnD.frame (fnN_of D.fn sc_reached (fun cdv A outer s H E hg hr xs hx => ?_))
  have nd := sc_reached.nd
  have hu := hr.units
  have hG : (A.deeper (envOfC "reached" (defScope (topS 9)) s.heap.objs.size f cdv)).guards = some [] := hg
  have tk : Takes (cxOf (L2.CX P w) P w K mg base N_reached "reached" (defScope (topS 9)) f cdv A outer s H E) (fun c d _ H => E c d H) := takes_of rfl rfl rfl rfl
  match xs, hx with
  | [v_code, v_name], _ =>
  exact (nss_at (mkS := mkU 2) (mkL := mkE) (ρ := [some v_code, some v_name]) (n := n_reached v_code v_name)
  (nss_ret (de_callTy mc_tuple (by rfl) B.b_tuple (by decide +kernel) (da_cons (de_callB (mc_sorted rfl) (by rfl) B.b_sorted (by decide +kernel) (da_cons (de_call hG G1 (hr.mono h1) D1.bd tk (by rfl) D1.gl D1.fn.kp (da_cons (de_var (i := 0) rfl (by first | exact Or.inl rfl | exact Or.inr (Or.inl rfl) | exact Or.inr (Or.inr rfl))) (da_cons (de_var (i := 1) rfl (by first | exact Or.inl rfl | exact Or.inr (Or.inl rfl) | exact Or.inr (Or.inr rfl))) (da_cons de_non da_nil)))) da_nil)) da_nil)) ox0))
abbrev N_frontier : List Str := ["code", "name", "block", "around", "under", "behind", "other", "goal"]
theorem sc_frontier : FnScope N_frontier ["code", "name", "block"] (defScope (topS 11)) := ⟨rfl, rfl, rfl, by decide +kernel, rfl, by decide +kernel, by decide +kernel⟩
theorem ok_frontier {f f1 f2 f3 : Addr} {fd fd1 fd2 fd3 : FuncData} {k k1 k2 k3 : Nat} (D : Df K mg "frontier" (topS 11) ["code", "name", "block"] f fd)
    (D1 : Df K mg "led_around" (topS 8) ["code", "name", "over"] f1 fd1) (G1 : FnD P w K mg base k1 f1 fd1 ["code", "name", "over"] G_led_around) (h1 : k1 ≤ k)
    (D2 : Df K mg "reached" (topS 9) ["code", "name"] f2 fd2) (G2 : FnD P w K mg base k2 f2 fd2 ["code", "name"] G_reached) (h2 : k2 ≤ k)
    (D3 : Df K mg "nexts" (topS 7) ["code", "name", "block"] f3 fd3) (G3 : FnD P w K mg base k3 f3 fd3 ["code", "name", "block"] G_nexts) (h3 : k3 ≤ k) (B : Bn mg) :
    FnD P w K mg base (k + 1) f fd ["code", "name", "block"] (frameG (r_frontier)) := by
  refine FnD.frame (fnN_of D.fn sc_frontier (fun cdv A outer s H E hg hr xs hx => ?_))
  have nd := sc_frontier.nd
  have hu := hr.units
  have hG : (A.deeper (envOfC "frontier" (defScope (topS 11)) s.heap.objs.size f cdv)).guards = some [] := hg
  have tk : Takes (cxOf (L2.CX P w) P w K mg base N_frontier "frontier" (defScope (topS 11)) f cdv A outer s H E) (fun c d _ H => E c d H) := takes_of rfl rfl rfl rfl
  match xs, hx with
  | [v_code, v_name, v_block], _ =>
  exact (nss_at (mkS := mkU 8) (mkL := mkE) (ρ := [some v_code, some v_name, some v_block, none, none, none, none, none]) (n := n_frontier v_code v_name v_block)
  (nss_set (i := 3) (ρ' := fun v_around => [some v_code, some v_name, some v_block, some v_around, none, none, none, none]) nd rfl (by first | exact Or.inl rfl | exact Or.inr rfl) (de_call hG G1 (hr.mono h1) D1.bd tk (by rfl) D1.gl D1.fn.kp (da_cons (de_var (i := 0) rfl (by first | exact Or.inl rfl | exact Or.inr (Or.inl rfl) | exact Or.inr (Or.inr rfl))) (da_cons (de_var (i := 1) rfl (by first | exact Or.inl rfl | exact Or.inr (Or.inl rfl) | exact Or.inr (Or.inr rfl))) (da_cons (de_var (i := 2) rfl (by first | exact Or.inl rfl | exact Or.inr (Or.inl rfl) | exact Or.inr (Or.inr rfl))) da_nil)))) (fun v_around =>
  (nss_set (i := 4) (ρ' := fun v_under => [some v_code, some v_name, some v_block, some v_around, some v_under, none, none, none]) nd rfl (by first | exact Or.inl rfl | exact Or.inr rfl) (de_lcP (own := [("other", 6)]) (g := (gName 6)) (pat := pV) (st := (fun v ρ => ρ.set 6 (some v))) (t := (mB (m2 (phIn true) (mVar 6) (mVar 3)))) (e := (mVar 6)) rfl nd (di_seq (de_call hG G2 (hr.mono h2) D2.bd tk (by rfl) D2.gl D2.fn.kp (da_cons (de_var (i := 0) rfl (by first | exact Or.inl rfl | exact Or.inr (Or.inl rfl) | exact Or.inr (Or.inr rfl))) (da_cons (de_var (i := 1) rfl (by first | exact Or.inl rfl | exact Or.inr (Or.inl rfl) | exact Or.inr (Or.inr rfl))) da_nil)))) (blkOk_by (N := N_frontier) (sc := defScope (topS 11)) (by decide +kernel)) (gokP_n (by decide)) (fun _ _ _ _ _ => (pg_name (i := 6) nd rfl (by first | exact Or.inl rfl | exact Or.inr rfl))) (fun _ _ _ _ _ => (dts_one (dt_cmp (mo_notIn hu) (de_var (i := 6) rfl (by first | exact Or.inl rfl | exact Or.inr (Or.inl rfl) | exact Or.inr (Or.inr rfl))) (de_var (i := 3) rfl (by first | exact Or.inl rfl | exact Or.inr (Or.inl rfl) | exact Or.inr (Or.inr rfl))) (by with_unfolding_all rfl)))) (fun _ _ _ _ _ => (de_var (i := 6) rfl (by first | exact Or.inl rfl | exact Or.inr (Or.inl rfl) | exact Or.inr (Or.inr rfl))))) (fun v_under =>
  (nss_setLcPN2 (own := [("other", 6), ("goal", 7)]) (vs1 := [7]) (g := (gName 6)) (pat := pV) (st := (fun v ρ => ρ.set 6 (some v))) (t := tYesM) (it1 := (iSeq (mCall 3 G_nexts (aCons (mVar 0) (aCons (mVar 1) (aCons (mVar 6) aNil)))))) (g1 := (gName 7)) (pat1 := pV) (st1 := (fun v ρ => ρ.set 7 (some v))) (t1 := tYesM) (e := (mVar 7)) (i := 5) (ρ' := fun v_behind => [some v_code, some v_name, some v_block, some v_around, some v_under, some v_behind, none, none]) rfl nd rfl rfl (sw_true rfl rfl rfl (by decide +kernel)) (di_seq (de_var (i := 4) rfl (by first | exact Or.inl rfl | exact Or.inr (Or.inl rfl) | exact Or.inr (Or.inr rfl)))) (blkOk_by (N := N_frontier) (sc := defScope (topS 11)) (by decide +kernel)) (by decide) (gokP_n (by decide)) (gokP_n (by decide)) (fun _ _ _ _ _ => (pg_name (i := 6) nd rfl (by first | exact Or.inl rfl | exact Or.inr rfl))) (fun _ _ _ _ _ => dts_nil) (fun _ _ _ _ _ => (di_seq (de_call hG G3 (hr.mono h3) D3.bd takes0 (by rfl) D3.gl D3.fn.kp (da_cons (de_var (i := 0) rfl (by first | exact Or.inl rfl | exact Or.inr (Or.inl rfl) | exact Or.inr (Or.inr rfl))) (da_cons (de_var (i := 1) rfl (by first | exact Or.inl rfl | exact Or.inr (Or.inl rfl) | exact Or.inr (Or.inr rfl))) (da_cons (de_var (i := 6) rfl (by first | exact Or.inl rfl | exact Or.inr (Or.inl rfl) | exact Or.inr (Or.inr rfl))) da_nil)))))) (fun _ _ _ _ _ => (pg_name (i := 7) nd rfl (by first | exact Or.inl rfl | exact Or.inr rfl))) (fun _ _ _ _ _ => dts_nil) (fun _ _ _ _ _ => (de_var (i := 7) rfl (by first | exact Or.inl rfl | exact Or.inr (Or.inl rfl) | exact Or.inr (Or.inr rfl)))) (fun v_behind =>
  (nss_ret (de_callTy mc_tuple (by rfl) B.b_tuple (by decide +kernel) (da_cons (de_ssi rfl (by rfl) B.b_sorted (by rfl) B.b_set (da_cons (de_lcP (own := [("goal", 7)]) (g := (gName 7)) (pat := pV) (st := (fun v ρ => ρ.set 7 (some v))) (t := (tOrM (mB (m2 phEq (mVar 7) (mVar 2))) (mB (m2 (phIn true) (mVar 7) (mVar 4))))) (e := (mVar 7)) rfl nd (di_seq (de_var (i := 5) rfl (by first | exact Or.inl rfl | exact Or.inr (Or.inl rfl) | exact Or.inr (Or.inr rfl)))) (blkOk_by (N := N_frontier) (sc := defScope (topS 11)) (by decide +kernel)) (gokP_n (by decide)) (fun _ _ _ _ _ => (pg_name (i := 7) nd rfl (by first | exact Or.inl rfl | exact Or.inr rfl))) (fun _ _ _ _ _ => (dts_one (dt_w (dw_or (dt_cmp (mo_eq hu) (de_var (i := 7) rfl (by first | exact Or.inl rfl | exact Or.inr (Or.inl rfl) | exact Or.inr (Or.inr rfl))) (de_var (i := 2) rfl (by first | exact Or.inl rfl | exact Or.inr (Or.inl rfl) | exact Or.inr (Or.inr rfl))) (nomark _)) (dw_or1 (dt_cmp (mo_notIn hu) (de_var (i := 7) rfl (by first | exact Or.inl rfl | exact Or.inr (Or.inl rfl) | exact Or.inr (Or.inr rfl))) (de_var (i := 4) rfl (by first | exact Or.inl rfl | exact Or.inr (Or.inl rfl) | exact Or.inr (Or.inr rfl))) (by with_unfolding_all rfl))))))) (fun _ _ _ _ _ => (de_var (i := 7) rfl (by first | exact Or.inl rfl | exact Or.inr (Or.inl rfl) | exact Or.inr (Or.inr rfl))))) da_nil)) da_nil)) ox0)) ox0)) ox0)) ox0))
abbrev N_frontier_again : List Str := ["code", "name", "blocks", "found", "todo", "goal"]
theorem sc_frontier_again : FnScope N_frontier_again ["code", "name", "blocks"] (defScope (topS 12)) := ⟨rfl, rfl, rfl, by decide +kernel, rfl, by decide +kernel, by decide +kernel⟩
theorem ok_frontier_again {f f1 : Addr} {fd fd1 : FuncData} {k k1 : Nat} (D : Df K mg "frontier_again" (topS 12) ["code", "name", "blocks"] f fd)
    (D1 : Df K mg "frontier" (topS 11) ["code", "name", "block"] f1 fd1) (G1 : FnD P w K mg base k1 f1 fd1 ["code", "name", "block"] G_frontier) (h1 : k1 ≤ k) (B : Bn mg) :
    FnD P w K mg base (k + 1) f fd ["code", "name", "blocks"] (frameG (r_frontier_again)) := by
  refine FnD.frame (fnN_of D.fn sc_frontier_again (fun cdv A outer s H E hg hr xs hx => ?_))
  have nd := sc_frontier_again.nd
  have hu := hr.units
  have hG : (A.deeper (envOfC "frontier_again" (defScope (topS 12)) s.heap.objs.size f cdv)).guards = some [] := hg
  have tk : Takes (cxOf (L2.CX P w) P w K mg base N_frontier_again "frontier_again" (defScope (topS 12)) f cdv A outer s H E) (fun c d _ H => E c d H) := takes_of rfl rfl rfl rfl
  match xs, hx with
  | [v_code, v_name, v_blocks], _ =>
  exact (nss_at (mkS := mkU 6) (mkL := mkE) (ρ := [some v_code, some v_name, some v_blocks, none, none, none]) (n := n_frontier_again v_code v_name v_blocks)
  (nss_set (i := 3) (ρ' := fun v_found => [some v_code, some v_name, some v_blocks, some v_found, none, none]) nd rfl (by first | exact Or.inl rfl | exact Or.inr rfl) de_newK (fun v_found =>
  (nss_set (i := 4) (ρ' := fun v_todo => [some v_code, some v_name, some v_blocks, some v_found, some v_todo, none]) nd rfl (by first | exact Or.inl rfl | exact Or.inr rfl) (de_callTyK mc_listK (by rfl) B.b_list (by decide +kernel) (da_cons (de_var (i := 2) rfl (by first | exact Or.inl rfl | exact Or.inr (Or.inl rfl) | exact Or.inr (Or.inr rfl))) da_nil)) (fun v_todo =>
  (nss_cons (mk1 := (mk_frontier_again_1 v_code v_name v_found v_todo)) (ns_while (mk1 := (mk_frontier_again_1 v_code v_name v_found v_todo)) (a0 := ()) PassesOwn.leaving (dt_tru (de_var (i := 4) rfl (by first | exact Or.inl rfl | exact Or.inr (Or.inl rfl) | exact Or.inr (Or.inr rfl)))) (fun a =>
  (nss_at (mkS := (mk_frontier_again_1 v_code v_name v_found v_todo)) (mkL := (mk_frontier_again_1 v_code v_name v_found v_todo)) (ρ := [some v_code, some v_name, none, some v_found, some v_todo, none]) (n := nb_frontier_again_1 v_code v_name v_found v_todo)
  (nss_cons (mk1 := (mk_frontier_again_2 v_code v_name v_found v_todo)) (ns_forP (mk1 := (mk_frontier_again_2 v_code v_name v_found v_todo)) (ρb := fun p a => [some v_code, some v_name, none, some v_found, some v_todo, some p]) (a0 := ()) PassesOwn.leaving rfl (di_seq (de_call hG G1 (hr.mono h1) D1.bd tk (by rfl) D1.gl D1.fn.kp (da_cons (de_var (i := 0) rfl (by first | exact Or.inl rfl | exact Or.inr (Or.inl rfl) | exact Or.inr (Or.inr rfl))) (da_cons (de_var (i := 1) rfl (by first | exact Or.inl rfl | exact Or.inr (Or.inl rfl) | exact Or.inr (Or.inr rfl))) (da_cons (de_pop (de_var (i := 4) rfl (by first | exact Or.inl rfl | exact Or.inr (Or.inl rfl) | exact Or.inr (Or.inr rfl)))) da_nil))))) (dg_name (i := 5) nd rfl (by first | exact Or.inl rfl | exact Or.inr rfl)) tgp_n (fun p a =>
  (let v_goal : Vl := p; (nss_at (mkS := (mk_frontier_again_2 v_code v_name v_found v_todo)) (mkL := (mk_frontier_again_2 v_code v_name v_found v_todo)) (ρ := [some v_code, some v_name, none, some v_found, some v_todo, some v_goal]) (n := nb_frontier_again_2 v_code v_name v_found v_todo v_goal)
  (nss_if1 (dt_cmp (mo_notIn hu) (de_var (i := 5) rfl (by first | exact Or.inl rfl | exact Or.inr (Or.inl rfl) | exact Or.inr (Or.inr rfl))) (de_var (i := 3) rfl (by first | exact Or.inl rfl | exact Or.inr (Or.inl rfl) | exact Or.inr (Or.inr rfl))) (by with_unfolding_all rfl))
  (nss_asgS de_bl (dg_sub hu (de_var (i := 3) rfl (by first | exact Or.inl rfl | exact Or.inr (Or.inl rfl) | exact Or.inr (Or.inr rfl))) (de_var (i := 5) rfl (by first | exact Or.inl rfl | exact Or.inr (Or.inl rfl) | exact Or.inr (Or.inr rfl)))) (tgs_sub (fo := fun s18 => R.ok v_found s18) (fi := fun z => R.ok v_goal z))
  (nss_expr (de_append (de_var (i := 4) rfl (by first | exact Or.inl rfl | exact Or.inr (Or.inl rfl) | exact Or.inr (Or.inr rfl))) (da_cons (de_var (i := 5) rfl (by first | exact Or.inl rfl | exact Or.inr (Or.inl rfl) | exact Or.inr (Or.inr rfl))) da_nil))
  (nss_nil (a := ()) (.som (.som (.non (.som (.som (.non .nil))))))) ox0) ox0)
  (nss_nil (a := ()) (.som (.som (.non (.som (.som (.non .nil))))))) ox0)))) (.som (.som (.non (.som (.som (.non .nil)))))) ox0) (fun j24 =>
  (nss_at (mkS := (mk_frontier_again_1 v_code v_name v_found v_todo)) (mkL := (mk_frontier_again_1 v_code v_name v_found v_todo)) (ρ := [some v_code, some v_name, none, some v_found, some v_todo, none]) (n := kt_frontier_again_1 v_code v_name v_found v_todo)
  (nss_nil (a := ()) (.som (.som (.non (.som (.som (.non .nil)))))))))))) (.som (.som (.non (.som (.som (.non .nil)))))) (fun a => ox0)) (fun j26 =>
  (nss_at (mkS := (mkU 6)) (mkL := mkE) (ρ := [some v_code, some v_name, none, some v_found, some v_todo, none]) (n := kt_frontier_again_2 v_code v_name v_found v_todo)
  (nss_ret (de_callTy mc_tuple (by rfl) B.b_tuple (by decide +kernel) (da_cons (de_callB (mc_sorted rfl) (by rfl) B.b_sorted (by decide +kernel) (da_cons (de_var (i := 3) rfl (by first | exact Or.inl rfl | exact Or.inr (Or.inl rfl) | exact Or.inr (Or.inr rfl))) da_nil)) da_nil)) ox0))))) ox0)) ox0))
abbrev N_given_in : List Str := ["code", "name", "block", "rows", "at", "row"]
theorem sc_given_in : FnScope N_given_in ["code", "name", "block"] (defScope (topS 16)) := ⟨rfl, rfl, rfl, by decide +kernel, rfl, by decide +kernel, by decide +kernel⟩
theorem ok_given_in {f f1 : Addr} {fd fd1 : FuncData} {k k1 : Nat} (D : Df K mg "given_in" (topS 16) ["code", "name", "block"] f fd)
    (D1 : Df K mg "blocks_of" (topS 4) ["code", "name"] f1 fd1) (G1 : FnD P w K mg base k1 f1 fd1 ["code", "name"] G_blocks_of) (h1 : k1 ≤ k) (B : Bn mg) (C_GIVING : CstD K mg "GIVING" (.tuple [(.str "store"), (.str "call")])) :
    FnD P w K mg base (k + 1) f fd ["code", "name", "block"] (frameG (r_given_in)) := by
  refine FnD.frame (fnN_of D.fn sc_given_in (fun cdv A outer s H E hg hr xs hx => ?_))
  have nd := sc_given_in.nd
  have hu := hr.units
  have hG : (A.deeper (envOfC "given_in" (defScope (topS 16)) s.heap.objs.size f cdv)).guards = some [] := hg
  have tk : Takes (cxOf (L2.CX P w) P w K mg base N_given_in "given_in" (defScope (topS 16)) f cdv A outer s H E) (fun c d _ H => E c d H) := takes_of rfl rfl rfl rfl
  match xs, hx with
  | [v_code, v_name, v_block], _ =>
  exact (nss_at (mkS := mkU 6) (mkL := mkE) (ρ := [some v_code, some v_name, some v_block, none, none, none]) (n := n_given_in v_code v_name v_block)
  (nss_set (i := 3) (ρ' := fun v_rows => [some v_code, some v_name, some v_block, some v_rows, none, none]) nd rfl (by first | exact Or.inl rfl | exact Or.inr rfl) (de_ix (mx_ix hu) (de_ix (mx_ix hu) (de_call hG G1 (hr.mono h1) D1.bd tk (by rfl) D1.gl D1.fn.kp (da_cons (de_var (i := 0) rfl (by first | exact Or.inl rfl | exact Or.inr (Or.inl rfl) | exact Or.inr (Or.inr rfl))) (da_cons (de_var (i := 1) rfl (by first | exact Or.inl rfl | exact Or.inr (Or.inl rfl) | exact Or.inr (Or.inr rfl))) da_nil))) (de_var (i := 2) rfl (by first | exact Or.inl rfl | exact Or.inr (Or.inl rfl) | exact Or.inr (Or.inr rfl))) (fun _ _ => rfl)) de_int (fun _ _ => rfl)) (fun v_rows =>
  (nss_ret (de_lcP (own := [("at", 4), ("row", 5)]) (g := (gTup K 2 (gCons (gName 4) (gCons (gName 5) gNil)))) (pat := (pT2 pV pV)) (st := (fun p ρ => (fun v ρ => ρ.set 5 (some v)) p.2 ((fun v ρ => ρ.set 4 (some v)) p.1 ρ))) (t := (mB (m2 (phIn false) (m2 phIx (mVar 5) (mC (.int 0))) (mC (.tuple [(.str "store"), (.str "call")]))))) (e := (mTup (aCons (m2 phIx (mVar 5) (mC (.int 0))) (aCons (mTup (aCons (mVar 1) (aCons (mVar 2) (aCons (mVar 4) aNil)))) aNil)))) rfl nd (di_enT (by rfl) B.b_enumerate (da_cons (de_var (i := 3) rfl (by first | exact Or.inl rfl | exact Or.inr (Or.inl rfl) | exact Or.inr (Or.inr rfl))) da_nil)) (blkOk_by (N := N_given_in) (sc := defScope (topS 16)) (by decide +kernel)) (gokP_2 (gokP_n (by decide)) (gokP_n (by decide))) (fun _ _ _ _ _ => (pg_tup rfl (pgs_cons (pg_name (i := 4) nd rfl (by first | exact Or.inl rfl | exact Or.inr rfl)) (pgs_cons (pg_name (i := 5) nd rfl (by first | exact Or.inl rfl | exact Or.inr rfl)) pgs_nil)))) (fun _ _ _ _ _ => (dts_one (dt_cmp (mo_in hu) (de_ix (mx_ix hu) (de_var (i := 5) rfl (by first | exact Or.inl rfl | exact Or.inr (Or.inl rfl) | exact Or.inr (Or.inr rfl))) de_int (fun _ _ => rfl)) (de_cst (by rfl) C_GIVING) (by with_unfolding_all rfl)))) (fun _ _ _ _ _ => (de_tup (da_cons (de_ix (mx_ix hu) (de_var (i := 5) rfl (by first | exact Or.inl rfl | exact Or.inr (Or.inl rfl) | exact Or.inr (Or.inr rfl))) de_int (fun _ _ => rfl)) (da_cons (de_tup (da_cons (de_var (i := 1) rfl (by first | exact Or.inl rfl | exact Or.inr (Or.inl rfl) | exact Or.inr (Or.inr rfl))) (da_cons (de_var (i := 2) rfl (by first | exact Or.inl rfl | exact Or.inr (Or.inl rfl) | exact Or.inr (Or.inr rfl))) (da_cons (de_var (i := 4) rfl (by first | exact Or.inl rfl | exact Or.inr (Or.inl rfl) | exact Or.inr (Or.inr rfl))) da_nil)))) da_nil))))) ox0)) ox0))
abbrev N_merged_blocks : List Str := ["code", "name", "giving", "block"]
theorem sc_merged_blocks : FnScope N_merged_blocks ["code", "name"] (defScope (topS 17)) := ⟨rfl, rfl, rfl, by decide +kernel, rfl, by decide +kernel, by decide +kernel⟩
theorem ok_merged_blocks {f f1 f2 f3 : Addr} {fd fd1 fd2 fd3 : FuncData} {k k1 k2 k3 : Nat} (D : Df K mg "merged_blocks" (topS 17) ["code", "name"] f fd)
    (D1 : Df K mg "reached" (topS 9) ["code", "name"] f1 fd1) (G1 : FnD P w K mg base k1 f1 fd1 ["code", "name"] G_reached) (h1 : k1 ≤ k)
    (D2 : Df K mg "given_in" (topS 16) ["code", "name", "block"] f2 fd2) (G2 : FnD P w K mg base k2 f2 fd2 ["code", "name", "block"] G_given_in) (h2 : k2 ≤ k)
    (D3 : Df K mg "frontier_again" (topS 12) ["code", "name", "blocks"] f3 fd3) (G3 : FnD P w K mg base k3 f3 fd3 ["code", "name", "blocks"] G_frontier_again) (h3 : k3 ≤ k) (B : Bn mg) :
    FnD P w K mg base (k + 1) f fd ["code", "name"] (frameG (r_merged_blocks)) := by
  refine FnD.frame (fnN_of D.fn sc_merged_blocks (fun cdv A outer s H E hg hr xs hx => ?_))
  have nd := sc_merged_blocks.nd
  have hu := hr.units
  have hG : (A.deeper (envOfC "merged_blocks" (defScope (topS 17)) s.heap.objs.size f cdv)).guards = some [] := hg
  have tk : Takes (cxOf (L2.CX P w) P w K mg base N_merged_blocks "merged_blocks" (defScope (topS 17)) f cdv A outer s H E) (fun c d _ H => E c d H) := takes_of rfl rfl rfl rfl
  match xs, hx with
  | [v_code, v_name], _ =>
  exact (nss_at (mkS := mkU 4) (mkL := mkE) (ρ := [some v_code, some v_name, none, none]) (n := n_merged_blocks v_code v_name)
  (nss_setLcP (own := [("block", 3)]) (g := (gName 3)) (pat := pV) (st := (fun v ρ => ρ.set 3 (some v))) (t := (mTru (mCall 3 G_given_in (aCons (mVar 0) (aCons (mVar 1) (aCons (mVar 3) aNil)))))) (e := (mVar 3)) (i := 2) (ρ' := fun v_giving => [some v_code, some v_name, some v_giving, none]) rfl nd rfl rfl (sw_true rfl rfl rfl (by decide +kernel)) (di_seq (de_call hG G1 (hr.mono h1) D1.bd tk (by rfl) D1.gl D1.fn.kp (da_cons (de_var (i := 0) rfl (by first | exact Or.inl rfl | exact Or.inr (Or.inl rfl) | exact Or.inr (Or.inr rfl))) (da_cons (de_var (i := 1) rfl (by first | exact Or.inl rfl | exact Or.inr (Or.inl rfl) | exact Or.inr (Or.inr rfl))) da_nil)))) (blkOk_by (N := N_merged_blocks) (sc := defScope (topS 17)) (by decide +kernel)) (gokP_n (by decide)) (fun _ _ _ _ _ => (pg_name (i := 3) nd rfl (by first | exact Or.inl rfl | exact Or.inr rfl))) (fun _ _ _ _ _ => (dts_one (dt_tru (de_call hG G2 (hr.mono h2) D2.bd takes0 (by rfl) D2.gl D2.fn.kp (da_cons (de_var (i := 0) rfl (by first | exact Or.inl rfl | exact Or.inr (Or.inl rfl) | exact Or.inr (Or.inr rfl))) (da_cons (de_var (i := 1) rfl (by first | exact Or.inl rfl | exact Or.inr (Or.inl rfl) | exact Or.inr (Or.inr rfl))) (da_cons (de_var (i := 3) rfl (by first | exact Or.inl rfl | exact Or.inr (Or.inl rfl) | exact Or.inr (Or.inr rfl))) da_nil))))))) (fun _ _ _ _ _ => (de_var (i := 3) rfl (by first | exact Or.inl rfl | exact Or.inr (Or.inl rfl) | exact Or.inr (Or.inr rfl)))) (fun v_giving =>
  (nss_ret (de_call hG G3 (hr.mono h3) D3.bd tk (by rfl) D3.gl D3.fn.kp (da_cons (de_var (i := 0) rfl (by first | exact Or.inl rfl | exact Or.inr (Or.inl rfl) | exact Or.inr (Or.inr rfl))) (da_cons (de_var (i := 1) rfl (by first | exact Or.inl rfl | exact Or.inr (Or.inl rfl) | exact Or.inr (Or.inr rfl))) (da_cons (de_callTy mc_tuple (by rfl) B.b_tuple (by decide +kernel) (da_cons (de_var (i := 2) rfl (by first | exact Or.inl rfl | exact Or.inr (Or.inl rfl) | exact Or.inr (Or.inr rfl))) da_nil)) da_nil)))) ox0)) ox0))
abbrev N_versions_of : List Str := ["code", "name", "found", "block"]
theorem sc_versions_of : FnScope N_versions_of ["code", "name"] (defScope (topS 18)) := ⟨rfl, rfl, rfl, by decide +kernel, rfl, by decide +kernel, by decide +kernel⟩
theorem ok_versions_of {f f1 f2 f3 : Addr} {fd fd1 fd2 fd3 : FuncData} {k k1 k2 k3 : Nat} (D : Df K mg "versions_of" (topS 18) ["code", "name"] f fd)
    (D1 : Df K mg "merged_blocks" (topS 17) ["code", "name"] f1 fd1) (G1 : FnD P w K mg base k1 f1 fd1 ["code", "name"] G_merged_blocks) (h1 : k1 ≤ k)
    (D2 : Df K mg "reached" (topS 9) ["code", "name"] f2 fd2) (G2 : FnD P w K mg base k2 f2 fd2 ["code", "name"] G_reached) (h2 : k2 ≤ k)
    (D3 : Df K mg "given_in" (topS 16) ["code", "name", "block"] f3 fd3) (G3 : FnD P w K mg base k3 f3 fd3 ["code", "name", "block"] G_given_in) (h3 : k3 ≤ k) (B : Bn mg) (C_BEGIN : CstD K mg "BEGIN" (.tuple [(.str "begin")])) :
    FnD P w K mg base (k + 1) f fd ["code", "name"] (frameG (r_versions_of)) := by
  refine FnD.frame (fnN_of D.fn sc_versions_of (fun cdv A outer s H E hg hr xs hx => ?_))
  have nd := sc_versions_of.nd
  have hu := hr.units
  have hG : (A.deeper (envOfC "versions_of" (defScope (topS 18)) s.heap.objs.size f cdv)).guards = some [] := hg
  have tk : Takes (cxOf (L2.CX P w) P w K mg base N_versions_of "versions_of" (defScope (topS 18)) f cdv A outer s H E) (fun c d _ H => E c d H) := takes_of rfl rfl rfl rfl
  match xs, hx with
  | [v_code, v_name], _ =>
  exact (nss_at (mkS := mkU 4) (mkL := mkE) (ρ := [some v_code, some v_name, none, none]) (n := n_versions_of v_code v_name)
  (nss_set (i := 2) (ρ' := fun v_found => [some v_code, some v_name, some v_found, none]) nd rfl (by first | exact Or.inl rfl | exact Or.inr rfl) (de_new (da_cons (de_cst (by rfl) C_BEGIN) da_nil)) (fun v_found =>
  (nss_expr (de_extend (de_var (i := 2) rfl (by first | exact Or.inl rfl | exact Or.inr (Or.inl rfl) | exact Or.inr (Or.inr rfl))) (da_cons (de_lcP (own := [("block", 3)]) (g := (gName 3)) (pat := pV) (st := (fun v ρ => ρ.set 3 (some v))) (t := tYesM) (e := (mTup (aCons (mC (.str "merge")) (aCons (mVar 3) aNil)))) rfl nd (di_seq (de_call hG G1 (hr.mono h1) D1.bd tk (by rfl) D1.gl D1.fn.kp (da_cons (de_var (i := 0) rfl (by first | exact Or.inl rfl | exact Or.inr (Or.inl rfl) | exact Or.inr (Or.inr rfl))) (da_cons (de_var (i := 1) rfl (by first | exact Or.inl rfl | exact Or.inr (Or.inl rfl) | exact Or.inr (Or.inr rfl))) da_nil)))) (blkOk_by (N := N_versions_of) (sc := defScope (topS 18)) (by decide +kernel)) (gokP_n (by decide)) (fun _ _ _ _ _ => (pg_name (i := 3) nd rfl (by first | exact Or.inl rfl | exact Or.inr rfl))) (fun _ _ _ _ _ => dts_nil) (fun _ _ _ _ _ => (de_tup (da_cons de_str (da_cons (de_var (i := 3) rfl (by first | exact Or.inl rfl | exact Or.inr (Or.inl rfl) | exact Or.inr (Or.inr rfl))) da_nil))))) da_nil))
  (nss_cons (mk1 := (mk_versions_of_1 v_code v_name v_found)) (ns_forP (mk1 := (mk_versions_of_1 v_code v_name v_found)) (ρb := fun p a => [some v_code, some v_name, some v_found, some p]) (a0 := ()) PassesOwn.leaving rfl (di_seq (de_call hG G2 (hr.mono h2) D2.bd tk (by rfl) D2.gl D2.fn.kp (da_cons (de_var (i := 0) rfl (by first | exact Or.inl rfl | exact Or.inr (Or.inl rfl) | exact Or.inr (Or.inr rfl))) (da_cons (de_var (i := 1) rfl (by first | exact Or.inl rfl | exact Or.inr (Or.inl rfl) | exact Or.inr (Or.inr rfl))) da_nil)))) (dg_name (i := 3) nd rfl (by first | exact Or.inl rfl | exact Or.inr rfl)) tgp_n (fun p a =>
  (let v_block : Vl := p; (nss_at (mkS := (mk_versions_of_1 v_code v_name v_found)) (mkL := (mk_versions_of_1 v_code v_name v_found)) (ρ := [some v_code, some v_name, some v_found, some v_block]) (n := nb_versions_of_1 v_code v_name v_found v_block)
  (nss_expr (de_extend (de_var (i := 2) rfl (by first | exact Or.inl rfl | exact Or.inr (Or.inl rfl) | exact Or.inr (Or.inr rfl))) (da_cons (de_call hG G3 (hr.mono h3) D3.bd tk (by rfl) D3.gl D3.fn.kp (da_cons (de_var (i := 0) rfl (by first | exact Or.inl rfl | exact Or.inr (Or.inl rfl) | exact Or.inr (Or.inr rfl))) (da_cons (de_var (i := 1) rfl (by first | exact Or.inl rfl | exact Or.inr (Or.inl rfl) | exact Or.inr (Or.inr rfl))) (da_cons (de_var (i := 3) rfl (by first | exact Or.inl rfl | exact Or.inr (Or.inl rfl) | exact Or.inr (Or.inr rfl))) da_nil)))) da_nil))
  (nss_nil (a := ()) (.som (.som (.som (.non .nil))))) ox0)))) (.som (.som (.som (.non .nil)))) ox0) (fun j16 =>
  (nss_at (mkS := (mkU 4)) (mkL := mkE) (ρ := [some v_code, some v_name, some v_found, none]) (n := kt_versions_of_1 v_code v_name v_found)
  (nss_ret (de_callTy mc_tuple (by rfl) B.b_tuple (by decide +kernel) (da_cons (de_callB (mc_sortedM hu) (by rfl) B.b_sorted (by decide +kernel) (da_cons (de_var (i := 2) rfl (by first | exact Or.inl rfl | exact Or.inr (Or.inl rfl) | exact Or.inr (Or.inr rfl))) da_nil)) da_nil)) ox0)))) ox0)) ox0))
abbrev N_law_well : List Str := ["_law_script"]
theorem sc_law_well : FnScope N_law_well ["_law_script"] (defScope (topS 20)) := ⟨rfl, rfl, rfl, by decide +kernel, rfl, by decide +kernel, by decide +kernel⟩
theorem ok_law_well {f : Addr} {fd : FuncData} {k : Nat} (D : Df K mg "_law_well" (topS 20) ["_law_script"] f fd) (B : Bn mg) :
    FnD P w K mg base (k + 1) f fd ["_law_script"] (r_law_well) := by
  refine (fnN_of D.fn sc_law_well (fun cdv A outer s H E hg hr xs hx => ?_))
  have nd := sc_law_well.nd
  have hu := hr.units
  have hG : (A.deeper (envOfC "_law_well" (defScope (topS 20)) s.heap.objs.size f cdv)).guards = some [] := hg
  have tk : Takes (cxOf (L2.CX P w) P w K mg base N_law_well "_law_well" (defScope (topS 20)) f cdv A outer s H E) (fun c d _ H => E c d H) := takes_of rfl rfl rfl rfl
  match xs, hx with
  | [w_script], _ =>
  exact (nss_at (mkS := mkU 1) (mkL := mkE) (ρ := [some w_script]) (n := n_law_well w_script)
  (nss_ret (de_new (da_cons (de_slice (de_var (i := 0) rfl (by first | exact Or.inl rfl | exact Or.inr (Or.inl rfl) | exact Or.inr (Or.inr rfl))) do_none (do_some de_int)) (da_cons de_int (da_cons de_int (da_cons de_int da_nil))))) ox0))
abbrev N_law_dip : List Str := ["_law_well_here", "_law_many", "_law_turn", "_law_at", "_law_figure", "_law_mixed", "_law_found"]
theorem sc_law_dip : FnScope N_law_dip ["_law_well_here", "_law_many"] (defScope (topS 21)) := ⟨rfl, rfl, rfl, by decide +kernel, rfl, by decide +kernel, by decide +kernel⟩
theorem ok_law_dip {f : Addr} {fd : FuncData} {k : Nat} (D : Df K mg "_law_dip" (topS 21) ["_law_well_here", "_law_many"] f fd) (B : Bn mg) :
    FnD P w K mg base (k + 1) f fd ["_law_well_here", "_law_many"] (frameG (r_law_dip)) := by
  refine FnD.frame (fnN_of D.fn sc_law_dip (fun cdv A outer s H E hg hr xs hx => ?_))
  have nd := sc_law_dip.nd
  have hu := hr.units
  have hG : (A.deeper (envOfC "_law_dip" (defScope (topS 21)) s.heap.objs.size f cdv)).guards = some [] := hg
  have tk : Takes (cxOf (L2.CX P w) P w K mg base N_law_dip "_law_dip" (defScope (topS 21)) f cdv A outer s H E) (fun c d _ H => E c d H) := takes_of rfl rfl rfl rfl
  match xs, hx with
  | [w_well_here, w_many], _ =>
  exact (nss_at (mkS := mkU 7) (mkL := mkE) (ρ := [some w_well_here, some w_many, none, none, none, none, none]) (n := n_law_dip w_well_here w_many)
  (nss_set (i := 2) (ρ' := fun w_turn => [some w_well_here, some w_many, some w_turn, none, none, none, none]) nd rfl (by first | exact Or.inl rfl | exact Or.inr rfl) (de_ix (mx_ix hu) (de_var (i := 0) rfl (by first | exact Or.inl rfl | exact Or.inr (Or.inl rfl) | exact Or.inr (Or.inr rfl))) de_int (fun _ _ => rfl)) (fun w_turn =>
  (nss_asgS (de_op mo_add (de_var (i := 2) rfl (by first | exact Or.inl rfl | exact Or.inr (Or.inl rfl) | exact Or.inr (Or.inr rfl))) de_int) (dg_sub hu (de_var (i := 0) rfl (by first | exact Or.inl rfl | exact Or.inr (Or.inl rfl) | exact Or.inr (Or.inr rfl))) de_int) (tgs_sub (fo := fun s3 => R.ok w_well_here s3) (fi := fun z => R.ok (Vl.dat (.int 2)) z))
  (nss_ifx (mk0 := mkE) (dt_cmp mo_gt (de_ix (mx_ix hu) (de_var (i := 0) rfl (by first | exact Or.inl rfl | exact Or.inr (Or.inl rfl) | exact Or.inr (Or.inr rfl))) de_int (fun _ _ => rfl)) de_int (nomark _))
  (nss_set (i := 6) (ρ' := fun w_found => [some w_well_here, some w_many, some w_turn, none, none, none, some w_found]) nd rfl (by first | exact Or.inl rfl | exact Or.inr rfl) (de_op mo_mod (de_ix (mx_ix hu) (de_var (i := 0) rfl (by first | exact Or.inl rfl | exact Or.inr (Or.inl rfl) | exact Or.inr (Or.inr rfl))) de_int (fun _ _ => rfl)) (de_var (i := 1) rfl (by first | exact Or.inl rfl | exact Or.inr (Or.inl rfl) | exact Or.inr (Or.inr rfl)))) (fun w_found =>
  (nss_asgS (de_op mo_div (de_ix (mx_ix hu) (de_var (i := 0) rfl (by first | exact Or.inl rfl | exact Or.inr (Or.inl rfl) | exact Or.inr (Or.inr rfl))) de_int (fun _ _ => rfl)) (de_var (i := 1) rfl (by first | exact Or.inl rfl | exact Or.inr (Or.inl rfl) | exact Or.inr (Or.inr rfl)))) (dg_sub hu (de_var (i := 0) rfl (by first | exact Or.inl rfl | exact Or.inr (Or.inl rfl) | exact Or.inr (Or.inr rfl))) de_int) (tgs_sub (fo := fun s17 => R.ok w_well_here s17) (fi := fun z => R.ok (Vl.dat (.int 1)) z))
  (nss_ret (de_var (i := 6) rfl (by first | exact Or.inl rfl | exact Or.inr (Or.inl rfl) | exact Or.inr (Or.inr rfl))) ox0) ox0)) ox0)
  (nss_set (i := 3) (ρ' := fun w_at => [some w_well_here, some w_many, some w_turn, some w_at, none, none, none]) nd rfl (by first | exact Or.inl rfl | exact Or.inr rfl) (de_ix (mx_ix hu) (de_var (i := 0) rfl (by first | exact Or.inl rfl | exact Or.inr (Or.inl rfl) | exact Or.inr (Or.inr rfl))) de_int (fun _ _ => rfl)) (fun w_at =>
  (nss_asgS (de_op mo_add (de_var (i := 3) rfl (by first | exact Or.inl rfl | exact Or.inr (Or.inl rfl) | exact Or.inr (Or.inr rfl))) de_int) (dg_sub hu (de_var (i := 0) rfl (by first | exact Or.inl rfl | exact Or.inr (Or.inl rfl) | exact Or.inr (Or.inr rfl))) de_int) (tgs_sub (fo := fun s23 => R.ok w_well_here s23) (fi := fun z => R.ok (Vl.dat (.int 3)) z))
  (nss_set (i := 4) (ρ' := fun w_figure => [some w_well_here, some w_many, some w_turn, some w_at, some w_figure, none, none]) nd rfl (by first | exact Or.inl rfl | exact Or.inr rfl) (de_if (dt_cmp (mo_ne hu) (de_ix (mx_ix hu) (de_var (i := 0) rfl (by first | exact Or.inl rfl | exact Or.inr (Or.inl rfl) | exact Or.inr (Or.inr rfl))) de_int (fun _ _ => rfl)) (de_lst da_nil) (nomark _)) (de_ix (mx_ix hu) (de_ix (mx_ix hu) (de_var (i := 0) rfl (by first | exact Or.inl rfl | exact Or.inr (Or.inl rfl) | exact Or.inr (Or.inr rfl))) de_int (fun _ _ => rfl)) (de_op mo_mod (de_var (i := 3) rfl (by first | exact Or.inl rfl | exact Or.inr (Or.inl rfl) | exact Or.inr (Or.inr rfl))) (de_callB mc_len (by rfl) B.b_len PySem.boot_len (da_cons (de_ix (mx_ix hu) (de_var (i := 0) rfl (by first | exact Or.inl rfl | exact Or.inr (Or.inl rfl) | exact Or.inr (Or.inr rfl))) de_int (fun _ _ => rfl)) da_nil))) (fun _ _ => rfl)) de_int) (fun w_figure =>
  (nss_ifx (mk0 := mkE) (dt_w (dw_and (dt_cmp mo_ge (de_var (i := 4) rfl (by first | exact Or.inl rfl | exact Or.inr (Or.inl rfl) | exact Or.inr (Or.inr rfl))) (de_op mo_pow de_int de_int) (nomark _)) (dw_and1 (dt_cmp mo_lt (de_var (i := 3) rfl (by first | exact Or.inl rfl | exact Or.inr (Or.inl rfl) | exact Or.inr (Or.inr rfl))) (de_callB mc_len (by rfl) B.b_len PySem.boot_len (da_cons (de_ix (mx_ix hu) (de_var (i := 0) rfl (by first | exact Or.inl rfl | exact Or.inr (Or.inl rfl) | exact Or.inr (Or.inr rfl))) de_int (fun _ _ => rfl)) da_nil)) (nomark _)))))
  (nss_asgS (de_op mo_div (de_var (i := 4) rfl (by first | exact Or.inl rfl | exact Or.inr (Or.inl rfl) | exact Or.inr (Or.inr rfl))) (de_var (i := 1) rfl (by first | exact Or.inl rfl | exact Or.inr (Or.inl rfl) | exact Or.inr (Or.inr rfl)))) (dg_sub hu (de_var (i := 0) rfl (by first | exact Or.inl rfl | exact Or.inr (Or.inl rfl) | exact Or.inr (Or.inr rfl))) de_int) (tgs_sub (fo := fun s61 => R.ok w_well_here s61) (fi := fun z => R.ok (Vl.dat (.int 1)) z))
  (nss_ret (de_op mo_mod (de_var (i := 4) rfl (by first | exact Or.inl rfl | exact Or.inr (Or.inl rfl) | exact Or.inr (Or.inr rfl))) (de_var (i := 1) rfl (by first | exact Or.inl rfl | exact Or.inr (Or.inl rfl) | exact Or.inr (Or.inr rfl)))) ox0) ox0)
  (nss_set (i := 5) (ρ' := fun w_mixed => [some w_well_here, some w_many, some w_turn, some w_at, some w_figure, some w_mixed, none]) nd rfl (by first | exact Or.inl rfl | exact Or.inr rfl) (de_op mo_add (de_op mo_add (de_op mo_add (de_op mo_mod (de_var (i := 4) rfl (by first | exact Or.inl rfl | exact Or.inr (Or.inl rfl) | exact Or.inr (Or.inr rfl))) de_int) (de_op mo_mul (de_op mo_mul de_int (de_var (i := 2) rfl (by first | exact Or.inl rfl | exact Or.inr (Or.inl rfl) | exact Or.inr (Or.inr rfl)))) (de_var (i := 2) rfl (by first | exact Or.inl rfl | exact Or.inr (Or.inl rfl) | exact Or.inr (Or.inr rfl))))) (de_op mo_mul de_int (de_var (i := 2) rfl (by first | exact Or.inl rfl | exact Or.inr (Or.inl rfl) | exact Or.inr (Or.inr rfl))))) de_int) (fun w_mixed =>
  (nss_set (i := 5) (ρ' := fun w_mixed => [some w_well_here, some w_many, some w_turn, some w_at, some w_figure, some w_mixed, none]) nd rfl (by first | exact Or.inl rfl | exact Or.inr rfl) (de_op mo_mod (de_op mo_add (de_op mo_add (de_op mo_mul (de_var (i := 5) rfl (by first | exact Or.inl rfl | exact Or.inr (Or.inl rfl) | exact Or.inr (Or.inr rfl))) (de_var (i := 5) rfl (by first | exact Or.inl rfl | exact Or.inr (Or.inl rfl) | exact Or.inr (Or.inr rfl)))) (de_op mo_mul de_int (de_var (i := 2) rfl (by first | exact Or.inl rfl | exact Or.inr (Or.inl rfl) | exact Or.inr (Or.inr rfl))))) de_int) de_int) (fun w_mixed =>
  (nss_ret (de_op mo_mod (de_op mo_div (de_op mo_mod (de_op mo_add (de_op mo_mul (de_var (i := 5) rfl (by first | exact Or.inl rfl | exact Or.inr (Or.inl rfl) | exact Or.inr (Or.inr rfl))) (de_var (i := 5) rfl (by first | exact Or.inl rfl | exact Or.inr (Or.inl rfl) | exact Or.inr (Or.inr rfl)))) (de_op mo_mul de_int (de_var (i := 5) rfl (by first | exact Or.inl rfl | exact Or.inr (Or.inl rfl) | exact Or.inr (Or.inr rfl))))) de_int) de_int) (de_var (i := 1) rfl (by first | exact Or.inl rfl | exact Or.inr (Or.inl rfl) | exact Or.inr (Or.inr rfl)))) ox0)) ox0)) ox0) ox0)) ox0) ox0)) ox0) ox0) ox0)) ox0))
abbrev N_law_operand_k55 : List Str := ["_law_well_here"]
theorem sc_law_operand_k55 : FnScope N_law_operand_k55 ["_law_well_here"] (defScope (topS 22)) := ⟨rfl, rfl, rfl, by decide +kernel, rfl, by decide +kernel, by decide +kernel⟩
theorem ok_law_operand_k55 {f f1 : Addr} {fd fd1 : FuncData} {k k1 : Nat} (D : Df K mg "_law_operand" (topS 22) ["_law_well_here"] f fd)
    (D1 : Df K mg "_law_dip" (topS 21) ["_law_well_here", "_law_many"] f1 fd1) (G1 : FnD P w K mg base k1 f1 fd1 ["_law_well_here", "_law_many"] G_law_dip) (h1 : k1 ≤ k) (B : Bn mg) :
    FnD P w K mg base (k + 1) f fd ["_law_well_here"] (frameG (r_law_operand_k55)) := by
  refine FnD.frame (fnN_of D.fn sc_law_operand_k55 (fun cdv A outer s H E hg hr xs hx => ?_))
  have nd := sc_law_operand_k55.nd
  have hu := hr.units
  have hG : (A.deeper (envOfC "_law_operand" (defScope (topS 22)) s.heap.objs.size f cdv)).guards = some [] := hg
  have tk : Takes (cxOf (L2.CX P w) P w K mg base N_law_operand_k55 "_law_operand" (defScope (topS 22)) f cdv A outer s H E) (fun c d _ H => E c d H) := takes_of rfl rfl rfl rfl
  match xs, hx with
  | [w_well_here], _ =>
  exact (nss_at (mkS := mkU 1) (mkL := mkE) (ρ := [some w_well_here]) (n := n_law_operand_k55 w_well_here)
  (nss_ret (de_ix (mx_ix hu) (de_lst (da_cons de_int (da_cons de_int (da_cons de_int (da_cons de_str (da_cons de_str (da_cons de_str (da_cons de_int da_nil)))))))) (de_call hG G1 (hr.mono h1) D1.bd tk (by rfl) D1.gl D1.fn.kp (da_cons (de_var (i := 0) rfl (by first | exact Or.inl rfl | exact Or.inr (Or.inl rfl) | exact Or.inr (Or.inr rfl))) (da_cons de_int da_nil))) (fun _ _ => rfl)) ox0))
abbrev N_law_address_k55 : List Str := ["_law_well_here", "_law_way", "_law_some"]
theorem sc_law_address_k55 : FnScope N_law_address_k55 ["_law_well_here"] (defScope (topS 23)) := ⟨rfl, rfl, rfl, by decide +kernel, rfl, by decide +kernel, by decide +kernel⟩
theorem ok_law_address_k55 {f f1 : Addr} {fd fd1 : FuncData} {k k1 : Nat} (D : Df K mg "_law_address" (topS 23) ["_law_well_here"] f fd)
    (D1 : Df K mg "_law_dip" (topS 21) ["_law_well_here", "_law_many"] f1 fd1) (G1 : FnD P w K mg base k1 f1 fd1 ["_law_well_here", "_law_many"] G_law_dip) (h1 : k1 ≤ k) (B : Bn mg) :
    FnD P w K mg base (k + 1) f fd ["_law_well_here"] (frameG (r_law_address_k55)) := by
  refine FnD.frame (fnN_of D.fn sc_law_address_k55 (fun cdv A outer s H E hg hr xs hx => ?_))
  have nd := sc_law_address_k55.nd
  have hu := hr.units
  have hG : (A.deeper (envOfC "_law_address" (defScope (topS 23)) s.heap.objs.size f cdv)).guards = some [] := hg
  have tk : Takes (cxOf (L2.CX P w) P w K mg base N_law_address_k55 "_law_address" (defScope (topS 23)) f cdv A outer s H E) (fun c d _ H => E c d H) := takes_of rfl rfl rfl rfl
  match xs, hx with
  | [w_well_here], _ =>
  exact (nss_at (mkS := mkU 3) (mkL := mkE) (ρ := [some w_well_here, none, none]) (n := n_law_address_k55 w_well_here)
  (nss_set (i := 1) (ρ' := fun w_way => [some w_well_here, some w_way, none]) nd rfl (by first | exact Or.inl rfl | exact Or.inr rfl) (de_call hG G1 (hr.mono h1) D1.bd tk (by rfl) D1.gl D1.fn.kp (da_cons (de_var (i := 0) rfl (by first | exact Or.inl rfl | exact Or.inr (Or.inl rfl) | exact Or.inr (Or.inr rfl))) (da_cons de_int da_nil))) (fun w_way =>
  (nss_ifx (mk0 := mkE) (dt_cmp mo_lt (de_var (i := 1) rfl (by first | exact Or.inl rfl | exact Or.inr (Or.inl rfl) | exact Or.inr (Or.inr rfl))) de_int (nomark _))
  (nss_ret (de_ix (mx_ix hu) (de_lst (da_cons (de_tup (da_cons (de_tup (da_cons de_str da_nil)) (da_cons de_int (da_cons de_int da_nil)))) (da_cons (de_tup (da_cons (de_tup (da_cons de_str da_nil)) (da_cons de_int (da_cons de_int da_nil)))) (da_cons (de_tup (da_cons (de_tup (da_cons de_str da_nil)) (da_cons de_int (da_cons de_int da_nil)))) da_nil)))) (de_var (i := 1) rfl (by first | exact Or.inl rfl | exact Or.inr (Or.inl rfl) | exact Or.inr (Or.inr rfl))) (fun _ _ => rfl)) ox0)
  (nss_set (i := 2) (ρ' := fun w_some => [some w_well_here, some w_way, some w_some]) nd rfl (by first | exact Or.inl rfl | exact Or.inr rfl) (de_lst (da_cons (de_tup (da_cons (de_tup (da_cons de_str da_nil)) (da_cons de_int (da_cons de_str da_nil)))) (da_cons (de_tup (da_cons (de_tup (da_cons de_str (da_cons de_str da_nil))) (da_cons de_str (da_cons de_int da_nil)))) (da_cons (de_tup (da_cons (de_tup (da_cons de_str (da_cons de_str da_nil))) (da_cons de_str (da_cons de_str da_nil)))) (da_cons (de_tup (da_cons (de_tup (da_cons de_str da_nil)) (da_cons de_str (da_cons de_str da_nil)))) (da_cons (de_tup (da_cons (de_tup (da_cons de_str (da_cons de_str da_nil))) (da_cons de_int (da_cons de_str da_nil)))) da_nil)))))) (fun w_some =>
  (nss_ret (de_ix (mx_ix hu) (de_var (i := 2) rfl (by first | exact Or.inl rfl | exact Or.inr (Or.inl rfl) | exact Or.inr (Or.inr rfl))) (de_op mo_sub (de_var (i := 1) rfl (by first | exact Or.inl rfl | exact Or.inr (Or.inl rfl) | exact Or.inr (Or.inr rfl))) de_int) (fun _ _ => rfl)) ox0)) ox0) ox0)) ox0))
abbrev N_law_row_k55 : List Str := ["_law_well_here", "_law_others", "_law_way", "_law_some"]
theorem sc_law_row_k55 : FnScope N_law_row_k55 ["_law_well_here", "_law_others"] (defScope (topS 24)) := ⟨rfl, rfl, rfl, by decide +kernel, rfl, by decide +kernel, by decide +kernel⟩
theorem ok_law_row_k55 {f f1 f2 f3 : Addr} {fd fd1 fd2 fd3 : FuncData} {k k1 k2 k3 : Nat} (D : Df K mg "_law_row" (topS 24) ["_law_well_here", "_law_others"] f fd)
    (D1 : Df K mg "_law_dip" (topS 21) ["_law_well_here", "_law_many"] f1 fd1) (G1 : FnD P w K mg base k1 f1 fd1 ["_law_well_here", "_law_many"] G_law_dip) (h1 : k1 ≤ k)
    (D2 : Df K mg "_law_address" (topS 23) ["_law_well_here"] f2 fd2) (G2 : FnD P w K mg base k2 f2 fd2 ["_law_well_here"] G_law_address_k55) (h2 : k2 ≤ k)
    (D3 : Df K mg "_law_operand" (topS 22) ["_law_well_here"] f3 fd3) (G3 : FnD P w K mg base k3 f3 fd3 ["_law_well_here"] G_law_operand_k55) (h3 : k3 ≤ k) (B : Bn mg) :
    FnD P w K mg base (k + 1) f fd ["_law_well_here", "_law_others"] (frameG (r_law_row_k55)) := by
  refine FnD.frame (fnN_of D.fn sc_law_row_k55 (fun cdv A outer s H E hg hr xs hx => ?_))
  have nd := sc_law_row_k55.nd
  have hu := hr.units
  have hG : (A.deeper (envOfC "_law_row" (defScope (topS 24)) s.heap.objs.size f cdv)).guards = some [] := hg
  have tk : Takes (cxOf (L2.CX P w) P w K mg base N_law_row_k55 "_law_row" (defScope (topS 24)) f cdv A outer s H E) (fun c d _ H => E c d H) := takes_of rfl rfl rfl rfl
  match xs, hx with
  | [w_well_here, w_others], _ =>
  exact (nss_at (mkS := mkU 4) (mkL := mkE) (ρ := [some w_well_here, some w_others, none, none]) (n := n_law_row_k55 w_well_here w_others)
  (nss_set (i := 2) (ρ' := fun w_way => [some w_well_here, some w_others, some w_way, none]) nd rfl (by first | exact Or.inl rfl | exact Or.inr rfl) (de_call hG G1 (hr.mono h1) D1.bd tk (by rfl) D1.gl D1.fn.kp (da_cons (de_var (i := 0) rfl (by first | exact Or.inl rfl | exact Or.inr (Or.inl rfl) | exact Or.inr (Or.inr rfl))) (da_cons de_int da_nil))) (fun w_way =>
  (nss_ifx (mk0 := mkE) (dt_cmp mo_lt (de_var (i := 2) rfl (by first | exact Or.inl rfl | exact Or.inr (Or.inl rfl) | exact Or.inr (Or.inr rfl))) de_int (nomark _))
  (nss_ret (de_tup (da_cons de_str (da_cons (de_call hG G2 (hr.mono h2) D2.bd tk (by rfl) D2.gl D2.fn.kp (da_cons (de_var (i := 0) rfl (by first | exact Or.inl rfl | exact Or.inr (Or.inl rfl) | exact Or.inr (Or.inr rfl))) da_nil)) (da_cons (de_call hG G3 (hr.mono h3) D3.bd tk (by rfl) D3.gl D3.fn.kp (da_cons (de_var (i := 0) rfl (by first | exact Or.inl rfl | exact Or.inr (Or.inl rfl) | exact Or.inr (Or.inr rfl))) da_nil)) da_nil)))) ox0)
  (nss_ifx (mk0 := mkE) (dt_cmp mo_lt (de_var (i := 2) rfl (by first | exact Or.inl rfl | exact Or.inr (Or.inl rfl) | exact Or.inr (Or.inr rfl))) de_int (nomark _))
  (nss_ret (de_tup (da_cons de_str (da_cons (de_ix (mx_ix hu) (de_lst (da_cons de_str (da_cons de_str da_nil))) (de_call hG G1 (hr.mono h1) D1.bd tk (by rfl) D1.gl D1.fn.kp (da_cons (de_var (i := 0) rfl (by first | exact Or.inl rfl | exact Or.inr (Or.inl rfl) | exact Or.inr (Or.inr rfl))) (da_cons de_int da_nil))) (fun _ _ => rfl)) (da_cons (de_call hG G2 (hr.mono h2) D2.bd tk (by rfl) D2.gl D2.fn.kp (da_cons (de_var (i := 0) rfl (by first | exact Or.inl rfl | exact Or.inr (Or.inl rfl) | exact Or.inr (Or.inr rfl))) da_nil)) da_nil)))) ox0)
  (nss_ifx (mk0 := mkE) (dt_w (dw_and (dt_cmp mo_lt (de_var (i := 2) rfl (by first | exact Or.inl rfl | exact Or.inr (Or.inl rfl) | exact Or.inr (Or.inr rfl))) de_int (nomark _)) (dw_and1 (dt_cmp (mo_ne hu) (de_var (i := 1) rfl (by first | exact Or.inl rfl | exact Or.inr (Or.inl rfl) | exact Or.inr (Or.inr rfl))) (de_lst da_nil) (nomark _)))))
  (nss_ret (de_tup (da_cons de_str (da_cons (de_ix (mx_ix hu) (de_var (i := 1) rfl (by first | exact Or.inl rfl | exact Or.inr (Or.inl rfl) | exact Or.inr (Or.inr rfl))) (de_call hG G1 (hr.mono h1) D1.bd tk (by rfl) D1.gl D1.fn.kp (da_cons (de_var (i := 0) rfl (by first | exact Or.inl rfl | exact Or.inr (Or.inl rfl) | exact Or.inr (Or.inr rfl))) (da_cons (de_callB mc_len (by rfl) B.b_len PySem.boot_len (da_cons (de_var (i := 1) rfl (by first | exact Or.inl rfl | exact Or.inr (Or.inl rfl) | exact Or.inr (Or.inr rfl))) da_nil)) da_nil))) (fun _ _ => rfl)) da_nil))) ox0)
  (nss_set (i := 3) (ρ' := fun w_some => [some w_well_here, some w_others, some w_way, some w_some]) nd rfl (by first | exact Or.inl rfl | exact Or.inr rfl) (de_lst (da_cons (de_tup (da_cons de_str (da_cons (de_tup (da_cons (de_tup (da_cons de_str da_nil)) (da_cons de_int (da_cons de_str da_nil)))) da_nil))) (da_cons (de_tup (da_cons de_str (da_cons de_str (da_cons de_str (da_cons de_str (da_cons de_int da_nil)))))) (da_cons (de_tup (da_cons de_str (da_cons de_str da_nil))) (da_cons (de_tup (da_cons de_str (da_cons de_str (da_cons de_str (da_cons de_str (da_cons de_int da_nil)))))) da_nil))))) (fun w_some =>
  (nss_ret (de_ix (mx_ix hu) (de_var (i := 3) rfl (by first | exact Or.inl rfl | exact Or.inr (Or.inl rfl) | exact Or.inr (Or.inr rfl))) (de_call hG G1 (hr.mono h1) D1.bd tk (by rfl) D1.gl D1.fn.kp (da_cons (de_var (i := 0) rfl (by first | exact Or.inl rfl | exact Or.inr (Or.inl rfl) | exact Or.inr (Or.inr rfl))) (da_cons de_int da_nil))) (fun _ _ => rfl)) ox0)) ox0) ox0) ox0) ox0)) ox0))
abbrev N_law_end_k55 : List Str := ["_law_well_here", "_law_many", "_law_block", "_law_way"]
theorem sc_law_end_k55 : FnScope N_law_end_k55 ["_law_well_here", "_law_many", "_law_block"] (defScope (topS 25)) := ⟨rfl, rfl, rfl, by decide +kernel, rfl, by decide +kernel, by decide +kernel⟩
theorem ok_law_end_k55 {f f1 : Addr} {fd fd1 : FuncData} {k k1 : Nat} (D : Df K mg "_law_end" (topS 25) ["_law_well_here", "_law_many", "_law_block"] f fd)
    (D1 : Df K mg "_law_dip" (topS 21) ["_law_well_here", "_law_many"] f1 fd1) (G1 : FnD P w K mg base k1 f1 fd1 ["_law_well_here", "_law_many"] G_law_dip) (h1 : k1 ≤ k) (B : Bn mg) :
    FnD P w K mg base (k + 1) f fd ["_law_well_here", "_law_many", "_law_block"] (frameG (r_law_end_k55)) := by
  refine FnD.frame (fnN_of D.fn sc_law_end_k55 (fun cdv A outer s H E hg hr xs hx => ?_))
  have nd := sc_law_end_k55.nd
  have hu := hr.units
  have hG : (A.deeper (envOfC "_law_end" (defScope (topS 25)) s.heap.objs.size f cdv)).guards = some [] := hg
  have tk : Takes (cxOf (L2.CX P w) P w K mg base N_law_end_k55 "_law_end" (defScope (topS 25)) f cdv A outer s H E) (fun c d _ H => E c d H) := takes_of rfl rfl rfl rfl
  match xs, hx with
  | [w_well_here, w_many, w_block], _ =>
  exact (nss_at (mkS := mkU 4) (mkL := mkE) (ρ := [some w_well_here, some w_many, some w_block, none]) (n := n_law_end_k55 w_well_here w_many w_block)
  (nss_set (i := 3) (ρ' := fun w_way => [some w_well_here, some w_many, some w_block, some w_way]) nd rfl (by first | exact Or.inl rfl | exact Or.inr rfl) (de_call hG G1 (hr.mono h1) D1.bd tk (by rfl) D1.gl D1.fn.kp (da_cons (de_var (i := 0) rfl (by first | exact Or.inl rfl | exact Or.inr (Or.inl rfl) | exact Or.inr (Or.inr rfl))) (da_cons de_int da_nil))) (fun w_way =>
  (nss_ifx (mk0 := mkE) (dt_w (dw_or (dt_cmp mo_lt (de_var (i := 3) rfl (by first | exact Or.inl rfl | exact Or.inr (Or.inl rfl) | exact Or.inr (Or.inr rfl))) de_int (nomark _)) (dw_or1 (dt_w (dw_and (dt_cmp (mo_eq hu) (de_var (i := 2) rfl (by first | exact Or.inl rfl | exact Or.inr (Or.inl rfl) | exact Or.inr (Or.inr rfl))) (de_op mo_sub (de_var (i := 1) rfl (by first | exact Or.inl rfl | exact Or.inr (Or.inl rfl) | exact Or.inr (Or.inr rfl))) de_int) (nomark _)) (dw_and1 (dt_cmp mo_lt (de_var (i := 3) rfl (by first | exact Or.inl rfl | exact Or.inr (Or.inl rfl) | exact Or.inr (Or.inr rfl))) de_int (nomark _))))))))
  (nss_ret (de_tup (da_cons de_str da_nil)) ox0)
  (nss_ifx (mk0 := mkE) (dt_cmp mo_lt (de_var (i := 3) rfl (by first | exact Or.inl rfl | exact Or.inr (Or.inl rfl) | exact Or.inr (Or.inr rfl))) de_int (nomark _))
  (nss_ret (de_tup (da_cons de_str (da_cons de_str (da_cons (de_call hG G1 (hr.mono h1) D1.bd tk (by rfl) D1.gl D1.fn.kp (da_cons (de_var (i := 0) rfl (by first | exact Or.inl rfl | exact Or.inr (Or.inl rfl) | exact Or.inr (Or.inr rfl))) (da_cons (de_var (i := 1) rfl (by first | exact Or.inl rfl | exact Or.inr (Or.inl rfl) | exact Or.inr (Or.inr rfl))) da_nil))) (da_cons (de_call hG G1 (hr.mono h1) D1.bd tk (by rfl) D1.gl D1.fn.kp (da_cons (de_var (i := 0) rfl (by first | exact Or.inl rfl | exact Or.inr (Or.inl rfl) | exact Or.inr (Or.inr rfl))) (da_cons (de_var (i := 1) rfl (by first | exact Or.inl rfl | exact Or.inr (Or.inl rfl) | exact Or.inr (Or.inr rfl))) da_nil))) da_nil))))) ox0)
  (nss_ret (de_if (dt_cmp (mo_eq hu) (de_var (i := 3) rfl (by first | exact Or.inl rfl | exact Or.inr (Or.inl rfl) | exact Or.inr (Or.inr rfl))) de_int (nomark _)) (de_tup (da_cons de_str (da_cons (de_callB (mc_min2 rfl) (by rfl) B.b_min (by decide +kernel) (da_cons (de_op mo_add (de_var (i := 2) rfl (by first | exact Or.inl rfl | exact Or.inr (Or.inl rfl) | exact Or.inr (Or.inr rfl))) de_int) (da_cons (de_op mo_sub (de_var (i := 1) rfl (by first | exact Or.inl rfl | exact Or.inr (Or.inl rfl) | exact Or.inr (Or.inr rfl))) de_int) da_nil))) da_nil))) (de_tup (da_cons de_str (da_cons (de_call hG G1 (hr.mono h1) D1.bd tk (by rfl) D1.gl D1.fn.kp (da_cons (de_var (i := 0) rfl (by first | exact Or.inl rfl | exact Or.inr (Or.inl rfl) | exact Or.inr (Or.inr rfl))) (da_cons (de_var (i := 1) rfl (by first | exact Or.inl rfl | exact Or.inr (Or.inl rfl) | exact Or.inr (Or.inr rfl))) da_nil))) da_nil)))) ox0) ox0) ox0)) ox0))
abbrev N_law_blocks_k55 : List Str := ["_law_well_here", "_law_others", "_law_many", "_law_found", "_law_block", "_law_rows", "_law_k"]
theorem sc_law_blocks_k55 : FnScope N_law_blocks_k55 ["_law_well_here", "_law_others"] (defScope (topS 26)) := ⟨rfl, rfl, rfl, by decide +kernel, rfl, by decide +kernel, by decide +kernel⟩
theorem ok_law_blocks_k55 {f f1 f2 f3 : Addr} {fd fd1 fd2 fd3 : FuncData} {k k1 k2 k3 : Nat} (D : Df K mg "_law_blocks" (topS 26) ["_law_well_here", "_law_others"] f fd)
    (D1 : Df K mg "_law_dip" (topS 21) ["_law_well_here", "_law_many"] f1 fd1) (G1 : FnD P w K mg base k1 f1 fd1 ["_law_well_here", "_law_many"] G_law_dip) (h1 : k1 ≤ k)
    (D2 : Df K mg "_law_row" (topS 24) ["_law_well_here", "_law_others"] f2 fd2) (G2 : FnD P w K mg base k2 f2 fd2 ["_law_well_here", "_law_others"] G_law_row_k55) (h2 : k2 ≤ k)
    (D3 : Df K mg "_law_end" (topS 25) ["_law_well_here", "_law_many", "_law_block"] f3 fd3) (G3 : FnD P w K mg base k3 f3 fd3 ["_law_well_here", "_law_many", "_law_block"] G_law_end_k55) (h3 : k3 ≤ k) (B : Bn mg) :
    FnD P w K mg base (k + 1) f fd ["_law_well_here", "_law_others"] (frameG (r_law_blocks_k55)) := by
  refine FnD.frame (fnN_of D.fn sc_law_blocks_k55 (fun cdv A outer s H E hg hr xs hx => ?_))
  have nd := sc_law_blocks_k55.nd
  have hu := hr.units
  have hG : (A.deeper (envOfC "_law_blocks" (defScope (topS 26)) s.heap.objs.size f cdv)).guards = some [] := hg
  have tk : Takes (cxOf (L2.CX P w) P w K mg base N_law_blocks_k55 "_law_blocks" (defScope (topS 26)) f cdv A outer s H E) (fun c d _ H => E c d H) := takes_of rfl rfl rfl rfl
  match xs, hx with
  | [w_well_here, w_others], _ =>
  exact (nss_at (mkS := mkU 7) (mkL := mkE) (ρ := [some w_well_here, some w_others, none, none, none, none, none]) (n := n_law_blocks_k55 w_well_here w_others)
  (nss_set (i := 2) (ρ' := fun w_many => [some w_well_here, some w_others, some w_many, none, none, none, none]) nd rfl (by first | exact Or.inl rfl | exact Or.inr rfl) (de_op mo_add de_int (de_call hG G1 (hr.mono h1) D1.bd tk (by rfl) D1.gl D1.fn.kp (da_cons (de_var (i := 0) rfl (by first | exact Or.inl rfl | exact Or.inr (Or.inl rfl) | exact Or.inr (Or.inr rfl))) (da_cons de_int da_nil)))) (fun w_many =>
  (nss_set (i := 3) (ρ' := fun w_found => [some w_well_here, some w_others, some w_many, some w_found, none, none, none]) nd rfl (by first | exact Or.inl rfl | exact Or.inr rfl) (de_new da_nil) (fun w_found =>
  (nss_cons (mk1 := (mk_law_blocks_k55_1 w_well_here w_others w_many w_found)) (ns_forP (mk1 := (mk_law_blocks_k55_1 w_well_here w_others w_many w_found)) (ρb := fun p a => [some w_well_here, some w_others, some w_many, some w_found, some p, none, none]) (a0 := ()) PassesOwn.leaving rfl (di_range1 (by rfl) B.b_range (da_cons (de_var (i := 2) rfl (by first | exact Or.inl rfl | exact Or.inr (Or.inl rfl) | exact Or.inr (Or.inr rfl))) da_nil)) (dg_name (i := 4) nd rfl (by first | exact Or.inl rfl | exact Or.inr rfl)) tgp_n (fun p a =>
  (let w_block : Vl := p; (nss_at (mkS := (mk_law_blocks_k55_1 w_well_here w_others w_many w_found)) (mkL := (mk_law_blocks_k55_1 w_well_here w_others w_many w_found)) (ρ := [some w_well_here, some w_others, some w_many, some w_found, some w_block, none, none]) (n := nb_law_blocks_k55_1 w_well_here w_others w_many w_found w_block)
  (nss_set (i := 5) (ρ' := fun w_rows => [some w_well_here, some w_others, some w_many, some w_found, some w_block, some w_rows, none]) nd rfl (by first | exact Or.inl rfl | exact Or.inr rfl) (de_callTy mc_tuple (by rfl) B.b_tuple (by decide +kernel) (da_cons (de_lcP (own := [("_law_k", 6)]) (g := (gName 6)) (pat := pV) (st := (fun v ρ => ρ.set 6 (some v))) (t := tYesM) (e := (mCall 2 G_law_row_k55 (aCons (mVar 0) (aCons (mVar 1) aNil)))) rfl nd (di_range1 (by rfl) B.b_range (da_cons (de_call hG G1 (hr.mono h1) D1.bd tk (by rfl) D1.gl D1.fn.kp (da_cons (de_var (i := 0) rfl (by first | exact Or.inl rfl | exact Or.inr (Or.inl rfl) | exact Or.inr (Or.inr rfl))) (da_cons de_int da_nil))) da_nil)) (blkOk_by (N := N_law_blocks_k55) (sc := defScope (topS 26)) (by decide +kernel)) (gokP_n (by decide)) (fun _ _ _ _ _ => (pg_name (i := 6) nd rfl (by first | exact Or.inl rfl | exact Or.inr rfl))) (fun _ _ _ _ _ => dts_nil) (fun _ _ _ _ _ => (de_call hG G2 (hr.mono h2) D2.bd takes0 (by rfl) D2.gl D2.fn.kp (da_cons (de_var (i := 0) rfl (by first | exact Or.inl rfl | exact Or.inr (Or.inl rfl) | exact Or.inr (Or.inr rfl))) (da_cons (de_var (i := 1) rfl (by first | exact Or.inl rfl | exact Or.inr (Or.inl rfl) | exact Or.inr (Or.inr rfl))) da_nil))))) da_nil)) (fun w_rows =>
  (nss_expr (de_append (de_var (i := 3) rfl (by first | exact Or.inl rfl | exact Or.inr (Or.inl rfl) | exact Or.inr (Or.inr rfl))) (da_cons (de_tup (da_cons (de_var (i := 5) rfl (by first | exact Or.inl rfl | exact Or.inr (Or.inl rfl) | exact Or.inr (Or.inr rfl))) (da_cons (de_call hG G3 (hr.mono h3) D3.bd tk (by rfl) D3.gl D3.fn.kp (da_cons (de_var (i := 0) rfl (by first | exact Or.inl rfl | exact Or.inr (Or.inl rfl) | exact Or.inr (Or.inr rfl))) (da_cons (de_var (i := 2) rfl (by first | exact Or.inl rfl | exact Or.inr (Or.inl rfl) | exact Or.inr (Or.inr rfl))) (da_cons (de_var (i := 4) rfl (by first | exact Or.inl rfl | exact Or.inr (Or.inl rfl) | exact Or.inr (Or.inr rfl))) da_nil)))) da_nil))) da_nil))
  (nss_nil (a := ()) (.som (.som (.som (.som (.non (.non (.non .nil)))))))) ox0)) ox0)))) (.som (.som (.som (.som (.non (.non (.non .nil))))))) ox0) (fun j26 =>
  (nss_at (mkS := (mkU 7)) (mkL := mkE) (ρ := [some w_well_here, some w_others, some w_many, some w_found, none, none, none]) (n := kt_law_blocks_k55_1 w_well_here w_others w_many w_found)
  (nss_ret (de_callTy mc_tuple (by rfl) B.b_tuple (by decide +kernel) (da_cons (de_var (i := 3) rfl (by first | exact Or.inl rfl | exact Or.inr (Or.inl rfl) | exact Or.inr (Or.inr rfl))) da_nil)) ox0))))) ox0)) ox0))
abbrev N_law_prog_k55 : List Str := ["_law_well_here", "_law_in_a_ring", "_law_more", "_law_routines", "_law_k"]
theorem sc_law_prog_k55 : FnScope N_law_prog_k55 ["_law_well_here", "_law_in_a_ring"] (defScope (topS 27)) := ⟨rfl, rfl, rfl, by decide +kernel, rfl, by decide +kernel, by decide +kernel⟩
theorem ok_law_prog_k55 {f f1 f2 : Addr} {fd fd1 fd2 : FuncData} {k k1 k2 : Nat} (D : Df K mg "_law_prog" (topS 27) ["_law_well_here", "_law_in_a_ring"] f fd)
    (D1 : Df K mg "_law_dip" (topS 21) ["_law_well_here", "_law_many"] f1 fd1) (G1 : FnD P w K mg base k1 f1 fd1 ["_law_well_here", "_law_many"] G_law_dip) (h1 : k1 ≤ k)
    (D2 : Df K mg "_law_blocks" (topS 26) ["_law_well_here", "_law_others"] f2 fd2) (G2 : FnD P w K mg base k2 f2 fd2 ["_law_well_here", "_law_others"] G_law_blocks_k55) (h2 : k2 ≤ k) (B : Bn mg) :
    FnD P w K mg base (k + 1) f fd ["_law_well_here", "_law_in_a_ring"] (frameG (r_law_prog_k55)) := by
  refine FnD.frame (fnN_of D.fn sc_law_prog_k55 (fun cdv A outer s H E hg hr xs hx => ?_))
  have nd := sc_law_prog_k55.nd
  have hu := hr.units
  have hG : (A.deeper (envOfC "_law_prog" (defScope (topS 27)) s.heap.objs.size f cdv)).guards = some [] := hg
  have tk : Takes (cxOf (L2.CX P w) P w K mg base N_law_prog_k55 "_law_prog" (defScope (topS 27)) f cdv A outer s H E) (fun c d _ H => E c d H) := takes_of rfl rfl rfl rfl
  match xs, hx with
  | [w_well_here, w_in_a_ring], _ =>
  exact (nss_at (mkS := mkU 5) (mkL := mkE) (ρ := [some w_well_here, some w_in_a_ring, none, none, none]) (n := n_law_prog_k55 w_well_here w_in_a_ring)
  (nss_set (i := 2) (ρ' := fun w_more => [some w_well_here, some w_in_a_ring, some w_more, none, none]) nd rfl (by first | exact Or.inl rfl | exact Or.inr rfl) (de_slice (de_lst (da_cons de_str (da_cons de_str da_nil))) do_none (do_some (de_call hG G1 (hr.mono h1) D1.bd tk (by rfl) D1.gl D1.fn.kp (da_cons (de_var (i := 0) rfl (by first | exact Or.inl rfl | exact Or.inr (Or.inl rfl) | exact Or.inr (Or.inr rfl))) (da_cons de_int da_nil))))) (fun w_more =>
  (nss_set (i := 3) (ρ' := fun w_routines => [some w_well_here, some w_in_a_ring, some w_more, some w_routines, none]) nd rfl (by first | exact Or.inl rfl | exact Or.inr rfl) (de_new (da_cons (de_tup (da_cons de_str (da_cons (de_call hG G2 (hr.mono h2) D2.bd tk (by rfl) D2.gl D2.fn.kp (da_cons (de_var (i := 0) rfl (by first | exact Or.inl rfl | exact Or.inr (Or.inl rfl) | exact Or.inr (Or.inr rfl))) (da_cons (de_var (i := 2) rfl (by first | exact Or.inl rfl | exact Or.inr (Or.inl rfl) | exact Or.inr (Or.inr rfl))) da_nil))) da_nil))) da_nil)) (fun w_routines =>
  (nss_cons (mk1 := (mk_law_prog_k55_1 w_well_here w_in_a_ring w_more w_routines)) (ns_forP (mk1 := (mk_law_prog_k55_1 w_well_here w_in_a_ring w_more w_routines)) (ρb := fun p a => [some w_well_here, some w_in_a_ring, some w_more, some w_routines, some p]) (a0 := ()) PassesOwn.leaving rfl (di_range1 (by rfl) B.b_range (da_cons (de_callB mc_len (by rfl) B.b_len PySem.boot_len (da_cons (de_var (i := 2) rfl (by first | exact Or.inl rfl | exact Or.inr (Or.inl rfl) | exact Or.inr (Or.inr rfl))) da_nil)) da_nil)) (dg_name (i := 4) nd rfl (by first | exact Or.inl rfl | exact Or.inr rfl)) tgp_n (fun p a =>
  (let w_k : Vl := p; (nss_at (mkS := (mk_law_prog_k55_1 w_well_here w_in_a_ring w_more w_routines)) (mkL := (mk_law_prog_k55_1 w_well_here w_in_a_ring w_more w_routines)) (ρ := [some w_well_here, some w_in_a_ring, some w_more, some w_routines, some w_k]) (n := nb_law_prog_k55_1 w_well_here w_in_a_ring w_more w_routines w_k)
  (nss_expr (de_append (de_var (i := 3) rfl (by first | exact Or.inl rfl | exact Or.inr (Or.inl rfl) | exact Or.inr (Or.inr rfl))) (da_cons (de_tup (da_cons (de_ix (mx_ix hu) (de_var (i := 2) rfl (by first | exact Or.inl rfl | exact Or.inr (Or.inl rfl) | exact Or.inr (Or.inr rfl))) (de_var (i := 4) rfl (by first | exact Or.inl rfl | exact Or.inr (Or.inl rfl) | exact Or.inr (Or.inr rfl))) (fun _ _ => rfl)) (da_cons (de_call hG G2 (hr.mono h2) D2.bd tk (by rfl) D2.gl D2.fn.kp (da_cons (de_var (i := 0) rfl (by first | exact Or.inl rfl | exact Or.inr (Or.inl rfl) | exact Or.inr (Or.inr rfl))) (da_cons (de_if (dt_tru (de_var (i := 1) rfl (by first | exact Or.inl rfl | exact Or.inr (Or.inl rfl) | exact Or.inr (Or.inr rfl)))) (de_var (i := 2) rfl (by first | exact Or.inl rfl | exact Or.inr (Or.inl rfl) | exact Or.inr (Or.inr rfl))) (de_slice (de_var (i := 2) rfl (by first | exact Or.inl rfl | exact Or.inr (Or.inl rfl) | exact Or.inr (Or.inr rfl))) (do_some (de_op mo_add (de_var (i := 4) rfl (by first | exact Or.inl rfl | exact Or.inr (Or.inl rfl) | exact Or.inr (Or.inr rfl))) de_int)) do_none)) da_nil))) da_nil))) da_nil))
  (nss_nil (a := ()) (.som (.som (.som (.som (.non .nil)))))) ox0)))) (.som (.som (.som (.som (.non .nil))))) ox0) (fun j49 =>
  (nss_at (mkS := (mkU 5)) (mkL := mkE) (ρ := [some w_well_here, some w_in_a_ring, some w_more, some w_routines, none]) (n := kt_law_prog_k55_1 w_well_here w_in_a_ring w_more w_routines)
  (nss_ret (de_tup (da_cons (de_tup (da_cons (de_tup (da_cons de_str (da_cons de_int da_nil))) (da_cons (de_tup (da_cons de_str (da_cons de_int da_nil))) da_nil))) (da_cons (de_callTy mc_tuple (by rfl) B.b_tuple (by decide +kernel) (da_cons (de_callB (mc_sortedM hu) (by rfl) B.b_sorted (by decide +kernel) (da_cons (de_var (i := 3) rfl (by first | exact Or.inl rfl | exact Or.inr (Or.inl rfl) | exact Or.inr (Or.inr rfl))) da_nil)) da_nil)) da_nil))) ox0))))) ox0)) ox0))
abbrev N_law_after_k55 : List Str := ["_law_blocks_here", "_law_block", "_law_end_here"]
theorem sc_law_after_k55 : FnScope N_law_after_k55 ["_law_blocks_here", "_law_block"] (defScope (topS 28)) := ⟨rfl, rfl, rfl, by decide +kernel, rfl, by decide +kernel, by decide +kernel⟩
theorem ok_law_after_k55 {f : Addr} {fd : FuncData} {k : Nat} (D : Df K mg "_law_after" (topS 28) ["_law_blocks_here", "_law_block"] f fd) (B : Bn mg) :
    FnD P w K mg base (k + 1) f fd ["_law_blocks_here", "_law_block"] (frameG (r_law_after_k55)) := by
  refine FnD.frame (fnN_of D.fn sc_law_after_k55 (fun cdv A outer s H E hg hr xs hx => ?_))
  have nd := sc_law_after_k55.nd
  have hu := hr.units
  have hG : (A.deeper (envOfC "_law_after" (defScope (topS 28)) s.heap.objs.size f cdv)).guards = some [] := hg
  have tk : Takes (cxOf (L2.CX P w) P w K mg base N_law_after_k55 "_law_after" (defScope (topS 28)) f cdv A outer s H E) (fun c d _ H => E c d H) := takes_of rfl rfl rfl rfl
  match xs, hx with
  | [w_blocks_here, w_block], _ =>
  exact (nss_at (mkS := mkU 3) (mkL := mkE) (ρ := [some w_blocks_here, some w_block, none]) (n := n_law_after_k55 w_blocks_here w_block)
  (nss_set (i := 2) (ρ' := fun w_end_here => [some w_blocks_here, some w_block, some w_end_here]) nd rfl (by first | exact Or.inl rfl | exact Or.inr rfl) (de_ix (mx_ix hu) (de_ix (mx_ix hu) (de_var (i := 0) rfl (by first | exact Or.inl rfl | exact Or.inr (Or.inl rfl) | exact Or.inr (Or.inr rfl))) (de_var (i := 1) rfl (by first | exact Or.inl rfl | exact Or.inr (Or.inl rfl) | exact Or.inr (Or.inr rfl))) (fun _ _ => rfl)) de_int (fun _ _ => rfl)) (fun w_end_here =>
  (nss_ret (de_callTy mc_list (by rfl) B.b_list (by decide +kernel) (da_cons (de_ix (mx_ix hu) (de_dispD (dps_cons de_str (de_slice (de_var (i := 2) rfl (by first | exact Or.inl rfl | exact Or.inr (Or.inl rfl) | exact Or.inr (Or.inr rfl))) (do_some de_int) do_none) (dps_cons de_str (de_slice (de_var (i := 2) rfl (by first | exact Or.inl rfl | exact Or.inr (Or.inl rfl) | exact Or.inr (Or.inr rfl))) (do_some de_int) do_none) (dps_cons de_str (de_tup da_nil) dps_nil)))) (de_ix (mx_ix hu) (de_var (i := 2) rfl (by first | exact Or.inl rfl | exact Or.inr (Or.inl rfl) | exact Or.inr (Or.inr rfl))) de_int (fun _ _ => rfl)) (fun _ _ => rfl)) da_nil)) ox0)) ox0))
abbrev N_law_come : List Str := ["_law_blocks_here", "_law_left_out", "_law_found", "_law_at", "_law_some", "_law_one"]
theorem sc_law_come : FnScope N_law_come ["_law_blocks_here", "_law_left_out"] (defScope (topS 29)) := ⟨rfl, rfl, rfl, by decide +kernel, rfl, by decide +kernel, by decide +kernel⟩
theorem ok_law_come {f f1 : Addr} {fd fd1 : FuncData} {k k1 : Nat} (D : Df K mg "_law_come" (topS 29) ["_law_blocks_here", "_law_left_out"] f fd)
    (D1 : Df K mg "_law_after" (topS 28) ["_law_blocks_here", "_law_block"] f1 fd1) (G1 : FnD P w K mg base k1 f1 fd1 ["_law_blocks_here", "_law_block"] G_law_after_k55) (h1 : k1 ≤ k) (B : Bn mg) :
    FnD P w K mg base (k + 1) f fd ["_law_blocks_here", "_law_left_out"] (frameG (r_law_come)) := by
  refine FnD.frame (fnN_of D.fn sc_law_come (fun cdv A outer s H E hg hr xs hx => ?_))
  have nd := sc_law_come.nd
  have hu := hr.units
  have hG : (A.deeper (envOfC "_law_come" (defScope (topS 29)) s.heap.objs.size f cdv)).guards = some [] := hg
  have tk : Takes (cxOf (L2.CX P w) P w K mg base N_law_come "_law_come" (defScope (topS 29)) f cdv A outer s H E) (fun c d _ H => E c d H) := takes_of rfl rfl rfl rfl
  match xs, hx with
  | [w_blocks_here, w_left_out], _ =>
  exact (nss_at (mkS := mkU 6) (mkL := mkE) (ρ := [some w_blocks_here, some w_left_out, none, none, none, none]) (n := n_law_come w_blocks_here w_left_out)
  (nss_set (i := 2) (ρ' := fun w_found => [some w_blocks_here, some w_left_out, some w_found, none, none, none]) nd rfl (by first | exact Or.inl rfl | exact Or.inr rfl) (de_if (dt_cmp (mo_eq hu) (de_var (i := 1) rfl (by first | exact Or.inl rfl | exact Or.inr (Or.inl rfl) | exact Or.inr (Or.inr rfl))) de_int (nomark _)) (de_lst da_nil) (de_lst (da_cons de_int da_nil))) (fun w_found =>
  (nss_set (i := 3) (ρ' := fun w_at => [some w_blocks_here, some w_left_out, some w_found, some w_at, none, none]) nd rfl (by first | exact Or.inl rfl | exact Or.inr rfl) de_int (fun w_at =>
  (nss_cons (mk1 := (mk_law_come_1 w_blocks_here w_left_out)) (ns_while (mk1 := (mk_law_come_1 w_blocks_here w_left_out)) (a0 := (w_found, w_at)) PassesOwn.leaving (dt_cmp mo_lt (de_var (i := 3) rfl (by first | exact Or.inl rfl | exact Or.inr (Or.inl rfl) | exact Or.inr (Or.inr rfl))) (de_callB mc_len (by rfl) B.b_len PySem.boot_len (da_cons (de_var (i := 2) rfl (by first | exact Or.inl rfl | exact Or.inr (Or.inl rfl) | exact Or.inr (Or.inr rfl))) da_nil)) (nomark _)) (fun a =>
  (let w_found : Vl := a.1; (let w_at : Vl := a.2; (nss_at (mkS := (mk_law_come_1 w_blocks_here w_left_out)) (mkL := (mk_law_come_1 w_blocks_here w_left_out)) (ρ := [some w_blocks_here, some w_left_out, some w_found, some w_at, none, none]) (n := nb_law_come_1 w_blocks_here w_left_out w_found w_at)
  (nss_set (i := 4) (ρ' := fun w_some => [some w_blocks_here, some w_left_out, some w_found, some w_at, some w_some, none]) nd rfl (by first | exact Or.inl rfl | exact Or.inr rfl) (de_ssi rfl (by rfl) B.b_sorted (by rfl) B.b_set (da_cons (de_call hG G1 (hr.mono h1) D1.bd tk (by rfl) D1.gl D1.fn.kp (da_cons (de_var (i := 0) rfl (by first | exact Or.inl rfl | exact Or.inr (Or.inl rfl) | exact Or.inr (Or.inr rfl))) (da_cons (de_ix (mx_ix hu) (de_var (i := 2) rfl (by first | exact Or.inl rfl | exact Or.inr (Or.inl rfl) | exact Or.inr (Or.inr rfl))) (de_var (i := 3) rfl (by first | exact Or.inl rfl | exact Or.inr (Or.inl rfl) | exact Or.inr (Or.inr rfl))) (fun _ _ => rfl)) da_nil))) da_nil)) (fun w_some =>
  (nss_set (i := 2) (ρ' := fun w_found => [some w_blocks_here, some w_left_out, some w_found, some w_at, some w_some, none]) nd rfl (by first | exact Or.inl rfl | exact Or.inr rfl) (de_op mo_add (de_var (i := 2) rfl (by first | exact Or.inl rfl | exact Or.inr (Or.inl rfl) | exact Or.inr (Or.inr rfl))) (de_lcP (own := [("_law_one", 5)]) (g := (gName 5)) (pat := pV) (st := (fun v ρ => ρ.set 5 (some v))) (t := (tAndM (mB (m2 (phIn true) (mVar 5) (mVar 2))) (mB (m2 phNe (mVar 5) (mVar 1))))) (e := (mVar 5)) rfl nd (di_seq (de_var (i := 4) rfl (by first | exact Or.inl rfl | exact Or.inr (Or.inl rfl) | exact Or.inr (Or.inr rfl)))) (blkOk_by (N := N_law_come) (sc := defScope (topS 29)) (by decide +kernel)) (gokP_n (by decide)) (fun _ _ _ _ _ => (pg_name (i := 5) nd rfl (by first | exact Or.inl rfl | exact Or.inr rfl))) (fun _ _ _ _ _ => (dts_one (dt_w (dw_and (dt_cmp (mo_notIn hu) (de_var (i := 5) rfl (by first | exact Or.inl rfl | exact Or.inr (Or.inl rfl) | exact Or.inr (Or.inr rfl))) (de_var (i := 2) rfl (by first | exact Or.inl rfl | exact Or.inr (Or.inl rfl) | exact Or.inr (Or.inr rfl))) (by with_unfolding_all rfl)) (dw_and1 (dt_cmp (mo_ne hu) (de_var (i := 5) rfl (by first | exact Or.inl rfl | exact Or.inr (Or.inl rfl) | exact Or.inr (Or.inr rfl))) (de_var (i := 1) rfl (by first | exact Or.inl rfl | exact Or.inr (Or.inl rfl) | exact Or.inr (Or.inr rfl))) (nomark _))))))) (fun _ _ _ _ _ => (de_var (i := 5) rfl (by first | exact Or.inl rfl | exact Or.inr (Or.inl rfl) | exact Or.inr (Or.inr rfl)))))) (fun w_found =>
  (nss_set (i := 3) (ρ' := fun w_at => [some w_blocks_here, some w_left_out, some w_found, some w_at, some w_some, none]) nd rfl (by first | exact Or.inl rfl | exact Or.inr rfl) (de_op mo_add (de_var (i := 3) rfl (by first | exact Or.inl rfl | exact Or.inr (Or.inl rfl) | exact Or.inr (Or.inr rfl))) de_int) (fun w_at =>
  (nss_nil (a := (w_found, w_at)) (.som (.som (.som (.som (.non (.non .nil)))))))) ox0)) ox0)) ox0))))) (.som (.som (.som (.som (.non (.non .nil)))))) (fun a => ox0)) (fun j32 =>
  (let w_found : Vl := j32.1; (let w_at : Vl := j32.2; (nss_at (mkS := (mkU 6)) (mkL := mkE) (ρ := [some w_blocks_here, some w_left_out, some w_found, some w_at, none, none]) (n := kt_law_come_1 w_blocks_here w_left_out w_found w_at)
  (nss_ret (de_var (i := 2) rfl (by first | exact Or.inl rfl | exact Or.inr (Or.inl rfl) | exact Or.inr (Or.inr rfl))) ox0))))))) ox0)) ox0))
abbrev N_law_makers_k55 : List Str := ["_law_label", "_law_blocks_here", "_law_block", "_law_rows", "_law_some", "_law_at"]
theorem sc_law_makers_k55 : FnScope N_law_makers_k55 ["_law_label", "_law_blocks_here", "_law_block"] (defScope (topS 30)) := ⟨rfl, rfl, rfl, by decide +kernel, rfl, by decide +kernel, by decide +kernel⟩
theorem ok_law_makers_k55 {f : Addr} {fd : FuncData} {k : Nat} (D : Df K mg "_law_makers" (topS 30) ["_law_label", "_law_blocks_here", "_law_block"] f fd) (B : Bn mg) :
    FnD P w K mg base (k + 1) f fd ["_law_label", "_law_blocks_here", "_law_block"] (frameG (r_law_makers_k55)) := by
  refine FnD.frame (fnN_of D.fn sc_law_makers_k55 (fun cdv A outer s H E hg hr xs hx => ?_))
  have nd := sc_law_makers_k55.nd
  have hu := hr.units
  have hG : (A.deeper (envOfC "_law_makers" (defScope (topS 30)) s.heap.objs.size f cdv)).guards = some [] := hg
  have tk : Takes (cxOf (L2.CX P w) P w K mg base N_law_makers_k55 "_law_makers" (defScope (topS 30)) f cdv A outer s H E) (fun c d _ H => E c d H) := takes_of rfl rfl rfl rfl
  match xs, hx with
  | [w_label, w_blocks_here, w_block], _ =>
  exact (nss_at (mkS := mkU 6) (mkL := mkE) (ρ := [some w_label, some w_blocks_here, some w_block, none, none, none]) (n := n_law_makers_k55 w_label w_blocks_here w_block)
  (nss_set (i := 3) (ρ' := fun w_rows => [some w_label, some w_blocks_here, some w_block, some w_rows, none, none]) nd rfl (by first | exact Or.inl rfl | exact Or.inr rfl) (de_ix (mx_ix hu) (de_ix (mx_ix hu) (de_var (i := 1) rfl (by first | exact Or.inl rfl | exact Or.inr (Or.inl rfl) | exact Or.inr (Or.inr rfl))) (de_var (i := 2) rfl (by first | exact Or.inl rfl | exact Or.inr (Or.inl rfl) | exact Or.inr (Or.inr rfl))) (fun _ _ => rfl)) de_int (fun _ _ => rfl)) (fun w_rows =>
  (nss_setLcP (own := [("_law_at", 5)]) (g := (gName 5)) (pat := pV) (st := (fun v ρ => ρ.set 5 (some v))) (t := (mB (m2 (phIn false) (m2 phIx (m2 phIx (mVar 3) (mVar 5)) (mC (.int 0))) (mTup (aCons (mC (.str "store")) (aCons (mC (.str "call")) aNil)))))) (e := (mVar 5)) (i := 4) (ρ' := fun w_some => [some w_label, some w_blocks_here, some w_block, some w_rows, some w_some, none]) rfl nd rfl rfl (sw_true rfl rfl rfl (by decide +kernel)) (di_range1 (by rfl) B.b_range (da_cons (de_callB mc_len (by rfl) B.b_len PySem.boot_len (da_cons (de_var (i := 3) rfl (by first | exact Or.inl rfl | exact Or.inr (Or.inl rfl) | exact Or.inr (Or.inr rfl))) da_nil)) da_nil)) (blkOk_by (N := N_law_makers_k55) (sc := defScope (topS 30)) (by decide +kernel)) (gokP_n (by decide)) (fun _ _ _ _ _ => (pg_name (i := 5) nd rfl (by first | exact Or.inl rfl | exact Or.inr rfl))) (fun _ _ _ _ _ => (dts_one (dt_cmp (mo_in hu) (de_ix (mx_ix hu) (de_ix (mx_ix hu) (de_var (i := 3) rfl (by first | exact Or.inl rfl | exact Or.inr (Or.inl rfl) | exact Or.inr (Or.inr rfl))) (de_var (i := 5) rfl (by first | exact Or.inl rfl | exact Or.inr (Or.inl rfl) | exact Or.inr (Or.inr rfl))) (fun _ _ => rfl)) de_int (fun _ _ => rfl)) (de_tup (da_cons de_str (da_cons de_str da_nil))) (by with_unfolding_all rfl)))) (fun _ _ _ _ _ => (de_var (i := 5) rfl (by first | exact Or.inl rfl | exact Or.inr (Or.inl rfl) | exact Or.inr (Or.inr rfl)))) (fun w_some =>
  (nss_ret (de_callTy (mc_dictL rfl) (by rfl) B.b_dict (by decide +kernel) (da_cons (de_lcP (own := [("_law_at", 5)]) (g := (gName 5)) (pat := pV) (st := (fun v ρ => ρ.set 5 (some v))) (t := tYesM) (e := (mTup (aCons (mVar 5) (aCons (mTup (aCons (m2 phIx (m2 phIx (mVar 3) (mVar 5)) (mC (.int 0))) (aCons (mTup (aCons (mVar 0) (aCons (mVar 2) (aCons (mVar 5) aNil)))) aNil))) aNil)))) rfl nd (di_seq (de_var (i := 4) rfl (by first | exact Or.inl rfl | exact Or.inr (Or.inl rfl) | exact Or.inr (Or.inr rfl)))) (blkOk_by (N := N_law_makers_k55) (sc := defScope (topS 30)) (by decide +kernel)) (gokP_n (by decide)) (fun _ _ _ _ _ => (pg_name (i := 5) nd rfl (by first | exact Or.inl rfl | exact Or.inr rfl))) (fun _ _ _ _ _ => dts_nil) (fun _ _ _ _ _ => (de_tup (da_cons (de_var (i := 5) rfl (by first | exact Or.inl rfl | exact Or.inr (Or.inl rfl) | exact Or.inr (Or.inr rfl))) (da_cons (de_tup (da_cons (de_ix (mx_ix hu) (de_ix (mx_ix hu) (de_var (i := 3) rfl (by first | exact Or.inl rfl | exact Or.inr (Or.inl rfl) | exact Or.inr (Or.inr rfl))) (de_var (i := 5) rfl (by first | exact Or.inl rfl | exact Or.inr (Or.inl rfl) | exact Or.inr (Or.inr rfl))) (fun _ _ => rfl)) de_int (fun _ _ => rfl)) (da_cons (de_tup (da_cons (de_var (i := 0) rfl (by first | exact Or.inl rfl | exact Or.inr (Or.inl rfl) | exact Or.inr (Or.inr rfl))) (da_cons (de_var (i := 2) rfl (by first | exact Or.inl rfl | exact Or.inr (Or.inl rfl) | exact Or.inr (Or.inr rfl))) (da_cons (de_var (i := 5) rfl (by first | exact Or.inl rfl | exact Or.inr (Or.inl rfl) | exact Or.inr (Or.inr rfl))) da_nil)))) da_nil))) da_nil))))) da_nil)) ox0)) ox0)) ox0))
abbrev N_law_merged_k55 : List Str := ["_law_label", "_law_blocks_here", "_law_here", "_law_under", "_law_one", "_law_apart", "_law_found", "_law_left", "_law_over", "_law_block"]
theorem sc_law_merged_k55 : FnScope N_law_merged_k55 ["_law_label", "_law_blocks_here"] (defScope (topS 31)) := ⟨rfl, rfl, rfl, by decide +kernel, rfl, by decide +kernel, by decide +kernel⟩
theorem ok_law_merged_k55 {f f1 f2 f3 : Addr} {fd fd1 fd2 fd3 : FuncData} {k k1 k2 k3 : Nat} (D : Df K mg "_law_merged" (topS 31) ["_law_label", "_law_blocks_here"] f fd)
    (D1 : Df K mg "_law_come" (topS 29) ["_law_blocks_here", "_law_left_out"] f1 fd1) (G1 : FnD P w K mg base k1 f1 fd1 ["_law_blocks_here", "_law_left_out"] G_law_come) (h1 : k1 ≤ k)
    (D2 : Df K mg "_law_makers" (topS 30) ["_law_label", "_law_blocks_here", "_law_block"] f2 fd2) (G2 : FnD P w K mg base k2 f2 fd2 ["_law_label", "_law_blocks_here", "_law_block"] G_law_makers_k55) (h2 : k2 ≤ k)
    (D3 : Df K mg "_law_after" (topS 28) ["_law_blocks_here", "_law_block"] f3 fd3) (G3 : FnD P w K mg base k3 f3 fd3 ["_law_blocks_here", "_law_block"] G_law_after_k55) (h3 : k3 ≤ k) (B : Bn mg) :
    FnD P w K mg base (k + 1) f fd ["_law_label", "_law_blocks_here"] (frameG (r_law_merged_k55)) := by
  refine FnD.frame (fnN_of D.fn sc_law_merged_k55 (fun cdv A outer s H E hg hr xs hx => ?_))
  have nd := sc_law_merged_k55.nd
  have hu := hr.units
  have hG : (A.deeper (envOfC "_law_merged" (defScope (topS 31)) s.heap.objs.size f cdv)).guards = some [] := hg
  have tk : Takes (cxOf (L2.CX P w) P w K mg base N_law_merged_k55 "_law_merged" (defScope (topS 31)) f cdv A outer s H E) (fun c d _ H => E c d H) := takes_of rfl rfl rfl rfl
  match xs, hx with
  | [w_label, w_blocks_here], _ =>
  exact (nss_at (mkS := mkU 10) (mkL := mkE) (ρ := [some w_label, some w_blocks_here, none, none, none, none, none, none, none, none]) (n := n_law_merged_k55 w_label w_blocks_here)
  (nss_set (i := 2) (ρ' := fun w_here => [some w_label, some w_blocks_here, some w_here, none, none, none, none, none, none, none]) nd rfl (by first | exact Or.inl rfl | exact Or.inr rfl) (de_call hG G1 (hr.mono h1) D1.bd tk (by rfl) D1.gl D1.fn.kp (da_cons (de_var (i := 1) rfl (by first | exact Or.inl rfl | exact Or.inr (Or.inl rfl) | exact Or.inr (Or.inr rfl))) (da_cons de_non da_nil))) (fun w_here =>
  (nss_set (i := 3) (ρ' := fun w_under => [some w_label, some w_blocks_here, some w_here, some w_under, none, none, none, none, none, none]) nd rfl (by first | exact Or.inl rfl | exact Or.inr rfl) de_newK (fun w_under =>
  (nss_cons (mk1 := (mk_law_merged_k55_1 w_label w_blocks_here w_here w_under)) (ns_forP (mk1 := (mk_law_merged_k55_1 w_label w_blocks_here w_here w_under)) (ρb := fun p a => [some w_label, some w_blocks_here, some w_here, some w_under, some p, none, none, none, none, none]) (a0 := ()) PassesOwn.leaving rfl (di_seq (de_var (i := 2) rfl (by first | exact Or.inl rfl | exact Or.inr (Or.inl rfl) | exact Or.inr (Or.inr rfl)))) (dg_name (i := 4) nd rfl (by first | exact Or.inl rfl | exact Or.inr rfl)) tgp_n (fun p a =>
  (let w_one : Vl := p; (nss_at (mkS := (mk_law_merged_k55_1 w_label w_blocks_here w_here w_under)) (mkL := (mk_law_merged_k55_1 w_label w_blocks_here w_here w_under)) (ρ := [some w_label, some w_blocks_here, some w_here, some w_under, some w_one, none, none, none, none, none]) (n := nb_law_merged_k55_1 w_label w_blocks_here w_here w_under w_one)
  (nss_set (i := 5) (ρ' := fun w_apart => [some w_label, some w_blocks_here, some w_here, some w_under, some w_one, some w_apart, none, none, none, none]) nd rfl (by first | exact Or.inl rfl | exact Or.inr rfl) (de_call hG G1 (hr.mono h1) D1.bd tk (by rfl) D1.gl D1.fn.kp (da_cons (de_var (i := 1) rfl (by first | exact Or.inl rfl | exact Or.inr (Or.inl rfl) | exact Or.inr (Or.inr rfl))) (da_cons (de_var (i := 4) rfl (by first | exact Or.inl rfl | exact Or.inr (Or.inl rfl) | exact Or.inr (Or.inr rfl))) da_nil))) (fun w_apart =>
  (nss_asgS (de_lcP (own := [("_law_block", 9)]) (g := (gName 9)) (pat := pV) (st := (fun v ρ => ρ.set 9 (some v))) (t := (mB (m2 (phIn true) (mVar 9) (mVar 5)))) (e := (mVar 9)) rfl nd (di_seq (de_var (i := 2) rfl (by first | exact Or.inl rfl | exact Or.inr (Or.inl rfl) | exact Or.inr (Or.inr rfl)))) (blkOk_by (N := N_law_merged_k55) (sc := defScope (topS 31)) (by decide +kernel)) (gokP_n (by decide)) (fun _ _ _ _ _ => (pg_name (i := 9) nd rfl (by first | exact Or.inl rfl | exact Or.inr rfl))) (fun _ _ _ _ _ => (dts_one (dt_cmp (mo_notIn hu) (de_var (i := 9) rfl (by first | exact Or.inl rfl | exact Or.inr (Or.inl rfl) | exact Or.inr (Or.inr rfl))) (de_var (i := 5) rfl (by first | exact Or.inl rfl | exact Or.inr (Or.inl rfl) | exact Or.inr (Or.inr rfl))) (by with_unfolding_all rfl)))) (fun _ _ _ _ _ => (de_var (i := 9) rfl (by first | exact Or.inl rfl | exact Or.inr (Or.inl rfl) | exact Or.inr (Or.inr rfl))))) (dg_sub hu (de_var (i := 3) rfl (by first | exact Or.inl rfl | exact Or.inr (Or.inl rfl) | exact Or.inr (Or.inr rfl))) (de_var (i := 4) rfl (by first | exact Or.inl rfl | exact Or.inr (Or.inl rfl) | exact Or.inr (Or.inr rfl)))) (tgs_sub (fo := fun s7 => R.ok w_under s7) (fi := fun z => R.ok w_one z))
  (nss_nil (a := ()) (.som (.som (.som (.som (.non (.non (.non (.non (.non (.non .nil))))))))))) ox0)) ox0)))) (.som (.som (.som (.som (.non (.non (.non (.non (.non (.non .nil)))))))))) ox0) (fun j11 =>
  (nss_at (mkS := (mkU 10)) (mkL := mkE) (ρ := [some w_label, some w_blocks_here, some w_here, some w_under, none, none, none, none, none, none]) (n := kt_law_merged_k55_1 w_label w_blocks_here w_here w_under)
  (nss_par2 (i := 6) (j := 7) (ρ' := fun w_found w_left => [some w_label, some w_blocks_here, some w_here, some w_under, none, none, some w_found, some w_left, none, none]) rfl nd rfl rfl (by decide) rfl rfl (da_cons (de_new da_nil) (da_cons (de_lcPN (own := [("_law_block", 9)]) (g := (gName 9)) (pat := pV) (st := (fun v ρ => ρ.set 9 (some v))) (t := (mB (m2 phNeE (mCall 3 G_law_makers_k55 (aCons (mVar 0) (aCons (mVar 1) (aCons (mVar 9) aNil)))) (mNewD false)))) (e := (mVar 9)) rfl nd (di_seq (de_var (i := 2) rfl (by first | exact Or.inl rfl | exact Or.inr (Or.inl rfl) | exact Or.inr (Or.inr rfl)))) (blkOk_by (N := N_law_merged_k55) (sc := defScope (topS 31)) (by decide +kernel)) (gokP_n (by decide)) (fun _ _ _ _ _ => (pg_name (i := 9) nd rfl (by first | exact Or.inl rfl | exact Or.inr rfl))) (fun _ _ _ _ _ => (dts_one (dt_cmp (mo_neE hu) (de_call hG G2 (hr.mono h2) D2.bd takes0 (by rfl) D2.gl D2.fn.kp (da_cons (de_var (i := 0) rfl (by first | exact Or.inl rfl | exact Or.inr (Or.inl rfl) | exact Or.inr (Or.inr rfl))) (da_cons (de_var (i := 1) rfl (by first | exact Or.inl rfl | exact Or.inr (Or.inl rfl) | exact Or.inr (Or.inr rfl))) (da_cons (de_var (i := 9) rfl (by first | exact Or.inl rfl | exact Or.inr (Or.inl rfl) | exact Or.inr (Or.inr rfl))) da_nil)))) de_newK (nomark _)))) (fun _ _ _ _ _ => (de_var (i := 9) rfl (by first | exact Or.inl rfl | exact Or.inr (Or.inl rfl) | exact Or.inr (Or.inr rfl))))) da_nil)) (fun w_found w_left =>
  (nss_cons (mk1 := (mk_law_merged_k55_2 w_blocks_here w_under w_found w_left)) (ns_while (mk1 := (mk_law_merged_k55_2 w_blocks_here w_under w_found w_left)) (a0 := ()) PassesOwn.leaving (dt_cmp (mo_ne hu) (de_var (i := 7) rfl (by first | exact Or.inl rfl | exact Or.inr (Or.inl rfl) | exact Or.inr (Or.inr rfl))) (de_lst da_nil) (nomark _)) (fun a =>
  (nss_at (mkS := (mk_law_merged_k55_2 w_blocks_here w_under w_found w_left)) (mkL := (mk_law_merged_k55_2 w_blocks_here w_under w_found w_left)) (ρ := [none, some w_blocks_here, none, some w_under, none, none, some w_found, some w_left, none, none]) (n := nb_law_merged_k55_2 w_blocks_here w_under w_found w_left)
  (nss_set (i := 8) (ρ' := fun w_over => [none, some w_blocks_here, none, some w_under, none, none, some w_found, some w_left, some w_over, none]) nd rfl (by first | exact Or.inl rfl | exact Or.inr rfl) (de_pop (de_var (i := 7) rfl (by first | exact Or.inl rfl | exact Or.inr (Or.inl rfl) | exact Or.inr (Or.inr rfl)))) (fun w_over =>
  (nss_cons (mk1 := (mk_law_merged_k55_3 w_blocks_here w_under w_found w_left w_over)) (ns_forP (mk1 := (mk_law_merged_k55_3 w_blocks_here w_under w_found w_left w_over)) (ρb := fun p a => [none, some w_blocks_here, none, some w_under, none, none, some w_found, some w_left, some w_over, some p]) (a0 := ()) PassesOwn.leaving rfl (di_seq (de_ix (mx_ix hu) (de_var (i := 3) rfl (by first | exact Or.inl rfl | exact Or.inr (Or.inl rfl) | exact Or.inr (Or.inr rfl))) (de_var (i := 8) rfl (by first | exact Or.inl rfl | exact Or.inr (Or.inl rfl) | exact Or.inr (Or.inr rfl))) (fun _ _ => rfl))) (dg_name (i := 9) nd rfl (by first | exact Or.inl rfl | exact Or.inr rfl)) tgp_n (fun p a =>
  (let w_block : Vl := p; (nss_at (mkS := (mk_law_merged_k55_3 w_blocks_here w_under w_found w_left w_over)) (mkL := (mk_law_merged_k55_3 w_blocks_here w_under w_found w_left w_over)) (ρ := [none, some w_blocks_here, none, some w_under, none, none, some w_found, some w_left, some w_over, some w_block]) (n := nb_law_merged_k55_3 w_blocks_here w_under w_found w_left w_over w_block)
  (nss_cons (mk1 := (mk_law_merged_k55_4 w_blocks_here w_under w_found w_left w_over)) (ns_forP (mk1 := (mk_law_merged_k55_4 w_blocks_here w_under w_found w_left w_over)) (ρb := fun p a => [none, some w_blocks_here, none, some w_under, some p, none, some w_found, some w_left, some w_over, none]) (a0 := ()) PassesOwn.leaving rfl (di_seq (de_call hG G3 (hr.mono h3) D3.bd tk (by rfl) D3.gl D3.fn.kp (da_cons (de_var (i := 1) rfl (by first | exact Or.inl rfl | exact Or.inr (Or.inl rfl) | exact Or.inr (Or.inr rfl))) (da_cons (de_var (i := 9) rfl (by first | exact Or.inl rfl | exact Or.inr (Or.inl rfl) | exact Or.inr (Or.inr rfl))) da_nil)))) (dg_name (i := 4) nd rfl (by first | exact Or.inl rfl | exact Or.inr rfl)) tgp_n (fun p a =>
  (let w_one : Vl := p; (nss_at (mkS := (mk_law_merged_k55_4 w_blocks_here w_under w_found w_left w_over)) (mkL := (mk_law_merged_k55_4 w_blocks_here w_under w_found w_left w_over)) (ρ := [none, some w_blocks_here, none, some w_under, some w_one, none, some w_found, some w_left, some w_over, none]) (n := nb_law_merged_k55_4 w_blocks_here w_under w_found w_left w_over w_one)
  (nss_if1 (dt_w (dw_and (dt_w (dw_or (dt_cmp (mo_eq hu) (de_var (i := 4) rfl (by first | exact Or.inl rfl | exact Or.inr (Or.inl rfl) | exact Or.inr (Or.inr rfl))) (de_var (i := 8) rfl (by first | exact Or.inl rfl | exact Or.inr (Or.inl rfl) | exact Or.inr (Or.inr rfl))) (nomark _)) (dw_or1 (dt_cmp (mo_notIn hu) (de_var (i := 4) rfl (by first | exact Or.inl rfl | exact Or.inr (Or.inl rfl) | exact Or.inr (Or.inr rfl))) (de_ix (mx_ix hu) (de_var (i := 3) rfl (by first | exact Or.inl rfl | exact Or.inr (Or.inl rfl) | exact Or.inr (Or.inr rfl))) (de_var (i := 8) rfl (by first | exact Or.inl rfl | exact Or.inr (Or.inl rfl) | exact Or.inr (Or.inr rfl))) (fun _ _ => rfl)) (by with_unfolding_all rfl))))) (dw_and1 (dt_cmp (mo_notIn hu) (de_var (i := 4) rfl (by first | exact Or.inl rfl | exact Or.inr (Or.inl rfl) | exact Or.inr (Or.inr rfl))) (de_var (i := 6) rfl (by first | exact Or.inl rfl | exact Or.inr (Or.inl rfl) | exact Or.inr (Or.inr rfl))) (by with_unfolding_all rfl)))))
  (nss_expr (de_append (de_var (i := 6) rfl (by first | exact Or.inl rfl | exact Or.inr (Or.inl rfl) | exact Or.inr (Or.inr rfl))) (da_cons (de_var (i := 4) rfl (by first | exact Or.inl rfl | exact Or.inr (Or.inl rfl) | exact Or.inr (Or.inr rfl))) da_nil))
  (nss_expr (de_append (de_var (i := 7) rfl (by first | exact Or.inl rfl | exact Or.inr (Or.inl rfl) | exact Or.inr (Or.inr rfl))) (da_cons (de_var (i := 4) rfl (by first | exact Or.inl rfl | exact Or.inr (Or.inl rfl) | exact Or.inr (Or.inr rfl))) da_nil))
  (nss_nil (a := ()) (.non (.som (.non (.som (.non (.non (.som (.som (.som (.non .nil))))))))))) ox0) ox0)
  (nss_nil (a := ()) (.non (.som (.non (.som (.non (.non (.som (.som (.som (.non .nil))))))))))) ox0)))) (.non (.som (.non (.som (.non (.non (.som (.som (.som (.non .nil)))))))))) ox0) (fun j56 =>
  (nss_at (mkS := (mk_law_merged_k55_3 w_blocks_here w_under w_found w_left w_over)) (mkL := (mk_law_merged_k55_3 w_blocks_here w_under w_found w_left w_over)) (ρ := [none, some w_blocks_here, none, some w_under, none, none, some w_found, some w_left, some w_over, none]) (n := kt_law_merged_k55_2 w_blocks_here w_under w_found w_left w_over)
  (nss_nil (a := ()) (.non (.som (.non (.som (.non (.non (.som (.som (.som (.non .nil))))))))))))))))) (.non (.som (.non (.som (.non (.non (.som (.som (.som (.non .nil)))))))))) ox0) (fun j60 =>
  (nss_at (mkS := (mk_law_merged_k55_2 w_blocks_here w_under w_found w_left)) (mkL := (mk_law_merged_k55_2 w_blocks_here w_under w_found w_left)) (ρ := [none, some w_blocks_here, none, some w_under, none, none, some w_found, some w_left, some w_over, none]) (n := kt_law_merged_k55_3 w_blocks_here w_under w_found w_left w_over)
  (nss_nil (a := ()) (.non (.som (.non (.som (.non (.non (.som (.som (.non (.non .nil))))))))))))))) ox0))) (.non (.som (.non (.som (.non (.non (.som (.som (.non (.non .nil)))))))))) (fun a => ox0)) (fun j62 =>
  (nss_at (mkS := (mkU 10)) (mkL := mkE) (ρ := [none, some w_blocks_here, none, some w_under, none, none, some w_found, some w_left, none, none]) (n := kt_law_merged_k55_4 w_blocks_here w_under w_found w_left)
  (nss_ret (de_callTy mc_tuple (by rfl) B.b_tuple (by decide +kernel) (da_cons (de_callB (mc_sorted rfl) (by rfl) B.b_sorted (by decide +kernel) (da_cons (de_var (i := 6) rfl (by first | exact Or.inl rfl | exact Or.inr (Or.inl rfl) | exact Or.inr (Or.inr rfl))) da_nil)) da_nil)) ox0))))) ox0))))) ox0)) ox0))
abbrev N_law_versions : List Str := ["_law_label", "_law_blocks_here", "_law_found", "_law_block", "_law_makers_here", "_law_at"]
theorem sc_law_versions : FnScope N_law_versions ["_law_label", "_law_blocks_here"] (defScope (topS 32)) := ⟨rfl, rfl, rfl, by decide +kernel, rfl, by decide +kernel, by decide +kernel⟩
theorem ok_law_versions {f f1 f2 f3 : Addr} {fd fd1 fd2 fd3 : FuncData} {k k1 k2 k3 : Nat} (D : Df K mg "_law_versions" (topS 32) ["_law_label", "_law_blocks_here"] f fd)
    (D1 : Df K mg "_law_merged" (topS 31) ["_law_label", "_law_blocks_here"] f1 fd1) (G1 : FnD P w K mg base k1 f1 fd1 ["_law_label", "_law_blocks_here"] G_law_merged_k55) (h1 : k1 ≤ k)
    (D2 : Df K mg "_law_come" (topS 29) ["_law_blocks_here", "_law_left_out"] f2 fd2) (G2 : FnD P w K mg base k2 f2 fd2 ["_law_blocks_here", "_law_left_out"] G_law_come) (h2 : k2 ≤ k)
    (D3 : Df K mg "_law_makers" (topS 30) ["_law_label", "_law_blocks_here", "_law_block"] f3 fd3) (G3 : FnD P w K mg base k3 f3 fd3 ["_law_label", "_law_blocks_here", "_law_block"] G_law_makers_k55) (h3 : k3 ≤ k) (B : Bn mg) :
    FnD P w K mg base (k + 1) f fd ["_law_label", "_law_blocks_here"] (frameG (r_law_versions)) := by
  refine FnD.frame (fnN_of D.fn sc_law_versions (fun cdv A outer s H E hg hr xs hx => ?_))
  have nd := sc_law_versions.nd
  have hu := hr.units
  have hG : (A.deeper (envOfC "_law_versions" (defScope (topS 32)) s.heap.objs.size f cdv)).guards = some [] := hg
  have tk : Takes (cxOf (L2.CX P w) P w K mg base N_law_versions "_law_versions" (defScope (topS 32)) f cdv A outer s H E) (fun c d _ H => E c d H) := takes_of rfl rfl rfl rfl
  match xs, hx with
  | [w_label, w_blocks_here], _ =>
  exact (nss_at (mkS := mkU 6) (mkL := mkE) (ρ := [some w_label, some w_blocks_here, none, none, none, none]) (n := n_law_versions w_label w_blocks_here)
  (nss_set (i := 2) (ρ' := fun w_found => [some w_label, some w_blocks_here, some w_found, none, none, none]) nd rfl (by first | exact Or.inl rfl | exact Or.inr rfl) (de_addK (de_lst (da_cons (de_tup (da_cons de_str da_nil)) da_nil)) (de_lcP (own := [("_law_block", 3)]) (g := (gName 3)) (pat := pV) (st := (fun v ρ => ρ.set 3 (some v))) (t := tYesM) (e := (mTup (aCons (mC (.str "merge")) (aCons (mVar 3) aNil)))) rfl nd (di_seq (de_call hG G1 (hr.mono h1) D1.bd tk (by rfl) D1.gl D1.fn.kp (da_cons (de_var (i := 0) rfl (by first | exact Or.inl rfl | exact Or.inr (Or.inl rfl) | exact Or.inr (Or.inr rfl))) (da_cons (de_var (i := 1) rfl (by first | exact Or.inl rfl | exact Or.inr (Or.inl rfl) | exact Or.inr (Or.inr rfl))) da_nil)))) (blkOk_by (N := N_law_versions) (sc := defScope (topS 32)) (by decide +kernel)) (gokP_n (by decide)) (fun _ _ _ _ _ => (pg_name (i := 3) nd rfl (by first | exact Or.inl rfl | exact Or.inr rfl))) (fun _ _ _ _ _ => dts_nil) (fun _ _ _ _ _ => (de_tup (da_cons de_str (da_cons (de_var (i := 3) rfl (by first | exact Or.inl rfl | exact Or.inr (Or.inl rfl) | exact Or.inr (Or.inr rfl))) da_nil)))))) (fun w_found =>
  (nss_cons (mk1 := (mk_law_versions_1 w_label w_blocks_here w_found)) (ns_forP (mk1 := (mk_law_versions_1 w_label w_blocks_here w_found)) (ρb := fun p a => [some w_label, some w_blocks_here, some w_found, some p, none, none]) (a0 := ()) PassesOwn.leaving rfl (di_seq (de_call hG G2 (hr.mono h2) D2.bd tk (by rfl) D2.gl D2.fn.kp (da_cons (de_var (i := 1) rfl (by first | exact Or.inl rfl | exact Or.inr (Or.inl rfl) | exact Or.inr (Or.inr rfl))) (da_cons de_non da_nil)))) (dg_name (i := 3) nd rfl (by first | exact Or.inl rfl | exact Or.inr rfl)) tgp_n (fun p a =>
  (let w_block : Vl := p; (nss_at (mkS := (mk_law_versions_1 w_label w_blocks_here w_found)) (mkL := (mk_law_versions_1 w_label w_blocks_here w_found)) (ρ := [some w_label, some w_blocks_here, some w_found, some w_block, none, none]) (n := nb_law_versions_1 w_label w_blocks_here w_found w_block)
  (nss_set (i := 4) (ρ' := fun w_makers_here => [some w_label, some w_blocks_here, some w_found, some w_block, some w_makers_here, none]) nd rfl (by first | exact Or.inl rfl | exact Or.inr rfl) (de_call hG G3 (hr.mono h3) D3.bd tk (by rfl) D3.gl D3.fn.kp (da_cons (de_var (i := 0) rfl (by first | exact Or.inl rfl | exact Or.inr (Or.inl rfl) | exact Or.inr (Or.inr rfl))) (da_cons (de_var (i := 1) rfl (by first | exact Or.inl rfl | exact Or.inr (Or.inl rfl) | exact Or.inr (Or.inr rfl))) (da_cons (de_var (i := 3) rfl (by first | exact Or.inl rfl | exact Or.inr (Or.inl rfl) | exact Or.inr (Or.inr rfl))) da_nil)))) (fun w_makers_here =>
  (nss_expr (de_extend (de_var (i := 2) rfl (by first | exact Or.inl rfl | exact Or.inr (Or.inl rfl) | exact Or.inr (Or.inr rfl))) (da_cons (de_vals (i := 4) (j := 5) rfl nd hu (pe_var (i := 4) rfl (by first | exact Or.inl rfl | exact Or.inr (Or.inl rfl) | exact Or.inr (Or.inr rfl))) (blkOk_by (N := N_law_versions) (sc := defScope (topS 32)) (by decide +kernel)) (fun _ _ _ _ _ => (pg_name (i := 5) nd rfl (by first | exact Or.inl rfl | exact Or.inr rfl))) (fun _ _ _ _ _ => (pe_var (i := 4) rfl (by first | exact Or.inl rfl | exact Or.inr (Or.inl rfl) | exact Or.inr (Or.inr rfl)))) (fun _ _ _ _ _ => (pe_var (i := 5) rfl (by first | exact Or.inl rfl | exact Or.inr (Or.inl rfl) | exact Or.inr (Or.inr rfl)))) (by decide)) da_nil))
  (nss_nil (a := ()) (.som (.som (.som (.non (.non (.non .nil))))))) ox0)) ox0)))) (.som (.som (.som (.non (.non (.non .nil)))))) ox0) (fun j21 =>
  (nss_at (mkS := (mkU 6)) (mkL := mkE) (ρ := [some w_label, some w_blocks_here, some w_found, none, none, none]) (n := kt_law_versions_1 w_label w_blocks_here w_found)
  (nss_ret (de_callTy mc_tuple (by rfl) B.b_tuple (by decide +kernel) (da_cons (de_callB (mc_sortedM hu) (by rfl) B.b_sorted (by decide +kernel) (da_cons (de_var (i := 2) rfl (by first | exact Or.inl rfl | exact Or.inr (Or.inl rfl) | exact Or.inr (Or.inr rfl))) da_nil)) da_nil)) ox0))))) ox0))
abbrev N_law_k55 : List Str := ["_law_script", "_law_well_here", "_law_lap", "_law_prog_here", "_law_seen_now", "_law_label", "_law_blocks_here", "_law_due"]
theorem sc_law_k55 : FnScope N_law_k55 ["_law_script"] (defScope (topS 33)) := ⟨rfl, rfl, rfl, by decide +kernel, rfl, by decide +kernel, by decide +kernel⟩
theorem ok_law_k55 {f f1 f2 f3 f4 f5 f6 f7 : Addr} {fd fd1 fd2 fd3 fd4 fd5 fd6 fd7 : FuncData} {k k1 k2 k3 k4 k5 k6 k7 : Nat} (D : Df K mg "law" (topS 33) ["_law_script"] f fd)
    (D1 : Df K mg "_law_well" (topS 20) ["_law_script"] f1 fd1) (G1 : FnD P w K mg base k1 f1 fd1 ["_law_script"] G_law_well) (h1 : k1 ≤ k)
    (D2 : Df K mg "_law_prog" (topS 27) ["_law_well_here", "_law_in_a_ring"] f2 fd2) (G2 : FnD P w K mg base k2 f2 fd2 ["_law_well_here", "_law_in_a_ring"] G_law_prog_k55) (h2 : k2 ≤ k)
    (D3 : Df K mg "_law_dip" (topS 21) ["_law_well_here", "_law_many"] f3 fd3) (G3 : FnD P w K mg base k3 f3 fd3 ["_law_well_here", "_law_many"] G_law_dip) (h3 : k3 ≤ k)
    (D4 : Df K mg "_law_merged" (topS 31) ["_law_label", "_law_blocks_here"] f4 fd4) (G4 : FnD P w K mg base k4 f4 fd4 ["_law_label", "_law_blocks_here"] G_law_merged_k55) (h4 : k4 ≤ k)
    (D5 : Df K mg "merged_blocks" (topS 17) ["code", "name"] f5 fd5) (G5 : FnD P w K mg base k5 f5 fd5 ["code", "name"] G_merged_blocks) (h5 : k5 ≤ k)
    (D6 : Df K mg "_law_versions" (topS 32) ["_law_label", "_law_blocks_here"] f6 fd6) (G6 : FnD P w K mg base k6 f6 fd6 ["_law_label", "_law_blocks_here"] G_law_versions) (h6 : k6 ≤ k)
    (D7 : Df K mg "versions_of" (topS 18) ["code", "name"] f7 fd7) (G7 : FnD P w K mg base k7 f7 fd7 ["code", "name"] G_versions_of) (h7 : k7 ≤ k) (B : Bn mg) :
    FnD P w K mg base (k + 1) f fd ["_law_script"] (frameG (r_law_k55)) := by
  refine FnD.frame (fnN_of D.fn sc_law_k55 (fun cdv A outer s H E hg hr xs hx => ?_))
  have nd := sc_law_k55.nd
  have hu := hr.units
  have hG : (A.deeper (envOfC "law" (defScope (topS 33)) s.heap.objs.size f cdv)).guards = some [] := hg
  have tk : Takes (cxOf (L2.CX P w) P w K mg base N_law_k55 "law" (defScope (topS 33)) f cdv A outer s H E) (fun c d _ H => E c d H) := takes_of rfl rfl rfl rfl
  match xs, hx with
  | [w_script], _ =>
  exact (nss_at (mkS := mkU 8) (mkL := mkE) (ρ := [some w_script, none, none, none, none, none, none, none]) (n := n_law_k55 w_script)
  (nss_set (i := 1) (ρ' := fun w_well_here => [some w_script, some w_well_here, none, none, none, none, none, none]) nd rfl (by first | exact Or.inl rfl | exact Or.inr rfl) (de_call hG G1 (hr.mono h1) D1.bd tk (by rfl) D1.gl D1.fn.kp (da_cons (de_var (i := 0) rfl (by first | exact Or.inl rfl | exact Or.inr (Or.inl rfl) | exact Or.inr (Or.inr rfl))) da_nil)) (fun w_well_here =>
  (nss_cons (mk1 := (mk_law_k55_1 w_well_here)) (ns_forP (mk1 := (mk_law_k55_1 w_well_here)) (ρb := fun p a => [none, some w_well_here, some p, none, none, none, none, none]) (a0 := ()) PassesOwn.leaving rfl (di_range1 (by rfl) B.b_range (da_cons de_int da_nil)) (dg_name (i := 2) nd rfl (by first | exact Or.inl rfl | exact Or.inr rfl)) tgp_n (fun p a =>
  (let w_lap : Vl := p; (nss_at (mkS := (mk_law_k55_1 w_well_here)) (mkL := (mk_law_k55_1 w_well_here)) (ρ := [none, some w_well_here, some w_lap, none, none, none, none, none]) (n := nb_law_k55_1 w_well_here w_lap)
  (nss_set (i := 3) (ρ' := fun w_prog_here => [none, some w_well_here, some w_lap, some w_prog_here, none, none, none, none]) nd rfl (by first | exact Or.inl rfl | exact Or.inr rfl) (de_call hG G2 (hr.mono h2) D2.bd tk (by rfl) D2.gl D2.fn.kp (da_cons (de_var (i := 1) rfl (by first | exact Or.inl rfl | exact Or.inr (Or.inl rfl) | exact Or.inr (Or.inr rfl))) (da_cons (de_cmp (mo_eq hu) (de_call hG G3 (hr.mono h3) D3.bd tk (by rfl) D3.gl D3.fn.kp (da_cons (de_var (i := 1) rfl (by first | exact Or.inl rfl | exact Or.inr (Or.inl rfl) | exact Or.inr (Or.inr rfl))) (da_cons de_int da_nil))) de_int (nomark _)) da_nil))) (fun w_prog_here =>
  (nss_set (i := 4) (ρ' := fun w_seen_now => [none, some w_well_here, some w_lap, some w_prog_here, some w_seen_now, none, none, none]) nd rfl (by first | exact Or.inl rfl | exact Or.inr rfl) (de_callB (mc_repr hG hu) (by rfl) B.b_repr (by decide +kernel) (da_cons (de_var (i := 3) rfl (by first | exact Or.inl rfl | exact Or.inr (Or.inl rfl) | exact Or.inr (Or.inr rfl))) da_nil)) (fun w_seen_now =>
  (nss_cons (mk1 := (mk_law_k55_2 w_well_here w_prog_here w_seen_now)) (ns_forP (mk1 := (mk_law_k55_2 w_well_here w_prog_here w_seen_now)) (ρb := fun p a => [none, some w_well_here, none, some w_prog_here, some w_seen_now, some p.1, some p.2, none]) (a0 := ()) PassesOwn.leaving rfl (di_seq (de_ix (mx_ix hu) (de_var (i := 3) rfl (by first | exact Or.inl rfl | exact Or.inr (Or.inl rfl) | exact Or.inr (Or.inr rfl))) de_int (fun _ _ => rfl))) (dg_tup rfl (dgs_cons (dg_name (i := 5) nd rfl (by first | exact Or.inl rfl | exact Or.inr rfl)) (dgs_cons (dg_name (i := 6) nd rfl (by first | exact Or.inl rfl | exact Or.inr rfl)) dgs_nil))) (tgp_2 tgp_n tgp_n) (fun p a =>
  (let w_label : Vl := p.1; (let w_blocks_here : Vl := p.2; (nss_at (mkS := (mk_law_k55_2 w_well_here w_prog_here w_seen_now)) (mkL := (mk_law_k55_2 w_well_here w_prog_here w_seen_now)) (ρ := [none, some w_well_here, none, some w_prog_here, some w_seen_now, some w_label, some w_blocks_here, none]) (n := nb_law_k55_2 w_well_here w_prog_here w_seen_now w_label w_blocks_here)
  (nss_set (i := 7) (ρ' := fun w_due => [none, some w_well_here, none, some w_prog_here, some w_seen_now, some w_label, some w_blocks_here, some w_due]) nd rfl (by first | exact Or.inl rfl | exact Or.inr rfl) (de_callB (mc_repr hG hu) (by rfl) B.b_repr (by decide +kernel) (da_cons (de_call hG G4 (hr.mono h4) D4.bd tk (by rfl) D4.gl D4.fn.kp (da_cons (de_var (i := 5) rfl (by first | exact Or.inl rfl | exact Or.inr (Or.inl rfl) | exact Or.inr (Or.inr rfl))) (da_cons (de_var (i := 6) rfl (by first | exact Or.inl rfl | exact Or.inr (Or.inl rfl) | exact Or.inr (Or.inr rfl))) da_nil))) da_nil)) (fun w_due =>
  (nss_ifx (mk0 := mkE) (dt_w (dw_or (dt_cmp (mo_ne hu) (de_callB (mc_repr hG hu) (by rfl) B.b_repr (by decide +kernel) (da_cons (de_call hG G5 (hr.mono h5) D5.bd tk (by rfl) D5.gl D5.fn.kp (da_cons (de_var (i := 3) rfl (by first | exact Or.inl rfl | exact Or.inr (Or.inl rfl) | exact Or.inr (Or.inr rfl))) (da_cons (de_var (i := 5) rfl (by first | exact Or.inl rfl | exact Or.inr (Or.inl rfl) | exact Or.inr (Or.inr rfl))) da_nil))) da_nil)) (de_var (i := 7) rfl (by first | exact Or.inl rfl | exact Or.inr (Or.inl rfl) | exact Or.inr (Or.inr rfl))) (nomark _)) (dw_or1 (dt_cmp (mo_ne hu) (de_callB (mc_repr hG hu) (by rfl) B.b_repr (by decide +kernel) (da_cons (de_callK0 (n := 2) (ix := [1, 0]) (ks := ["name", "code"]) hG D5 G5 (hr.mono h5) tk (by rfl) (fun _ _ _ _ _ _ ws hl => match ws, hl with | [_, _], _ => rfl) (dk_cons (de_var (i := 5) rfl (by first | exact Or.inl rfl | exact Or.inr (Or.inl rfl) | exact Or.inr (Or.inr rfl))) (dk_cons (de_var (i := 3) rfl (by first | exact Or.inl rfl | exact Or.inr (Or.inl rfl) | exact Or.inr (Or.inr rfl))) dk_nil))) da_nil)) (de_var (i := 7) rfl (by first | exact Or.inl rfl | exact Or.inr (Or.inl rfl) | exact Or.inr (Or.inr rfl))) (nomark _)))))
  (nss_ret de_bl ox0)
  (nss_set (i := 7) (ρ' := fun w_due => [none, some w_well_here, none, some w_prog_here, some w_seen_now, some w_label, some w_blocks_here, some w_due]) nd rfl (by first | exact Or.inl rfl | exact Or.inr rfl) (de_callB (mc_repr hG hu) (by rfl) B.b_repr (by decide +kernel) (da_cons (de_call hG G6 (hr.mono h6) D6.bd tk (by rfl) D6.gl D6.fn.kp (da_cons (de_var (i := 5) rfl (by first | exact Or.inl rfl | exact Or.inr (Or.inl rfl) | exact Or.inr (Or.inr rfl))) (da_cons (de_var (i := 6) rfl (by first | exact Or.inl rfl | exact Or.inr (Or.inl rfl) | exact Or.inr (Or.inr rfl))) da_nil))) da_nil)) (fun w_due =>
  (nss_if1 (dt_w (dw_or (dt_cmp (mo_ne hu) (de_callB (mc_repr hG hu) (by rfl) B.b_repr (by decide +kernel) (da_cons (de_call hG G7 (hr.mono h7) D7.bd tk (by rfl) D7.gl D7.fn.kp (da_cons (de_var (i := 3) rfl (by first | exact Or.inl rfl | exact Or.inr (Or.inl rfl) | exact Or.inr (Or.inr rfl))) (da_cons (de_var (i := 5) rfl (by first | exact Or.inl rfl | exact Or.inr (Or.inl rfl) | exact Or.inr (Or.inr rfl))) da_nil))) da_nil)) (de_var (i := 7) rfl (by first | exact Or.inl rfl | exact Or.inr (Or.inl rfl) | exact Or.inr (Or.inr rfl))) (nomark _)) (dw_or1 (dt_cmp (mo_ne hu) (de_callB (mc_repr hG hu) (by rfl) B.b_repr (by decide +kernel) (da_cons (de_callK0 (n := 2) (ix := [1, 0]) (ks := ["name", "code"]) hG D7 G7 (hr.mono h7) tk (by rfl) (fun _ _ _ _ _ _ ws hl => match ws, hl with | [_, _], _ => rfl) (dk_cons (de_var (i := 5) rfl (by first | exact Or.inl rfl | exact Or.inr (Or.inl rfl) | exact Or.inr (Or.inr rfl))) (dk_cons (de_var (i := 3) rfl (by first | exact Or.inl rfl | exact Or.inr (Or.inl rfl) | exact Or.inr (Or.inr rfl))) dk_nil))) da_nil)) (de_var (i := 7) rfl (by first | exact Or.inl rfl | exact Or.inr (Or.inl rfl) | exact Or.inr (Or.inr rfl))) (nomark _)))))
  (nss_ret de_bl ox0)
  (nss_nil (a := ()) (.non (.som (.non (.som (.som (.non (.non (.non .nil))))))))) ox0)) ox0) ox0)) ox0))))) (.non (.som (.non (.som (.som (.non (.non (.non .nil)))))))) ox0) (fun j70 =>
  (nss_at (mkS := (mk_law_k55_1 w_well_here)) (mkL := (mk_law_k55_1 w_well_here)) (ρ := [none, some w_well_here, none, some w_prog_here, some w_seen_now, none, none, none]) (n := kt_law_k55_1 w_well_here w_prog_here w_seen_now)
  (nss_if1 (dt_cmp (mo_ne hu) (de_callB (mc_repr hG hu) (by rfl) B.b_repr (by decide +kernel) (da_cons (de_var (i := 3) rfl (by first | exact Or.inl rfl | exact Or.inr (Or.inl rfl) | exact Or.inr (Or.inr rfl))) da_nil)) (de_var (i := 4) rfl (by first | exact Or.inl rfl | exact Or.inr (Or.inl rfl) | exact Or.inr (Or.inr rfl))) (nomark _))
  (nss_ret de_bl ox0)
  (nss_nil (a := ()) (.non (.som (.non (.non (.non (.non (.non (.non .nil))))))))) ox0))))) ox0)) ox0)))) (.non (.som (.non (.non (.non (.non (.non (.non .nil)))))))) ox0) (fun j82 =>
  (nss_at (mkS := (mkU 8)) (mkL := mkE) (ρ := [none, some w_well_here, none, none, none, none, none, none]) (n := kt_law_k55_2 w_well_here)
  (nss_ret de_bl ox0))))) ox0))
end
end Pm
set_option maxRecDepth 100000
set_option maxHeartbeats 4000000
namespace Pm
open PySem PySem.Spec PyProof.Rows L2 Sw
/-- the law's own call, from the promise of its def: the script is locked, or it is one of the module's own objects -/
theorem law_goesD {P : Program} {w : World} {K : PySem.W.Frag} {mg mb : Str → Option Value} {k : Nat} {fa a : Addr} {fd : FuncData} {x : Str} {g : MF} {s : Shared} {vs : List Value} {ns : List Int}
    (kin : K.In s.heap) (g0 : s.heap.Ns mainGlobals mg) (b : s.heap.Ns builtinsNs mb) (hbb : ∀ y : Str, y ≠ "__name__" → mb y = bootBuiltins y) (nl : s.heap.NoLimit) (gn : s.gens = #[])
    (ha : s.heap.get? a = some { cls := .type "list", data := .seq vs.toArray }) (hi : IntsAre vs ns) (hl : ns.length ≤ sizeLine) (hr : Room k callerA)
    (F : ∀ base : Heap, K.In base → base.Ns mainGlobals mg → FnD P w K mg base k fa fd [x] g) (bd : ∀ (s : Shared) (u : Value), BindsTo s fd ⟨[u], []⟩ [(x, u)])
    (hsp : ∃ s1, g [.scr ns] [] = .ok (.dat (.bool true)) s1) (h0 : tabT = []) :
    codeAny (model P w) callerA (.call (.ref fa) ⟨[.ref a], []⟩) (fun r s' => r = .ok (.ret (.bool true)) ∧ OldK s.heap s'.heap ∧ s'.os = s.os ∧ AllBare s'.gens) s := by
  have rv := vals_ints hi
  have step : ∀ H : Hp, Scr K H a (ns.map V.int) → HOk P w H s.heap → (∀ c u, H c = some u → c = a ∧ u = .frz { cls := .type "list", data := .seq vs.toArray } (.lst (ns.map V.int)) ∧ K.lookup a = none) →
      codeAny (model P w) callerA (.call (.ref fa) ⟨[.ref a], []⟩) (fun r s' => r = .ok (.ret (.bool true)) ∧ OldK s.heap s'.heap ∧ s'.os = s.os ∧ AllBare s'.gens) s := by
    intro H hS hok only
    have dictFree : ∀ {c : Addr} {o : Obj} {es : Array DictEntry} {ep : Nat}, s.heap.get? c = some o → o.data = .dict es ep → H c = none := by
      intro c o es ep e d
      cases q : H c with
      | none => rfl
      | some u =>
        obtain ⟨rfl, _, _⟩ := only c u q
        rw [ha] at e
        cases e
        cases d
    have ns2 : ∀ {c : Addr} {m : Str → Option Value}, s.heap.Ns c m → (hidT s.heap H).Ns c m := by
      rintro c m ⟨o, es, ep, e, d, r⟩
      exact ⟨o, es, ep, hidT_get e (dictFree e d), d, r⟩
    have kb : K.In (hidT s.heap H) := by
      intro c o e
      refine hidT_get (kin c o e) ?_
      cases q : H c with
      | none => rfl
      | some u =>
        obtain ⟨rfl, _, z⟩ := only c u q
        rw [z] at e
        cases e
    have md : Mod K mg (hidT s.heap H) := ⟨kb, ns2 g0, ⟨mb, ns2 b, hbb⟩, by
      obtain ⟨mc, h1, h2⟩ := nl
      exact ⟨mc, ns2 h1, h2⟩⟩
    have e0 : Env0 P w K mg (hidT s.heap H) callerA [] s H := ⟨rfl, md, fun c o e => of_hidT e, Nat.le_of_eq (hidT_size _ _), trivial, fun c hc => (nomatch hc), hok, .of_eq gn⟩
    refine codeAny_mono ((F _ kb (ns2 g0)).goes callerA [] s H ⟨[.ref a], []⟩ [.ref a] [.ref a] (fun v _ => v = .bl true) (fun _ _ _ => False) rfl hr e0 (bd s (.ref a)) (.cons rfl .nil) ?sp) ?_
    case sp =>
      obtain ⟨s1, e1⟩ := hsp
      refine ⟨⟨[], []⟩, [], [.scr ns], ⟨rfl, List.nodup_nil, fun n o a h => by simp at h, (fun a h => by cases h), fun p hp => by rw [h0] at hp; cases hp⟩, .cons ⟨a, rfl, hS⟩ .nil, rfl, ?_⟩
      rw [e1]
      intro β' H' u st hs rv
      cases rv
      rfl
    intro r s' h
    cases r with
    | error e =>
      obtain ⟨_, _, _, _, _, _, _, _, _, _, _, _, z⟩ := h
      exact z.elim
    | ok fl =>
      cases fl with
      | ret u =>
        obtain ⟨v, H', os, bare, un, hok', r', q⟩ := h
        cases (show v = .bl true from q)
        cases (show u = Value.bool true from r')
        refine ⟨rfl, OldK.of_keep fun c o e => ?_, os, bare⟩
        cases q : H c with
        | none => exact un.keep c o e q (fun z => nomatch z) (fun z => nomatch z)
        | some u =>
          obtain ⟨rfl, rfl, _⟩ := only c u q
          obtain ⟨e2, _⟩ := hok' _ _ (un.frzs _ _ _ q)
          rw [ha] at e
          cases e
          exact e2
      | next => exact False.elim h
      | brk => exact False.elim h
      | cont => exact False.elim h
  cases hk : K.lookup a with
  | some o =>
    have e := kin a o hk
    rw [ha] at e
    cases e
    refine step (fun _ => none) (.inr (.inr ⟨_, vs.toArray, _, hk, rfl, rfl, rfl, ?_, by simpa using rv⟩)) (fun c u z => nomatch z) (fun c u z => nomatch z)
    rw [List.size_toArray, hi.length]
    exact hl
  | none =>
    refine step (fun c => if c = a then some (.frz { cls := .type "list", data := .seq vs.toArray } (.lst (ns.map V.int))) else none) (.inl ⟨_, if_pos rfl⟩) ?_ ?_
    · intro c u z
      by_cases hc : c = a
      · have z' := (if_pos hc).symm.trans z
        cases z'
        subst hc
        exact ⟨ha, by rw [List.length_map]; exact hl, vs, _, rv, ha⟩
      · have z' := (if_neg hc).symm.trans z
        cases z'
    · intro c u z
      by_cases hc : c = a
      · have z' := (if_pos hc).symm.trans z
        exact ⟨hc, (Option.some.inj z').symm, hk⟩
      · have z' := (if_neg hc).symm.trans z
        cases z'
/-- the goal that k_head leaves, from the promise of the law's def -/
theorem walkD {l : PySem.W.OpenLaw} {n k : Nat} {q : Program} {loose : List Str} {XP : (Str → Option Value) → Heap → Prop} {YP : World → Heap → Prop} {d : DefRec} {K : Params → PySem.W.Frag} {g : MF} {x : Str}
    (hn : l.most = some n) (hn2 : n ≤ sizeLine) (hdf : d.params.defaults = []) (hr : Room k callerA) (hY : ∀ (w : World) (h : Heap), YP w h → (K w.params).In h)
    (F : ∀ (w : World) (mg : Str → Option Value) (fa : Addr) (h : Heap), (K w.params).In h → h.Ns mainGlobals mg → mg d.name = some (.ref fa) →
      ∃ fd : FuncData, (∀ (s : Shared) (u : Value), BindsTo s fd ⟨[u], []⟩ [(x, u)]) ∧ ∀ base : Heap, (K w.params).In base → base.Ns mainGlobals mg → FnD l.prog w (K w.params) mg base k fa fd [x] g)
    (hsp : ∀ ns : List Int, ns.length ≤ n → (∀ z ∈ ns, Builtin.Int.intBits z ≤ 1048576) → ∃ s1, g [.scr ns] [] = .ok (.dat (.bool true)) s1) (h0 : tabT = [] := by rfl) :
    PySem.W.WalkO q loose XP YP l.row.toRowW d [] (fun f vs => PySem.call f vs) := by
  refine Att.attach_callB hn hdf ?_
  intro w s₀ s₁ mg mb fa o pm cd doc a vs ns G Y ho hd hcd hmg hobj hints hlen hbits hg
  obtain ⟨fd, hb, hF⟩ := F w mg fa _ (hY w _ Y) G.T.g hmg
  exact law_goesD (hY w _ Y) G.T.g G.T.b G.T.builtins G.T.nolimit hg hobj hints (Nat.le_trans hlen hn2) hr hF hb (hsp ns hlen hbits) h0
theorem FnD.bad {P : Program} {w : World} {K : PySem.W.Frag} {mg : Str → Option Value} {base : Heap} {f : Addr} {fd : FuncData} {ps : List Str} {k : Nat} : FnD P w K mg base k f fd ps (fun _ _ => .bad) := ⟨fun A outer s H args us vs Q E hg hr e0 bd r ⟨β, s0, xs, hs, rx, hl, hp⟩ => hp.elim⟩
end Pm
set_option maxRecDepth 100000
set_option maxHeartbeats 4000000
namespace Pm
open PySem PySem.Spec PyProof.Rows L2 Sw
theorem all_mk {l : PySem.W.OpenLaw} {w : World} {K : PySem.W.Frag} {h : Heap} {mg : Str → Option Value} {fa f4 f6 f7 f8 f9 f11 f12 f16 f17 f18 f20 f21 f22 f23 f24 f25 f26 f27 f28 f29 f30 f31 f32 f33 : Addr} (X : K.In h) (G : h.Ns mainGlobals mg) (hfa : mg "law" = some (.ref fa))
    {od4 od6 od7 od8 od9 od11 od12 od16 od17 od18 od20 od21 od22 od23 od24 od25 od26 od27 od28 od29 od30 od31 od32 od33 an4 an6 an7 an8 an9 an11 an12 an16 an17 an18 an20 an21 an22 an23 an24 an25 an26 an27 an28 an29 an30 an31 an32 an33 : Option Addr} {sl4 sl6 sl7 sl8 sl9 sl11 sl12 sl16 sl17 sl18 sl20 sl21 sl22 sl23 sl24 sl25 sl26 sl27 sl28 sl29 sl30 sl31 sl32 sl33 : Array (Option Value)} {oc4 oc6 oc7 oc8 oc9 oc11 oc12 oc16 oc17 oc18 oc20 oc21 oc22 oc23 oc24 oc25 oc26 oc27 oc28 oc29 oc30 oc31 oc32 oc33 kV4 kV6 kV7 kV8 kV9 kV11 kV12 kV16 kV17 kV18 kV20 kV21 kV22 kV23 kV24 kV25 kV26 kV27 kV28 kV29 kV30 kV31 kV32 kV33 dc4 dc6 dc7 dc8 dc9 dc11 dc12 dc16 dc17 dc18 dc20 dc21 dc22 dc23 dc24 dc25 dc26 dc27 dc28 dc29 dc30 dc31 dc32 dc33 pm4 pm6 pm7 pm8 pm9 pm11 pm12 pm16 pm17 pm18 pm20 pm21 pm22 pm23 pm24 pm25 pm26 pm27 pm28 pm29 pm30 pm31 pm32 pm33 cd4 cd6 cd7 cd8 cd9 cd11 cd12 cd16 cd17 cd18 cd20 cd21 cd22 cd23 cd24 cd25 cd26 cd27 cd28 cd29 cd30 cd31 cd32 cd33 ct4 ct6 ct7 ct8 ct9 ct11 ct12 ct16 ct17 ct18 ct20 ct21 ct22 ct23 ct24 ct25 ct26 ct27 ct28 ct29 ct30 ct31 ct32 ct33 : Value}
    {cA1 : Addr} {its_cA1 : Array Value} {n_cA1 : Nat} {dd_cA1 : Option Addr} {sl_cA1 : Array (Option Value)} {cA2 : Addr} {its_cA2 : Array Value} {n_cA2 : Nat} {dd_cA2 : Option Addr} {sl_cA2 : Array (Option Value)}
    (a4 : PySem.W.nsIn K mainGlobals "blocks_of" = some (some (.ref f4))) (l4 : K.lookup f4 = some ⟨oc4, od4, .func (PySem.W.fnOf "blocks_of" "blocks_of" (defArgs (topS 4)) (defBody (topS 4)) (defScope (topS 4)) .none kV4 dc4 pm4 an4 cd4 ct4), sl4⟩) (c4 : PySem.W.codeIn K cd4 "blocks_of" = true) (k4 : PySem.W.keepIn K (.ref f4) = true)
    (a6 : PySem.W.nsIn K mainGlobals "goals" = some (some (.ref f6))) (l6 : K.lookup f6 = some ⟨oc6, od6, .func (PySem.W.fnOf "goals" "goals" (defArgs (topS 6)) (defBody (topS 6)) (defScope (topS 6)) .none kV6 dc6 pm6 an6 cd6 ct6), sl6⟩) (c6 : PySem.W.codeIn K cd6 "goals" = true) (k6 : PySem.W.keepIn K (.ref f6) = true)
    (a7 : PySem.W.nsIn K mainGlobals "nexts" = some (some (.ref f7))) (l7 : K.lookup f7 = some ⟨oc7, od7, .func (PySem.W.fnOf "nexts" "nexts" (defArgs (topS 7)) (defBody (topS 7)) (defScope (topS 7)) .none kV7 dc7 pm7 an7 cd7 ct7), sl7⟩) (c7 : PySem.W.codeIn K cd7 "nexts" = true) (k7 : PySem.W.keepIn K (.ref f7) = true)
    (a8 : PySem.W.nsIn K mainGlobals "led_around" = some (some (.ref f8))) (l8 : K.lookup f8 = some ⟨oc8, od8, .func (PySem.W.fnOf "led_around" "led_around" (defArgs (topS 8)) (defBody (topS 8)) (defScope (topS 8)) .none kV8 dc8 pm8 an8 cd8 ct8), sl8⟩) (c8 : PySem.W.codeIn K cd8 "led_around" = true) (k8 : PySem.W.keepIn K (.ref f8) = true)
    (a9 : PySem.W.nsIn K mainGlobals "reached" = some (some (.ref f9))) (l9 : K.lookup f9 = some ⟨oc9, od9, .func (PySem.W.fnOf "reached" "reached" (defArgs (topS 9)) (defBody (topS 9)) (defScope (topS 9)) .none kV9 dc9 pm9 an9 cd9 ct9), sl9⟩) (c9 : PySem.W.codeIn K cd9 "reached" = true) (k9 : PySem.W.keepIn K (.ref f9) = true)
    (a11 : PySem.W.nsIn K mainGlobals "frontier" = some (some (.ref f11))) (l11 : K.lookup f11 = some ⟨oc11, od11, .func (PySem.W.fnOf "frontier" "frontier" (defArgs (topS 11)) (defBody (topS 11)) (defScope (topS 11)) .none kV11 dc11 pm11 an11 cd11 ct11), sl11⟩) (c11 : PySem.W.codeIn K cd11 "frontier" = true) (k11 : PySem.W.keepIn K (.ref f11) = true)
    (a12 : PySem.W.nsIn K mainGlobals "frontier_again" = some (some (.ref f12))) (l12 : K.lookup f12 = some ⟨oc12, od12, .func (PySem.W.fnOf "frontier_again" "frontier_again" (defArgs (topS 12)) (defBody (topS 12)) (defScope (topS 12)) .none kV12 dc12 pm12 an12 cd12 ct12), sl12⟩) (c12 : PySem.W.codeIn K cd12 "frontier_again" = true) (k12 : PySem.W.keepIn K (.ref f12) = true)
    (a16 : PySem.W.nsIn K mainGlobals "given_in" = some (some (.ref f16))) (l16 : K.lookup f16 = some ⟨oc16, od16, .func (PySem.W.fnOf "given_in" "given_in" (defArgs (topS 16)) (defBody (topS 16)) (defScope (topS 16)) .none kV16 dc16 pm16 an16 cd16 ct16), sl16⟩) (c16 : PySem.W.codeIn K cd16 "given_in" = true) (k16 : PySem.W.keepIn K (.ref f16) = true)
    (a17 : PySem.W.nsIn K mainGlobals "merged_blocks" = some (some (.ref f17))) (l17 : K.lookup f17 = some ⟨oc17, od17, .func (PySem.W.fnOf "merged_blocks" "merged_blocks" (defArgs (topS 17)) (defBody (topS 17)) (defScope (topS 17)) .none kV17 dc17 pm17 an17 cd17 ct17), sl17⟩) (c17 : PySem.W.codeIn K cd17 "merged_blocks" = true) (k17 : PySem.W.keepIn K (.ref f17) = true)
    (a18 : PySem.W.nsIn K mainGlobals "versions_of" = some (some (.ref f18))) (l18 : K.lookup f18 = some ⟨oc18, od18, .func (PySem.W.fnOf "versions_of" "versions_of" (defArgs (topS 18)) (defBody (topS 18)) (defScope (topS 18)) .none kV18 dc18 pm18 an18 cd18 ct18), sl18⟩) (c18 : PySem.W.codeIn K cd18 "versions_of" = true) (k18 : PySem.W.keepIn K (.ref f18) = true)
    (a20 : PySem.W.nsIn K mainGlobals "_law_well" = some (some (.ref f20))) (l20 : K.lookup f20 = some ⟨oc20, od20, .func (PySem.W.fnOf "_law_well" "_law_well" (defArgs (topS 20)) (defBody (topS 20)) (defScope (topS 20)) .none kV20 dc20 pm20 an20 cd20 ct20), sl20⟩) (c20 : PySem.W.codeIn K cd20 "_law_well" = true) (k20 : PySem.W.keepIn K (.ref f20) = true)
    (a21 : PySem.W.nsIn K mainGlobals "_law_dip" = some (some (.ref f21))) (l21 : K.lookup f21 = some ⟨oc21, od21, .func (PySem.W.fnOf "_law_dip" "_law_dip" (defArgs (topS 21)) (defBody (topS 21)) (defScope (topS 21)) .none kV21 dc21 pm21 an21 cd21 ct21), sl21⟩) (c21 : PySem.W.codeIn K cd21 "_law_dip" = true) (k21 : PySem.W.keepIn K (.ref f21) = true)
    (a22 : PySem.W.nsIn K mainGlobals "_law_operand" = some (some (.ref f22))) (l22 : K.lookup f22 = some ⟨oc22, od22, .func (PySem.W.fnOf "_law_operand" "_law_operand" (defArgs (topS 22)) (defBody (topS 22)) (defScope (topS 22)) .none kV22 dc22 pm22 an22 cd22 ct22), sl22⟩) (c22 : PySem.W.codeIn K cd22 "_law_operand" = true) (k22 : PySem.W.keepIn K (.ref f22) = true)
    (a23 : PySem.W.nsIn K mainGlobals "_law_address" = some (some (.ref f23))) (l23 : K.lookup f23 = some ⟨oc23, od23, .func (PySem.W.fnOf "_law_address" "_law_address" (defArgs (topS 23)) (defBody (topS 23)) (defScope (topS 23)) .none kV23 dc23 pm23 an23 cd23 ct23), sl23⟩) (c23 : PySem.W.codeIn K cd23 "_law_address" = true) (k23 : PySem.W.keepIn K (.ref f23) = true)
    (a24 : PySem.W.nsIn K mainGlobals "_law_row" = some (some (.ref f24))) (l24 : K.lookup f24 = some ⟨oc24, od24, .func (PySem.W.fnOf "_law_row" "_law_row" (defArgs (topS 24)) (defBody (topS 24)) (defScope (topS 24)) .none kV24 dc24 pm24 an24 cd24 ct24), sl24⟩) (c24 : PySem.W.codeIn K cd24 "_law_row" = true) (k24 : PySem.W.keepIn K (.ref f24) = true)
    (a25 : PySem.W.nsIn K mainGlobals "_law_end" = some (some (.ref f25))) (l25 : K.lookup f25 = some ⟨oc25, od25, .func (PySem.W.fnOf "_law_end" "_law_end" (defArgs (topS 25)) (defBody (topS 25)) (defScope (topS 25)) .none kV25 dc25 pm25 an25 cd25 ct25), sl25⟩) (c25 : PySem.W.codeIn K cd25 "_law_end" = true) (k25 : PySem.W.keepIn K (.ref f25) = true)
    (a26 : PySem.W.nsIn K mainGlobals "_law_blocks" = some (some (.ref f26))) (l26 : K.lookup f26 = some ⟨oc26, od26, .func (PySem.W.fnOf "_law_blocks" "_law_blocks" (defArgs (topS 26)) (defBody (topS 26)) (defScope (topS 26)) .none kV26 dc26 pm26 an26 cd26 ct26), sl26⟩) (c26 : PySem.W.codeIn K cd26 "_law_blocks" = true) (k26 : PySem.W.keepIn K (.ref f26) = true)
    (a27 : PySem.W.nsIn K mainGlobals "_law_prog" = some (some (.ref f27))) (l27 : K.lookup f27 = some ⟨oc27, od27, .func (PySem.W.fnOf "_law_prog" "_law_prog" (defArgs (topS 27)) (defBody (topS 27)) (defScope (topS 27)) .none kV27 dc27 pm27 an27 cd27 ct27), sl27⟩) (c27 : PySem.W.codeIn K cd27 "_law_prog" = true) (k27 : PySem.W.keepIn K (.ref f27) = true)
    (a28 : PySem.W.nsIn K mainGlobals "_law_after" = some (some (.ref f28))) (l28 : K.lookup f28 = some ⟨oc28, od28, .func (PySem.W.fnOf "_law_after" "_law_after" (defArgs (topS 28)) (defBody (topS 28)) (defScope (topS 28)) .none kV28 dc28 pm28 an28 cd28 ct28), sl28⟩) (c28 : PySem.W.codeIn K cd28 "_law_after" = true) (k28 : PySem.W.keepIn K (.ref f28) = true)
    (a29 : PySem.W.nsIn K mainGlobals "_law_come" = some (some (.ref f29))) (l29 : K.lookup f29 = some ⟨oc29, od29, .func (PySem.W.fnOf "_law_come" "_law_come" (defArgs (topS 29)) (defBody (topS 29)) (defScope (topS 29)) .none kV29 dc29 pm29 an29 cd29 ct29), sl29⟩) (c29 : PySem.W.codeIn K cd29 "_law_come" = true) (k29 : PySem.W.keepIn K (.ref f29) = true)
    (a30 : PySem.W.nsIn K mainGlobals "_law_makers" = some (some (.ref f30))) (l30 : K.lookup f30 = some ⟨oc30, od30, .func (PySem.W.fnOf "_law_makers" "_law_makers" (defArgs (topS 30)) (defBody (topS 30)) (defScope (topS 30)) .none kV30 dc30 pm30 an30 cd30 ct30), sl30⟩) (c30 : PySem.W.codeIn K cd30 "_law_makers" = true) (k30 : PySem.W.keepIn K (.ref f30) = true)
    (a31 : PySem.W.nsIn K mainGlobals "_law_merged" = some (some (.ref f31))) (l31 : K.lookup f31 = some ⟨oc31, od31, .func (PySem.W.fnOf "_law_merged" "_law_merged" (defArgs (topS 31)) (defBody (topS 31)) (defScope (topS 31)) .none kV31 dc31 pm31 an31 cd31 ct31), sl31⟩) (c31 : PySem.W.codeIn K cd31 "_law_merged" = true) (k31 : PySem.W.keepIn K (.ref f31) = true)
    (a32 : PySem.W.nsIn K mainGlobals "_law_versions" = some (some (.ref f32))) (l32 : K.lookup f32 = some ⟨oc32, od32, .func (PySem.W.fnOf "_law_versions" "_law_versions" (defArgs (topS 32)) (defBody (topS 32)) (defScope (topS 32)) .none kV32 dc32 pm32 an32 cd32 ct32), sl32⟩) (c32 : PySem.W.codeIn K cd32 "_law_versions" = true) (k32 : PySem.W.keepIn K (.ref f32) = true)
    (a33 : PySem.W.nsIn K mainGlobals "law" = some (some (.ref f33))) (l33 : K.lookup f33 = some ⟨oc33, od33, .func (PySem.W.fnOf "law" "law" (defArgs (topS 33)) (defBody (topS 33)) (defScope (topS 33)) .none kV33 dc33 pm33 an33 cd33 ct33), sl33⟩) (c33 : PySem.W.codeIn K cd33 "law" = true) (k33 : PySem.W.keepIn K (.ref f33) = true)
    (g_BEGIN : PySem.W.nsIn K mainGlobals "BEGIN" = some (some (.ref cA1)))
    (l_cA1 : K.lookup cA1 = some ⟨.type "tuple", dd_cA1, .seq its_cA1 n_cA1, sl_cA1⟩)
    (s_cA1 : its_cA1.size ≤ sizeLine)
    (v_cA1 : Vals [.str "begin"] its_cA1.toList)
    (g_GIVING : PySem.W.nsIn K mainGlobals "GIVING" = some (some (.ref cA2)))
    (l_cA2 : K.lookup cA2 = some ⟨.type "tuple", dd_cA2, .seq its_cA2 n_cA2, sl_cA2⟩)
    (s_cA2 : its_cA2.size ≤ sizeLine)
    (v_cA2 : Vals [.str "store", .str "call"] its_cA2.toList)
    (z0 : PySem.W.nsIn K mainGlobals "dict" = some none) (z1 : PySem.W.nsIn K mainGlobals "enumerate" = some none) (z2 : PySem.W.nsIn K mainGlobals "len" = some none) (z3 : PySem.W.nsIn K mainGlobals "list" = some none) (z4 : PySem.W.nsIn K mainGlobals "min" = some none) (z5 : PySem.W.nsIn K mainGlobals "range" = some none) (z6 : PySem.W.nsIn K mainGlobals "repr" = some none) (z7 : PySem.W.nsIn K mainGlobals "set" = some none) (z8 : PySem.W.nsIn K mainGlobals "sorted" = some none) (z9 : PySem.W.nsIn K mainGlobals "tuple" = some none) :
    ∃ fd : FuncData, (∀ (s : Shared) (v : Value), BindsTo s fd ⟨[v], []⟩ [("_law_script", v)]) ∧ ∀ base : Heap, K.In base → base.Ns mainGlobals mg → FnD l.prog w K mg base 9 fa fd ["_law_script"] (G_law_k55) := by
  have e := hfa.symm.trans (PySem.W.mg_of X G a33)
  cases e
  have B : Bn mg := ⟨PySem.W.mg_none_of X G z0, PySem.W.mg_none_of X G z1, PySem.W.mg_none_of X G z2, PySem.W.mg_none_of X G z3, PySem.W.mg_none_of X G z4, PySem.W.mg_none_of X G z5, PySem.W.mg_none_of X G z6, PySem.W.mg_none_of X G z7, PySem.W.mg_none_of X G z8, PySem.W.mg_none_of X G z9⟩
  have F4 := fun_mk (st := (topS 4)) l4 c4 k4
  have D4 : Df K mg "blocks_of" (topS 4) ["code", "name"] f4 _ := ⟨F4, F4.binds (ps := ["code", "name"]) fun _ _ _ _ _ _ us hl => match us, hl with | [_, _], _ => rfl, PySem.W.mg_of X G a4⟩
  have F6 := fun_mk (st := (topS 6)) l6 c6 k6
  have D6 : Df K mg "goals" (topS 6) ["end"] f6 _ := ⟨F6, F6.binds (ps := ["end"]) fun _ _ _ _ _ _ us hl => match us, hl with | [_], _ => rfl, PySem.W.mg_of X G a6⟩
  have F7 := fun_mk (st := (topS 7)) l7 c7 k7
  have D7 : Df K mg "nexts" (topS 7) ["code", "name", "block"] f7 _ := ⟨F7, F7.binds (ps := ["code", "name", "block"]) fun _ _ _ _ _ _ us hl => match us, hl with | [_, _, _], _ => rfl, PySem.W.mg_of X G a7⟩
  have F8 := fun_mk (st := (topS 8)) l8 c8 k8
  have D8 : Df K mg "led_around" (topS 8) ["code", "name", "over"] f8 _ := ⟨F8, F8.binds (ps := ["code", "name", "over"]) fun _ _ _ _ _ _ us hl => match us, hl with | [_, _, _], _ => rfl, PySem.W.mg_of X G a8⟩
  have F9 := fun_mk (st := (topS 9)) l9 c9 k9
  have D9 : Df K mg "reached" (topS 9) ["code", "name"] f9 _ := ⟨F9, F9.binds (ps := ["code", "name"]) fun _ _ _ _ _ _ us hl => match us, hl with | [_, _], _ => rfl, PySem.W.mg_of X G a9⟩
  have F11 := fun_mk (st := (topS 11)) l11 c11 k11
  have D11 : Df K mg "frontier" (topS 11) ["code", "name", "block"] f11 _ := ⟨F11, F11.binds (ps := ["code", "name", "block"]) fun _ _ _ _ _ _ us hl => match us, hl with | [_, _, _], _ => rfl, PySem.W.mg_of X G a11⟩
  have F12 := fun_mk (st := (topS 12)) l12 c12 k12
  have D12 : Df K mg "frontier_again" (topS 12) ["code", "name", "blocks"] f12 _ := ⟨F12, F12.binds (ps := ["code", "name", "blocks"]) fun _ _ _ _ _ _ us hl => match us, hl with | [_, _, _], _ => rfl, PySem.W.mg_of X G a12⟩
  have F16 := fun_mk (st := (topS 16)) l16 c16 k16
  have D16 : Df K mg "given_in" (topS 16) ["code", "name", "block"] f16 _ := ⟨F16, F16.binds (ps := ["code", "name", "block"]) fun _ _ _ _ _ _ us hl => match us, hl with | [_, _, _], _ => rfl, PySem.W.mg_of X G a16⟩
  have F17 := fun_mk (st := (topS 17)) l17 c17 k17
  have D17 : Df K mg "merged_blocks" (topS 17) ["code", "name"] f17 _ := ⟨F17, F17.binds (ps := ["code", "name"]) fun _ _ _ _ _ _ us hl => match us, hl with | [_, _], _ => rfl, PySem.W.mg_of X G a17⟩
  have F18 := fun_mk (st := (topS 18)) l18 c18 k18
  have D18 : Df K mg "versions_of" (topS 18) ["code", "name"] f18 _ := ⟨F18, F18.binds (ps := ["code", "name"]) fun _ _ _ _ _ _ us hl => match us, hl with | [_, _], _ => rfl, PySem.W.mg_of X G a18⟩
  have F20 := fun_mk (st := (topS 20)) l20 c20 k20
  have D20 : Df K mg "_law_well" (topS 20) ["_law_script"] f20 _ := ⟨F20, F20.binds (ps := ["_law_script"]) fun _ _ _ _ _ _ us hl => match us, hl with | [_], _ => rfl, PySem.W.mg_of X G a20⟩
  have F21 := fun_mk (st := (topS 21)) l21 c21 k21
  have D21 : Df K mg "_law_dip" (topS 21) ["_law_well_here", "_law_many"] f21 _ := ⟨F21, F21.binds (ps := ["_law_well_here", "_law_many"]) fun _ _ _ _ _ _ us hl => match us, hl with | [_, _], _ => rfl, PySem.W.mg_of X G a21⟩
  have F22 := fun_mk (st := (topS 22)) l22 c22 k22
  have D22 : Df K mg "_law_operand" (topS 22) ["_law_well_here"] f22 _ := ⟨F22, F22.binds (ps := ["_law_well_here"]) fun _ _ _ _ _ _ us hl => match us, hl with | [_], _ => rfl, PySem.W.mg_of X G a22⟩
  have F23 := fun_mk (st := (topS 23)) l23 c23 k23
  have D23 : Df K mg "_law_address" (topS 23) ["_law_well_here"] f23 _ := ⟨F23, F23.binds (ps := ["_law_well_here"]) fun _ _ _ _ _ _ us hl => match us, hl with | [_], _ => rfl, PySem.W.mg_of X G a23⟩
  have F24 := fun_mk (st := (topS 24)) l24 c24 k24
  have D24 : Df K mg "_law_row" (topS 24) ["_law_well_here", "_law_others"] f24 _ := ⟨F24, F24.binds (ps := ["_law_well_here", "_law_others"]) fun _ _ _ _ _ _ us hl => match us, hl with | [_, _], _ => rfl, PySem.W.mg_of X G a24⟩
  have F25 := fun_mk (st := (topS 25)) l25 c25 k25
  have D25 : Df K mg "_law_end" (topS 25) ["_law_well_here", "_law_many", "_law_block"] f25 _ := ⟨F25, F25.binds (ps := ["_law_well_here", "_law_many", "_law_block"]) fun _ _ _ _ _ _ us hl => match us, hl with | [_, _, _], _ => rfl, PySem.W.mg_of X G a25⟩
  have F26 := fun_mk (st := (topS 26)) l26 c26 k26
  have D26 : Df K mg "_law_blocks" (topS 26) ["_law_well_here", "_law_others"] f26 _ := ⟨F26, F26.binds (ps := ["_law_well_here", "_law_others"]) fun _ _ _ _ _ _ us hl => match us, hl with | [_, _], _ => rfl, PySem.W.mg_of X G a26⟩
  have F27 := fun_mk (st := (topS 27)) l27 c27 k27
  have D27 : Df K mg "_law_prog" (topS 27) ["_law_well_here", "_law_in_a_ring"] f27 _ := ⟨F27, F27.binds (ps := ["_law_well_here", "_law_in_a_ring"]) fun _ _ _ _ _ _ us hl => match us, hl with | [_, _], _ => rfl, PySem.W.mg_of X G a27⟩
  have F28 := fun_mk (st := (topS 28)) l28 c28 k28
  have D28 : Df K mg "_law_after" (topS 28) ["_law_blocks_here", "_law_block"] f28 _ := ⟨F28, F28.binds (ps := ["_law_blocks_here", "_law_block"]) fun _ _ _ _ _ _ us hl => match us, hl with | [_, _], _ => rfl, PySem.W.mg_of X G a28⟩
  have F29 := fun_mk (st := (topS 29)) l29 c29 k29
  have D29 : Df K mg "_law_come" (topS 29) ["_law_blocks_here", "_law_left_out"] f29 _ := ⟨F29, F29.binds (ps := ["_law_blocks_here", "_law_left_out"]) fun _ _ _ _ _ _ us hl => match us, hl with | [_, _], _ => rfl, PySem.W.mg_of X G a29⟩
  have F30 := fun_mk (st := (topS 30)) l30 c30 k30
  have D30 : Df K mg "_law_makers" (topS 30) ["_law_label", "_law_blocks_here", "_law_block"] f30 _ := ⟨F30, F30.binds (ps := ["_law_label", "_law_blocks_here", "_law_block"]) fun _ _ _ _ _ _ us hl => match us, hl with | [_, _, _], _ => rfl, PySem.W.mg_of X G a30⟩
  have F31 := fun_mk (st := (topS 31)) l31 c31 k31
  have D31 : Df K mg "_law_merged" (topS 31) ["_law_label", "_law_blocks_here"] f31 _ := ⟨F31, F31.binds (ps := ["_law_label", "_law_blocks_here"]) fun _ _ _ _ _ _ us hl => match us, hl with | [_, _], _ => rfl, PySem.W.mg_of X G a31⟩
  have F32 := fun_mk (st := (topS 32)) l32 c32 k32
  have D32 : Df K mg "_law_versions" (topS 32) ["_law_label", "_law_blocks_here"] f32 _ := ⟨F32, F32.binds (ps := ["_law_label", "_law_blocks_here"]) fun _ _ _ _ _ _ us hl => match us, hl with | [_, _], _ => rfl, PySem.W.mg_of X G a32⟩
  have F33 := fun_mk (st := (topS 33)) l33 c33 k33
  have D33 : Df K mg "law" (topS 33) ["_law_script"] fa _ := ⟨F33, F33.binds (ps := ["_law_script"]) fun _ _ _ _ _ _ us hl => match us, hl with | [_], _ => rfl, PySem.W.mg_of X G a33⟩
  refine ⟨PySem.W.fnOf "law" "law" (defArgs (topS 33)) (defBody (topS 33)) (defScope (topS 33)) .none kV33 dc33 pm33 an33 cd33 ct33, fun s v => .of_eq rfl, fun base _ _  => ?_⟩
  have q_cA1 : ∀ H β, Dq K H β (.ref cA1) (.tuple [(.str "begin")]) := fun H β => dq_cst l_cA1 rfl rfl s_cA1 v_cA1 rfl (by decide) (by decide) (fun H β => (.cons (.str (by decide)) .nil)) H β
  have q_cA2 : ∀ H β, Dq K H β (.ref cA2) (.tuple [(.str "store"), (.str "call")]) := fun H β => dq_cst l_cA2 rfl rfl s_cA2 v_cA2 rfl (by decide) (by decide) (fun H β => (.cons (.str (by decide)) (.cons (.str (by decide)) .nil))) H β
  have C_BEGIN : CstD K mg "BEGIN" (.tuple [(.str "begin")]) := ⟨_, .ref cA1, PySem.W.mg_of X G g_BEGIN, rfl, q_cA1⟩
  have C_GIVING : CstD K mg "GIVING" (.tuple [(.str "store"), (.str "call")]) := ⟨_, .ref cA2, PySem.W.mg_of X G g_GIVING, rfl, q_cA2⟩
  have G4 : FnD l.prog w K mg base 1 f4 _ ["code", "name"] (G_blocks_of) := ok_blocks_of (k := 0) (P := l.prog) (w := w) (base := base) D4 B
  have G6 : FnD l.prog w K mg base 1 f6 _ ["end"] (G_goals) := ok_goals (k := 0) (P := l.prog) (w := w) (base := base) D6 B
  have G7 : FnD l.prog w K mg base 2 f7 _ ["code", "name", "block"] (G_nexts) := ok_nexts (k := 1) (P := l.prog) (w := w) (base := base) D7 D4 G4 (by decide) D6 G6 (by decide) B
  have G8 : FnD l.prog w K mg base 3 f8 _ ["code", "name", "over"] (G_led_around) := ok_led_around (k := 2) (P := l.prog) (w := w) (base := base) D8 D7 G7 (by decide) B
  have G9 : FnD l.prog w K mg base 4 f9 _ ["code", "name"] (G_reached) := ok_reached (k := 3) (P := l.prog) (w := w) (base := base) D9 D8 G8 (by decide) B
  have G11 : FnD l.prog w K mg base 5 f11 _ ["code", "name", "block"] (G_frontier) := ok_frontier (k := 4) (P := l.prog) (w := w) (base := base) D11 D8 G8 (by decide) D9 G9 (by decide) D7 G7 (by decide) B
  have G12 : FnD l.prog w K mg base 6 f12 _ ["code", "name", "blocks"] (G_frontier_again) := ok_frontier_again (k := 5) (P := l.prog) (w := w) (base := base) D12 D11 G11 (by decide) B
  have G16 : FnD l.prog w K mg base 2 f16 _ ["code", "name", "block"] (G_given_in) := ok_given_in (k := 1) (P := l.prog) (w := w) (base := base) D16 D4 G4 (by decide) B C_GIVING
  have G17 : FnD l.prog w K mg base 7 f17 _ ["code", "name"] (G_merged_blocks) := ok_merged_blocks (k := 6) (P := l.prog) (w := w) (base := base) D17 D9 G9 (by decide) D16 G16 (by decide) D12 G12 (by decide) B
  have G18 : FnD l.prog w K mg base 8 f18 _ ["code", "name"] (G_versions_of) := ok_versions_of (k := 7) (P := l.prog) (w := w) (base := base) D18 D17 G17 (by decide) D9 G9 (by decide) D16 G16 (by decide) B C_BEGIN
  have G20 : FnD l.prog w K mg base 1 f20 _ ["_law_script"] (G_law_well) := ok_law_well (k := 0) (P := l.prog) (w := w) (base := base) D20 B
  have G21 : FnD l.prog w K mg base 1 f21 _ ["_law_well_here", "_law_many"] (G_law_dip) := ok_law_dip (k := 0) (P := l.prog) (w := w) (base := base) D21 B
  have G22 : FnD l.prog w K mg base 2 f22 _ ["_law_well_here"] (G_law_operand_k55) := ok_law_operand_k55 (k := 1) (P := l.prog) (w := w) (base := base) D22 D21 G21 (by decide) B
  have G23 : FnD l.prog w K mg base 2 f23 _ ["_law_well_here"] (G_law_address_k55) := ok_law_address_k55 (k := 1) (P := l.prog) (w := w) (base := base) D23 D21 G21 (by decide) B
  have G24 : FnD l.prog w K mg base 3 f24 _ ["_law_well_here", "_law_others"] (G_law_row_k55) := ok_law_row_k55 (k := 2) (P := l.prog) (w := w) (base := base) D24 D21 G21 (by decide) D23 G23 (by decide) D22 G22 (by decide) B
  have G25 : FnD l.prog w K mg base 2 f25 _ ["_law_well_here", "_law_many", "_law_block"] (G_law_end_k55) := ok_law_end_k55 (k := 1) (P := l.prog) (w := w) (base := base) D25 D21 G21 (by decide) B
  have G26 : FnD l.prog w K mg base 4 f26 _ ["_law_well_here", "_law_others"] (G_law_blocks_k55) := ok_law_blocks_k55 (k := 3) (P := l.prog) (w := w) (base := base) D26 D21 G21 (by decide) D24 G24 (by decide) D25 G25 (by decide) B
  have G27 : FnD l.prog w K mg base 5 f27 _ ["_law_well_here", "_law_in_a_ring"] (G_law_prog_k55) := ok_law_prog_k55 (k := 4) (P := l.prog) (w := w) (base := base) D27 D21 G21 (by decide) D26 G26 (by decide) B
  have G28 : FnD l.prog w K mg base 1 f28 _ ["_law_blocks_here", "_law_block"] (G_law_after_k55) := ok_law_after_k55 (k := 0) (P := l.prog) (w := w) (base := base) D28 B
  have G29 : FnD l.prog w K mg base 2 f29 _ ["_law_blocks_here", "_law_left_out"] (G_law_come) := ok_law_come (k := 1) (P := l.prog) (w := w) (base := base) D29 D28 G28 (by decide) B
  have G30 : FnD l.prog w K mg base 1 f30 _ ["_law_label", "_law_blocks_here", "_law_block"] (G_law_makers_k55) := ok_law_makers_k55 (k := 0) (P := l.prog) (w := w) (base := base) D30 B
  have G31 : FnD l.prog w K mg base 3 f31 _ ["_law_label", "_law_blocks_here"] (G_law_merged_k55) := ok_law_merged_k55 (k := 2) (P := l.prog) (w := w) (base := base) D31 D29 G29 (by decide) D30 G30 (by decide) D28 G28 (by decide) B
  have G32 : FnD l.prog w K mg base 4 f32 _ ["_law_label", "_law_blocks_here"] (G_law_versions) := ok_law_versions (k := 3) (P := l.prog) (w := w) (base := base) D32 D31 G31 (by decide) D29 G29 (by decide) D30 G30 (by decide) B
  have G33 : FnD l.prog w K mg base 9 fa _ ["_law_script"] (G_law_k55) := ok_law_k55 (k := 8) (P := l.prog) (w := w) (base := base) D33 D20 G20 (by decide) D27 G27 (by decide) D21 G21 (by decide) D31 G31 (by decide) D17 G17 (by decide) D32 G32 (by decide) D18 G18 (by decide) B
  exact G33
end Pm
open PySem PySem.W PyProof.Rows
set_option maxRecDepth 100000 in
set_option maxHeartbeats 0 in
theorem PySem.Challenge.cw_storeways_k55_merged_holds : PySem.Challenge.rw_storeways_k55_merged.Holds := by
  w_on; o_law; k_head; (case hw => w_witness2)
  k_fill
  refine Pm.walkD (l := PySem.Challenge.rw_storeways_k55_merged) (n := 63) (k := 9) (x := "_law_script") (g := Pm.G_law_k55) rfl (by decide) rfl ⟨rfl, by decide, by decide⟩ (fun w h Y => PySem.W.kIn_of Y) ?F Pm.law_k55_true
  case F =>
    intro w mg fa h KX G hmg
    refine' Pm.all_mk KX G hmg ?a4 ?l4 ?c4 ?k4 ?a6 ?l6 ?c6 ?k6 ?a7 ?l7 ?c7 ?k7 ?a8 ?l8 ?c8 ?k8 ?a9 ?l9 ?c9 ?k9 ?a11 ?l11 ?c11 ?k11 ?a12 ?l12 ?c12 ?k12 ?a16 ?l16 ?c16 ?k16 ?a17 ?l17 ?c17 ?k17 ?a18 ?l18 ?c18 ?k18 ?a20 ?l20 ?c20 ?k20 ?a21 ?l21 ?c21 ?k21 ?a22 ?l22 ?c22 ?k22 ?a23 ?l23 ?c23 ?k23 ?a24 ?l24 ?c24 ?k24 ?a25 ?l25 ?c25 ?k25 ?a26 ?l26 ?c26 ?k26 ?a27 ?l27 ?c27 ?k27 ?a28 ?l28 ?c28 ?k28 ?a29 ?l29 ?c29 ?k29 ?a30 ?l30 ?c30 ?k30 ?a31 ?l31 ?c31 ?k31 ?a32 ?l32 ?c32 ?k32 ?a33 ?l33 ?c33 ?k33 ?g_BEGIN ?l_cA1 ?s_cA1 ?v_cA1 ?g_GIVING ?l_cA2 ?s_cA2 ?v_cA2 ?z0 ?z1 ?z2 ?z3 ?z4 ?z5 ?z6 ?z7 ?z8 ?z9
    (case a4 => first | k_is | rfl | decide +kernel); (case l4 => first | k_is | rfl | decide +kernel); (case c4 => first | k_is | rfl | decide +kernel); (case k4 => first | k_is | rfl | decide +kernel); (case a6 => first | k_is | rfl | decide +kernel); (case l6 => first | k_is | rfl | decide +kernel); (case c6 => first | k_is | rfl | decide +kernel); (case k6 => first | k_is | rfl | decide +kernel)
    (case a7 => first | k_is | rfl | decide +kernel); (case l7 => first | k_is | rfl | decide +kernel); (case c7 => first | k_is | rfl | decide +kernel); (case k7 => first | k_is | rfl | decide +kernel); (case a8 => first | k_is | rfl | decide +kernel); (case l8 => first | k_is | rfl | decide +kernel); (case c8 => first | k_is | rfl | decide +kernel); (case k8 => first | k_is | rfl | decide +kernel)
    (case a9 => first | k_is | rfl | decide +kernel); (case l9 => first | k_is | rfl | decide +kernel); (case c9 => first | k_is | rfl | decide +kernel); (case k9 => first | k_is | rfl | decide +kernel); (case a11 => first | k_is | rfl | decide +kernel); (case l11 => first | k_is | rfl | decide +kernel); (case c11 => first | k_is | rfl | decide +kernel); (case k11 => first | k_is | rfl | decide +kernel)
    (case a12 => first | k_is | rfl | decide +kernel); (case l12 => first | k_is | rfl | decide +kernel); (case c12 => first | k_is | rfl | decide +kernel); (case k12 => first | k_is | rfl | decide +kernel); (case a16 => first | k_is | rfl | decide +kernel); (case l16 => first | k_is | rfl | decide +kernel); (case c16 => first | k_is | rfl | decide +kernel); (case k16 => first | k_is | rfl | decide +kernel)
    (case a17 => first | k_is | rfl | decide +kernel); (case l17 => first | k_is | rfl | decide +kernel); (case c17 => first | k_is | rfl | decide +kernel); (case k17 => first | k_is | rfl | decide +kernel); (case a18 => first | k_is | rfl | decide +kernel); (case l18 => first | k_is | rfl | decide +kernel); (case c18 => first | k_is | rfl | decide +kernel); (case k18 => first | k_is | rfl | decide +kernel)
    (case a20 => first | k_is | rfl | decide +kernel); (case l20 => first | k_is | rfl | decide +kernel); (case c20 => first | k_is | rfl | decide +kernel); (case k20 => first | k_is | rfl | decide +kernel); (case a21 => first | k_is | rfl | decide +kernel); (case l21 => first | k_is | rfl | decide +kernel); (case c21 => first | k_is | rfl | decide +kernel); (case k21 => first | k_is | rfl | decide +kernel)
    (case a22 => first | k_is | rfl | decide +kernel); (case l22 => first | k_is | rfl | decide +kernel); (case c22 => first | k_is | rfl | decide +kernel); (case k22 => first | k_is | rfl | decide +kernel); (case a23 => first | k_is | rfl | decide +kernel); (case l23 => first | k_is | rfl | decide +kernel); (case c23 => first | k_is | rfl | decide +kernel); (case k23 => first | k_is | rfl | decide +kernel)
    (case a24 => first | k_is | rfl | decide +kernel); (case l24 => first | k_is | rfl | decide +kernel); (case c24 => first | k_is | rfl | decide +kernel); (case k24 => first | k_is | rfl | decide +kernel); (case a25 => first | k_is | rfl | decide +kernel); (case l25 => first | k_is | rfl | decide +kernel); (case c25 => first | k_is | rfl | decide +kernel); (case k25 => first | k_is | rfl | decide +kernel)
    (case a26 => first | k_is | rfl | decide +kernel); (case l26 => first | k_is | rfl | decide +kernel); (case c26 => first | k_is | rfl | decide +kernel); (case k26 => first | k_is | rfl | decide +kernel); (case a27 => first | k_is | rfl | decide +kernel); (case l27 => first | k_is | rfl | decide +kernel); (case c27 => first | k_is | rfl | decide +kernel); (case k27 => first | k_is | rfl | decide +kernel)
    (case a28 => first | k_is | rfl | decide +kernel); (case l28 => first | k_is | rfl | decide +kernel); (case c28 => first | k_is | rfl | decide +kernel); (case k28 => first | k_is | rfl | decide +kernel); (case a29 => first | k_is | rfl | decide +kernel); (case l29 => first | k_is | rfl | decide +kernel); (case c29 => first | k_is | rfl | decide +kernel); (case k29 => first | k_is | rfl | decide +kernel)
    (case a30 => first | k_is | rfl | decide +kernel); (case l30 => first | k_is | rfl | decide +kernel); (case c30 => first | k_is | rfl | decide +kernel); (case k30 => first | k_is | rfl | decide +kernel); (case a31 => first | k_is | rfl | decide +kernel); (case l31 => first | k_is | rfl | decide +kernel); (case c31 => first | k_is | rfl | decide +kernel); (case k31 => first | k_is | rfl | decide +kernel)
    (case a32 => first | k_is | rfl | decide +kernel); (case l32 => first | k_is | rfl | decide +kernel); (case c32 => first | k_is | rfl | decide +kernel); (case k32 => first | k_is | rfl | decide +kernel); (case a33 => first | k_is | rfl | decide +kernel); (case l33 => first | k_is | rfl | decide +kernel); (case c33 => first | k_is | rfl | decide +kernel); (case k33 => first | k_is | rfl | decide +kernel)
    (case g_BEGIN => first | k_is | rfl | decide +kernel); (case l_cA1 => first | k_is | rfl | decide +kernel); (case s_cA1 => decide); (case v_cA1 => exact (.cons (⟨_, rfl⟩) .nil)); (case g_GIVING => first | k_is | rfl | decide +kernel); (case l_cA2 => first | k_is | rfl | decide +kernel); (case s_cA2 => decide); (case v_cA2 => exact (.cons (⟨_, rfl⟩) (.cons (⟨_, rfl⟩) .nil)))
    (case z0 => first | k_is | rfl | decide +kernel); (case z1 => first | k_is | rfl | decide +kernel); (case z2 => first | k_is | rfl | decide +kernel); (case z3 => first | k_is | rfl | decide +kernel); (case z4 => first | k_is | rfl | decide +kernel); (case z5 => first | k_is | rfl | decide +kernel); (case z6 => first | k_is | rfl | decide +kernel); (case z7 => first | k_is | rfl | decide +kernel)
    (case z8 => first | k_is | rfl | decide +kernel); (case z9 => first | k_is | rfl | decide +kernel)
