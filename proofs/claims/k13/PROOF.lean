import PyProof.Rows.All
import Wide.All
import OpenK.AllK
import Wide.FinOn
import HandS.ForMost
import HandS.IsInst
import HandS.EndBits
import PyProof.ReprRoads
import HandS.Walk
import HandS.TupAny
import HandS.Style
import HandS.ExcInit
import HandS.ExcField
import HandS.TryOnly
import HandS.WordsExc
import HandS.ExcOwn
import HandS.Flow
import KE.KExcIs
import HandS.Text
import HandS.Wide
import HandS.TupLe
import PyProof.Rows.IntBool
import HandS.Iter
import KE.GoesEnum
import HandS.Set
import HandS.SetFor
import HandS.More
import HandS.Strs
import HandS.ExcIs
import PySem.Challenge.RW_storeways_k13_arounds_judged
set_option Elab.async false
set_option linter.all false
set_option maxRecDepth 100000
set_option maxHeartbeats 4000000
namespace Sw
open PySem PySem.Spec PyProof.Rows L2

/-- repr of data at a place, where no repr is under way -/
def rRepr (K : PySem.W.Frag) : List V → Hp → VK → Prop := fun xs H Q =>
  ∃ (a : Addr) (d : PyData), xs = [.ref a] ∧ Dp K H (.ref a) d ∧ d.showable = true ∧ d.hasDict = false ∧ d.depth ≤ 60 ∧ d.shown.length ≤ sizeLine ∧ Q (.str d.shown) H
theorem call_repr {X : Cx} (hg : X.A.guards = some []) (hu : X.A.units + 64 < cLine) : CallR X (.builtin "repr") (rRepr X.K) := by
  intro pins s σ H xs us Q I r h
  obtain ⟨a, d, rfl, hd, h1, h2, h3, h4, q⟩ := h
  cases r with
  | cons r0 r1 =>
    cases r1
    cases (show _ = Value.ref a from r0)
    obtain ⟨as, rd⟩ := Dp.reads I d _ _ hd rfl
    exact repr_of_reads' rd h1 (PyData.noDict_hsm h2) hg (by omega) (fun b o e => e) (fun h' u tk k => ⟨.str d.shown, H, I.kept k, ⟨u, rfl⟩, q⟩) h4

/-- a promise that is kept where no repr is under way -/
structure FnG (P : Program) (w : World) (K : PySem.W.Frag) (mg : Str → Option Value) (base : Heap) (k : Nat) (f : Addr) (fd : FuncData) (ps : List Str) (sp : Sp) : Prop where
  size : ∀ vs H Q E, sp vs H Q E → vs.length = ps.length
  goes : ∀ (A : Around) (outer : List Env) (s : Shared) (H : Hp) (args : Args) (us : List Value) (vs : List V) (Q : VK) (E : XK), A.guards = some [] →
    Room k A → Env0 P w K mg base A outer s H → BindsTo s fd args (ps.zip us) → Vals vs us → sp vs H Q E → codeAny (model P w) A (.call (.ref f) args) (CR CX0 outer P w H s Q E) s
section
variable {P : Program} {w : World} {K : PySem.W.Frag} {mg : Str → Option Value} {base : Heap}
theorem fun_okG {x qual : Str} {st : Stmt} {f : Addr} {fd : FuncData} {N ps : List Str} {k : Nat} {sp : Sp} (F : Fun K x qual st f fd) (S : FnScope N ps (defScope st))
    (len : ∀ vs H Q E, sp vs H Q E → vs.length = ps.length)
    (hb : ∀ (cdv : Value) (A : Around) (outer : List Env) (s : Shared) (H : Hp) (vs : List V) (Q : VK) (E : XK), A.guards = some [] → Room k (A.deeper (envOfC qual (defScope st) s.heap.objs.size f cdv)) → sp vs H Q E →
      ∃ t, PSs (cxOf CX0 P w K mg base N qual (defScope st) f cdv A outer s H E).nox (defBody st) t ∧
        t { nx := fun _ H' => Q .non H', rt := Q } (start N vs) H) : FnG P w K mg base (k + 1) f fd ps sp := by
  refine ⟨len, fun A outer s H args us vs Q E hg => ?_⟩
  obtain ⟨oc, od, kV, doc, pm, an, cdv, ct, osl, rfl, lk, hcd⟩ := F.ex
  intro hr e0 bd r hsp
  obtain ⟨t, ht0, hq⟩ := hb cdv A outer s H vs Q E hg (hr.deeper _) hsp
  have ht := ht0.nox
  have kin : K.In s.heap := e0.mod.kin.keeps fun b o e => (e0.bs b o e).1
  refine codeAny_call_function hr.depth (kin _ _ lk) rfl S.co S.gen rfl (PySem.W.codeRec_of kin hcd) (bd _ _ _ _ ?_)
  refine wpAny_newFunctionEnv_cells S.kind ?_ fun env he s1 x => ?_
  · rintro ⟨n, v⟩ hy
    rcases S.par n (List.of_mem_zip hy).1 with q | q
    · exact .inl q
    · exact .inr ⟨q, PySem.W.cellsFrom_some _ _ _ (.inl q)⟩
  · subst he
    refine ⟨(e0.mod.nolimit.keeps fun b o e => (e0.bs b o e).1).keeps x.toInCall.keep, codeAny_func ?_⟩
    refine wpAny_mono (ht.run [] s1 (start N vs) H _ (inv_start S hr.hd e0 (len _ _ _ _ hsp) r x) hq) (fun fl s' hs => ?_) fun e s' hs => hs
    cases fl with
    | ret u =>
      obtain ⟨v, σ', H', J, rv, q⟩ := hs
      exact ⟨v, H', J.os, J.bare, J.base, J.hok, rv, q⟩
    | next =>
      obtain ⟨σ', H', J, q⟩ := hs
      exact ⟨V.non, H', J.os, J.bare, J.base, J.hok, rfl, q⟩
    | brk =>
      obtain ⟨_, _, _, q⟩ := hs
      exact q.elim
    | cont =>
      obtain ⟨_, _, _, q⟩ := hs
      exact q.elim
end
/-- the law's own call, from the promise of its def: the script is locked, or it is one of the module's own objects -/
theorem law_goes {P : Program} {w : World} {K : PySem.W.Frag} {mg mb : Str → Option Value} {k : Nat} {fa a : Addr} {fd : FuncData} {x : Str} {sp : Sp} {s : Shared} {vs : List Value} {ns : List Int}
    (kin : K.In s.heap) (g : s.heap.Ns mainGlobals mg) (b : s.heap.Ns builtinsNs mb) (hbb : ∀ y : Str, y ≠ "__name__" → mb y = bootBuiltins y) (nl : s.heap.NoLimit) (gn : s.gens = #[])
    (ha : s.heap.get? a = some { cls := .type "list", data := .seq vs.toArray }) (hi : IntsAre vs ns) (hl : ns.length ≤ sizeLine) (hr : Room k callerA)
    (F : ∀ base : Heap, K.In base → base.Ns mainGlobals mg → FnG P w K mg base k fa fd [x] sp) (bd : ∀ (s : Shared) (u : Value), BindsTo s fd ⟨[u], []⟩ [(x, u)])
    (hsp : ∀ H : Hp, SqL K H a (ns.map V.int) → sp [.ref a] H (fun v _ => v = .bl true) fun _ _ _ => False) :
    codeAny (model P w) callerA (.call (.ref fa) ⟨[.ref a], []⟩) (fun r s' => r = .ok (.ret (.bool true)) ∧ OldK s.heap s'.heap ∧ s'.os = s.os ∧ AllBare s'.gens) s := by
  have rv := vals_ints hi
  have step : ∀ H : Hp, SqL K H a (ns.map V.int) → HOk P w H s.heap → (∀ c u, H c = some u → c = a ∧ u = .frz { cls := .type "list", data := .seq vs.toArray } (.lst (ns.map V.int)) ∧ K.lookup a = none) →
      codeAny (model P w) callerA (.call (.ref fa) ⟨[.ref a], []⟩) (fun r s' => r = .ok (.ret (.bool true)) ∧ OldK s.heap s'.heap ∧ s'.os = s.os ∧ AllBare s'.gens) s := by
    intro H hS hok only
    have dictFree : ∀ {c : Addr} {o : Obj} {es : Array DictEntry} {ep : Nat}, s.heap.get? c = some o → o.data = .dict es ep → H c = none := by
      intro c o es ep e d
      cases q : H c with
      | none => rfl
      | some u =>
        obtain ⟨rfl, _, _⟩ := only c u q
        rw [ha] at e
        cases e
        cases d
    have ns2 : ∀ {c : Addr} {m : Str → Option Value}, s.heap.Ns c m → (hidT s.heap H).Ns c m := by
      rintro c m ⟨o, es, ep, e, d, r⟩
      exact ⟨o, es, ep, hidT_get e (dictFree e d), d, r⟩
    have kb : K.In (hidT s.heap H) := by
      intro c o e
      refine hidT_get (kin c o e) ?_
      cases q : H c with
      | none => rfl
      | some u =>
        obtain ⟨rfl, _, z⟩ := only c u q
        rw [z] at e
        cases e
    have md : Mod K mg (hidT s.heap H) := ⟨kb, ns2 g, ⟨mb, ns2 b, hbb⟩, by
      obtain ⟨mc, h1, h2⟩ := nl
      exact ⟨mc, ns2 h1, h2⟩⟩
    have e0 : Env0 P w K mg (hidT s.heap H) callerA [] s H := ⟨rfl, md, fun c o e => of_hidT e, Nat.le_of_eq (hidT_size _ _), trivial, fun c hc => (nomatch hc), hok, .of_eq gn⟩
    refine codeAny_mono ((F _ kb (ns2 g)).goes callerA [] s H ⟨[.ref a], []⟩ [.ref a] [.ref a] _ _ rfl hr e0 (bd s (.ref a)) (.cons rfl .nil) (hsp H hS)) ?_
    intro r s' h
    cases r with
    | error e => exact h.elim
    | ok fl =>
      cases fl with
      | ret u =>
        obtain ⟨v, H', os, bare, un, hok', r', q⟩ := h
        cases (show v = .bl true from q)
        cases (show u = Value.bool true from r')
        refine ⟨rfl, OldK.of_keep fun c o e => ?_, os, bare⟩
        cases q : H c with
        | none => exact un.keep c o e q (fun z => nomatch z) (fun z => nomatch z)
        | some u =>
          obtain ⟨rfl, rfl, _⟩ := only c u q
          obtain ⟨e2, _⟩ := hok' _ _ (un.frzs _ _ _ q)
          rw [ha] at e
          cases e
          exact e2
      | next => exact False.elim h
      | brk => exact False.elim h
      | cont => exact False.elim h
  cases hk : K.lookup a with
  | some o =>
    have e := kin a o hk
    rw [ha] at e
    cases e
    refine step (fun _ => none) (.inr ⟨_, vs.toArray, _, hk, rfl, rfl, rfl, ?_, by simpa using rv⟩) (fun c u z => nomatch z) (fun c u z => nomatch z)
    rw [List.size_toArray, hi.length]
    exact hl
  | none =>
    refine step (fun c => if c = a then some (.frz { cls := .type "list", data := .seq vs.toArray } (.lst (ns.map V.int))) else none) (.inl (.inr ⟨_, if_pos rfl⟩)) ?_ ?_
    · intro c u z
      by_cases hc : c = a
      · have z' := (if_pos hc).symm.trans z
        cases z'
        subst hc
        exact ⟨ha, by rw [List.length_map]; exact hl, vs, _, rv, ha⟩
      · have z' := (if_neg hc).symm.trans z
        cases z'
    · intro c u z
      by_cases hc : c = a
      · have z' := (if_pos hc).symm.trans z
        exact ⟨hc, (Option.some.inj z').symm, hk⟩
      · have z' := (if_neg hc).symm.trans z
        cases z'
/-- the goal that k_head leaves, from the promise of the law's def -/
theorem walkG {l : PySem.W.OpenLaw} {n k : Nat} {q : Program} {loose : List Str} {XP : (Str → Option Value) → Heap → Prop} {YP : World → Heap → Prop} {d : DefRec} {K : Params → PySem.W.Frag} {sp : PySem.W.Frag → Sp} {x : Str}
    (hn : l.most = some n) (hn2 : n ≤ sizeLine) (hdf : d.params.defaults = []) (hr : Room k callerA) (hY : ∀ (w : World) (h : Heap), YP w h → (K w.params).In h)
    (F : ∀ (w : World) (mg : Str → Option Value) (fa : Addr) (h : Heap), (K w.params).In h → h.Ns mainGlobals mg → mg d.name = some (.ref fa) →
      ∃ fd : FuncData, (∀ (s : Shared) (u : Value), BindsTo s fd ⟨[u], []⟩ [(x, u)]) ∧ ∀ base : Heap, (K w.params).In base → base.Ns mainGlobals mg → FnG l.prog w (K w.params) mg base k fa fd [x] (sp (K w.params)))
    (hsp : ∀ (K : PySem.W.Frag) (H : Hp) (a : Addr) (ns : List Int), ns.length ≤ n → (∀ z ∈ ns, Builtin.Int.intBits z ≤ 1048576) → SqL K H a (ns.map V.int) → sp K [.ref a] H (fun v _ => v = .bl true) fun _ _ _ => False) :
    PySem.W.WalkO q loose XP YP l.row.toRowW d [] (fun f vs => PySem.call f vs) := by
  refine Att.attach_callB hn hdf ?_
  intro w s₀ s₁ mg mb fa o pm cd doc a vs ns G Y ho hd hcd hmg hobj hints hlen hbits hg
  obtain ⟨fd, hb, hF⟩ := F w mg fa _ (hY w _ Y) G.T.g hmg
  exact law_goes (hY w _ Y) G.T.g G.T.b G.T.builtins G.T.nolimit hg hobj hints (Nat.le_trans hlen hn2) hr hF hb fun H hS => hsp _ H a ns hlen hbits hS
end Sw
set_option maxRecDepth 100000
set_option maxHeartbeats 4000000
namespace Sw
open PySem PySem.Spec PyProof.Rows L2

/-! ### heaps -/
theorem same_new {H : Hp} {p : Addr} {o : HO} (h : H p = none) : Same H (upd H p o) := fun b x e => by
  rw [upd_ne (ne_of_none e h)]
  exact e
theorem sameT {K : PySem.W.Frag} {H H' : Hp} {a : Addr} {xs : List V} (e : Same H H') (h : SqT K H a xs) : SqT K H' a xs := by
  rcases h with (h | ⟨o, h⟩) | h
  · exact .inl (.inl (e _ _ h))
  · exact .inl (.inr ⟨o, e _ _ h⟩)
  · exact .inr h
mutual
theorem Dp_same {K : PySem.W.Frag} {H H' : Hp} (e : Same H H') : ∀ {v : V} {d : PyData}, Dp K H v d → Dp K H' v d
  | _, _, .non => .non
  | _, _, .bl b => .bl b
  | _, _, .int i => .int i
  | _, _, .str x => .str x
  | _, _, .lst h r => .lst (e.seq h) (DpAll_same e r)
  | _, _, .tup h r => .tup (sameT e h) (DpAll_same e r)
theorem DpAll_same {K : PySem.W.Frag} {H H' : Hp} (e : Same H H') : ∀ {vs : List V} {ds : List PyData}, DpAll K H vs ds → DpAll K H' vs ds
  | _, _, .nil => .nil
  | _, _, .cons h r => .cons (Dp_same e h) (DpAll_same e r)
end
theorem DpAll_len {K : PySem.W.Frag} {H : Hp} : ∀ {vs : List V} {ds : List PyData}, DpAll K H vs ds → vs.length = ds.length
  | _, _, .nil => rfl
  | _, _, .cons _ r => by rw [List.length_cons, List.length_cons, DpAll_len r]
theorem DpAll_get {K : PySem.W.Frag} {H : Hp} : ∀ {vs : List V} {ds : List PyData} {i : Nat} {v : V}, DpAll K H vs ds → vs[i]? = some v → ∃ d, ds[i]? = some d ∧ Dp K H v d
  | _, _, _, _, .nil, e => by simp at e
  | _, _, 0, _, .cons h _, e => by simp at e; subst e; exact ⟨_, rfl, h⟩
  | _, _, i + 1, v, .cons _ r, e => by
    obtain ⟨d, h1, h2⟩ := DpAll_get (i := i) (v := v) r (by simpa using e)
    exact ⟨d, by simpa using h1, h2⟩
theorem DpAll_get' {K : PySem.W.Frag} {H : Hp} {vs : List V} {ds : List PyData} {i : Nat} {d : PyData} (h : DpAll K H vs ds) (e : ds[i]? = some d) : ∃ v, vs[i]? = some v ∧ Dp K H v d := by
  have hl := DpAll_len h
  obtain ⟨hi, _⟩ := List.getElem?_eq_some_iff.mp e
  have hv : i < vs.length := by omega
  obtain ⟨d', h1, h2⟩ := DpAll_get h (List.getElem?_eq_getElem hv)
  rw [e] at h1
  cases h1
  exact ⟨_, List.getElem?_eq_getElem hv, h2⟩
theorem DpAll_append {K : PySem.W.Frag} {H : Hp} : ∀ {vs us : List V} {ds es : List PyData}, DpAll K H vs ds → DpAll K H us es → DpAll K H (vs ++ us) (ds ++ es)
  | _, _, _, _, .nil, r => r
  | _, _, _, _, .cons h t, r => .cons h (DpAll_append t r)
theorem DpAll_of {K : PySem.W.Frag} {H : Hp} : ∀ {vs : List V} {ds : List PyData}, vs.length = ds.length → (∀ (i : Nat) v d, vs[i]? = some v → ds[i]? = some d → Dp K H v d) → DpAll K H vs ds
  | [], [], _, _ => .nil
  | v :: vs, d :: ds, hl, h => .cons (h 0 v d rfl rfl) (DpAll_of (by simpa using hl) fun i x y e1 e2 => h (i + 1) x y (by simpa using e1) (by simpa using e2))
  | [], _ :: _, hl, _ => by simp at hl
  | _ :: _, [], hl, _ => by simp at hl
theorem DpAll_strs {K : PySem.W.Frag} {H : Hp} : ∀ zs : List Str, DpAll K H (zs.map V.str) (zs.map PyData.str)
  | [] => .nil
  | z :: zs => .cons (.str z) (DpAll_strs zs)

/-! ### comprehensions over what stays: the tests and the items change nothing that stood -/
theorem lc_pure {J : It} {n : Nat} {G : Hp → Prop} {xs : List V} (w : Walk J n G (YAt xs)) {tt : TT} {te : TE} {j : Nat} {σ : L2.St} {H1 : Hp} {D : Addr} {Qd : Hp → Prop} (p : Nat → Bool) (f : Nat → V) (hD : H1 D = none)
    (hG : ∀ H, Same H1 H → G H) (hn : n < sizeLine)
    (ht : ∀ (i : Nat) x H (Q : Bool → Hp → Prop), i < n → xs[i]? = some x → Same H1 H → (∀ H', Same H H' → Q (p i) H') → tt ((wipe σ [j]).set j (some x)) H Q)
    (he : ∀ (i : Nat) x H (Q : VK), i < n → xs[i]? = some x → p i = true → Same H1 H → (∀ H', Same H H' → Q (f i) H') → te ((wipe σ [j]).set j (some x)) H Q)
    (hd : ∀ H', Same H1 H' → H' D = some (.lst (((List.range n).filter p).map f)) → Qd H') :
    ∃ W : Nat → Nat → Hp → Prop, (∃ m, W 0 m (upd H1 D (.lst []))) ∧ ∀ i m H, W i m H → (J.stop i H ∧ Qd H) ∨ (J.go i H ∧ ∃ Nx : Hp → Prop, (∀ H', Nx H' → ∃ m', m' < m ∧ W (i + 1) m' H') ∧
      ∀ x H', J.yld i H x H' → gName j x (wipe σ [j]) H' fun σ2 H2 => wipe σ2 [j] = wipe σ [j] ∧ tt σ2 H2 fun b H3 =>
        if b = true then te σ2 H3 fun y H4 => ∃ acc, H4 D = some (.lst acc) ∧ acc.length < sizeLine ∧ Nx (upd H4 D (.lst (acc ++ [y]))) else Nx H3) := by
  refine lc_it w (fun i H => Same H1 H ∧ H D = some (.lst (((List.range i).filter p).map f))) ⟨same_new hD, by rw [upd_same]; rfl⟩ (fun i H _ h => hG H h.1) ?_ (fun H h => hd H h.1 h.2)
  rintro i x H H' hi ⟨hs, hacc⟩ ⟨rfl, hx⟩
  refine ⟨?_, ?_⟩
  · show ((List.set (List.set σ j none) j (some x)).set j none) = List.set σ j none
    rw [List.set_set, List.set_set]
  have hr : (List.range (i + 1)).filter p = (List.range i).filter p ++ (if p i = true then [i] else []) := by
    rw [List.range_succ, List.filter_append]
    congr 1
    by_cases hp : p i = true <;> simp [hp]
  refine ht i x H' _ hi hx hs fun H2 h2 => ?_
  by_cases hp : p i = true
  · rw [hp]
    refine iteT ?_
    refine he i x H2 _ hi hx hp (hs.trans h2) fun H3 h3 => ?_
    have h3D := h3 _ _ (h2 _ _ hacc)
    refine ⟨_, h3D, ?_, ?_, ?_⟩
    · rw [List.length_map]
      have := List.length_filter_le p (List.range i)
      rw [List.length_range] at this
      omega
    · intro b o e
      rw [upd_ne (ne_of_none e hD)]
      exact h3 _ _ (h2 _ _ (hs _ _ e))
    · rw [upd_same, hr, if_pos hp, List.map_append]
      rfl
  · have hp' : p i = false := by simpa using hp
    rw [hp']
    refine iteF ?_
    refine ⟨hs.trans h2, ?_⟩
    rw [hr, if_neg hp, List.append_nil]
    exact h2 _ _ hacc
theorem range_all {n : Nat} {f : Nat → V} : ((List.range n).filter (fun _ => true)).map f = (List.range n).map f := by
  rw [List.filter_eq_self.mpr (by simp)]
/-- without tests -/
theorem lc_map {J : It} {n : Nat} {G : Hp → Prop} {xs : List V} (w : Walk J n G (YAt xs)) {te : TE} {j : Nat} {σ : L2.St} {H1 : Hp} {D : Addr} {Qd : Hp → Prop} (f : Nat → V) (hD : H1 D = none)
    (hG : ∀ H, Same H1 H → G H) (hn : n < sizeLine)
    (he : ∀ (i : Nat) x H (Q : VK), i < n → xs[i]? = some x → Same H1 H → (∀ H', Same H H' → Q (f i) H') → te ((wipe σ [j]).set j (some x)) H Q)
    (hd : ∀ H', Same H1 H' → H' D = some (.lst ((List.range n).map f)) → Qd H') :
    ∃ W : Nat → Nat → Hp → Prop, (∃ m, W 0 m (upd H1 D (.lst []))) ∧ ∀ i m H, W i m H → (J.stop i H ∧ Qd H) ∨ (J.go i H ∧ ∃ Nx : Hp → Prop, (∀ H', Nx H' → ∃ m', m' < m ∧ W (i + 1) m' H') ∧
      ∀ x H', J.yld i H x H' → gName j x (wipe σ [j]) H' fun σ2 H2 => wipe σ2 [j] = wipe σ [j] ∧ tYes σ2 H2 fun b H3 =>
        if b = true then te σ2 H3 fun y H4 => ∃ acc, H4 D = some (.lst acc) ∧ acc.length < sizeLine ∧ Nx (upd H4 D (.lst (acc ++ [y]))) else Nx H3) :=
  lc_pure w (tt := tYes) (fun _ => true) f hD hG hn (fun i x H Q _ _ _ q => q H (Same.refl H)) (fun i x H Q hi hx _ hs q => he i x H Q hi hx hs q) fun H' hs h => hd H' hs (by rw [h, range_all])
/-- a text's signs as its walk's items -/
theorem walk_signs {z : Str} : Walk (Its z) z.cps.size (fun _ => True) (YAt (z.cps.toList.map fun c => V.str ⟨#[c]⟩)) := by
  refine ⟨walk_str.goes, walk_str.stops, fun i H x H' hi hg y => ?_⟩
  obtain ⟨rfl, c, hc, rfl⟩ := walk_str.yields i H x H' hi hg y
  refine ⟨rfl, ?_⟩
  rw [List.getElem?_map, Array.getElem?_toList, hc]
  rfl
end Sw
set_option maxRecDepth 100000
set_option maxHeartbeats 4000000
namespace Sw
open PySem PySem.Spec PyProof.Rows L2

/-! ### how large data are -/
mutual
/-- leaves: ints at most M, texts of ASCII; no dict -/
def leaf (M : Nat) : PyData → Bool
  | .none | .bool _ => true
  | .int i => decide (i.natAbs ≤ M)
  | .str x => x.cps.toList.all (fun c => decide (c < 128))
  | .list xs | .tuple xs => leafAll M xs
  | .dict _ => false
def leafAll (M : Nat) : List PyData → Bool
  | [] => true
  | x :: xs => leaf M x && leafAll M xs
end
mutual
/-- no list or tuple in it is longer than l -/
def lens (l : Nat) : PyData → Bool
  | .none | .bool _ | .int _ | .str _ => true
  | .list xs | .tuple xs => decide (xs.length ≤ l) && lensAll l xs
  | .dict _ => false
def lensAll (l : Nat) : List PyData → Bool
  | [] => true
  | x :: xs => lens l x && lensAll l xs
end
mutual
/-- at least as much as its text is long -/
def wt : PyData → Nat
  | .none | .bool _ => 5
  | .int _ => 250
  | .str x => 10 * x.length + 5
  | .list xs | .tuple xs => wtAll xs + 5
  | .dict _ => 0
def wtAll : List PyData → Nat
  | [] => 0
  | x :: xs => wt x + 2 + wtAll xs
end
theorem leaf_str {M : Nat} {x : Str} : leaf M (.str x) = true ↔ ∀ c ∈ x.cps.toList, c < 128 := by
  simp only [leaf, List.all_eq_true, decide_eq_true_eq]
theorem leafAll_iff {M : Nat} : ∀ {xs : List PyData}, leafAll M xs = true ↔ ∀ x ∈ xs, leaf M x = true
  | [] => by simp [leafAll]
  | x :: xs => by simp [leafAll, leafAll_iff (xs := xs)]
theorem lensAll_iff {l : Nat} : ∀ {xs : List PyData}, lensAll l xs = true ↔ ∀ x ∈ xs, lens l x = true
  | [] => by simp [lensAll]
  | x :: xs => by simp [lensAll, lensAll_iff (xs := xs)]
theorem wtAll_append : ∀ xs ys : List PyData, wtAll (xs ++ ys) = wtAll xs + wtAll ys
  | [], ys => by simp [wtAll]
  | x :: xs, ys => by simp [wtAll, wtAll_append xs ys]; omega
theorem wt_mem : ∀ {xs : List PyData} {x : PyData}, x ∈ xs → wt x + 2 ≤ wtAll xs
  | y :: xs, x, h => by
    rcases List.mem_cons.mp h with rfl | h
    · simp [wtAll]
    · have := wt_mem h
      simp [wtAll]; omega
theorem wtAll_take (xs : List PyData) (k : Nat) : wtAll (xs.take k) ≤ wtAll xs := by
  have h := wtAll_append (xs.take k) (xs.drop k)
  rw [List.take_append_drop] at h
  omega
theorem wtAll_drop (xs : List PyData) (k : Nat) : wtAll (xs.drop k) ≤ wtAll xs := by
  have h := wtAll_append (xs.take k) (xs.drop k)
  rw [List.take_append_drop] at h
  omega
theorem depthAll_iff {n : Nat} : ∀ {xs : List PyData}, PyData.depthAll xs ≤ n ↔ ∀ x ∈ xs, x.depth ≤ n
  | [] => by simp [PyData.depthAll]
  | x :: xs => by simp [PyData.depthAll, depthAll_iff (xs := xs), Nat.max_le]
theorem depth_tuple {n : Nat} {xs : List PyData} : (PyData.tuple xs).depth ≤ n + 1 ↔ ∀ x ∈ xs, x.depth ≤ n := by
  simp [PyData.depth, depthAll_iff]
theorem depth_list {n : Nat} {xs : List PyData} : (PyData.list xs).depth ≤ n + 1 ↔ ∀ x ∈ xs, x.depth ≤ n := by
  simp [PyData.depth, depthAll_iff]

mutual
theorem leaf_noDict {M : Nat} : ∀ d : PyData, leaf M d = true → d.hasDict = false
  | .none, _ => by simp [PyData.hasDict]
  | .bool _, _ => by simp [PyData.hasDict]
  | .int _, _ => by simp [PyData.hasDict]
  | .str _, _ => by simp [PyData.hasDict]
  | .list xs, h => by simpa [PyData.hasDict] using leafAll_noDict xs (by simpa [leaf] using h)
  | .tuple xs, h => by simpa [PyData.hasDict] using leafAll_noDict xs (by simpa [leaf] using h)
  | .dict _, h => by simp [leaf] at h
theorem leafAll_noDict {M : Nat} : ∀ xs : List PyData, leafAll M xs = true → PyData.hasDictAll xs = false
  | [], _ => by simp [PyData.hasDictAll]
  | x :: xs, h => by
    have h' : leaf M x = true ∧ leafAll M xs = true := by simpa [leafAll] using h
    simp [PyData.hasDictAll, leaf_noDict x h'.1, leafAll_noDict xs h'.2]
end
mutual
theorem leaf_canLay {M : Nat} : ∀ d : PyData, leaf M d = true → d.canLay0 = true
  | .none, _ => by simp [PyData.canLay0]
  | .bool _, _ => by simp [PyData.canLay0]
  | .int _, _ => by simp [PyData.canLay0]
  | .str x, h => by
    have h' := leaf_str.mp h
    simp only [PyData.canLay0, PyData.strOk, Array.all_eq_true_iff_forall_mem, decide_eq_true_eq]
    intro c hc
    have := h' c (by simpa using hc)
    omega
  | .list xs, h => by simpa [PyData.canLay0] using leafAll_canLay xs (by simpa [leaf] using h)
  | .tuple xs, h => by simpa [PyData.canLay0] using leafAll_canLay xs (by simpa [leaf] using h)
  | .dict _, h => by simp [leaf] at h
theorem leafAll_canLay {M : Nat} : ∀ xs : List PyData, leafAll M xs = true → PyData.canLayAll0 xs = true
  | [], _ => by simp [PyData.canLayAll0]
  | x :: xs, h => by
    have h' : leaf M x = true ∧ leafAll M xs = true := by simpa [leafAll] using h
    simp [PyData.canLayAll0, leaf_canLay x h'.1, leafAll_canLay xs h'.2]
end
mutual
theorem leaf_shows {M : Nat} (hM : M < 2 ^ 1920) : ∀ d : PyData, leaf M d = true → d.showable = true
  | .none, _ => by simp [PyData.showable]
  | .bool _, _ => by simp [PyData.showable]
  | .int i, h => by
    have h' : i.natAbs ≤ M := by simpa [leaf] using h
    simp only [PyData.showable, decide_eq_true_eq]
    exact log2_small (Nat.lt_of_le_of_lt h' hM)
  | .str x, h => by simp [PyData.showable]
  | .list xs, h => by simpa [PyData.showable] using leafAll_shows hM xs (by simpa [leaf] using h)
  | .tuple xs, h => by simpa [PyData.showable] using leafAll_shows hM xs (by simpa [leaf] using h)
  | .dict _, h => by simp [leaf] at h
theorem leafAll_shows {M : Nat} (hM : M < 2 ^ 1920) : ∀ xs : List PyData, leafAll M xs = true → PyData.showableAll xs = true
  | [], _ => by simp [PyData.showableAll]
  | x :: xs, h => by
    have h' : leaf M x = true ∧ leafAll M xs = true := by simpa [leafAll] using h
    simp [PyData.showableAll, leaf_shows hM x h'.1, leafAll_shows hM xs h'.2]
end
mutual
theorem shown_wt {M : Nat} (hM : M < 10 ^ 240) : ∀ d : PyData, leaf M d = true → d.shown.length ≤ wt d
  | .none, _ => by simp only [PyData.shown, wt]; decide +kernel
  | .bool b, _ => by cases b <;> (simp only [PyData.shown, wt]; decide +kernel)
  | .int i, h => by
    have h' : i.natAbs ≤ M := by simpa [leaf] using h
    have e := int_text_length_le10 (k := 240) (by decide) (Nat.lt_of_le_of_lt h' hM)
    simp only [PyData.shown, wt]
    rw [PySem.ofString_length]
    omega
  | .str x, h => by
    have h' := leaf_str.mp h
    have e := StrLaws.reprText_len x (fun c hc => by have := h' c hc; omega)
    simp only [PyData.shown, wt]
    omega
  | .list xs, h => by
    have e1 := listText_len_le (PyData.shownAll xs)
    have e2 := shownAll_wt hM xs (by simpa [leaf] using h)
    rw [PyData.shownAll_length] at e1
    simp only [PyData.shown, wt]
    omega
  | .tuple xs, h => by
    have e1 := tupleText_len_le (PyData.shownAll xs)
    have e2 := shownAll_wt hM xs (by simpa [leaf] using h)
    rw [PyData.shownAll_length] at e1
    simp only [PyData.shown, wt]
    omega
  | .dict _, h => by simp [leaf] at h
theorem shownAll_wt {M : Nat} (hM : M < 10 ^ 240) : ∀ xs : List PyData, leafAll M xs = true → ((PyData.shownAll xs).map (·.length)).sum + 2 * xs.length ≤ wtAll xs
  | [], _ => by simp [PyData.shownAll, wtAll]
  | x :: xs, h => by
    have h' : leaf M x = true ∧ leafAll M xs = true := by simpa [leafAll] using h
    have e1 := shown_wt hM x h'.1
    have e2 := shownAll_wt hM xs h'.2
    simp only [PyData.shownAll, wtAll, List.map_cons, List.sum_cons, List.length_cons]
    omega
end
mutual
theorem leaf_mono {M N : Nat} (h : M ≤ N) : ∀ d : PyData, leaf M d = true → leaf N d = true
  | .none, _ => by simp [leaf]
  | .bool _, _ => by simp [leaf]
  | .int i, e => by
    have e' : i.natAbs ≤ M := by simpa [leaf] using e
    simp only [leaf, decide_eq_true_eq]; omega
  | .str _, e => by simpa [leaf] using e
  | .list xs, e => by simpa [leaf] using leafAll_mono h xs (by simpa [leaf] using e)
  | .tuple xs, e => by simpa [leaf] using leafAll_mono h xs (by simpa [leaf] using e)
  | .dict _, e => by simp [leaf] at e
theorem leafAll_mono {M N : Nat} (h : M ≤ N) : ∀ xs : List PyData, leafAll M xs = true → leafAll N xs = true
  | [], _ => by simp [leafAll]
  | x :: xs, e => by
    have e' : leaf M x = true ∧ leafAll M xs = true := by simpa [leafAll] using e
    simp [leafAll, leaf_mono h x e'.1, leafAll_mono h xs e'.2]
end
mutual
theorem lens_mono {k l : Nat} (h : k ≤ l) : ∀ d : PyData, lens k d = true → lens l d = true
  | .none, _ => by simp [lens]
  | .bool _, _ => by simp [lens]
  | .int _, _ => by simp [lens]
  | .str _, _ => by simp [lens]
  | .list xs, e => by
    have e' : xs.length ≤ k ∧ lensAll k xs = true := by simpa [lens] using e
    simp only [lens, Bool.and_eq_true, decide_eq_true_eq]
    exact ⟨by omega, lensAll_mono h xs e'.2⟩
  | .tuple xs, e => by
    have e' : xs.length ≤ k ∧ lensAll k xs = true := by simpa [lens] using e
    simp only [lens, Bool.and_eq_true, decide_eq_true_eq]
    exact ⟨by omega, lensAll_mono h xs e'.2⟩
  | .dict _, e => by simp [lens] at e
theorem lensAll_mono {k l : Nat} (h : k ≤ l) : ∀ xs : List PyData, lensAll k xs = true → lensAll l xs = true
  | [], _ => by simp [lensAll]
  | x :: xs, e => by
    have e' : lens k x = true ∧ lensAll k xs = true := by simpa [lensAll] using e
    simp [lensAll, lens_mono h x e'.1, lensAll_mono h xs e'.2]
end

/-- data of this size: ints at most M, sequences at most l long, n deep, B heavy -/
structure Fit (M l n B : Nat) (d : PyData) : Prop where
  lf : leaf M d = true
  ln : lens l d = true
  dp : d.depth ≤ n
  wg : wt d ≤ B
theorem Fit.mono {M l n B M' l' n' B' : Nat} {d : PyData} (h : Fit M l n B d) (h1 : M ≤ M') (h2 : l ≤ l') (h3 : n ≤ n') (h4 : B ≤ B') : Fit M' l' n' B' d :=
  ⟨leaf_mono h1 d h.lf, lens_mono h2 d h.ln, Nat.le_trans h.dp h3, Nat.le_trans h.wg h4⟩
theorem Fit.none {M l n B : Nat} (h : 5 ≤ B) : Fit M l n B .none := ⟨rfl, rfl, Nat.zero_le _, h⟩
theorem Fit.bool {M l n B : Nat} {b : Bool} (h : 5 ≤ B) : Fit M l n B (.bool b) := ⟨rfl, rfl, Nat.zero_le _, h⟩
theorem Fit.int {M l n B : Nat} {i : Int} (hi : i.natAbs ≤ M) (h : 250 ≤ B) : Fit M l n B (.int i) := ⟨by simpa [leaf] using hi, rfl, Nat.zero_le _, h⟩
theorem Fit.str {M l n B : Nat} {x : Str} (hx : ∀ c ∈ x.cps.toList, c < 128) (h : 10 * x.length + 5 ≤ B) : Fit M l n B (.str x) := ⟨leaf_str.mpr hx, rfl, Nat.zero_le _, h⟩
theorem Fit.tup {M l n B : Nat} {xs : List PyData} (hl : xs.length ≤ l) (h : ∀ x ∈ xs, leaf M x = true ∧ lens l x = true ∧ x.depth ≤ n) (hw : wtAll xs + 5 ≤ B) : Fit M l (n + 1) B (.tuple xs) :=
  ⟨by simpa [leaf] using leafAll_iff.mpr fun x hx => (h x hx).1, by simp only [lens, Bool.and_eq_true, decide_eq_true_eq]; exact ⟨hl, lensAll_iff.mpr fun x hx => (h x hx).2.1⟩, depth_tuple.mpr fun x hx => (h x hx).2.2, by simpa [wt] using hw⟩
theorem Fit.lst {M l n B : Nat} {xs : List PyData} (hl : xs.length ≤ l) (h : ∀ x ∈ xs, leaf M x = true ∧ lens l x = true ∧ x.depth ≤ n) (hw : wtAll xs + 5 ≤ B) : Fit M l (n + 1) B (.list xs) :=
  ⟨by simpa [leaf] using leafAll_iff.mpr fun x hx => (h x hx).1, by simp only [lens, Bool.and_eq_true, decide_eq_true_eq]; exact ⟨hl, lensAll_iff.mpr fun x hx => (h x hx).2.1⟩, depth_list.mpr fun x hx => (h x hx).2.2, by simpa [wt] using hw⟩
theorem Fit.inTup {M l n B : Nat} {xs : List PyData} (h : Fit M l n B (.tuple xs)) : xs.length ≤ l ∧ 1 ≤ n ∧ wtAll xs + 5 ≤ B ∧ ∀ x ∈ xs, Fit M l (n - 1) B x := by
  have h2 : xs.length ≤ l ∧ lensAll l xs = true := by simpa [lens] using h.ln
  have h3 : PyData.depthAll xs + 1 ≤ n := by simpa [PyData.depth] using h.dp
  have h4 : wtAll xs + 5 ≤ B := by simpa [wt] using h.wg
  refine ⟨h2.1, by omega, h4, fun x hx => ⟨leafAll_iff.mp (by simpa [leaf] using h.lf) x hx, lensAll_iff.mp h2.2 x hx, (depthAll_iff (n := n - 1)).mp (by omega) x hx, ?_⟩⟩
  have := wt_mem hx
  omega
theorem Fit.inLst {M l n B : Nat} {xs : List PyData} (h : Fit M l n B (.list xs)) : xs.length ≤ l ∧ 1 ≤ n ∧ wtAll xs + 5 ≤ B ∧ ∀ x ∈ xs, Fit M l (n - 1) B x := by
  have h2 : xs.length ≤ l ∧ lensAll l xs = true := by simpa [lens] using h.ln
  have h3 : PyData.depthAll xs + 1 ≤ n := by simpa [PyData.depth] using h.dp
  have h4 : wtAll xs + 5 ≤ B := by simpa [wt] using h.wg
  refine ⟨h2.1, by omega, h4, fun x hx => ⟨leafAll_iff.mp (by simpa [leaf] using h.lf) x hx, lensAll_iff.mp h2.2 x hx, (depthAll_iff (n := n - 1)).mp (by omega) x hx, ?_⟩⟩
  have := wt_mem hx
  omega
theorem Fit.shaped {M l n B : Nat} {d : PyData} (h : Fit M l n B d) (hn : n ≤ 64) : SeqAt.shaped d = true := by
  unfold SeqAt.shaped
  rw [leaf_canLay d h.lf, Bool.true_and, decide_eq_true_eq]
  exact Nat.le_trans h.dp hn
end Sw
set_option maxRecDepth 100000
set_option maxHeartbeats 4000000
namespace Sw
open PySem PySem.Spec PyProof.Rows L2

/-- a def of the text, how it binds, where it stands -/
structure Df (K : PySem.W.Frag) (mg : Str → Option Value) (x : Str) (st : Stmt) (ps : List Str) (f : Addr) (fd : FuncData) : Prop where
  fn : Fun K x x st f fd
  bd : Binds K fd ps []
  gl : mg x = some (.ref f)

/-! ### isinstance of data -/
def isaInt : PyData → Bool
  | .int _ => true
  | .bool _ => true
  | _ => false
def isaBool : PyData → Bool
  | .bool _ => true
  | _ => false
def isaStr : PyData → Bool
  | .str _ => true
  | _ => false
def isaTup : PyData → Bool
  | .tuple _ => true
  | _ => false
theorem ty_list {K : PySem.W.Frag} {H : Hp} {a : Addr} {xs : List V} (h : SqL K H a xs) : TyX K H (.ref a) (.type "list") := by
  rcases h with (h | ⟨o, h⟩) | ⟨o, its, n, h, hc, _⟩
  · exact .base (.lst h)
  · exact .base (.frz h)
  · exact .kList h hc
theorem ty_tup {K : PySem.W.Frag} {H : Hp} {a : Addr} {xs : List V} (h : SqT K H a xs) : TyX K H (.ref a) (.type "tuple") := by
  rcases h with (h | ⟨o, h⟩) | ⟨o, its, n, h, hc, _⟩
  · exact .base (.tup h)
  · exact .fTuple h
  · exact .kTuple h hc
theorem isa_data {K : PySem.W.Frag} {H : Hp} {v : V} {d : PyData} {T : String} {g : PyData → Bool} (h : Dp K H v d)
    (k0 : kitB "NoneType" T = some (g .none)) (k1 : ∀ b, kitB "bool" T = some (g (.bool b))) (k2 : ∀ i, kitB "int" T = some (g (.int i))) (k3 : ∀ x, kitB "str" T = some (g (.str x)))
    (k4 : ∀ xs, kitB "list" T = some (g (.list xs))) (k5 : ∀ xs, kitB "tuple" T = some (g (.tuple xs))) : ∃ t, TyX K H v t ∧ PySem.W.kitOne K t (.type T) = some (g d) := by
  cases h with
  | non => exact ⟨_, .base .non, kit_ty k0⟩
  | bl b => exact ⟨_, .base (.bl b), kit_ty (k1 b)⟩
  | int i => exact ⟨_, .base (.int i), kit_ty (k2 i)⟩
  | str x => exact ⟨_, .base (.str x), kit_ty (k3 x)⟩
  | lst h _ => exact ⟨_, ty_list h, kit_ty (k4 _)⟩
  | tup h _ => exact ⟨_, ty_tup h, kit_ty (k5 _)⟩
theorem isa_int {K : PySem.W.Frag} {H : Hp} {v : V} {d : PyData} (h : Dp K H v d) : ∃ t, TyX K H v t ∧ PySem.W.kitOne K t (.type "int") = some (isaInt d) :=
  isa_data (g := isaInt) h (by decide +kernel) (fun _ => by show _ = some true; decide +kernel) (fun _ => by show _ = some true; decide +kernel) (fun _ => by show _ = some false; decide +kernel) (fun _ => by show _ = some false; decide +kernel) (fun _ => by show _ = some false; decide +kernel)
theorem isa_bool {K : PySem.W.Frag} {H : Hp} {v : V} {d : PyData} (h : Dp K H v d) : ∃ t, TyX K H v t ∧ PySem.W.kitOne K t (.type "bool") = some (isaBool d) :=
  isa_data (g := isaBool) h (by decide +kernel) (fun _ => by show _ = some true; decide +kernel) (fun _ => by show _ = some false; decide +kernel) (fun _ => by show _ = some false; decide +kernel) (fun _ => by show _ = some false; decide +kernel) (fun _ => by show _ = some false; decide +kernel)
theorem isa_str {K : PySem.W.Frag} {H : Hp} {v : V} {d : PyData} (h : Dp K H v d) : ∃ t, TyX K H v t ∧ PySem.W.kitOne K t (.type "str") = some (isaStr d) :=
  isa_data (g := isaStr) h (by decide +kernel) (fun _ => by show _ = some false; decide +kernel) (fun _ => by show _ = some false; decide +kernel) (fun _ => by show _ = some true; decide +kernel) (fun _ => by show _ = some false; decide +kernel) (fun _ => by show _ = some false; decide +kernel)
theorem isa_tup {K : PySem.W.Frag} {H : Hp} {v : V} {d : PyData} (h : Dp K H v d) : ∃ t, TyX K H v t ∧ PySem.W.kitOne K t (.type "tuple") = some (isaTup d) :=
  isa_data (g := isaTup) h (by decide +kernel) (fun _ => by show _ = some false; decide +kernel) (fun _ => by show _ = some false; decide +kernel) (fun _ => by show _ = some false; decide +kernel) (fun _ => by show _ = some false; decide +kernel) (fun _ => by show _ = some true; decide +kernel)

/-! ### what a look promises -/
def dNum : PyData → Bool
  | .int _ => true
  | _ => false
def okSign (c : Nat) : Bool := decide (97 ≤ c) && decide (c ≤ 122)
def wordS (z : Str) : Bool := decide (1 ≤ z.length) && decide (z.length ≤ 8) && z.cps.toList.all okSign
def dWord : PyData → Bool
  | .str z => wordS z
  | _ => false
def dOper (d : PyData) : Bool := dNum d || dWord d
def dPair : PyData → Bool
  | .tuple ds => decide (ds.length = 2)
  | _ => false
def dPos : PyData → Bool
  | .int i => decide (1 ≤ i)
  | _ => false
def dObj : PyData → Bool
  | .tuple [a, b] => dWord a && dPos b
  | _ => false
def fstS : PyData → Str
  | .tuple (.str z :: _) => z
  | _ => Str.empty
def rises : List Str → Bool
  | a :: b :: r => decide (a.cps.toList < b.cps.toList) && rises (b :: r)
  | _ => true
def dObjs : PyData → Bool
  | .tuple ds => !ds.isEmpty && ds.all dObj && rises (ds.map fstS)
  | _ => false
/-- a look at data: its answer, all that stood stands -/
def spLook (K : PySem.W.Frag) (g : PyData → Bool) : Sp := fun vs H Q _ => ∃ (v : V) (d : PyData), vs = [v] ∧ Dp K H v d ∧ (∃ M, Fit M 60 60 1000000 d) ∧ ∀ H', Same H H' → Q (.bl (g d)) H'
theorem big_size {n : Nat} (h : n ≤ 1000000) : n < sizeLine := by rw [sizeLine_eq]; omega
theorem fit_strlen {M l n B : Nat} {x : Str} (h : Fit M l n B (.str x)) (hB : B ≤ 1000000) : x.length ≤ sizeLine := by
  have h1 : 10 * x.length + 5 ≤ B := by simpa [wt] using h.wg
  rw [sizeLine_eq]; omega
theorem isi_dNum (d : PyData) : (isaInt d && !isaBool d) = dNum d := by cases d <;> rfl
end Sw
set_option maxRecDepth 100000
set_option maxHeartbeats 4000000
namespace Pm
open PySem PySem.Spec PyProof.Rows L2 Sw

/-! ### the machine: values, a store, ends -/
inductive Vl where
  | dat (p : PyData)
  | ref (n : Nat)
  | scr (ns : List Int)
  | exo (nm : Str) (fs : List (Str × PyData))
inductive Ob where
  | lst (l : List Vl)
  | dic (kvs : List (Key × Vl))
  | dit (kvs : List (List Key × Vl))
  | ins (c : Str) (fs : List (Str × Vl))
abbrev Sto := List Ob
abbrev Exn := Str × List (Str × PyData)
inductive R (α : Type) where
  | ok (a : α) (s : Sto)
  | ex (x : Exn) (s : Sto)
  | bad
abbrev Loc := List (Option Vl)
inductive Fl where
  | nx (ρ : Loc) (s : Sto)
  | rt (v : Vl) (s : Sto)
  | bk (ρ : Loc) (s : Sto)
  | ct (ρ : Loc) (s : Sto)
  | ex (x : Exn) (ρ : Loc) (s : Sto)
  | bad
def R.bind {α β : Type} (r : R α) (k : α → Sto → R β) : R β := match r with
  | .ok a s => k a s
  | .ex x s => .ex x s
  | .bad => .bad
/-- into a statement's end -/
def R.to {α : Type} (r : R α) (ρ : Loc) (k : α → Sto → Fl) : Fl := match r with
  | .ok a s => k a s
  | .ex x s => .ex x ρ s
  | .bad => .bad
def Fl.seq (f : Fl) (k : Loc → Sto → Fl) : Fl := match f with
  | .nx ρ s => k ρ s
  | .rt v s => .rt v s
  | .bk ρ s => .bk ρ s
  | .ct ρ s => .ct ρ s
  | .ex x ρ s => .ex x ρ s
  | .bad => .bad
abbrev ME := Loc → Sto → R Vl
abbrev MT := Loc → Sto → R Bool
abbrev MA := Loc → Sto → R (List Vl)
abbrev MS := Loc → Sto → Fl
@[simp] theorem R.bind_ok {α β : Type} (a : α) (s : Sto) (k : α → Sto → R β) : (R.ok a s).bind k = k a s := rfl
@[simp] theorem R.bind_ex {α β : Type} (x : Exn) (s : Sto) (k : α → Sto → R β) : (R.ex x s).bind k = .ex x s := rfl
@[simp] theorem R.bind_bad {α β : Type} (k : α → Sto → R β) : (R.bad : R α).bind k = .bad := rfl
@[simp] theorem R.to_ok {α : Type} (a : α) (s : Sto) (ρ : Loc) (k : α → Sto → Fl) : (R.ok a s).to ρ k = k a s := rfl
@[simp] theorem R.to_ex {α : Type} (x : Exn) (s : Sto) (ρ : Loc) (k : α → Sto → Fl) : (R.ex x s : R α).to ρ k = .ex x ρ s := rfl
@[simp] theorem R.to_bad {α : Type} (ρ : Loc) (k : α → Sto → Fl) : (R.bad : R α).to ρ k = .bad := rfl
@[simp] theorem Fl.seq_nx (ρ : Loc) (s : Sto) (k : Loc → Sto → Fl) : (Fl.nx ρ s).seq k = k ρ s := rfl
@[simp] theorem Fl.seq_rt (v : Vl) (s : Sto) (k : Loc → Sto → Fl) : (Fl.rt v s).seq k = .rt v s := rfl
@[simp] theorem Fl.seq_bk (ρ : Loc) (s : Sto) (k : Loc → Sto → Fl) : (Fl.bk ρ s).seq k = .bk ρ s := rfl
@[simp] theorem Fl.seq_ct (ρ : Loc) (s : Sto) (k : Loc → Sto → Fl) : (Fl.ct ρ s).seq k = .ct ρ s := rfl
@[simp] theorem Fl.seq_ex (x : Exn) (ρ : Loc) (s : Sto) (k : Loc → Sto → Fl) : (Fl.ex x ρ s).seq k = .ex x ρ s := rfl
@[simp] theorem Fl.seq_bad (k : Loc → Sto → Fl) : Fl.bad.seq k = .bad := rfl

/-! ### data apart from the store's own objects -/
/-- where the store's objects stand (b), and lists that are being made (g) -/
structure Bs where
  b : List Addr
  g : List Addr
/-- a list that the store doesn't hold -/
def Sl (H : Hp) (β : Bs) (a : Addr) (xs : List V) : Prop := H a = some (.lst xs) ∧ a ∉ β.b ∧ a ∉ β.g
theorem Sl.sq {K : PySem.W.Frag} {H : Hp} {β : Bs} {a : Addr} {xs : List V} (h : Sl H β a xs) : SqL K H a xs := SqL.of h.1
theorem kl_any {K : PySem.W.Frag} {H : Hp} {a : Addr} {xs : List V} (h : SqL K (fun _ => none) a xs) : SqL K H a xs := by
  rcases h with (h | ⟨o, h⟩) | h
  · cases h
  · cases h
  · exact .inr h
/-- the script's list, which nobody turns -/
def Scr (K : PySem.W.Frag) (H : Hp) (a : Addr) (xs : List V) : Prop := (∃ o, H a = some (.frz o (.lst xs))) ∨ SqL K (fun _ => none) a xs
theorem Scr.sq {K : PySem.W.Frag} {H : Hp} {a : Addr} {xs : List V} (h : Scr K H a xs) : SqL K H a xs := by
  rcases h with ⟨o, h⟩ | h
  · exact .inl (.inr ⟨o, h⟩)
  · exact kl_any h
mutual
inductive Dq (K : PySem.W.Frag) (H : Hp) (β : Bs) : V → PyData → Prop
  | non : Dq K H β .non .none
  | bl (b : Bool) : Dq K H β (.bl b) (.bool b)
  | int (i : Int) : Dq K H β (.int i) (.int i)
  | str {x : Str} (h : x.length ≤ sizeLine) : Dq K H β (.str x) (.str x)
  | lst {a : Addr} {xs : List V} {ds : List PyData} : Sl H β a xs → ds.length ≤ sizeLine → DqAll K H β xs ds → Dq K H β (.ref a) (.list ds)
  | tup {a : Addr} {xs : List V} {ds : List PyData} : SqT K H a xs → ds.length ≤ sizeLine → DqAll K H β xs ds → Dq K H β (.ref a) (.tuple ds)
inductive DqAll (K : PySem.W.Frag) (H : Hp) (β : Bs) : List V → List PyData → Prop
  | nil : DqAll K H β [] []
  | cons {v : V} {vs : List V} {d : PyData} {ds : List PyData} : Dq K H β v d → DqAll K H β vs ds → DqAll K H β (v :: vs) (d :: ds)
end
/-- from (β, H) on to (β', H'): the store's objects may turn, new ones may come, all else stands -/
structure Step (β : Bs) (H : Hp) (β' : Bs) (H' : Hp) : Prop where
  pre : β.b <+: β'.b
  gsub : ∀ a ∈ β.g, a ∈ β'.g
  gam : ∀ a ∈ β'.g, a ∈ β.g ∨ H a = none
  new : ∀ a ∈ β'.b, a ∈ β.b ∨ H a = none
  keep : ∀ a o, H a = some o → a ∉ β.b → H' a = some o
  tups : ∀ a xs, H a = some (.tup xs) → H' a = some (.tup xs)
  frzs : ∀ a o u, H a = some (.frz o u) → H' a = some (.frz o u)
  liv : ∀ a o, H a = some o → ∃ o', H' a = some o'
theorem Step.refl (β : Bs) (H : Hp) : Step β H β H := ⟨List.prefix_refl _, fun _ h => h, fun _ h => .inl h, fun _ h => .inl h, fun _ _ h _ => h, fun _ _ h => h, fun _ _ _ h => h, fun _ o h => ⟨o, h⟩⟩
theorem Step.trans {β β1 β2 : Bs} {H H1 H2 : Hp} (a : Step β H β1 H1) (b : Step β1 H1 β2 H2) : Step β H β2 H2 := by
  refine ⟨a.pre.trans b.pre, fun x hx => b.gsub x (a.gsub x hx), fun x hx => ?_, fun x hx => ?_, fun x o e n => ?_, fun x xs e => b.tups x xs (a.tups x xs e), fun x o u e => b.frzs x o u (a.frzs x o u e), fun x o e => by
    obtain ⟨o', e'⟩ := a.liv x o e
    exact b.liv x o' e'⟩
  · rcases b.gam x hx with h | h
    · exact a.gam x h
    · cases e : H x with
      | none => exact .inr rfl
      | some o =>
        obtain ⟨o', e'⟩ := a.liv x o e
        rw [e'] at h; cases h
  · rcases b.new x hx with h | h
    · exact a.new x h
    · by_cases hb : x ∈ β.b
      · exact .inl hb
      · cases e : H x with
        | none => exact .inr rfl
        | some o => rw [a.keep x o e hb] at h; cases h
  · refine b.keep x o (a.keep x o e n) fun hx => ?_
    rcases a.new x hx with h | h
    · exact n h
    · rw [e] at h; cases h
theorem Step.same {β : Bs} {H H' : Hp} (h : Same H H') : Step β H β H' := ⟨List.prefix_refl _, fun _ h => h, fun _ h => .inl h, fun _ h => .inl h, fun a o e _ => h a o e, fun a xs e => h a _ e, fun a o u e => h a _ e, fun a o e => ⟨o, h a o e⟩⟩
theorem Step.lay {β : Bs} {H : Hp} {p : Addr} {o : HO} (h : H p = none) : Step β H β (upd H p o) := Step.same (same_new h)
def Bs.push (β : Bs) (p : Addr) : Bs := ⟨β.b ++ [p], β.g⟩
theorem Step.push {β : Bs} {H : Hp} {p : Addr} {o : HO} (h : H p = none) : Step β H (β.push p) (upd H p o) := by
  refine ⟨List.prefix_append _ _, fun _ h => h, fun _ h => .inl h, fun a ha => ?_, fun a x e _ => same_new h a x e, fun a xs e => same_new h a _ e, fun a o u e => same_new h a _ e, fun a o e => ⟨o, same_new h a o e⟩⟩
  rcases List.mem_append.mp (show a ∈ β.b ++ [p] from ha) with h1 | h1
  · exact .inl h1
  · have : a = p := by simpa using h1
    exact .inr (by rw [this]; exact h)
/-- what the store holds is no tuple, and not locked -/
def Own : HO → Prop
  | .tup _ => False
  | .frz _ _ => False
  | _ => True
theorem Step.put {β : Bs} {H : Hp} {p : Addr} {o o' : HO} (hp : p ∈ β.b) (h : H p = some o') (ht : Own o') : Step β H β (upd H p o) := by
  refine ⟨List.prefix_refl _, fun _ h => h, fun _ h => .inl h, fun _ h => .inl h, fun a x e n => ?_, fun a xs e => ?_, fun a x u e => ?_, fun a x e => ?_⟩
  · rw [upd_ne (fun z => n (by rw [z]; exact hp))]; exact e
  · rw [upd_ne (ne_of e h fun z => by rw [← z] at ht; exact ht)]; exact e
  · rw [upd_ne (ne_of e h fun z => by rw [← z] at ht; exact ht)]; exact e
  · by_cases z : a = p
    · exact ⟨o, by rw [z, upd_same]⟩
    · exact ⟨x, by rw [upd_ne z]; exact e⟩
section
variable {K : PySem.W.Frag} {H H' : Hp} {β β' : Bs}
theorem Step.out (s : Step β H β' H') {a : Addr} {o : HO} (h : H a = some o) (n : a ∉ β.b) : a ∉ β'.b := fun hx => by
  rcases s.new a hx with z | z
  · exact n z
  · rw [h] at z; cases z
theorem Step.outg (s : Step β H β' H') {a : Addr} {o : HO} (h : H a = some o) (n : a ∉ β.g) : a ∉ β'.g := fun hx => by
  rcases s.gam a hx with z | z
  · exact n z
  · rw [h] at z; cases z
theorem Step.sl {a : Addr} {xs : List V} (s : Step β H β' H') (h : Sl H β a xs) : Sl H' β' a xs := ⟨s.keep a _ h.1 h.2.1, s.out h.1 h.2.1, s.outg h.1 h.2.2⟩
theorem Step.scr {a : Addr} {xs : List V} (s : Step β H β' H') (h : Scr K H a xs) : Scr K H' a xs := by
  rcases h with ⟨o, h⟩ | h
  · exact .inl ⟨o, s.frzs _ _ _ h⟩
  · exact .inr h
theorem Step.sqt {a : Addr} {xs : List V} (s : Step β H β' H') (h : SqT K H a xs) : SqT K H' a xs := by
  rcases h with (h | ⟨o, h⟩) | h
  · exact .inl (.inl (s.tups _ _ h))
  · exact .inl (.inr ⟨o, s.frzs _ _ _ h⟩)
  · exact .inr h
end
mutual
theorem Step.dq {K : PySem.W.Frag} {H H' : Hp} {β β' : Bs} (s : Step β H β' H') : ∀ {v : V} {d : PyData}, Dq K H β v d → Dq K H' β' v d
  | _, _, .non => .non
  | _, _, .bl b => .bl b
  | _, _, .int i => .int i
  | _, _, .str h => .str h
  | _, _, .lst h l r => .lst (s.sl h) l (Step.dqs s r)
  | _, _, .tup h l r => .tup (s.sqt h) l (Step.dqs s r)
theorem Step.dqs {K : PySem.W.Frag} {H H' : Hp} {β β' : Bs} (s : Step β H β' H') : ∀ {vs : List V} {ds : List PyData}, DqAll K H β vs ds → DqAll K H' β' vs ds
  | _, _, .nil => .nil
  | _, _, .cons h r => .cons (Step.dq s h) (Step.dqs s r)
end
mutual
theorem Dq.dp {K : PySem.W.Frag} {H : Hp} {β : Bs} : ∀ {v : V} {d : PyData}, Dq K H β v d → Dp K H v d
  | _, _, .non => .non
  | _, _, .bl b => .bl b
  | _, _, .int i => .int i
  | _, _, .str _ => .str _
  | _, _, .lst h _ r => .lst h.sq (DqAll.dp r)
  | _, _, .tup h _ r => .tup h (DqAll.dp r)
theorem DqAll.dp {K : PySem.W.Frag} {H : Hp} {β : Bs} : ∀ {vs : List V} {ds : List PyData}, DqAll K H β vs ds → DpAll K H vs ds
  | _, _, .nil => .nil
  | _, _, .cons h r => .cons (Dq.dp h) (DqAll.dp r)
end
theorem DqAll.len {K : PySem.W.Frag} {H : Hp} {β : Bs} : ∀ {vs : List V} {ds : List PyData}, DqAll K H β vs ds → vs.length = ds.length
  | _, _, .nil => rfl
  | _, _, .cons _ r => by rw [List.length_cons, List.length_cons, DqAll.len r]
theorem DqAll.get {K : PySem.W.Frag} {H : Hp} {β : Bs} : ∀ {vs : List V} {ds : List PyData} {i : Nat} {v : V}, DqAll K H β vs ds → vs[i]? = some v → ∃ d, ds[i]? = some d ∧ Dq K H β v d
  | _, _, _, _, .nil, e => by simp at e
  | _, _, 0, _, .cons h _, e => by simp at e; subst e; exact ⟨_, rfl, h⟩
  | _, _, i + 1, v, .cons _ r, e => by
    obtain ⟨d, h1, h2⟩ := DqAll.get (i := i) (v := v) r (by simpa using e)
    exact ⟨d, by simpa using h1, h2⟩
theorem DqAll.get' {K : PySem.W.Frag} {H : Hp} {β : Bs} {vs : List V} {ds : List PyData} {i : Nat} {d : PyData} (h : DqAll K H β vs ds) (e : ds[i]? = some d) : ∃ v, vs[i]? = some v ∧ Dq K H β v d := by
  have hl := h.len
  obtain ⟨hi, _⟩ := List.getElem?_eq_some_iff.mp e
  have hv : i < vs.length := by omega
  obtain ⟨d', h1, h2⟩ := h.get (List.getElem?_eq_getElem hv)
  rw [e] at h1
  cases h1
  exact ⟨_, List.getElem?_eq_getElem hv, h2⟩
theorem DqAll.append {K : PySem.W.Frag} {H : Hp} {β : Bs} : ∀ {vs us : List V} {ds es : List PyData}, DqAll K H β vs ds → DqAll K H β us es → DqAll K H β (vs ++ us) (ds ++ es)
  | _, _, _, _, .nil, r => r
  | _, _, _, _, .cons h t, r => .cons h (DqAll.append t r)
theorem DqAll.take {K : PySem.W.Frag} {H : Hp} {β : Bs} : ∀ {vs : List V} {ds : List PyData} (n : Nat), DqAll K H β vs ds → DqAll K H β (vs.take n) (ds.take n)
  | _, _, 0, _ => .nil
  | _, _, _ + 1, .nil => .nil
  | _, _, n + 1, .cons h t => .cons h (DqAll.take n t)
theorem DqAll.drop {K : PySem.W.Frag} {H : Hp} {β : Bs} : ∀ {vs : List V} {ds : List PyData} (n : Nat), DqAll K H β vs ds → DqAll K H β (vs.drop n) (ds.drop n)
  | _, _, 0, h => h
  | _, _, _ + 1, .nil => .nil
  | _, _, n + 1, .cons _ t => DqAll.drop n t
theorem DqAll.rev {K : PySem.W.Frag} {H : Hp} {β : Bs} : ∀ {vs : List V} {ds : List PyData}, DqAll K H β vs ds → DqAll K H β vs.reverse ds.reverse
  | _, _, .nil => .nil
  | _, _, .cons h t => by
    rw [List.reverse_cons, List.reverse_cons]
    exact (DqAll.rev t).append (.cons h .nil)

/-! ### values, the store, the locals -/
/-- an exception that is being looked at: where it stands, its class, its dict -/
abbrev Exo := Option (Addr × Value × Option Addr)
structure Cf where
  K : PySem.W.Frag
  mg : Str → Option Value
  z : Exo
abbrev Cf.o (G : Cf) : Cf := ⟨G.K, G.mg, none⟩
/-- an exception: its class by name, its fields -/
def RX (G : Cf) (H : Hp) (β : Bs) (x : Exn) (c : Value) (d : Option Addr) : Prop := ∃ (C dd : Addr) (xs : List (Str × V)), G.mg x.1 = some (.ref C) ∧ c = .ref C ∧ d = some dd ∧ H dd = some (.xd xs) ∧ dd ∉ β.b ∧
  Paired (fun (p : Str × PyData) (q : Str × V) => p.1 = q.1 ∧ Dq G.K H β q.2 p.2) x.2 xs
theorem Step.rx {G : Cf} {H H' : Hp} {β β' : Bs} {x : Exn} {c : Value} {d : Option Addr} (s : Step β H β' H') (h : RX G H β x c d) : RX G H' β' x c d := by
  obtain ⟨C, dd, xs, h1, h2, h3, h4, h5, h6⟩ := h
  exact ⟨C, dd, xs, h1, h2, h3, s.keep _ _ h4 h5, s.out h4 h5, Paired.mapP h6 fun p q z => ⟨z.1, s.dq z.2⟩⟩
/-- a value -/
def Rv (G : Cf) (H : Hp) (β : Bs) : Vl → V → Prop
  | .dat p, v => Dq G.K H β v p
  | .ref n, v => ∃ a, β.b[n]? = some a ∧ v = .ref a
  | .scr ns, v => ∃ a, v = .ref a ∧ Scr G.K H a (ns.map V.int)
  | .exo nm fs, v => ∃ a c d, G.z = some (a, c, d) ∧ v = .ref a ∧ RX G H β (nm, fs) c d
/-- it is no exception -/
def noX : Vl → Bool
  | .exo _ _ => false
  | _ => true
theorem Rv.up {G : Cf} {H : Hp} {β : Bs} : ∀ {v : Vl} {u : V}, Rv G.o H β v u → Rv G H β v u
  | .dat _, _, h => h
  | .ref _, _, h => h
  | .scr _, _, h => h
  | .exo _ _, _, ⟨_, _, _, e, _⟩ => by cases e
theorem Rv.dn {G : Cf} {H : Hp} {β : Bs} : ∀ {v : Vl} {u : V}, noX v = true → Rv G H β v u → Rv G.o H β v u
  | .dat _, _, _, h => h
  | .ref _, _, _, h => h
  | .scr _, _, _, h => h
  | .exo _ _, _, e, _ => by cases e
theorem Step.rv {G : Cf} {H H' : Hp} {β β' : Bs} (s : Step β H β' H') : ∀ {v : Vl} {u : V}, Rv G H β v u → Rv G H' β' v u
  | .dat _, _, h => s.dq h
  | .scr _, _, ⟨a, e, q⟩ => ⟨a, e, s.scr q⟩
  | .exo _ _, _, ⟨a, c, d, e, q, r⟩ => ⟨a, c, d, e, q, s.rx r⟩
  | .ref n, _, ⟨a, e, q⟩ => by
    obtain ⟨t, ht⟩ := s.pre
    refine ⟨a, ?_, q⟩
    rw [← ht, List.getElem?_append_left (List.getElem?_eq_some_iff.mp e).1]
    exact e
def Rvs (G : Cf) (H : Hp) (β : Bs) : List Vl → List V → Prop := Paired (Rv G H β)
theorem Step.rvs {G : Cf} {H H' : Hp} {β β' : Bs} (s : Step β H β' H') : ∀ {vs : List Vl} {us : List V}, Rvs G H β vs us → Rvs G H' β' vs us
  | _, _, .nil => .nil
  | _, _, .cons h r => .cons (s.rv h) (Step.rvs s r)
theorem Rvs.up {G : Cf} {H : Hp} {β : Bs} : ∀ {vs : List Vl} {us : List V}, Rvs G.o H β vs us → Rvs G H β vs us
  | _, _, .nil => .nil
  | _, _, .cons h r => .cons (Rv.up h) (Rvs.up r)
theorem Rvs.dn {G : Cf} {H : Hp} {β : Bs} : ∀ {vs : List Vl} {us : List V}, vs.all noX = true → Rvs G H β vs us → Rvs G.o H β vs us
  | _, _, _, .nil => .nil
  | v :: vs, _, e, .cons h r => by
    rw [List.all_cons, Bool.and_eq_true] at e
    exact .cons (Rv.dn e.1 h) (Rvs.dn e.2 r)
theorem Rvs.len {G : Cf} {H : Hp} {β : Bs} {vs : List Vl} {us : List V} (h : Rvs G H β vs us) : vs.length = us.length := Paired.length h
theorem Rvs.get {G : Cf} {H : Hp} {β : Bs} : ∀ {vs : List Vl} {us : List V} {i : Nat} {u : V}, Rvs G H β vs us → us[i]? = some u → ∃ v, vs[i]? = some v ∧ Rv G H β v u
  | _, _, _, _, .nil, e => by simp at e
  | _, _, 0, _, .cons h _, e => by simp at e; subst e; exact ⟨_, rfl, h⟩
  | _, _, i + 1, u, .cons _ r, e => by
    obtain ⟨d, h1, h2⟩ := Rvs.get (i := i) (u := u) r (by simpa using e)
    exact ⟨d, by simpa using h1, h2⟩
theorem Rvs.get' {G : Cf} {H : Hp} {β : Bs} {vs : List Vl} {us : List V} {i : Nat} {v : Vl} (h : Rvs G H β vs us) (e : vs[i]? = some v) : ∃ u, us[i]? = some u ∧ Rv G H β v u := by
  have hl := h.len
  obtain ⟨hi, _⟩ := List.getElem?_eq_some_iff.mp e
  have hv : i < us.length := by omega
  obtain ⟨d', h1, h2⟩ := h.get (List.getElem?_eq_getElem hv)
  rw [e] at h1
  cases h1
  exact ⟨_, List.getElem?_eq_getElem hv, h2⟩
theorem Rvs.append {G : Cf} {H : Hp} {β : Bs} : ∀ {vs ws : List Vl} {us xs : List V}, Rvs G H β vs us → Rvs G H β ws xs → Rvs G H β (vs ++ ws) (us ++ xs)
  | _, _, _, _, .nil, r => r
  | _, _, _, _, .cons h t, r => .cons h (Rvs.append t r)
theorem Rvs.set {G : Cf} {H : Hp} {β : Bs} {v : Vl} {u : V} (r : Rv G H β v u) : ∀ {vs : List Vl} {us : List V} (i : Nat), Rvs G H β vs us → Rvs G H β (vs.set i v) (us.set i u)
  | _, _, _, .nil => .nil
  | _, _, 0, .cons _ t => .cons r t
  | _, _, i + 1, .cons q t => .cons q (Rvs.set r i t)
theorem Rvs.dats {G : Cf} {H : Hp} {β : Bs} : ∀ {ds : List PyData} {us : List V}, DqAll G.K H β us ds → Rvs G H β (ds.map Vl.dat) us
  | _, _, .nil => .nil
  | _, _, .cons h t => .cons h (Rvs.dats t)
theorem Rvs.undats {G : Cf} {H : Hp} {β : Bs} : ∀ {ds : List PyData} {us : List V}, Rvs G H β (ds.map Vl.dat) us → DqAll G.K H β us ds
  | [], _, .nil => .nil
  | _ :: _, _, .cons h t => .cons h (Rvs.undats t)
/-- all of a list are data -/
def datas : List Vl → Option (List PyData)
  | [] => some []
  | .dat p :: r => (datas r).map (p :: ·)
  | .ref _ :: _ => none
  | .scr _ :: _ => none
  | .exo _ _ :: _ => none
theorem datas_eq : ∀ {vs : List Vl} {ds : List PyData}, datas vs = some ds → vs = ds.map Vl.dat
  | [], ds, h => by
    have : [] = ds := by simpa [datas] using h
    subst this
    rfl
  | .dat p :: r, ds, h => by
    cases e : datas r with
    | none => simp [datas, e] at h
    | some l =>
      have : p :: l = ds := by simpa [datas, e] using h
      subst this
      rw [datas_eq e]
      rfl
  | .ref _ :: _, ds, h => by simp [datas] at h
  | .scr _ :: _, ds, h => by simp [datas] at h
  | .exo _ _ :: _, ds, h => by simp [datas] at h
@[simp] theorem datas_map : ∀ ds : List PyData, datas (ds.map Vl.dat) = some ds
  | [] => rfl
  | d :: ds => by simp [datas, datas_map ds]
def RO (G : Cf) (H : Hp) (β : Bs) (a : Addr) : Ob → Prop
  | .lst l => l.length ≤ sizeLine ∧ ∃ xs, H a = some (.lst xs) ∧ Rvs G.o H β l xs
  | .dic kvs => ∃ ks : List (Key × V), H a = some (.dK ks) ∧ Paired (fun (p : Key × Vl) (q : Key × V) => p.1 = q.1 ∧ Rv G.o H β p.2 q.2) kvs ks
  | .dit kvs => ∃ ks : List (List Key × V), H a = some (.dT ks) ∧ Paired (fun (p : List Key × Vl) (q : List Key × V) => p.1 = q.1 ∧ Rv G.o H β p.2 q.2) kvs ks
  | .ins c fs => ∃ (C dx : Addr) (xs : List (Str × V)), G.mg c = some (.ref C) ∧ H a = some (.ins C dx xs) ∧ H dx = some (.own a) ∧ dx ∉ β.b ∧ Paired (fun (p : Str × Vl) (q : Str × V) => p.1 = q.1 ∧ Rv G.o H β p.2 q.2) fs xs
theorem RO.own {G : Cf} {H : Hp} {β : Bs} {a : Addr} {o : Ob} (h : RO G H β a o) : ∃ x, H a = some x ∧ Own x := by
  cases o with
  | lst l => obtain ⟨_, xs, e, _⟩ := h; exact ⟨_, e, trivial⟩
  | dic l => obtain ⟨xs, e, _⟩ := h; exact ⟨_, e, trivial⟩
  | dit l => obtain ⟨xs, e, _⟩ := h; exact ⟨_, e, trivial⟩
  | ins c l => obtain ⟨_, _, xs, _, e, _⟩ := h; exact ⟨_, e, trivial⟩
theorem RO.step {G : Cf} {H H' : Hp} {β β' : Bs} {a : Addr} {o : Ob} (s : Step β H β' H') (ha : H' a = H a) (h : RO G H β a o) : RO G H' β' a o := by
  cases o with
  | lst l => obtain ⟨hl, xs, e, r⟩ := h; exact ⟨hl, xs, by rw [ha]; exact e, s.rvs r⟩
  | dic l => obtain ⟨xs, e, r⟩ := h; exact ⟨xs, by rw [ha]; exact e, Paired.mapP r fun p q z => ⟨z.1, s.rv z.2⟩⟩
  | dit l => obtain ⟨xs, e, r⟩ := h; exact ⟨xs, by rw [ha]; exact e, Paired.mapP r fun p q z => ⟨z.1, s.rv z.2⟩⟩
  | ins c l =>
    obtain ⟨C, dx, xs, hm, e, hd, n, r⟩ := h
    exact ⟨C, dx, xs, hm, by rw [ha]; exact e, s.keep _ _ hd n, s.out hd n, Paired.mapP r fun p q z => ⟨z.1, s.rv z.2⟩⟩
structure RelS (G : Cf) (β : Bs) (s : Sto) (H : Hp) : Prop where
  len : β.b.length = s.length
  nd : β.b.Nodup
  ob : ∀ (n : Nat) (o : Ob) (a : Addr), s[n]? = some o → β.b[n]? = some a → RO G H β a o
  gs : ∀ a ∈ β.g, (∃ o, H a = some o) ∧ a ∉ β.b
theorem RelS.own {G : Cf} {β : Bs} {s : Sto} {H : Hp} (h : RelS G β s H) {a : Addr} (ha : a ∈ β.b) : ∃ x, H a = some x ∧ Own x := by
  obtain ⟨n, hn, e⟩ := List.getElem_of_mem ha
  have hs : n < s.length := by rw [← h.len]; exact hn
  exact (h.ob n _ a (List.getElem?_eq_getElem hs) (by rw [List.getElem?_eq_getElem hn, e])).own
theorem RelS.nin {G : Cf} {β : Bs} {s : Sto} {H : Hp} (h : RelS G β s H) {p : Addr} (hp : H p = none) : p ∉ β.b := fun z => by
  obtain ⟨x, e, _⟩ := h.own z
  rw [hp] at e; cases e
theorem RelS.nig {G : Cf} {β : Bs} {s : Sto} {H : Hp} (h : RelS G β s H) {p : Addr} (hp : H p = none) : p ∉ β.g := fun z => by
  obtain ⟨⟨x, e⟩, _⟩ := h.gs p z
  rw [hp] at e; cases e
/-- all that stood stands -/
theorem RelS.same {G : Cf} {β : Bs} {s : Sto} {H H' : Hp} (h : RelS G β s H) (e : Same H H') : RelS G β s H' :=
  ⟨h.len, h.nd, fun n o a h1 h2 => by
    have r := h.ob n o a h1 h2
    obtain ⟨x, hx, _⟩ := r.own
    exact r.step (Step.same e) (by rw [hx]; exact e _ _ hx), fun a ha => by
    obtain ⟨⟨o, ho⟩, n⟩ := h.gs a ha
    exact ⟨⟨o, e _ _ ho⟩, n⟩⟩
theorem RelS.push {G : Cf} {β : Bs} {s : Sto} {H : Hp} {p : Addr} {o : HO} {ob : Ob} (h : RelS G β s H) (hp : H p = none) (r : RO G (upd H p o) (β.push p) p ob) : RelS G (β.push p) (s ++ [ob]) (upd H p o) := by
  have hn := h.nin hp
  refine ⟨by simp [Bs.push, h.len], ?_, fun n x a h1 h2 => ?_, fun a ha => ?_⟩
  · show (β.b ++ [p]).Nodup
    rw [List.nodup_append]
    exact ⟨h.nd, by simp, fun a ha b hb => by
      have : b = p := by simpa using hb
      subst this
      exact fun z => hn (z ▸ ha)⟩
  · have h2 : (β.b ++ [p])[n]? = some a := h2
    by_cases hlt : n < s.length
    · rw [List.getElem?_append_left hlt] at h1
      rw [List.getElem?_append_left (by rw [h.len]; exact hlt)] at h2
      have r := h.ob n x a h1 h2
      obtain ⟨y, hy, _⟩ := r.own
      exact r.step (Step.push hp) (by rw [upd_ne (ne_of_none hy hp)])
    · have hlt2 : n < (s ++ [ob]).length := (List.getElem?_eq_some_iff.mp h1).1
      have : n = s.length := by simp at hlt2; omega
      subst this
      rw [List.getElem?_append_right (Nat.le_refl _), Nat.sub_self] at h1
      rw [← h.len, List.getElem?_append_right (Nat.le_refl _), Nat.sub_self] at h2
      cases h1; cases h2
      exact r
  · obtain ⟨⟨x, hx⟩, n⟩ := h.gs a ha
    refine ⟨⟨x, by rw [upd_ne (ne_of_none hx hp)]; exact hx⟩, fun z => ?_⟩
    rcases List.mem_append.mp (show a ∈ β.b ++ [p] from z) with z | z
    · exact n z
    · have : a = p := by simpa using z
      rw [this, hp] at hx; cases hx
theorem RelS.put {G : Cf} {β : Bs} {s : Sto} {H : Hp} {n : Nat} {a : Addr} {o : HO} {ob ob' : Ob} (h : RelS G β s H) (hs : s[n]? = some ob') (ha : β.b[n]? = some a) (r : RO G (upd H a o) β a ob) : RelS G β (s.set n ob) (upd H a o) := by
  have hm : a ∈ β.b := List.mem_of_getElem? ha
  obtain ⟨y, hy, ho⟩ := h.own hm
  refine ⟨by simp [h.len], h.nd, fun m x b h1 h2 => ?_, fun b hb => ?_⟩
  · by_cases hmn : m = n
    · subst hmn
      rw [List.getElem?_set_self (List.getElem?_eq_some_iff.mp hs).1] at h1
      rw [ha] at h2
      cases h1; cases h2
      exact r
    · rw [List.getElem?_set_ne (Ne.symm hmn)] at h1
      refine (h.ob m x b h1 h2).step (Step.put hm hy ho) (upd_ne fun z => hmn ?_)
      subst z
      obtain ⟨i1, e1⟩ := List.getElem?_eq_some_iff.mp ha
      obtain ⟨i2, e2⟩ := List.getElem?_eq_some_iff.mp h2
      exact (List.getElem_inj h.nd).mp (e2.trans e1.symm)
  · obtain ⟨⟨x, hx⟩, n⟩ := h.gs b hb
    exact ⟨⟨x, by rw [upd_ne (fun z => n (by rw [z]; exact hm))]; exact hx⟩, n⟩
structure RelL (G : Cf) (H : Hp) (β : Bs) (ρ : Loc) (σ : L2.St) : Prop where
  len : ρ.length = σ.length
  at' : ∀ (i : Nat) v, ρ[i]? = some (some v) → ∃ u, σ[i]? = some (some u) ∧ Rv G H β v u
theorem RelL.step {G : Cf} {H H' : Hp} {β β' : Bs} {ρ : Loc} {σ : L2.St} (s : Step β H β' H') (h : RelL G H β ρ σ) : RelL G H' β' ρ σ := ⟨h.len, fun i v e => by
  obtain ⟨u, h1, h2⟩ := h.at' i v e
  exact ⟨u, h1, s.rv h2⟩⟩
theorem RelL.set {G : Cf} {H : Hp} {β : Bs} {ρ : Loc} {σ : L2.St} (h : RelL G H β ρ σ) {i : Nat} {v : Vl} {u : V} (r : Rv G H β v u) : RelL G H β (ρ.set i (some v)) (σ.set i (some u)) := by
  refine ⟨by simp [h.len], fun j w e => ?_⟩
  by_cases hj : j = i
  · subst hj
    by_cases hlt : j < ρ.length
    · rw [List.getElem?_set_self hlt] at e
      cases e
      exact ⟨u, List.getElem?_set_self (by rw [← h.len]; exact hlt), r⟩
    · rw [List.getElem?_eq_none (by simpa using hlt)] at e; cases e
  · rw [List.getElem?_set_ne (Ne.symm hj)] at e
    obtain ⟨x, h1, h2⟩ := h.at' j w e
    exact ⟨x, by rw [List.getElem?_set_ne (Ne.symm hj)]; exact h1, h2⟩
theorem RelL.setN {G : Cf} {H : Hp} {β : Bs} {ρ : Loc} {σ : L2.St} (h : RelL G H β ρ σ) {i : Nat} {x : Option V} : RelL G H β (ρ.set i none) (σ.set i x) := by
  refine ⟨by simp [h.len], fun j w e => ?_⟩
  by_cases hj : j = i
  · subst hj
    by_cases hlt : j < ρ.length
    · rw [List.getElem?_set_self hlt] at e; cases e
    · rw [List.getElem?_eq_none (by simpa using hlt)] at e; cases e
  · rw [List.getElem?_set_ne (Ne.symm hj)] at e
    obtain ⟨y, h1, h2⟩ := h.at' j w e
    exact ⟨y, by rw [List.getElem?_set_ne (Ne.symm hj)]; exact h1, h2⟩
/-! ### the readings that the machine gives -/
section
variable {α υ : Type}
abbrev Rel (α υ : Type) := Hp → Bs → α → υ → Prop
/-- what is to follow an end -/
def Post (G : Cf) (rel : Rel α υ) (W : WX) (σ : L2.St) (β : Bs) (H : Hp) (Q : υ → Hp → Prop) : R α → Prop
  | .ok v s => ∀ β' H' u, Step β H β' H' → RelS G β' s H' → rel H' β' v u → Q u H'
  | .ex x s => ∀ β' H' c d, Step β H β' H' → RelS G β' s H' → RX G H' β' x c d → W c d σ H'
  | .bad => False
theorem Post.step {G : Cf} {rel : Rel α υ} {W : WX} {σ : L2.St} {β β1 : Bs} {H H1 : Hp} {Q : υ → Hp → Prop} {r : R α} (h : Post G rel W σ β H Q r) (s : Step β H β1 H1) : Post G rel W σ β1 H1 Q r := by
  cases r with
  | ok v st => exact fun β' H' u s' => h β' H' u (s.trans s')
  | ex x st => exact fun β' H' c d s' => h β' H' c d (s.trans s')
  | bad => exact h
theorem Post.bind {α' υ' : Type} {G : Cf} {rel : Rel α υ} {rel' : Rel α' υ'} {W : WX} {σ : L2.St} {β : Bs} {H : Hp} {Q : υ' → Hp → Prop} {Q1 : υ → Hp → Prop} {r : R α} {k : α → Sto → R α'} (h : Post G rel' W σ β H Q (r.bind k))
    (hk : ∀ v s1 β1 H1 u, Step β H β1 H1 → RelS G β1 s1 H1 → rel H1 β1 v u → Post G rel' W σ β1 H1 Q (k v s1) → Q1 u H1) : Post G rel W σ β H Q1 r := by
  cases r with
  | ok v st => exact fun β' H' u s' hs hr => hk v st β' H' u s' hs hr (Post.step (show Post G rel' W σ β H Q (k v st) from h) s')
  | ex x st => exact h
  | bad => exact h
/-- a reading by the machine -/
def tG (G : Cf) (rel : Rel α υ) (W : WX) (f : Loc → Sto → R α) : L2.St → Hp → (υ → Hp → Prop) → Prop := fun σ H Q => ∃ β ρ s, RelL G H β ρ σ ∧ RelS G β s H ∧ Post G rel W σ β H Q (f ρ s)
def PostS (G : Cf) (W : WX) (β : Bs) (H : Hp) (D : Ends) : Fl → Prop
  | .nx ρ s => ∀ β' σ' H', Step β H β' H' → RelL G H' β' ρ σ' → RelS G β' s H' → D.nx σ' H'
  | .rt v s => ∀ β' H' u, Step β H β' H' → RelS G β' s H' → Rv G H' β' v u → D.rt u H'
  | .bk ρ s => ∀ β' σ' H', Step β H β' H' → RelL G H' β' ρ σ' → RelS G β' s H' → D.bk σ' H'
  | .ct ρ s => ∀ β' σ' H', Step β H β' H' → RelL G H' β' ρ σ' → RelS G β' s H' → D.ct σ' H'
  | .ex x ρ s => ∀ β' σ' H' c d, Step β H β' H' → RelL G H' β' ρ σ' → RelS G β' s H' → RX G H' β' x c d → W c d σ' H'
  | .bad => False
theorem PostS.step {G : Cf} {W : WX} {β β1 : Bs} {H H1 : Hp} {D : Ends} {f : Fl} (h : PostS G W β H D f) (s : Step β H β1 H1) : PostS G W β1 H1 D f := by
  cases f with
  | nx ρ st => exact fun β' σ' H' s' => h β' σ' H' (s.trans s')
  | rt v st => exact fun β' H' u s' => h β' H' u (s.trans s')
  | bk ρ st => exact fun β' σ' H' s' => h β' σ' H' (s.trans s')
  | ct ρ st => exact fun β' σ' H' s' => h β' σ' H' (s.trans s')
  | ex x ρ st => exact fun β' σ' H' c d s' => h β' σ' H' c d (s.trans s')
  | bad => exact h
def tS (G : Cf) (W : WX) (f : MS) : TS := fun D σ H => ∃ β ρ s, RelL G H β ρ σ ∧ RelS G β s H ∧ PostS G W β H D (f ρ s)
theorem PostS.to {G : Cf} {rel : Rel α υ} {W : WX} {σ : L2.St} {ρ : Loc} {β : Bs} {H : Hp} {D : Ends} {Q1 : υ → Hp → Prop} {r : R α} {k : α → Sto → Fl} (hl : RelL G H β ρ σ) (h : PostS G W β H D (r.to ρ k))
    (hk : ∀ v s1 β1 H1 u, Step β H β1 H1 → RelS G β1 s1 H1 → rel H1 β1 v u → PostS G W β1 H1 D (k v s1) → Q1 u H1) : Post G rel W σ β H Q1 r := by
  cases r with
  | ok v st => exact fun β' H' u s' hs hr => hk v st β' H' u s' hs hr (PostS.step (show PostS G W β H D (k v st) from h) s')
  | ex x st => exact fun β' H' c d s' hs hx => h β' σ H' c d s' (hl.step s') hs hx
  | bad => exact h
end
end Pm
set_option maxRecDepth 100000
set_option maxHeartbeats 4000000
namespace Pm
open PySem PySem.Spec PyProof.Rows L2 Sw
abbrev cf (X : Cx) (zx : Exo) : Cf := ⟨X.K, X.mg, zx⟩
theorem PE.imp {X : Cx} {e : Expr} {t t' : TE} (h : PE X e t) (i : ∀ σ H Q, t' σ H Q → t σ H Q) : PE X e t' := ⟨fun pins s σ H Q I q => h.run pins s σ H Q I (i σ H Q q)⟩
theorem PT.imp {X : Cx} {e : Expr} {t t' : TT} (h : PT X e t) (i : ∀ σ H Q, t' σ H Q → t σ H Q) : PT X e t' := ⟨fun pins s σ H Q I q => h.run pins s σ H Q I (i σ H Q q)⟩
theorem PW.imp {X : Cx} {e : Expr} {t t' : TT} (h : PW X e t) (i : ∀ σ H Q, t' σ H Q → t σ H Q) : PW X e t' := ⟨fun wh pins s σ H Q I q => h.run wh pins s σ H Q I (i σ H Q q)⟩
theorem PA.imp {X : Cx} {es : List Expr} {t t' : TA} (h : PA X es t) (i : ∀ σ H Q, t' σ H Q → t σ H Q) : PA X es t' := ⟨fun p pins s σ H Q I q => h.run p pins s σ H Q I (i σ H Q q)⟩
theorem PS.imp {X : Cx} {st : Stmt} {t t' : TS} (h : PS X st t) (i : ∀ D σ H, t' D σ H → t D σ H) : PS X st t' := ⟨fun pins s σ H D I q => h.run pins s σ H D I (i D σ H q)⟩
theorem PSs.imp {X : Cx} {st : List Stmt} {t t' : TS} (h : PSs X st t) (i : ∀ D σ H, t' D σ H → t D σ H) : PSs X st t' := ⟨fun pins s σ H D I q => h.run pins s σ H D I (i D σ H q)⟩
/-- the same Bool -/
abbrev rB : Rel Bool Bool := fun _ _ a b => a = b
abbrev DE (X : Cx) (zx : Exo) (W : WX) (e : Expr) (f : ME) : Prop := PE X e (tG (cf X zx) (Rv (cf X zx)) W f)
abbrev DT (X : Cx) (zx : Exo) (W : WX) (e : Expr) (f : MT) : Prop := PT X e (tG (cf X zx) rB W f)
abbrev DW (X : Cx) (zx : Exo) (W : WX) (e : Expr) (f : MT) : Prop := PW X e (tG (cf X zx) rB W f)
abbrev DA (X : Cx) (zx : Exo) (W : WX) (es : List Expr) (f : MA) : Prop := PA X es (tG (cf X zx) (Rvs (cf X zx)) W f)
abbrev DS (X : Cx) (zx : Exo) (W : WX) (st : Stmt) (f : MS) : Prop := PS X st (tS (cf X zx) W f)
abbrev DSs (X : Cx) (zx : Exo) (W : WX) (st : List Stmt) (f : MS) : Prop := PSs X st (tS (cf X zx) W f)

/-! ### names, constants -/
def mVar (i : Nat) : ME := fun ρ s => match ρ[i]? with
  | some (some v) => .ok v s
  | _ => .bad
def mC (p : PyData) : ME := fun _ s => .ok (.dat p) s
section
variable {X : Cx} {zx : Exo} {W : WX} {a b c : Expr} {f g h : ME} {pos : Pos}
theorem de_var {i : Nat} {x : Str} (hN : X.N[i]? = some x) (hv : Vis X.env.scope x) (hd : (x == ("__debug__" : Str)) = false := by decide) (hcd : (x == ("__classdict__" : Str)) = false := by decide) : DE X zx W (.Name x pos) (mVar i) := by
  refine PE.imp (pe_var hN hv hd hcd) fun σ H Q ⟨β, ρ, s, hl, hs, hp⟩ => ?_
  unfold mVar at hp
  split at hp
  · rename_i v e
    obtain ⟨u, h1, h2⟩ := hl.at' i v e
    exact ⟨u, h1, hp β H u (Step.refl _ _) hs h2⟩
  · exact hp.elim
theorem de_int {i : Int} {j} : DE X zx W (.Constant (.int i) j pos) (mC (.int i)) := PE.imp pe_int fun σ H Q ⟨β, ρ, s, hl, hs, hp⟩ => hp β H _ (Step.refl _ _) hs (.int i)
theorem de_bl {i : Bool} {j} : DE X zx W (.Constant (.bool i) j pos) (mC (.bool i)) := PE.imp pe_bl fun σ H Q ⟨β, ρ, s, hl, hs, hp⟩ => hp β H _ (Step.refl _ _) hs (.bl i)
theorem de_non {j} : DE X zx W (.Constant .none j pos) (mC .none) := PE.imp pe_non fun σ H Q ⟨β, ρ, s, hl, hs, hp⟩ => hp β H _ (Step.refl _ _) hs .non
theorem de_str {x : Str} {j} (hx : x.length ≤ 1000 := by decide) : DE X zx W (.Constant (.str x) j pos) (mC (.str x)) := PE.imp pe_str fun σ H Q ⟨β, ρ, s, hl, hs, hp⟩ => hp β H _ (Step.refl _ _) hs (.str (by rw [sizeLine_eq]; omega))

/-! ### operations that leave the store -/
/-- two values, one out; what stood stands -/
def r2 (G : Cf) (ph : Vl → Vl → Sto → Option Vl) : R2 := fun x y H Q => ∃ β s v w z, RelS G β s H ∧ Rv G H β v x ∧ Rv G H β w y ∧ ph v w s = some z ∧ ∀ H' u, Same H H' → Rv G H' β z u → Q u H'
def r1 (G : Cf) (ph : Vl → Sto → Option Vl) : V → Hp → VK → Prop := fun x H Q => ∃ β s v z, RelS G β s H ∧ Rv G H β v x ∧ ph v s = some z ∧ ∀ H' u, Same H H' → Rv G H' β z u → Q u H'
def rn (G : Cf) (ph : List Vl → Sto → Option Vl) : List V → Hp → VK → Prop := fun x H Q => ∃ β s v z, RelS G β s H ∧ Rvs G H β v x ∧ ph v s = some z ∧ ∀ H' u, Same H H' → Rv G H' β z u → Q u H'
def R.of {α : Type} (o : Option α) (s : Sto) : R α := match o with
  | some z => .ok z s
  | none => .bad
@[simp] theorem R.of_some {α : Type} (z : α) (s : Sto) : R.of (some z) s = .ok z s := rfl
@[simp] theorem R.of_none {α : Type} (s : Sto) : (R.of none s : R α) = .bad := rfl
def m2 (ph : Vl → Vl → Sto → Option Vl) (f g : ME) : ME := fun ρ s => (f ρ s).bind fun v s1 => (g ρ s1).bind fun w s2 => R.of (ph v w s2) s2
def m1 (ph : Vl → Sto → Option Vl) (f : ME) : ME := fun ρ s => (f ρ s).bind fun v s1 => R.of (ph v s1) s1
def mn (ph : List Vl → Sto → Option Vl) (f : MA) : ME := fun ρ s => (f ρ s).bind fun v s1 => R.of (ph v s1) s1
theorem post_of {σ : L2.St} {β : Bs} {H : Hp} {s : Sto} {Q : VK} {o : Option Vl} (h : Post (cf X zx) (Rv (cf X zx)) W σ β H Q (R.of o s)) (hs : RelS (cf X zx) β s H) : ∃ z, o = some z ∧ ∀ H' u, Same H H' → Rv (cf X zx) H' β z u → Q u H' := by
  cases o with
  | none => exact h.elim
  | some z => exact ⟨z, rfl, fun H' u sm r => h β H' u (Step.same sm) (hs.same sm) r⟩
theorem tOp_of {ph : Vl → Vl → Sto → Option Vl} {σ : L2.St} {H : Hp} {Q : VK} (q : tG (cf X zx) (Rv (cf X zx)) W (m2 ph f g) σ H Q) : tOp (r2 (cf X zx) ph) (tG (cf X zx) (Rv (cf X zx)) W f) (tG (cf X zx) (Rv (cf X zx)) W g) σ H Q := by
  obtain ⟨β, ρ, s, hl, hs, hp⟩ := q
  refine ⟨β, ρ, s, hl, hs, Post.bind hp fun v s1 β1 H1 u st1 hs1 r1 h1 => ?_⟩
  refine ⟨β1, ρ, s1, hl.step st1, hs1, Post.bind h1 fun w s2 β2 H2 u2 st2 hs2 r2 h2 => ?_⟩
  obtain ⟨z, e, q⟩ := post_of h2 hs2
  exact ⟨β2, s2, v, w, z, hs2, st2.rv r1, r2, e, q⟩
theorem de_op {op : Operator} {ph : Vl → Vl → Sto → Option Vl} (o : OpR X (binaryOp op) (r2 (cf X zx) ph)) (ha : DE X zx W a f) (hb : DE X zx W b g) : DE X zx W (.BinOp a op b pos) (m2 ph f g) := PE.imp (pe_op o ha hb) fun σ H Q q => tOp_of q
theorem de_cmp {op : CmpOp} {ph : Vl → Vl → Sto → Option Vl} (o : OpR X (compareOp op) (r2 (cf X zx) ph)) (ha : DE X zx W a f) (hb : DE X zx W b g) (hm : behindInMarks op b = false) : DE X zx W (.Compare a [op] [b] pos) (m2 ph f g) := PE.imp (pe_cmpR o ha hb hm) fun σ H Q q => tOp_of q
theorem de_ix {ph : Vl → Vl → Sto → Option Vl} (o : IxR X (r2 (cf X zx) ph)) (ha : DE X zx W a f) (hb : DE X zx W b g) (hs : PlainIx b) : DE X zx W (.Subscript a b pos) (m2 ph f g) := PE.imp (pe_ix o ha hb hs) fun σ H Q q => tOp_of q
theorem de_un {op : UnaryOp} {ph : Vl → Sto → Option Vl} (o : UnR X (unaryOp op) (r1 (cf X zx) ph)) (ha : DE X zx W a f) : DE X zx W (.UnaryOp op a pos) (m1 ph f) := PE.imp (pe_un o ha) fun σ H Q q => by
  obtain ⟨β, ρ, s, hl, hs, hp⟩ := q
  refine ⟨β, ρ, s, hl, hs, Post.bind hp fun v s1 β1 H1 u st1 hs1 r1 h1 => ?_⟩
  obtain ⟨z, e, q⟩ := post_of h1 hs1
  exact ⟨β1, s1, v, z, hs1, r1, e, q⟩
/-! ### arguments -/
def aNil : MA := fun _ s => .ok [] s
def aCons (f : ME) (r : MA) : MA := fun ρ s => (f ρ s).bind fun v s1 => (r ρ s1).bind fun vs s2 => .ok (v :: vs) s2
theorem da_nil : DA X zx W [] aNil := PA.imp pa_nil fun σ H Q ⟨β, ρ, s, hl, hs, hp⟩ => hp β H _ (Step.refl _ _) hs .nil
theorem da_cons {es : List Expr} {r : MA} (ha : DE X zx W a f) (hr : DA X zx W es r) (hs : starEach (a :: es) X.env = (false, eval a X.env) :: starEach es X.env := by rfl) : DA X zx W (a :: es) (aCons f r) := PA.imp (pa_cons ha hr hs) fun σ H Q q => by
  obtain ⟨β, ρ, s, hl, hs, hp⟩ := q
  refine ⟨β, ρ, s, hl, hs, Post.bind hp fun v s1 β1 H1 u st1 hs1 r1 h1 => ?_⟩
  refine ⟨β1, ρ, s1, hl.step st1, hs1, Post.bind h1 fun vs s2 β2 H2 u2 st2 hs2 r2 h2 => ?_⟩
  exact h2 β2 H2 _ (Step.refl _ _) hs2 (.cons (st2.rv r1) r2)
theorem tCB_of {ph : List Vl → Sto → Option Vl} {r : MA} {σ : L2.St} {H : Hp} {Q : VK} (q : tG (cf X zx) (Rv (cf X zx)) W (mn ph r) σ H Q) : tCB (rn (cf X zx) ph) (tG (cf X zx) (Rvs (cf X zx)) W r) σ H Q := by
  obtain ⟨β, ρ, s, hl, hs, hp⟩ := q
  refine ⟨β, ρ, s, hl, hs, Post.bind hp fun v s1 β1 H1 u st1 hs1 r1 h1 => ?_⟩
  obtain ⟨z, e, q⟩ := post_of h1 hs1
  exact ⟨β1, s1, v, z, hs1, r1, e, q⟩
theorem de_callB {id : String} {x : Str} {p : Pos} {es : List Expr} {e : Expr} {ph : List Vl → Sto → Option Vl} {r : MA} (hc : CallR X (.builtin id) (rn (cf X zx) ph)) (hg : Gl X x) (hm : X.mg x = none) (hv : bootBuiltins x = some (.builtin id)) (ha : DA X zx W (e :: es) r) (hn : x ≠ "__name__" := by decide) (hdb : (x == ("__debug__" : Str)) = false := by decide)
    (he : starEach (e :: es) X.env = (false, eval e X.env) :: starEach es X.env := by rfl) (hpl : (backTo pos (starEach es X.env)).any (·.1) = false := by rfl) : DE X zx W (.Call (.Name x p) (e :: es) [] pos) (mn ph r) := PE.imp (pe_callB hc hg hm hv ha hn hdb he hpl) fun σ H Q q => tCB_of q
theorem de_callTy {T : String} {x : Str} {p : Pos} {es : List Expr} {e : Expr} {ph : List Vl → Sto → Option Vl} {r : MA} (hc : CallR X (.type T) (rn (cf X zx) ph)) (hg : Gl X x) (hm : X.mg x = none) (hv : bootBuiltins x = some (.type T)) (ha : DA X zx W (e :: es) r) (hn : x ≠ "__name__" := by decide) (hdb : (x == ("__debug__" : Str)) = false := by decide)
    (he : starEach (e :: es) X.env = (false, eval e X.env) :: starEach es X.env := by rfl) (hpl : (backTo pos (starEach es X.env)).any (·.1) = false := by rfl) : DE X zx W (.Call (.Name x p) (e :: es) [] pos) (mn ph r) := PE.imp (pe_callTy hc hg hm hv ha hn hdb he hpl) fun σ H Q q => tCB_of q

/-! ### displays -/
def mTup (r : MA) : ME := fun ρ s => (r ρ s).bind fun vs s1 => R.of ((datas vs).bind fun ds => if ds.length ≤ 1000 then some (.dat (.tuple ds)) else none) s1
/-- a list that nobody turns -/
def mLst (r : MA) : ME := fun ρ s => (r ρ s).bind fun vs s1 => R.of ((datas vs).bind fun ds => if ds.length ≤ 1000 then some (.dat (.list ds)) else none) s1
/-- a list of the store -/
def mNew (r : MA) : ME := fun ρ s => (r ρ s).bind fun vs s1 => if vs.length ≤ 1000 ∧ vs.all noX = true then .ok (.ref s1.length) (s1 ++ [.lst vs]) else .bad
theorem thou {n : Nat} (h : n ≤ 1000) : n ≤ sizeLine := by rw [sizeLine_eq]; omega
theorem de_tup {es : List Expr} {r : MA} {x1} (h : DA X zx W es r) : DE X zx W (.Tuple es x1 pos) (mTup r) := PE.imp (pe_tup h) fun σ H Q q => by
  obtain ⟨β, ρ, s, hl, hs, hp⟩ := q
  refine ⟨β, ρ, s, hl, hs, Post.bind hp fun vs s1 β1 H1 us st1 hs1 r1 h1 => ?_⟩
  obtain ⟨z, e, q⟩ := post_of h1 hs1
  cases ed : datas vs with
  | none => rw [ed] at e; cases e
  | some ds =>
    rw [ed] at e
    have e' : (if ds.length ≤ 1000 then some (Vl.dat (.tuple ds)) else none) = some z := e
    split at e'
    · rename_i hlen
      cases e'
      rw [datas_eq ed] at r1
      have dq := Rvs.undats r1
      have hln := dq.len
      refine ⟨by rw [hln]; exact thou hlen, fun p hp => q _ _ (same_new hp) (Dq.tup (SqT.of upd_same) (thou hlen) ((Step.lay hp).dqs dq))⟩
    · cases e'
theorem de_lst {es : List Expr} {r : MA} (h : DA X zx W es r) : DE X zx W (.List es pos) (mLst r) := PE.imp (pe_lst h) fun σ H Q q => by
  obtain ⟨β, ρ, s, hl, hs, hp⟩ := q
  refine ⟨β, ρ, s, hl, hs, Post.bind hp fun vs s1 β1 H1 us st1 hs1 r1 h1 => ?_⟩
  obtain ⟨z, e, q⟩ := post_of h1 hs1
  cases ed : datas vs with
  | none => rw [ed] at e; cases e
  | some ds =>
    rw [ed] at e
    have e' : (if ds.length ≤ 1000 then some (Vl.dat (.list ds)) else none) = some z := e
    split at e'
    · rename_i hlen
      cases e'
      rw [datas_eq ed] at r1
      have dq := Rvs.undats r1
      have hln := dq.len
      refine ⟨by rw [hln]; exact thou hlen, fun p hp => q _ _ (same_new hp) (Dq.lst ⟨upd_same, hs1.nin hp, hs1.nig hp⟩ (thou hlen) ((Step.lay hp).dqs dq))⟩
    · cases e'
theorem de_new {es : List Expr} {r : MA} (h : DA X zx W es r) : DE X zx W (.List es pos) (mNew r) := PE.imp (pe_lst h) fun σ H Q q => by
  obtain ⟨β, ρ, s, hl, hs, hp⟩ := q
  refine ⟨β, ρ, s, hl, hs, Post.bind hp fun vs s1 β1 H1 us st1 hs1 r1 h1 => ?_⟩
  split at h1
  · rename_i hlen
    have hln := r1.len
    refine ⟨by rw [← hln]; exact thou hlen.1, fun p hp => h1 (β1.push p) _ _ (Step.push hp) (hs1.push hp ⟨thou hlen.1, us, upd_same, (Step.push hp).rvs (Rvs.dn hlen.2 r1)⟩) ⟨p, ?_, rfl⟩⟩
    show (β1.b ++ [p])[s1.length]? = some p
    rw [← hs1.len, List.getElem?_append_right (Nat.le_refl _), Nat.sub_self]
    rfl
  · exact h1.elim

/-! ### truth, tests -/
/-- truth of a value -/
def tru : Vl → Sto → Option Bool
  | .dat .none, _ => some false
  | .dat (.bool b), _ => some b
  | .dat (.int i), _ => some (i != 0)
  | .dat (.str x), _ => some (x.length != 0)
  | .dat (.list l), _ => some (!l.isEmpty)
  | .dat (.tuple l), _ => some (!l.isEmpty)
  | .dat (.dict _), _ => none
  | .ref n, s => match s[n]? with
    | some (.lst l) => some (!l.isEmpty)
    | some (.dic l) => some (!l.isEmpty)
    | _ => none
  | .scr _, _ => none
  | .exo _ _, _ => none
theorem isEmpty_len {α β : Type} {xs : List α} {ys : List β} (h : xs.length = ys.length) : xs.isEmpty = ys.isEmpty := by
  cases xs <;> cases ys <;> simp_all
theorem tru_V {G : Cf} {H : Hp} {β : Bs} {s : Sto} {v : Vl} {u : V} {k : Bool} (hs : RelS G β s H) (r : Rv G H β v u) (h : tru v s = some k) : TruV G.K u H k := by
  cases v with
  | scr _ => cases h
  | exo _ _ => cases h
  | dat p =>
    cases p with
    | none => cases r; cases h; rfl
    | bool b => cases r; cases h; rfl
    | int i => cases r; cases h; rfl
    | str x =>
      cases r with
      | str hx =>
        have : (x.length != 0) = k := by simpa [tru] using h
        refine ⟨hx, ?_⟩
        rw [← this]
        by_cases h0 : x.length = 0
        · rw [h0]; rfl
        · have h1 : (x.length : Int) ≠ 0 := by omega
          rw [(bne_iff_ne).mpr h0, (bne_iff_ne).mpr h1]
    | list l =>
      cases r with
      | lst hx _ d =>
        have : (!l.isEmpty) = k := by simpa [tru] using h
        exact .inl ⟨_, hx.sq, by rw [← this, isEmpty_len d.len]⟩
    | tuple l =>
      cases r with
      | tup hx _ d =>
        have : (!l.isEmpty) = k := by simpa [tru] using h
        exact .inr (.inl ⟨_, hx, by rw [← this, isEmpty_len d.len]⟩)
    | dict l => cases h
  | ref n =>
    obtain ⟨a, ha, rfl⟩ := r
    cases e : s[n]? with
    | none => simp [tru, e] at h
    | some o =>
      have ro := hs.ob n o a e ha
      cases o with
      | lst l =>
        obtain ⟨_, xs, h1, h2⟩ := ro
        have : (!l.isEmpty) = k := by simpa [tru, e] using h
        exact .inl ⟨_, SqL.of h1, by rw [← this, isEmpty_len h2.len]⟩
      | dic l =>
        obtain ⟨xs, h1, h2⟩ := ro
        have : (!l.isEmpty) = k := by simpa [tru, e] using h
        exact .inr (.inr ⟨_, h1, by rw [← this, isEmpty_len (Paired.length h2)]⟩)
      | dit l => simp [tru, e] at h
      | ins c l => simp [tru, e] at h
def mTru (f : ME) : MT := fun ρ s => (f ρ s).bind fun v s1 => R.of (tru v s1) s1
/-- a value's truth as a test -/
theorem dt_tru (ha : DE X zx W a f) (he : ∀ whole, isTrue a X.env whole = (do let v ← whole; standAt a.pos; holding [v] (truthy v)) := by intro _; rfl) : DT X zx W a (mTru f) := PT.imp (pt_truth ha he) fun σ H Q q => by
  obtain ⟨β, ρ, s, hl, hs, hp⟩ := q
  refine ⟨β, ρ, s, hl, hs, Post.bind hp fun v s1 β1 H1 u st1 hs1 r1 h1 => ?_⟩
  cases e : tru v s1 with
  | none => rw [e] at h1; exact h1.elim
  | some k =>
    rw [e] at h1
    exact ⟨k, tru_V hs1 r1 e, h1 β1 H1 k (Step.refl _ _) hs1 rfl⟩
/-- a comparison as a test -/
def bool? : Vl → Option Bool
  | .dat (.bool b) => some b
  | _ => none
def mB (f : ME) : MT := fun ρ s => (f ρ s).bind fun v s1 => R.of (bool? v) s1
theorem dt_cmp {op : CmpOp} {ph : Vl → Vl → Sto → Option Vl} (o : OpR X (compareOp op) (r2 (cf X zx) ph)) (ha : DE X zx W a f) (hb : DE X zx W b g) (hm : behindInMarks op b = false) : DT X zx W (.Compare a [op] [b] pos) (mB (m2 ph f g)) := PT.imp (pt_cmpR o ha hb hm) fun σ H Q q => by
  obtain ⟨β, ρ, s, hl, hs, hp⟩ := q
  refine tOp_of (W := W) ⟨β, ρ, s, hl, hs, Post.bind hp fun v s1 β1 H1 u st1 hs1 r1 h1 => ?_⟩
  cases e : bool? v with
  | none => rw [e] at h1; exact h1.elim
  | some k =>
    rw [e] at h1
    cases v with
    | ref n => cases e
    | scr _ => cases e
    | exo _ _ => cases e
    | dat p =>
      cases p with
      | bool b => cases r1; cases e; exact ⟨_, rfl, h1 β1 H1 _ (Step.refl _ _) hs1 rfl⟩
      | _ => cases e
variable {tf tg : MT} {rest : List Expr}
def tAndM (f g : MT) : MT := fun ρ s => (f ρ s).bind fun c s1 => if c = true then g ρ s1 else .ok false s1
def tOrM (f g : MT) : MT := fun ρ s => (f ρ s).bind fun c s1 => if c = true then .ok true s1 else g ρ s1
def tNotM (f : MT) : MT := fun ρ s => (f ρ s).bind fun c s1 => .ok (!c) s1
theorem dw_and1 (ha : DT X zx W a tf) : DW X zx W (.BoolOp .And [a] pos) tf := pw_and1 ha
theorem dw_or1 (ha : DT X zx W a tf) : DW X zx W (.BoolOp .Or [a] pos) tf := pw_or1 ha
theorem dw_and (ha : DT X zx W a tf) (hb : DW X zx W (.BoolOp .And (b :: rest) pos) tg) : DW X zx W (.BoolOp .And (a :: b :: rest) pos) (tAndM tf tg) := PW.imp (pw_and ha hb) fun σ H Q q => by
  obtain ⟨β, ρ, s, hl, hs, hp⟩ := q
  refine ⟨β, ρ, s, hl, hs, Post.bind hp fun v s1 β1 H1 u st1 hs1 r1 h1 => ?_⟩
  cases (show v = u from r1)
  cases v with
  | true => exact iteT ⟨β1, ρ, s1, hl.step st1, hs1, h1⟩
  | false => exact iteF (h1 β1 H1 false (Step.refl _ _) hs1 rfl)
theorem dw_or (ha : DT X zx W a tf) (hb : DW X zx W (.BoolOp .Or (b :: rest) pos) tg) : DW X zx W (.BoolOp .Or (a :: b :: rest) pos) (tOrM tf tg) := PW.imp (pw_or ha hb) fun σ H Q q => by
  obtain ⟨β, ρ, s, hl, hs, hp⟩ := q
  refine ⟨β, ρ, s, hl, hs, Post.bind hp fun v s1 β1 H1 u st1 hs1 r1 h1 => ?_⟩
  cases (show v = u from r1)
  cases v with
  | false => exact iteF ⟨β1, ρ, s1, hl.step st1, hs1, h1⟩
  | true => exact iteT (h1 β1 H1 true (Step.refl _ _) hs1 rfl)
theorem dt_w (h : DW X zx W a tf) : DT X zx W a tf := h.pt
theorem dt_not (ha : DT X zx W a tf) : DT X zx W (.UnaryOp .Not a pos) (tNotM tf) := PT.imp (pt_not ha) fun σ H Q q => by
  obtain ⟨β, ρ, s, hl, hs, hp⟩ := q
  refine ⟨β, ρ, s, hl, hs, Post.bind hp fun v s1 β1 H1 u st1 hs1 r1 h1 => ?_⟩
  cases (show v = u from r1)
  exact h1 β1 H1 _ (Step.refl _ _) hs1 rfl
/-! ### and, or, not, if as values -/
def mAnd (f g : ME) : ME := fun ρ s => (f ρ s).bind fun v s1 => match tru v s1 with
  | some true => g ρ s1
  | some false => .ok v s1
  | none => .bad
def mOr (f g : ME) : ME := fun ρ s => (f ρ s).bind fun v s1 => match tru v s1 with
  | some true => .ok v s1
  | some false => g ρ s1
  | none => .bad
def mNot (f : ME) : ME := fun ρ s => (f ρ s).bind fun v s1 => R.of ((tru v s1).map fun k => .dat (.bool (!k))) s1
def mIf (t : MT) (f g : ME) : ME := fun ρ s => (t ρ s).bind fun c s1 => if c = true then f ρ s1 else g ρ s1
theorem de_one {op} (h : DE X zx W a f) : DE X zx W (.BoolOp op [a] pos) f := pe_one h
theorem de_and (ha : DE X zx W a f) (hb : DE X zx W (.BoolOp .And (b :: rest) pos) g) : DE X zx W (.BoolOp .And (a :: b :: rest) pos) (mAnd f g) := PE.imp (pe_andT ha hb) fun σ H Q q => by
  obtain ⟨β, ρ, s, hl, hs, hp⟩ := q
  refine ⟨β, ρ, s, hl, hs, Post.bind hp fun v s1 β1 H1 u st1 hs1 r1 h1 => ?_⟩
  cases e : tru v s1 with
  | none => rw [e] at h1; exact h1.elim
  | some k =>
    rw [e] at h1
    refine ⟨k, tru_V hs1 r1 e, ?_⟩
    cases k with
    | true => exact iteT ⟨β1, ρ, s1, hl.step st1, hs1, h1⟩
    | false => exact iteF (h1 β1 H1 u (Step.refl _ _) hs1 r1)
theorem de_or (ha : DE X zx W a f) (hb : DE X zx W (.BoolOp .Or (b :: rest) pos) g) : DE X zx W (.BoolOp .Or (a :: b :: rest) pos) (mOr f g) := PE.imp (pe_orT ha hb) fun σ H Q q => by
  obtain ⟨β, ρ, s, hl, hs, hp⟩ := q
  refine ⟨β, ρ, s, hl, hs, Post.bind hp fun v s1 β1 H1 u st1 hs1 r1 h1 => ?_⟩
  cases e : tru v s1 with
  | none => rw [e] at h1; exact h1.elim
  | some k =>
    rw [e] at h1
    refine ⟨k, tru_V hs1 r1 e, ?_⟩
    cases k with
    | false => exact iteF ⟨β1, ρ, s1, hl.step st1, hs1, h1⟩
    | true => exact iteT (h1 β1 H1 u (Step.refl _ _) hs1 r1)
theorem de_not (ha : DE X zx W a f) : DE X zx W (.UnaryOp .Not a pos) (mNot f) := PE.imp (pe_notT ha) fun σ H Q q => by
  obtain ⟨β, ρ, s, hl, hs, hp⟩ := q
  refine ⟨β, ρ, s, hl, hs, Post.bind hp fun v s1 β1 H1 u st1 hs1 r1 h1 => ?_⟩
  cases e : tru v s1 with
  | none => rw [e] at h1; exact h1.elim
  | some k =>
    rw [e] at h1
    exact ⟨k, tru_V hs1 r1 e, h1 β1 H1 _ (Step.refl _ _) hs1 (.bl _)⟩
theorem de_if (hc : DT X zx W c tf) (ha : DE X zx W a f) (hb : DE X zx W b g) : DE X zx W (.IfExp c a b pos) (mIf tf f g) := PE.imp (pe_ifExp hc ha hb) fun σ H Q q => by
  obtain ⟨β, ρ, s, hl, hs, hp⟩ := q
  refine ⟨β, ρ, s, hl, hs, Post.bind hp fun v s1 β1 H1 u st1 hs1 r1 h1 => ?_⟩
  cases (show v = u from r1)
  cases v with
  | true => exact iteT ⟨β1, ρ, s1, hl.step st1, hs1, h1⟩
  | false => exact iteF ⟨β1, ρ, s1, hl.step st1, hs1, h1⟩
end
end Pm
set_option maxRecDepth 100000
set_option maxHeartbeats 4000000
namespace Pm
open PySem PySem.Spec PyProof.Rows L2 Sw
/-! ### targets -/
abbrev MG := Vl → Loc → Sto → Fl
abbrev MGs := List Vl → Loc → Sto → Fl
/-- what follows a store -/
def PostG (G : Cf) (β : Bs) (H : Hp) (Q : L2.St → Hp → Prop) : Fl → Prop
  | .nx ρ s => ∀ β' σ' H', Step β H β' H' → RelL G H' β' ρ σ' → RelS G β' s H' → Q σ' H'
  | _ => False
theorem PostG.step {G : Cf} {β β1 : Bs} {H H1 : Hp} {Q : L2.St → Hp → Prop} {f : Fl} (h : PostG G β H Q f) (s : Step β H β1 H1) : PostG G β1 H1 Q f := by
  cases f with
  | nx ρ st => exact fun β' σ' H' s' => h β' σ' H' (s.trans s')
  | _ => exact h.elim
def tGt (G : Cf) (g : MG) : TG := fun v σ H Q => ∃ β ρ s x, RelL G H β ρ σ ∧ RelS G β s H ∧ Rv G H β x v ∧ PostG G β H Q (g x ρ s)
def tGts (G : Cf) (g : MGs) : TGs := fun vs σ H Q => ∃ β ρ s xs, RelL G H β ρ σ ∧ RelS G β s H ∧ Rvs G H β xs vs ∧ PostG G β H Q (g xs ρ s)
theorem PG.imp {X : Cx} {e : Expr} {t t' : TG} (h : PG X e t) (i : ∀ v σ H Q, t' v σ H Q → t v σ H Q) : PG X e t' := ⟨fun pins s σ H v u Q I r q => h.run pins s σ H v u Q I r (i v σ H Q q)⟩
theorem PGs.imp {X : Cx} {e : List Expr} {t t' : TGs} (h : PGs X e t) (i : ∀ v σ H Q, t' v σ H Q → t v σ H Q) : PGs X e t' := ⟨fun pins s σ H v u Q I r q => h.run pins s σ H v u Q I r (i v σ H Q q)⟩
abbrev DG (X : Cx) (zx : Exo) (e : Expr) (g : MG) : Prop := PG X e (tGt (cf X zx) g)
abbrev DGs (X : Cx) (zx : Exo) (e : List Expr) (g : MGs) : Prop := PGs X e (tGts (cf X zx) g)
def gSetM (i : Nat) : MG := fun v ρ s => .nx (ρ.set i (some v)) s
def gNilM : MGs := fun vs ρ s => match vs with
  | [] => .nx ρ s
  | _ => .bad
/-- a store, then another -/
def Fl.thn (f : Fl) (k : Loc → Sto → Fl) : Fl := match f with
  | .nx ρ s => k ρ s
  | _ => .bad
@[simp] theorem Fl.thn_nx (ρ : Loc) (s : Sto) (k : Loc → Sto → Fl) : (Fl.nx ρ s).thn k = k ρ s := rfl
def gConsM (g : MG) (r : MGs) : MGs := fun vs ρ s => match vs with
  | v :: vs => (g v ρ s).thn fun ρ1 s1 => r vs ρ1 s1
  | [] => .bad
def gTupM (n : Nat) (r : MGs) : MG := fun v ρ s => match v with
  | .dat (.tuple ds) => if ds.length = n then r (ds.map Vl.dat) ρ s else .bad
  | _ => .bad
section
variable {X : Cx} {zx : Exo} {pos : Pos}
theorem dg_name {i : Nat} {x : Str} (hN : X.N.Nodup) (hi : X.N[i]? = some x) (hx : L2.Loc X.env.scope x) (hf : X.fn x = true ∨ X.env.scope.names.lookup x = some .local := by first | exact .inl rfl | exact .inr rfl | assumption) : DG X zx (.Name x pos) (gSetM i) :=
  PG.imp (pg_name hN hi hx hf) fun v σ H Q ⟨β, ρ, s, x, hl, hs, r, q⟩ => q β _ H (Step.refl _ _) (hl.set r) hs
theorem dgs_nil : DGs X zx [] gNilM := PGs.imp pgs_nil fun vs σ H Q ⟨β, ρ, s, xs, hl, hs, r, q⟩ => by
  cases r with
  | nil => exact ⟨rfl, q β σ H (Step.refl _ _) hl hs⟩
  | cons _ _ => exact q.elim
theorem dgs_cons {e : Expr} {es : List Expr} {g : MG} {r : MGs} (h1 : DG X zx e g) (h2 : DGs X zx es r)
    (hs : (assignEach (e :: es) X.env).map (·.2) = assign e X.env :: (assignEach es X.env).map (·.2) := by rfl) : DGs X zx (e :: es) (gConsM g r) := PGs.imp (pgs_cons h1 h2 hs) fun vs σ H Q ⟨β, ρ, s, xs, hl, hs, rr, q⟩ => by
  cases rr with
  | nil => exact q.elim
  | @cons a b as bs r0 r1 =>
    refine ⟨b, bs, rfl, β, ρ, s, a, hl, hs, r0, ?_⟩
    have q' : PostG (cf X zx) β H Q ((g a ρ s).thn fun ρ1 s1 => r as ρ1 s1) := q
    cases e : g a ρ s with
    | nx ρ1 s1 =>
      rw [e] at q'
      exact fun β' σ' H' st hl' hs' => ⟨β', ρ1, s1, as, hl', hs', st.rvs r1, PostG.step q' st⟩
    | _ => rw [e] at q'; exact q'.elim
theorem dg_tup {es : List Expr} {k : Nat} {r : MGs} {n : Nat} (hc : X.calm = true) (h : DGs X zx es r)
    (hn : (assignEach es X.env).length = n := by rfl) (hst : (assignEach es X.env).findIdx? (·.1) = none := by rfl) : DG X zx (.Tuple es k pos) (gTupM n r) := PG.imp (pg_tup hc h hn hst) fun v σ H Q ⟨β, ρ, s, x, hl, hs, rr, q⟩ => by
  cases x with
  | ref m => exact q.elim
  | scr m => exact q.elim
  | exo m m2 => exact q.elim
  | dat p =>
    cases p with
    | tuple ds =>
      cases rr with
      | @tup a xs _ ht hz d =>
        have q' : PostG (cf X zx) β H Q (if ds.length = n then r (ds.map Vl.dat) ρ s else .bad) := q
        split at q'
        · rename_i e
          exact ⟨a, xs, rfl, ht, by rw [d.len]; exact e, β, ρ, s, ds.map Vl.dat, hl, hs, Rvs.dats d, q'⟩
        · exact q'.elim
    | _ => exact q.elim
end

/-! ### statements -/
section
variable {X : Cx} {zx : Exo} {W : WX} {st : Stmt} {rest : List Stmt} {f g : MS} {e : Expr} {fe : ME} {pos : Pos}
def sNil : MS := fun ρ s => .nx ρ s
def sSeq (f g : MS) : MS := fun ρ s => (f ρ s).seq g
theorem dss_nil : DSs X zx W [] sNil := PSs.imp pss_nil fun D σ H ⟨β, ρ, s, hl, hs, q⟩ => q β σ H (Step.refl _ _) hl hs
theorem PostS.seq {G : Cf} {β : Bs} {H : Hp} {D : Ends} {fl : Fl} {k : MS} (h : PostS G W β H D (fl.seq k)) : PostS G W β H { D with nx := tS G W k D } fl := by
  cases fl with
  | nx ρ s => exact fun β' σ' H' st hl hs => ⟨β', ρ, s, hl, hs, PostS.step (show PostS G W β H D (k ρ s) from h) st⟩
  | _ => exact h
theorem dss_cons (h1 : DS X zx W st f) (h2 : DSs X zx W rest g) : DSs X zx W (st :: rest) (sSeq f g) := PSs.imp (pss_cons h1 h2) fun D σ H ⟨β, ρ, s, hl, hs, q⟩ => ⟨β, ρ, s, hl, hs, PostS.seq q⟩
theorem dss_one (h1 : DS X zx W st f) : DSs X zx W [st] f := pss_one h1
def sPass : MS := fun ρ s => .nx ρ s
def sBreak : MS := fun ρ s => .bk ρ s
def sCont : MS := fun ρ s => .ct ρ s
theorem ds_pass : DS X zx W (.Pass pos) sPass := PS.imp ps_pass fun D σ H ⟨β, ρ, s, hl, hs, q⟩ => q β σ H (Step.refl _ _) hl hs
theorem ds_break : DS X zx W (.Break pos) sBreak := PS.imp ps_break fun D σ H ⟨β, ρ, s, hl, hs, q⟩ => q β σ H (Step.refl _ _) hl hs
theorem ds_cont : DS X zx W (.Continue pos) sCont := PS.imp ps_continue fun D σ H ⟨β, ρ, s, hl, hs, q⟩ => q β σ H (Step.refl _ _) hl hs
theorem ds_doc {x j pos pos'} : DS X zx W (.Expr (.Constant (.str x) j pos) pos') sPass := PS.imp ps_doc fun D σ H ⟨β, ρ, s, hl, hs, q⟩ => q β σ H (Step.refl _ _) hl hs
def sExpr (f : ME) : MS := fun ρ s => (f ρ s).to ρ fun _ s1 => .nx ρ s1
theorem ds_expr (he : DE X zx W e fe) (hs : swapsWith e none pos.line X.env = pure false := by rfl) : DS X zx W (.Expr e pos) (sExpr fe) := PS.imp (ps_expr he hs) fun D σ H ⟨β, ρ, s, hl, hs, q⟩ =>
  ⟨β, ρ, s, hl, hs, PostS.to hl q fun v s1 β1 H1 u st1 hs1 _ h1 => h1 β1 σ H1 (Step.refl _ _) (hl.step st1) hs1⟩
def sRet (f : ME) : MS := fun ρ s => (f ρ s).to ρ fun v s1 => .rt v s1
theorem ds_ret (he : DE X zx W e fe) : DS X zx W (.Return (some e) pos) (sRet fe) := PS.imp (ps_ret he) fun D σ H ⟨β, ρ, s, hl, hs, q⟩ =>
  ⟨β, ρ, s, hl, hs, PostS.to hl q fun v s1 β1 H1 u st1 hs1 r1 h1 => h1 β1 H1 u (Step.refl _ _) hs1 r1⟩
def sRetN : MS := fun _ s => .rt (.dat .none) s
theorem ds_retN : DS X zx W (.Return none pos) sRetN := PS.imp ps_retN fun D σ H ⟨β, ρ, s, hl, hs, q⟩ => q β H .non (Step.refl _ _) hs .non
def sIf (t : MT) (f g : MS) : MS := fun ρ s => (t ρ s).to ρ fun c s1 => if c = true then f ρ s1 else g ρ s1
theorem ds_if {c : Expr} {a b : List Stmt} {t : MT} (hc : DT X zx W c t) (ha : DSs X zx W a f) (hb : DSs X zx W b g) : DS X zx W (.If c a b pos) (sIf t f g) := PS.imp (ps_if hc ha hb) fun D σ H ⟨β, ρ, s, hl, hs, q⟩ =>
  ⟨β, ρ, s, hl, hs, PostS.to hl q fun v s1 β1 H1 u st1 hs1 r1 h1 => by
    cases (show v = u from r1)
    cases v with
    | true => exact iteT ⟨β1, ρ, s1, hl.step st1, hs1, h1⟩
    | false => exact iteF ⟨β1, ρ, s1, hl.step st1, hs1, h1⟩⟩
def sSet (i : Nat) (f : ME) : MS := fun ρ s => (f ρ s).to ρ fun v s1 => .nx (ρ.set i (some v)) s1
theorem ds_set {i : Nat} {x : Str} {pos' : Pos} (hN : X.N.Nodup) (hi : X.N[i]? = some x) (hx : L2.Loc X.env.scope x) (he : DE X zx W e fe) (hs : swapsWith e (some (.Name x pos')) pos.line X.env = pure false := by rfl) (hf : X.fn x = true ∨ X.env.scope.names.lookup x = some .local := by first | exact .inl rfl | exact .inr rfl | assumption) :
    DS X zx W (.Assign [.Name x pos'] e pos) (sSet i fe) := PS.imp (ps_set hN hi hx he hs hf) fun D σ H ⟨β, ρ, s, hl, hs, q⟩ =>
  ⟨β, ρ, s, hl, hs, PostS.to hl q fun v s1 β1 H1 u st1 hs1 r1 h1 => h1 β1 _ H1 (Step.refl _ _) ((hl.step st1).set r1) hs1⟩
/-- target = value -/
def sAsg (f : ME) (g : MG) : MS := fun ρ s => (f ρ s).to ρ fun v s1 => (g v ρ s1).thn fun ρ2 s2 => .nx ρ2 s2
theorem ds_asg {tg : Expr} {g : MG} (he : DE X zx W e fe) (hg : DG X zx tg g) (hs : swapsWithSole [tg] e pos.line X.env = pure false := by rfl) (hw : swappedStores [tg] e X.env = pure none := by rfl)
    (h1 : (assignEach [tg] X.env).map (·.2) = [assign tg X.env] := by rfl) : DS X zx W (.Assign [tg] e pos) (sAsg fe g) := PS.imp (ps_asg he hg hs hw h1) fun D σ H ⟨β, ρ, s, hl, hs, q⟩ =>
  ⟨β, ρ, s, hl, hs, PostS.to hl q fun v s1 β1 H1 u st1 hs1 r1 h1 => ⟨β1, ρ, s1, v, hl.step st1, hs1, r1, by
    cases e : g v ρ s1 with
    | nx ρ2 s2 => rw [e] at h1; exact h1
    | _ => rw [e] at h1; exact h1.elim⟩⟩
def sPar (i j : Nat) (r : MA) : MS := fun ρ s => (r ρ s).to ρ fun vs s1 => match vs with
  | [v, w] => .nx ((ρ.set i (some v)).set j (some w)) s1
  | _ => .bad
theorem ds_par {i j : Nat} {x y : Str} {a b : Expr} {r : MA} {px py pt : Pos} {kt k2 pt2} (hc : X.calm = true) (hN : X.N.Nodup) (hi : X.N[i]? = some x) (hj : X.N[j]? = some y) (hij : i ≠ j)
    (hx : X.env.scope.names.lookup x = some .local) (hy : X.env.scope.names.lookup y = some .local) (ha : DA X zx W [a, b] r)
    (hw : swappedStores [.Tuple [.Name x px, .Name y py] kt pt] (.Tuple [a, b] k2 pt2) X.env = pure (some [x, y]) := by rfl)
    (hs : swapsWithSole [.Tuple [.Name x px, .Name y py] kt pt] (.Tuple [a, b] k2 pt2) pos.line X.env = pure false := by rfl) :
    DS X zx W (.Assign [.Tuple [.Name x px, .Name y py] kt pt] (.Tuple [a, b] k2 pt2) pos) (sPar i j r) := PS.imp (ps_par hc hN hi hj hij hx hy ha hw hs) fun D σ H ⟨β, ρ, s, hl, hs, q⟩ =>
  ⟨β, ρ, s, hl, hs, PostS.to hl q fun vs s1 β1 H1 us st1 hs1 r1 h1 => by
    cases r1 with
    | nil => exact h1.elim
    | cons r0 r1 =>
      cases r1 with
      | nil => exact h1.elim
      | cons r1 r2 =>
        cases r2 with
        | nil => exact ⟨_, _, rfl, h1 β1 _ H1 (Step.refl _ _) (((hl.step st1).set r0).set r1) hs1⟩
        | cons _ _ => exact h1.elim⟩
def sPar3 (i j l : Nat) (r : MA) : MS := fun ρ s => (r ρ s).to ρ fun vs s1 => match vs with
  | [v, w, x] => .nx (((ρ.set i (some v)).set j (some w)).set l (some x)) s1
  | _ => .bad
theorem ds_par3 {i j l : Nat} {x y z : Str} {a b c : Expr} {r : MA} {px py pz pt : Pos} {kt k2 pt2} (hc : X.calm = true) (hN : X.N.Nodup) (hi : X.N[i]? = some x) (hj : X.N[j]? = some y) (hk : X.N[l]? = some z) (hij : i ≠ j) (hik : i ≠ l) (hjk : j ≠ l)
    (hx : X.env.scope.names.lookup x = some .local) (hy : X.env.scope.names.lookup y = some .local) (hz : X.env.scope.names.lookup z = some .local) (ha : DA X zx W [a, b, c] r)
    (hw : swappedStores [.Tuple [.Name x px, .Name y py, .Name z pz] kt pt] (.Tuple [a, b, c] k2 pt2) X.env = pure (some [x, y, z]) := by rfl)
    (hs : swapsWithSole [.Tuple [.Name x px, .Name y py, .Name z pz] kt pt] (.Tuple [a, b, c] k2 pt2) pos.line X.env = pure false := by rfl) :
    DS X zx W (.Assign [.Tuple [.Name x px, .Name y py, .Name z pz] kt pt] (.Tuple [a, b, c] k2 pt2) pos) (sPar3 i j l r) := PS.imp (ps_par3 hc hN hi hj hk hij hik hjk hx hy hz ha hw hs) fun D σ H ⟨β, ρ, s, hl, hs, q⟩ =>
  ⟨β, ρ, s, hl, hs, PostS.to hl q fun vs s1 β1 H1 us st1 hs1 r1 h1 => by
    cases r1 with
    | nil => exact h1.elim
    | cons r0 r1 =>
      cases r1 with
      | nil => exact h1.elim
      | cons r1 r2 =>
        cases r2 with
        | nil => exact h1.elim
        | cons r2 r3 =>
          cases r3 with
          | nil => exact ⟨_, _, _, rfl, h1 β1 _ H1 (Step.refl _ _) ((((hl.step st1).set r0).set r1).set r2) hs1⟩
          | cons _ _ => exact h1.elim⟩
end
end Pm
set_option maxRecDepth 100000
set_option maxHeartbeats 4000000
namespace Pm
open PySem PySem.Spec PyProof.Rows L2 Sw
/-! ### what is walked -/
structure Src where
  items : List Vl
  at' : Option Nat
/-- the list of the store that is walked stands as it was -/
def Src.ok (c : Src) (s : Sto) : Prop := match c.at' with
  | none => True
  | some n => s[n]? = some (.lst c.items)
@[simp] theorem Src.ok_none (l : List Vl) (s : Sto) : Src.ok ⟨l, none⟩ s = True := rfl
structure WalkM (G : Cf) (J : It) (c : Src) (β0 : Bs) (H0 : Hp) : Prop where
  go : ∀ (i : Nat) β s H, i < c.items.length → Step β0 H0 β H → RelS G β s H → c.ok s → J.go i H
  stop : ∀ β s H, Step β0 H0 β H → RelS G β s H → c.ok s → J.stop c.items.length H
  yld : ∀ (i : Nat) β s H x H', i < c.items.length → Step β0 H0 β H → RelS G β s H → c.ok s → J.yld i H x H' → Same H H' ∧ ∃ v, c.items[i]? = some v ∧ Rv G H' β v x
abbrev MI := Loc → Sto → R Src
abbrev rI (G : Cf) : Rel Src It := fun H β c J => WalkM G J c β H
abbrev DI (X : Cx) (zx : Exo) (W : WX) (tg iter : Expr) (f : MI) : Prop := PI X tg iter (tG (cf X zx) (rI (cf X zx)) W f)
theorem PI.imp {X : Cx} {tg e : Expr} {t t' : TI} (h : PI X tg e t) (i : ∀ σ H R, t' σ H R → t σ H R) : PI X tg e t' := ⟨fun pins s σ H R I q => h.run pins s σ H R I (i σ H R q)⟩
section
variable {G : Cf} {β : Bs} {H : Hp}
theorem walk_dtup {a : Addr} {xs : List V} {ds : List PyData} (ht : SqT G.K H a xs) (d : DqAll G.K H β xs ds) : WalkM G (Itt G.K a) ⟨ds.map Vl.dat, none⟩ β H := by
  have hl := d.len
  refine ⟨fun i β' s H' hi st hs _ => ?_, fun β' s H' st hs _ => ?_, fun i β' s H' x H2 hi st hs _ y => ?_⟩
  · simp only [List.length_map] at hi
    exact ⟨xs, xs[i], st.sqt ht, by simp [show i < xs.length by omega]⟩
  · exact ⟨xs, st.sqt ht, by simp [hl]⟩
  · obtain ⟨rfl, y⟩ := y
    obtain ⟨p, h1, h2⟩ := (st.dqs d).get (y xs (st.sqt ht))
    exact ⟨Same.refl _, .dat p, by simp [h1], h2⟩
theorem walk_dlst {a : Addr} {xs : List V} {ds : List PyData} (ht : Sl H β a xs) (d : DqAll G.K H β xs ds) : WalkM G (Itl G.K a) ⟨ds.map Vl.dat, none⟩ β H := by
  have hl := d.len
  refine ⟨fun i β' s H' hi st hs _ => ?_, fun β' s H' st hs _ => ?_, fun i β' s H' x H2 hi st hs _ y => ?_⟩
  · simp only [List.length_map] at hi
    exact ⟨xs, xs[i], (st.sl ht).sq, by simp [show i < xs.length by omega]⟩
  · exact ⟨xs, (st.sl ht).sq, by simp [hl]⟩
  · obtain ⟨rfl, y⟩ := y
    obtain ⟨p, h1, h2⟩ := (st.dqs d).get (y xs (st.sl ht).sq)
    exact ⟨Same.refl _, .dat p, by simp [h1], h2⟩
theorem walk_ref {n : Nat} {a : Addr} {l : List Vl} (ha : β.b[n]? = some a) : WalkM G (Itl G.K a) ⟨l, some n⟩ β H := by
  have key : ∀ β' s H', Step β H β' H' → RelS G β' s H' → Src.ok ⟨l, some n⟩ s → ∃ xs, H' a = some (.lst xs) ∧ Rvs G H' β' l xs := fun β' s H' st hs ok => by
    obtain ⟨t, ht⟩ := st.pre
    have e : β'.b[n]? = some a := by
      rw [← ht, List.getElem?_append_left (List.getElem?_eq_some_iff.mp ha).1]
      exact ha
    obtain ⟨_, xs, h1, h2⟩ := hs.ob n _ a ok e
    exact ⟨xs, h1, Rvs.up h2⟩
  refine ⟨fun i β' s H' hi st hs ok => ?_, fun β' s H' st hs ok => ?_, fun i β' s H' x H2 hi st hs ok y => ?_⟩
  · obtain ⟨xs, h1, h2⟩ := key β' s H' st hs ok
    have := h2.len
    have hi' : i < l.length := hi
    exact ⟨xs, xs[i], SqL.of h1, by simp [show i < xs.length by omega]⟩
  · obtain ⟨xs, h1, h2⟩ := key β' s H' st hs ok
    exact ⟨xs, SqL.of h1, by rw [← h2.len]; exact Nat.le_refl _⟩
  · obtain ⟨rfl, y⟩ := y
    obtain ⟨xs, h1, h2⟩ := key β' s H2 st hs ok
    obtain ⟨v, h3, h4⟩ := h2.get (y xs (SqL.of h1))
    exact ⟨Same.refl _, v, h3, h4⟩
theorem walk_rng {lo : Int} {n : Nat} : WalkM G (Itr lo n) ⟨(List.range n).map fun i : Nat => Vl.dat (.int (lo + i)), none⟩ β H := by
  refine ⟨fun i β' s H' hi st hs _ => by show i < n; simpa using hi, fun β' s H' st hs _ => by show n ≤ _; simp, fun i β' s H' x H2 hi st hs _ y => ?_⟩
  obtain ⟨rfl, rfl⟩ := y
  have hi : i < n := by simpa using hi
  exact ⟨Same.refl _, .dat (.int (lo + i)), by simp [hi], .int _⟩
theorem walk_sgn {z : Str} : WalkM G (Its z) ⟨z.cps.toList.map fun c => Vl.dat (.str ⟨#[c]⟩), none⟩ β H := by
  have w := walk_signs (z := z)
  refine ⟨fun i β' s H' hi st hs _ => w.goes i H' (by simpa using hi) trivial, fun β' s H' st hs _ => ?_, fun i β' s H' x H2 hi st hs _ y => ?_⟩
  · have := w.stops H' trivial
    simpa using this
  · obtain ⟨rfl, hx⟩ := w.yields i H' x H2 (by simpa using hi) trivial y
    rw [List.getElem?_map] at hx
    obtain ⟨c, hc, rfl⟩ := Option.map_eq_some_iff.mp hx
    exact ⟨Same.refl _, .dat (.str ⟨#[c]⟩), by rw [List.getElem?_map, hc]; rfl, .str (by rw [sizeLine_eq]; show 1 ≤ 16777216; decide)⟩
end
/-- a value that is walked -/
def src : Vl → Sto → Option Src
  | .dat (.tuple ds), _ => some ⟨ds.map Vl.dat, none⟩
  | .dat (.list ds), _ => some ⟨ds.map Vl.dat, none⟩
  | .dat (.str z), _ => some ⟨z.cps.toList.map fun c => Vl.dat (.str ⟨#[c]⟩), none⟩
  | .ref n, s => match s[n]? with
    | some (.lst l) => some ⟨l, some n⟩
    | _ => none
  | _, _ => none
def iSeq (f : ME) : MI := fun ρ s => (f ρ s).bind fun v s1 => R.of (src v s1) s1
def rgs (lo : Int) (n : Nat) : List Vl := (List.range n).map fun i : Nat => Vl.dat (.int (lo + i))
/-- a number of a word; nothing unfolds the test -/
structure In62 (j : Int) : Prop where
  lo : -(2 ^ 62) ≤ j
  hi : j < 2 ^ 62
open Classical in
noncomputable def iRng1 (r : MA) : MI := fun ρ s => (r ρ s).bind fun vs s1 => match vs with
  | [.dat (.int j)] => if In62 j then .ok ⟨rgs 0 j.toNat, none⟩ s1 else .bad
  | _ => .bad
open Classical in
noncomputable def iRng2 (r : MA) : MI := fun ρ s => (r ρ s).bind fun vs s1 => match vs with
  | [.dat (.int i), .dat (.int j)] => if In62 i ∧ In62 j then .ok ⟨rgs i (j - i).toNat, none⟩ s1 else .bad
  | _ => .bad
section
variable {X : Cx} {zx : Exo} {W : WX} {tg e : Expr} {f : ME} {pos p : Pos}
theorem di_seq (ha : DE X zx W e f) : DI X zx W tg e (iSeq f) := by
  refine ⟨fun pins st σ H T I q => ?_⟩
  obtain ⟨β, ρ, s, hl, hs, hp⟩ := q
  have hp' : Post (cf X zx) (rI (cf X zx)) W σ β H T ((f ρ s).bind fun v s1 => R.of (src v s1) s1) := hp
  cases ef : f ρ s with
  | bad => rw [ef] at hp'; exact hp'.elim
  | ex x s1 =>
    rw [ef] at hp'
    exact (pi_tup ha).run pins st σ H T I ⟨β, ρ, s, hl, hs, by rw [ef]; exact hp'⟩
  | ok v s1 =>
    rw [ef] at hp'
    cases v with
    | ref n =>
      cases es : s1[n]? with
      | none => simp [src, es] at hp'; exact hp'.elim
      | some o =>
        cases o with
        | lst l =>
          refine (pi_list ha).run pins st σ H T I ⟨β, ρ, s, hl, hs, ?_⟩
          rw [ef]
          intro β1 H1 u st1 hs1 r1
          obtain ⟨a, hb, rfl⟩ := r1
          obtain ⟨_, xs, h1, h2⟩ := hs1.ob n _ a es hb
          refine ⟨a, rfl, ⟨xs, SqL.of h1⟩, ?_⟩
          have hp2 : Post (cf X zx) (rI (cf X zx)) W σ β H T (R.of (src (.ref n) s1) s1) := hp'
          simp only [src, es, R.of_some] at hp2
          exact hp2 β1 H1 _ st1 hs1 (walk_ref hb)
        | _ => simp [src, es] at hp'; exact hp'.elim
    | scr _ => exact hp'.elim
    | exo _ _ => exact hp'.elim
    | dat d =>
      cases d with
      | tuple ds =>
        refine (pi_tup ha).run pins st σ H T I ⟨β, ρ, s, hl, hs, ?_⟩
        rw [ef]
        intro β1 H1 u st1 hs1 r1
        cases r1 with
        | @tup a xs _ ht hz d => exact ⟨a, rfl, ⟨xs, ht⟩, hp' β1 H1 _ st1 hs1 (walk_dtup ht d)⟩
      | list ds =>
        refine (pi_list ha).run pins st σ H T I ⟨β, ρ, s, hl, hs, ?_⟩
        rw [ef]
        intro β1 H1 u st1 hs1 r1
        cases r1 with
        | @lst a xs _ ht hz d => exact ⟨a, rfl, ⟨xs, ht.sq⟩, hp' β1 H1 _ st1 hs1 (walk_dlst ht d)⟩
      | str z =>
        refine (pi_str ha).run pins st σ H T I ⟨β, ρ, s, hl, hs, ?_⟩
        rw [ef]
        intro β1 H1 u st1 hs1 r1
        cases r1 with
        | str hz => exact ⟨z, rfl, hp' β1 H1 _ st1 hs1 walk_sgn⟩
      | _ => exact hp'.elim
theorem di_range1 {a : Expr} {r : MA} (hg : Gl X "range") (hm : X.mg "range" = none) (ha : DA X zx W [a] r) (hs : starEach [a] X.env = [(false, eval a X.env)] := by rfl) : DI X zx W tg (.Call (.Name "range" p) [a] [] pos) (iRng1 r) := PI.imp (pi_range1 hg hm ha hs) fun σ H T q => by
  obtain ⟨β, ρ, s, hl, hs, hp⟩ := q
  refine ⟨β, ρ, s, hl, hs, Post.bind hp fun vs s1 β1 H1 us st1 hs1 r1 h1 => ?_⟩
  split at h1
  · rename_i j
    split at h1
    · rename_i hj
      cases r1 with
      | cons r0 r1 =>
        cases r1
        cases r0
        exact ⟨j, rfl, hj.1, hj.2, h1 β1 H1 _ (Step.refl _ _) hs1 walk_rng⟩
    · exact h1.elim
  · exact h1.elim
theorem di_range2 {a b : Expr} {r : MA} (hg : Gl X "range") (hm : X.mg "range" = none) (ha : DA X zx W [a, b] r) (hs : starEach [a, b] X.env = [(false, eval a X.env), (false, eval b X.env)] := by rfl) (hs2 : starEach [b] X.env = [(false, eval b X.env)] := by rfl) : DI X zx W tg (.Call (.Name "range" p) [a, b] [] pos) (iRng2 r) := PI.imp (pi_range2 hg hm ha hs hs2) fun σ H T q => by
  obtain ⟨β, ρ, s, hl, hs, hp⟩ := q
  refine ⟨β, ρ, s, hl, hs, Post.bind hp fun vs s1 β1 H1 us st1 hs1 r1 h1 => ?_⟩
  split at h1
  · rename_i i j
    split at h1
    · rename_i hj
      cases r1 with
      | cons r0 r1 =>
        cases r1 with
        | cons r1 r2 =>
          cases r2
          cases r0
          cases r1
          exact ⟨i, j, rfl, ⟨hj.1.1, hj.1.2, hj.2.1, hj.2.2⟩, h1 β1 H1 _ (Step.refl _ _) hs1 walk_rng⟩
    · exact h1.elim
  · exact h1.elim
end

/-! ### for -/
/-- an end of a turn -/
def Fl.loop (f : Fl) (k : MS) : Fl := match f with
  | .nx ρ s => k ρ s
  | .ct ρ s => k ρ s
  | .bk ρ s => .nx ρ s
  | .rt v s => .rt v s
  | .ex x ρ s => .ex x ρ s
  | .bad => .bad
@[simp] theorem Fl.loop_nx (ρ : Loc) (s : Sto) (k : MS) : (Fl.nx ρ s).loop k = k ρ s := rfl
@[simp] theorem Fl.loop_ct (ρ : Loc) (s : Sto) (k : MS) : (Fl.ct ρ s).loop k = k ρ s := rfl
@[simp] theorem Fl.loop_bk (ρ : Loc) (s : Sto) (k : MS) : (Fl.bk ρ s).loop k = .nx ρ s := rfl
@[simp] theorem Fl.loop_rt (v : Vl) (s : Sto) (k : MS) : (Fl.rt v s).loop k = .rt v s := rfl
@[simp] theorem Fl.loop_ex (x : Exn) (ρ : Loc) (s : Sto) (k : MS) : (Fl.ex x ρ s).loop k = .ex x ρ s := rfl
@[simp] theorem Fl.loop_bad (k : MS) : Fl.bad.loop k = .bad := rfl
open Classical in
noncomputable def forM (c : Src) (g : MG) (b : MS) : List Vl → MS
  | [], ρ, s => if c.ok s then .nx ρ s else .bad
  | v :: r, ρ, s => if c.ok s then ((g v ρ s).thn b).loop (forM c g b r) else .bad
noncomputable def sFor (it : MI) (g : MG) (b : MS) : MS := fun ρ s => (it ρ s).to ρ fun c s1 => forM c g b c.items ρ s1
theorem forM_nil {l : List Vl} {g : MG} {b : MS} {ρ : Loc} {s : Sto} : forM ⟨l, none⟩ g b [] ρ s = .nx ρ s := by
  unfold forM
  exact if_pos trivial
theorem forM_cons {l : List Vl} {g : MG} {b : MS} {v : Vl} {r : List Vl} {ρ : Loc} {s : Sto} : forM ⟨l, none⟩ g b (v :: r) ρ s = ((g v ρ s).thn b).loop (forM ⟨l, none⟩ g b r) := by
  rw [forM]
  exact if_pos trivial
section
variable {X : Cx} {zx : Exo} {W : WX} {tg iter : Expr} {it : MI} {g : MG} {b : MS} {pos : Pos} {body : List Stmt}
theorem ds_for (hp : PassesOwn (model X.prog X.w) X.A X.env X.xe) (hc : X.calm = true) (hi : DI X zx W tg iter it) (hg : DG X zx tg g) (hb : DSs X zx W body b)
    (hs : ∀ x, foldedSetIterable iter X.env x = pure x := by intro _; rfl) : DS X zx W (.For tg iter body [] pos) (sFor it g b) := PS.imp (ps_for hp hc hi hg hb hs) fun D σ H ⟨β, ρ, s, hl, hs, q⟩ => by
  refine ⟨β, ρ, s, hl, hs, PostS.to hl q fun c s1 β1 H1 J st1 hs1 wm h1 => ?_⟩
  refine ⟨fun i m σ' H' => m = c.items.length - i ∧ i ≤ c.items.length ∧ ∃ β' ρ' s', Step β1 H1 β' H' ∧ RelL (cf X zx) H' β' ρ' σ' ∧ RelS (cf X zx) β' s' H' ∧ PostS (cf X zx) W β' H' D (forM c g b (c.items.drop i) ρ' s'),
    ⟨_, rfl, Nat.zero_le _, β1, ρ, s1, Step.refl _ _, hl.step st1, hs1, h1⟩, ?_⟩
  rintro i m σ' H' ⟨rfl, hi, β', ρ', s', st', hl', hs', q'⟩
  by_cases hlt : i < c.items.length
  · rw [List.drop_eq_getElem_cons hlt, forM] at q'
    by_cases ok : c.ok s'
    rotate_left
    · rw [if_neg ok] at q'; exact q'.elim
    rw [if_pos ok] at q'
    refine .inr ⟨wm.go i β' s' H' hlt st' hs' ok, fun σ2 H2 => i + 1 ≤ c.items.length ∧ ∃ β2 ρ2 s2, Step β1 H1 β2 H2 ∧ RelL (cf X zx) H2 β2 ρ2 σ2 ∧ RelS (cf X zx) β2 s2 H2 ∧ PostS (cf X zx) W β2 H2 D (forM c g b (c.items.drop (i + 1)) ρ2 s2),
      fun σ2 H2 h2 => ⟨_, by omega, rfl, h2.1, h2.2⟩, fun x H2 y => ?_⟩
    obtain ⟨sm, v, hv, rv⟩ := wm.yld i β' s' H' x H2 hlt st' hs' ok y
    rw [List.getElem?_eq_getElem hlt] at hv
    cases hv
    have st2 : Step β' H' β' H2 := Step.same sm
    refine ⟨β', ρ', s', _, hl'.step st2, hs'.same sm, rv, ?_⟩
    have q2 := PostS.step q' st2
    generalize c.items[i] = v at q2 ⊢
    cases eg : g v ρ' s' with
    | nx ρ3 s3 =>
      rw [eg, Fl.thn_nx] at q2
      intro β3 σ3 H3 st3 hl3 hs3
      have q3 := PostS.step q2 st3
      refine ⟨β3, ρ3, s3, hl3, hs3, ?_⟩
      have tr : ∀ {β4 H4}, Step β3 H3 β4 H4 → Step β1 H1 β4 H4 := fun h => ((st'.trans st2).trans st3).trans h
      cases eb : b ρ3 s3 with
      | nx ρ4 s4 => rw [eb] at q3; exact fun β4 σ4 H4 st4 hl4 hs4 => ⟨hlt, β4, ρ4, s4, tr st4, hl4, hs4, PostS.step q3 st4⟩
      | ct ρ4 s4 => rw [eb] at q3; exact fun β4 σ4 H4 st4 hl4 hs4 => ⟨hlt, β4, ρ4, s4, tr st4, hl4, hs4, PostS.step q3 st4⟩
      | bk ρ4 s4 => rw [eb] at q3; exact q3
      | rt v s4 => rw [eb] at q3; exact q3
      | ex x ρ4 s4 => rw [eb] at q3; exact q3
      | bad => rw [eb] at q3; exact q3
    | _ => rw [eg] at q2; exact q2.elim
  · have e : i = c.items.length := by omega
    subst e
    rw [List.drop_length, forM] at q'
    by_cases ok : c.ok s'
    rotate_left
    · rw [if_neg ok] at q'; exact q'.elim
    rw [if_pos ok] at q'
    exact .inl ⟨wm.stop β' s' H' st' hs' ok, q' β' σ' H' (Step.refl _ _) hl' hs'⟩
end
/-! ### while -/
/-- at most n turns -/
def whileN (t : MT) (b : MS) : Nat → MS
  | 0, _, _ => .bad
  | n + 1, ρ, s => (t ρ s).to ρ fun c s1 => if c = true then (b ρ s1).loop (whileN t b n) else .nx ρ s1
open Classical in
noncomputable def sWhile (t : MT) (b : MS) : MS := fun ρ s => if h : ∃ n, whileN t b n ρ s ≠ .bad then whileN t b h.choose ρ s else .bad
theorem whileN_mono {t : MT} {b : MS} : ∀ {n m : Nat} {ρ : Loc} {s : Sto}, n ≤ m → whileN t b n ρ s ≠ .bad → whileN t b m ρ s = whileN t b n ρ s
  | 0, _, _, _, _, h => absurd rfl h
  | n + 1, 0, _, _, h, _ => by omega
  | n + 1, m + 1, ρ, s, h, hb => by
    rw [whileN] at hb ⊢
    rw [whileN]
    cases et : t ρ s with
    | bad => rfl
    | ex x s1 => rfl
    | ok c s1 =>
      rw [et] at hb
      cases c with
      | false => rfl
      | true =>
        simp only [R.to_ok, if_true] at hb ⊢
        cases eb : b ρ s1 with
        | nx ρ2 s2 => rw [eb] at hb; exact whileN_mono (by omega) hb
        | ct ρ2 s2 => rw [eb] at hb; exact whileN_mono (by omega) hb
        | _ => rfl
theorem sWhile_of {t : MT} {b : MS} {n : Nat} {ρ : Loc} {s : Sto} (h : whileN t b n ρ s ≠ .bad) : sWhile t b ρ s = whileN t b n ρ s := by
  have hx : ∃ n, whileN t b n ρ s ≠ .bad := ⟨n, h⟩
  unfold sWhile
  rw [dif_pos hx]
  rcases Nat.le_total n hx.choose with z | z
  · exact whileN_mono z h
  · exact (whileN_mono z hx.choose_spec).symm
section
variable {X : Cx} {zx : Exo} {W : WX} {c : Expr} {t : MT} {b : MS} {pos : Pos} {body : List Stmt}
theorem ds_while (hp : PassesOwn (model X.prog X.w) X.A X.env X.xe) (hc : DT X zx W c t) (hb : DSs X zx W body b) : DS X zx W (.While c body [] pos) (sWhile t b) := PS.imp (ps_while hp hc hb) fun D σ H ⟨β, ρ, s, hl, hs, q⟩ => by
  unfold sWhile at q
  split at q
  rotate_left
  · exact q.elim
  rename_i hx
  generalize hx.choose = n at q
  refine ⟨fun m σ' H' => ∃ β' ρ' s', RelL (cf X zx) H' β' ρ' σ' ∧ RelS (cf X zx) β' s' H' ∧ PostS (cf X zx) W β' H' D (whileN t b m ρ' s'), ⟨n, β, ρ, s, hl, hs, q⟩, ?_⟩
  rintro m σ' H' ⟨β', ρ', s', hl', hs', q'⟩
  cases m with
  | zero => exact q'.elim
  | succ m =>
    rw [whileN] at q'
    refine ⟨β', ρ', s', hl', hs', PostS.to hl' q' fun v s1 β1 H1 u st1 hs1 r1 h1 => ?_⟩
    cases (show v = u from r1)
    cases v with
    | false => exact iteF (h1 β1 σ' H1 (Step.refl _ _) (hl'.step st1) hs1)
    | true =>
      refine iteT ⟨fun σ2 H2 => ∃ β2 ρ2 s2, RelL (cf X zx) H2 β2 ρ2 σ2 ∧ RelS (cf X zx) β2 s2 H2 ∧ PostS (cf X zx) W β2 H2 D (whileN t b m ρ2 s2), fun σ2 H2 h2 => ⟨m, Nat.lt_succ_self _, h2⟩, β1, ρ', s1, hl'.step st1, hs1, ?_⟩
      have h1 : PostS (cf X zx) W β1 H1 D ((b ρ' s1).loop (whileN t b m)) := h1
      cases eb : b ρ' s1 with
      | nx ρ4 s4 => rw [eb] at h1; exact fun β4 σ4 H4 st4 hl4 hs4 => ⟨β4, ρ4, s4, hl4, hs4, PostS.step h1 st4⟩
      | ct ρ4 s4 => rw [eb] at h1; exact fun β4 σ4 H4 st4 hl4 hs4 => ⟨β4, ρ4, s4, hl4, hs4, PostS.step h1 st4⟩
      | bk ρ4 s4 => rw [eb] at h1; exact h1
      | rt v s4 => rw [eb] at h1; exact h1
      | ex x ρ4 s4 => rw [eb] at h1; exact h1
      | bad => rw [eb] at h1; exact h1
end
end Pm
set_option maxRecDepth 100000
set_option maxHeartbeats 4000000
namespace Pm
open PySem PySem.Spec PyProof.Rows L2 Sw
/-! ### a list that is being made: it is no part of any data -/
def Bs.add (β : Bs) (p : Addr) : Bs := ⟨β.b, p :: β.g⟩
section
variable {K : PySem.W.Frag} {G : Cf} {H : Hp} {β : Bs} {p : Addr}
/-- it changes -/
structure Gp (β : Bs) (H : Hp) (p : Addr) : Prop where
  mem : p ∈ β.g
  lst : ∃ xs, H p = some (.lst xs)
theorem Gp.sl {a : Addr} {xs : List V} {o : HO} (g : Gp β H p) (h : Sl H β a xs) : Sl (upd H p o) β a xs := ⟨by rw [upd_ne (fun z => h.2.2 (by rw [z]; exact g.mem))]; exact h.1, h.2⟩
theorem Gp.scr {a : Addr} {xs : List V} {o : HO} (g : Gp β H p) (h : Scr K H a xs) : Scr K (upd H p o) a xs := by
  obtain ⟨ys, hp⟩ := g.lst
  rcases h with ⟨q, h⟩ | h
  · exact .inl ⟨q, by rw [upd_ne (ne_of h hp fun z => nomatch z)]; exact h⟩
  · exact .inr h
theorem Gp.sqt {a : Addr} {xs : List V} {o : HO} (g : Gp β H p) (h : SqT K H a xs) : SqT K (upd H p o) a xs := by
  obtain ⟨ys, hp⟩ := g.lst
  rcases h with (h | ⟨q, h⟩) | h
  · exact .inl (.inl (by rw [upd_ne (ne_of h hp fun z => nomatch z)]; exact h))
  · exact .inl (.inr ⟨q, by rw [upd_ne (ne_of h hp fun z => nomatch z)]; exact h⟩)
  · exact .inr h
end
mutual
theorem Gp.dq {K : PySem.W.Frag} {H : Hp} {β : Bs} {p : Addr} {o : HO} (g : Gp β H p) : ∀ {v : V} {d : PyData}, Dq K H β v d → Dq K (upd H p o) β v d
  | _, _, .non => .non
  | _, _, .bl b => .bl b
  | _, _, .int i => .int i
  | _, _, .str h => .str h
  | _, _, .lst h l r => .lst (g.sl h) l (Gp.dqs g r)
  | _, _, .tup h l r => .tup (g.sqt h) l (Gp.dqs g r)
theorem Gp.dqs {K : PySem.W.Frag} {H : Hp} {β : Bs} {p : Addr} {o : HO} (g : Gp β H p) : ∀ {vs : List V} {ds : List PyData}, DqAll K H β vs ds → DqAll K (upd H p o) β vs ds
  | _, _, .nil => .nil
  | _, _, .cons h r => .cons (Gp.dq g h) (Gp.dqs g r)
end
section
variable {K : PySem.W.Frag} {G : Cf} {H : Hp} {β : Bs} {p : Addr} {o : HO}
theorem Gp.rx (g : Gp β H p) {x : Exn} {c : Value} {d : Option Addr} (h : RX G H β x c d) : RX G (upd H p o) β x c d := by
  obtain ⟨C, dd, xs, h1, h2, h3, h4, h5, h6⟩ := h
  obtain ⟨ys, hp⟩ := g.lst
  exact ⟨C, dd, xs, h1, h2, h3, by rw [upd_ne (ne_of h4 hp fun z => nomatch z)]; exact h4, h5, Paired.mapP h6 fun p q z => ⟨z.1, g.dq z.2⟩⟩
theorem Gp.rv (g : Gp β H p) : ∀ {v : Vl} {u : V}, Rv G H β v u → Rv G (upd H p o) β v u
  | .dat _, _, h => g.dq h
  | .ref _, _, h => h
  | .scr _, _, ⟨a, e, q⟩ => ⟨a, e, g.scr q⟩
  | .exo _ _, _, ⟨a, c, d, e, q, r⟩ => ⟨a, c, d, e, q, g.rx r⟩
theorem Gp.rvs (g : Gp β H p) : ∀ {vs : List Vl} {us : List V}, Rvs G H β vs us → Rvs G (upd H p o) β vs us
  | _, _, .nil => .nil
  | _, _, .cons h r => .cons (g.rv h) (Gp.rvs g r)
theorem Gp.rl (g : Gp β H p) {ρ : Loc} {σ : L2.St} (h : RelL G H β ρ σ) : RelL G (upd H p o) β ρ σ := ⟨h.len, fun i v e => by
  obtain ⟨u, h1, h2⟩ := h.at' i v e
  exact ⟨u, h1, g.rv h2⟩⟩
theorem Gp.ro (g : Gp β H p) {a : Addr} {ob : Ob} (ne : a ≠ p) (nd : ∀ dx, H dx = some (.own a) → dx ≠ p) (h : RO G H β a ob) : RO G (upd H p o) β a ob := by
  cases ob with
  | lst l => obtain ⟨hl, xs, e, r⟩ := h; exact ⟨hl, xs, by rw [upd_ne ne]; exact e, g.rvs r⟩
  | dic l => obtain ⟨xs, e, r⟩ := h; exact ⟨xs, by rw [upd_ne ne]; exact e, Paired.mapP r fun p q z => ⟨z.1, g.rv z.2⟩⟩
  | dit l => obtain ⟨xs, e, r⟩ := h; exact ⟨xs, by rw [upd_ne ne]; exact e, Paired.mapP r fun p q z => ⟨z.1, g.rv z.2⟩⟩
  | ins c l =>
    obtain ⟨C, dx, xs, hm, e, hd, n, r⟩ := h
    exact ⟨C, dx, xs, hm, by rw [upd_ne ne]; exact e, by rw [upd_ne (nd dx hd)]; exact hd, n, Paired.mapP r fun p q z => ⟨z.1, g.rv z.2⟩⟩
theorem Gp.rs (g : Gp β H p) {s : Sto} {ys : List V} (h : RelS G β s H) : RelS G β s (upd H p (.lst ys)) := by
  have np := (h.gs p g.mem).2
  obtain ⟨xs, hp⟩ := g.lst
  refine ⟨h.len, h.nd, fun n ob a h1 h2 => g.ro (fun z => np (by rw [← z]; exact List.mem_of_getElem? h2)) (fun dx hd => ne_of hd hp fun z => nomatch z) (h.ob n ob a h1 h2), fun a ha => ?_⟩
  obtain ⟨⟨x, hx⟩, n⟩ := h.gs a ha
  refine ⟨?_, n⟩
  by_cases z : a = p
  · exact ⟨_, by rw [z, upd_same]⟩
  · exact ⟨x, by rw [upd_ne z]; exact hx⟩
/-- it begins -/
theorem Step.add (h : H p = none) : Step β H (β.add p) (upd H p o) := by
  refine ⟨List.prefix_refl _, fun _ h => List.mem_cons_of_mem _ h, fun a ha => ?_, fun _ h => .inl h, fun a x e _ => same_new h a x e, fun a xs e => same_new h a _ e, fun a x u e => same_new h a _ e, fun a x e => ⟨x, same_new h a x e⟩⟩
  rcases List.mem_cons.mp (show a ∈ p :: β.g from ha) with z | z
  · exact .inr (by rw [z]; exact h)
  · exact .inl z
theorem RelS.add {s : Sto} {ys : List V} (h : RelS G β s H) (hp : H p = none) : RelS G (β.add p) s (upd H p (.lst ys)) := by
  refine ⟨h.len, h.nd, fun n ob a h1 h2 => ?_, fun a ha => ?_⟩
  · have r := h.ob n ob a h1 h2
    obtain ⟨x, hx, _⟩ := r.own
    exact r.step (Step.add hp) (by rw [upd_ne (ne_of_none hx hp)])
  · rcases List.mem_cons.mp (show a ∈ p :: β.g from ha) with z | z
    · rw [z]
      exact ⟨⟨_, upd_same⟩, h.nin hp⟩
    · obtain ⟨⟨x, hx⟩, n⟩ := h.gs a z
      exact ⟨⟨x, by rw [upd_ne (ne_of_none hx hp)]; exact hx⟩, n⟩
end
/-! ### it is made: data may have it -/
section
variable {K : PySem.W.Frag} {G : Cf} {H : Hp} {b g g' : List Addr}
theorem Sl.drop {a : Addr} {xs : List V} (i : ∀ x ∈ g', x ∈ g) (h : Sl H ⟨b, g⟩ a xs) : Sl H ⟨b, g'⟩ a xs := ⟨h.1, h.2.1, fun z => h.2.2 (i a z)⟩
end
mutual
theorem Dq.drop {K : PySem.W.Frag} {H : Hp} {b g g' : List Addr} (i : ∀ x ∈ g', x ∈ g) : ∀ {v : V} {d : PyData}, Dq K H ⟨b, g⟩ v d → Dq K H ⟨b, g'⟩ v d
  | _, _, .non => .non
  | _, _, .bl b => .bl b
  | _, _, .int i => .int i
  | _, _, .str h => .str h
  | _, _, .lst h l r => .lst (h.drop i) l (DqAll.drop' i r)
  | _, _, .tup h l r => .tup h l (DqAll.drop' i r)
theorem DqAll.drop' {K : PySem.W.Frag} {H : Hp} {b g g' : List Addr} (i : ∀ x ∈ g', x ∈ g) : ∀ {vs : List V} {ds : List PyData}, DqAll K H ⟨b, g⟩ vs ds → DqAll K H ⟨b, g'⟩ vs ds
  | _, _, .nil => .nil
  | _, _, .cons h r => .cons (Dq.drop i h) (DqAll.drop' i r)
end
section
variable {K : PySem.W.Frag} {G : Cf} {H : Hp} {b g g' : List Addr}
theorem Rv.drop (i : ∀ x ∈ g', x ∈ g) : ∀ {v : Vl} {u : V}, Rv G H ⟨b, g⟩ v u → Rv G H ⟨b, g'⟩ v u
  | .dat _, _, h => Dq.drop i h
  | .ref _, _, h => h
  | .scr _, _, h => h
  | .exo _ _, _, ⟨a, c, d, e, q, C, dd, xs, h1, h2, h3, h4, h5, h6⟩ => ⟨a, c, d, e, q, C, dd, xs, h1, h2, h3, h4, h5, Paired.mapP h6 fun p q z => ⟨z.1, Dq.drop i z.2⟩⟩
theorem Rvs.drop (i : ∀ x ∈ g', x ∈ g) : ∀ {vs : List Vl} {us : List V}, Rvs G H ⟨b, g⟩ vs us → Rvs G H ⟨b, g'⟩ vs us
  | _, _, .nil => .nil
  | _, _, .cons h r => .cons (Rv.drop i h) (Rvs.drop i r)
theorem RO.drop (i : ∀ x ∈ g', x ∈ g) {a : Addr} {ob : Ob} (h : RO G H ⟨b, g⟩ a ob) : RO G H ⟨b, g'⟩ a ob := by
  cases ob with
  | lst l => obtain ⟨hl, xs, e, r⟩ := h; exact ⟨hl, xs, e, Rvs.drop i r⟩
  | dic l => obtain ⟨xs, e, r⟩ := h; exact ⟨xs, e, Paired.mapP r fun p q z => ⟨z.1, Rv.drop i z.2⟩⟩
  | dit l => obtain ⟨xs, e, r⟩ := h; exact ⟨xs, e, Paired.mapP r fun p q z => ⟨z.1, Rv.drop i z.2⟩⟩
  | ins c l =>
    obtain ⟨C, dx, xs, hm, e, hd, n, r⟩ := h
    exact ⟨C, dx, xs, hm, e, hd, n, Paired.mapP r fun p q z => ⟨z.1, Rv.drop i z.2⟩⟩
theorem RelS.drop (i : ∀ x ∈ g', x ∈ g) {s : Sto} (h : RelS G ⟨b, g⟩ s H) : RelS G ⟨b, g'⟩ s H := ⟨h.len, h.nd, fun n ob a h1 h2 => (h.ob n ob a h1 h2).drop i, fun a ha => h.gs a (i a ha)⟩
end

/-! ### comprehensions -/
def wipeM (ρ : Loc) : List Nat → Loc
  | [] => ρ
  | v :: vs => (wipeM ρ vs).set v none
theorem RelL.wipe {G : Cf} {H : Hp} {β : Bs} {ρ : Loc} {σ : L2.St} (h : RelL G H β ρ σ) : ∀ vs : List Nat, RelL G H β (wipeM ρ vs) (L2.wipe σ vs)
  | [] => h
  | v :: vs => (RelL.wipe h vs).setN
theorem wipe_set {σ : L2.St} {i : Nat} {x : Option V} : ∀ {vs : List Nat}, i ∈ vs → L2.wipe (σ.set i x) vs = L2.wipe σ vs
  | [], h => by cases h
  | v :: vs, h => by
    show (L2.wipe (σ.set i x) vs).set v none = (L2.wipe σ vs).set v none
    by_cases hv : i ∈ vs
    · rw [wipe_set hv]
    · have e : i = v := by
        rcases List.mem_cons.mp h with z | z
        · exact z
        · exact absurd z hv
      subst e
      have go : ∀ (vs : List Nat), i ∉ vs → L2.wipe (σ.set i x) vs = (L2.wipe σ vs).set i x := by
        intro vs
        induction vs with
        | nil => intro _; rfl
        | cons w ws ih =>
          intro hn
          show (L2.wipe (σ.set i x) ws).set w none = ((L2.wipe σ ws).set w none).set i x
          rw [ih (fun z => hn (List.mem_cons_of_mem _ z)), List.set_comm _ _ (fun z => hn (by rw [z]; exact List.mem_cons_self))]
      rw [go vs hv, List.set_set]
theorem wipe_wipe {σ : L2.St} : ∀ {vs ws : List Nat}, (∀ i ∈ ws, i ∈ vs) → L2.wipe (L2.wipe σ ws) vs = L2.wipe σ vs
  | vs, [], _ => rfl
  | vs, w :: ws, h => by
    show L2.wipe ((L2.wipe σ ws).set w none) vs = L2.wipe σ vs
    rw [wipe_set (h w List.mem_cons_self), wipe_wipe fun i hi => h i (List.mem_cons_of_mem _ hi)]
/-- a target of names -/
def GOk (G : Cf) (g : TG) (gm : Vl → Loc → Option Loc) (vs : List Nat) : Prop := ∀ x v σ ρ ρ2 β H (Q : L2.St → Hp → Prop), RelL G H β ρ σ → Rv G H β v x → gm v ρ = some ρ2 → (∀ σ2, RelL G H β ρ2 σ2 → L2.wipe σ2 vs = L2.wipe σ vs → Q σ2 H) → g x σ H Q
def gmName (i : Nat) : Vl → Loc → Option Loc := fun v ρ => some (ρ.set i (some v))
theorem gok_name {G : Cf} {i : Nat} {vs : List Nat} (h : i ∈ vs) : GOk G (gName i) (gmName i) vs := fun x v σ ρ ρ2 β H Q hl r e q => by
  cases e
  exact q _ (hl.set r) (wipe_set h)
def gNames : List Nat → TGs
  | [] => gNil
  | i :: r => gCons (gName i) (gNames r)
def setAll : Loc → List Nat → List PyData → Option Loc
  | ρ, [], [] => some ρ
  | ρ, i :: is, d :: ds => setAll (ρ.set i (some (.dat d))) is ds
  | _, _, _ => none
def gmTup (is : List Nat) : Vl → Loc → Option Loc := fun v ρ => match v with
  | .dat (.tuple ds) => setAll ρ is ds
  | _ => none
theorem gok_names {G : Cf} {vs : List Nat} : ∀ {is : List Nat} {ds : List PyData} {xs : List V} {σ : L2.St} {ρ ρ2 : Loc} {β : Bs} {H : Hp} {Q : L2.St → Hp → Prop}, (∀ i ∈ is, i ∈ vs) → RelL G H β ρ σ → DqAll G.K H β xs ds → setAll ρ is ds = some ρ2 →
    (∀ σ2, RelL G H β ρ2 σ2 → L2.wipe σ2 vs = L2.wipe σ vs → Q σ2 H) → gNames is xs σ H Q
  | [], [], _, _, _, _, _, _, _, _, hl, .nil, e, q => by cases e; exact ⟨rfl, q _ hl rfl⟩
  | i :: is, d :: ds, _, σ, ρ, ρ2, β, H, Q, hi, hl, .cons r rs, e, q => by
    refine ⟨_, _, rfl, ?_⟩
    refine gok_names (fun j hj => hi j (List.mem_cons_of_mem _ hj)) (hl.set (v := .dat d) r) rs e fun σ2 h2 e2 => q σ2 h2 ?_
    rw [e2, wipe_set (hi i List.mem_cons_self)]
  | [], _ :: _, _, _, _, _, _, _, _, _, _, _, e, _ => by cases e
  | _ :: _, [], _, _, _, _, _, _, _, _, _, _, e, _ => by cases e
theorem setAll_len : ∀ {is : List Nat} {ds : List PyData} {ρ ρ2 : Loc}, setAll ρ is ds = some ρ2 → ds.length = is.length
  | [], [], _, _, _ => rfl
  | i :: _, d :: _, ρ, _, e => congrArg (· + 1) (setAll_len (ρ := ρ.set i (some (.dat d))) e)
  | [], _ :: _, _, _, e => by cases e
  | _ :: _, [], _, _, e => by cases e
theorem gok_tup {G : Cf} {n : Nat} {is vs : List Nat} (hn : n = is.length) (h : ∀ i ∈ is, i ∈ vs) : GOk G (gTup G.K n (gNames is)) (gmTup is) vs := fun x v σ ρ ρ2 β H Q hl r e q => by
  cases v with
  | ref m => cases e
  | scr m => cases e
  | exo m m2 => cases e
  | dat p =>
    cases p with
    | tuple ds =>
      cases r with
      | @tup a xs _ ht hz d =>
        have e : setAll ρ is ds = some ρ2 := e
        exact ⟨a, xs, rfl, ht, by rw [d.len, setAll_len e, hn], gok_names h hl d e q⟩
    | _ => cases e
open Classical in
noncomputable def compM (c : Src) (gm : Vl → Loc → Option Loc) (t : MT) (e : ME) (ρ0 : Loc) : List Vl → List Vl → Sto → R (List Vl)
  | [], acc, s => if c.ok s then .ok acc s else .bad
  | v :: r, acc, s => if c.ok s then (match gm v ρ0 with
    | none => .bad
    | some ρ2 => match t ρ2 s with
      | .ok true s1 => (match e ρ2 s1 with
        | .ok y s2 => if acc.length < sizeLine then compM c gm t e ρ0 r (acc ++ [y]) s2 else .bad
        | _ => .bad)
      | .ok false s1 => compM c gm t e ρ0 r acc s1
      | _ => .bad) else .bad
noncomputable def mLc0 (it : MI) (gm : Vl → Loc → Option Loc) (t : MT) (e : ME) (vs : List Nat) : Loc → Sto → R (List Vl) := fun ρ s => (it ρ s).bind fun c s1 => compM c gm t e (wipeM ρ vs) c.items [] s1
/-- a list that nobody turns -/
noncomputable def mLc (it : MI) (gm : Vl → Loc → Option Loc) (t : MT) (e : ME) (vs : List Nat) : ME := fun ρ s => (mLc0 it gm t e vs ρ s).bind fun acc s2 => R.of ((datas acc).map fun ds => .dat (.list ds)) s2
/-- a list of the store -/
noncomputable def mLcN (it : MI) (gm : Vl → Loc → Option Loc) (t : MT) (e : ME) (vs : List Nat) : ME := fun ρ s => (mLc0 it gm t e vs ρ s).bind fun acc s2 => .ok (.ref s2.length) (s2 ++ [.lst acc])
abbrev WF : WX := fun _ _ _ _ => False
def tYesM : MT := fun _ s => .ok true s
section
variable {X : Cx} {zx : Exo} {W : WX}
/-- all that a comprehension does -/
theorem lc_go {it : MI} {g : TG} {gm : Vl → Loc → Option Loc} {t : MT} {e : ME} {vs : List Nat} {σ : L2.St} {H : Hp} {Q : VK} (go : GOk (cf X zx) g gm vs)
    (q : ∃ β ρ s, RelL (cf X zx) H β ρ σ ∧ RelS (cf X zx) β s H ∧ Post (cf X zx) (fun H' β' acc (D : Addr) => D ∉ β'.b ∧ D ∉ β'.g ∧ acc.length ≤ sizeLine ∧ ∃ xs, H' D = some (.lst xs) ∧ Rvs (cf X zx) H' β' acc xs) W σ β H (fun D H' => Q (.ref D) H') (mLc0 it gm t e vs ρ s)) :
    tLc (tG (cf X zx) (rI (cf X zx)) W it) g (tG (cf X zx) rB WF t) (tG (cf X zx) (Rv (cf X zx)) WF e) vs σ H Q := by
  obtain ⟨β, ρ, s, hl, hs, hp⟩ := q
  refine ⟨β, ρ, s, hl, hs, Post.bind hp fun c s1 β1 H1 J st1 hs1 wm h1 => ?_⟩
  intro D hD
  have hl1 := hl.step st1
  refine ⟨fun i m H' => m = c.items.length - i ∧ i ≤ c.items.length ∧ ∃ β' s' acc xs, Step β1 H1 β' H' ∧ D ∈ β'.g ∧ (∀ x ∈ β1.g, x ∈ β'.g) ∧ RelS (cf X zx) β' s' H' ∧ RelL (cf X zx) H' β' (wipeM ρ vs) (L2.wipe σ vs) ∧ H' D = some (.lst xs) ∧ acc.length ≤ sizeLine ∧ Rvs (cf X zx) H' β' acc xs ∧
      Post (cf X zx) (fun H' β' acc (D : Addr) => D ∉ β'.b ∧ D ∉ β'.g ∧ acc.length ≤ sizeLine ∧ ∃ xs, H' D = some (.lst xs) ∧ Rvs (cf X zx) H' β' acc xs) W σ β1 H1 (fun D H' => Q (.ref D) H') (compM c gm t e (wipeM ρ vs) (c.items.drop i) acc s'),
    ⟨_, rfl, Nat.zero_le _, β1.add D, s1, [], [], Step.add hD, List.mem_cons_self, fun x hx => List.mem_cons_of_mem _ hx, hs1.add hD, (hl1.wipe vs).step (Step.add hD), upd_same, Nat.zero_le _, .nil, h1⟩, ?_⟩
  rintro i m H' ⟨rfl, hi, β', s', acc, xs, st', hDg, hsub, hs', hl', hDx, hlen, racc, q'⟩
  by_cases hlt : i < c.items.length
  · rw [List.drop_eq_getElem_cons hlt, compM] at q'
    by_cases ok : c.ok s'
    rotate_left
    · rw [if_neg ok] at q'; exact q'.elim
    rw [if_pos ok] at q'
    refine .inr ⟨wm.go i β' s' H' hlt st' hs' ok, fun H2 => i + 1 ≤ c.items.length ∧ ∃ β' s' acc xs, Step β1 H1 β' H2 ∧ D ∈ β'.g ∧ (∀ x ∈ β1.g, x ∈ β'.g) ∧ RelS (cf X zx) β' s' H2 ∧ RelL (cf X zx) H2 β' (wipeM ρ vs) (L2.wipe σ vs) ∧ H2 D = some (.lst xs) ∧ acc.length ≤ sizeLine ∧ Rvs (cf X zx) H2 β' acc xs ∧
      Post (cf X zx) (fun H' β' acc (D : Addr) => D ∉ β'.b ∧ D ∉ β'.g ∧ acc.length ≤ sizeLine ∧ ∃ xs, H' D = some (.lst xs) ∧ Rvs (cf X zx) H' β' acc xs) W σ β1 H1 (fun D H' => Q (.ref D) H') (compM c gm t e (wipeM ρ vs) (c.items.drop (i + 1)) acc s'),
      fun H2 h2 => ⟨_, by omega, rfl, h2.1, h2.2⟩, fun x H2 y => ?_⟩
    obtain ⟨sm, v, hv, rv⟩ := wm.yld i β' s' H' x H2 hlt st' hs' ok y
    rw [List.getElem?_eq_getElem hlt] at hv
    cases hv
    have st2 : Step β' H' β' H2 := Step.same sm
    generalize c.items[i] = v at q' rv
    cases eg : gm v (wipeM ρ vs) with
    | none => rw [eg] at q'; exact q'.elim
    | some ρ2 =>
      rw [eg] at q'
      dsimp only at q'
      refine go x v _ _ ρ2 β' H2 _ (hl'.step st2) rv eg fun σ2 hl2 ew => ⟨by rw [ew, wipe_wipe fun i hi => hi], β', ρ2, s', hl2, hs'.same sm, ?_⟩
      have fin : ∀ β4 s4 H4, Step β' H2 β4 H4 → RelS (cf X zx) β4 s4 H4 → Step β1 H1 β4 H4 ∧ D ∈ β4.g ∧ (∀ x ∈ β1.g, x ∈ β4.g) ∧ RelL (cf X zx) H4 β4 (wipeM ρ vs) (L2.wipe σ vs) ∧ H4 D = some (.lst xs) ∧ Rvs (cf X zx) H4 β4 acc xs := fun β4 s4 H4 st4 hs4 =>
        ⟨(st'.trans st2).trans st4, st4.gsub D hDg, fun x hx => st4.gsub x (hsub x hx), (hl'.step st2).step st4, st4.keep _ _ (sm _ _ hDx) (hs'.gs D hDg).2, st4.rvs (st2.rvs racc)⟩
      cases et : t ρ2 s' with
      | bad => rw [et] at q'; exact q'.elim
      | ex x1 s3 => rw [et] at q'; exact q'.elim
      | ok b s3 =>
        rw [et] at q'
        intro β3 H3 b' st3 hs3 eb
        cases (show b = b' from eb)
        cases b with
        | false =>
          dsimp only at q'
          refine iteF ?_
          obtain ⟨f1, f2, f3, f4, f5, f6⟩ := fin β3 s3 H3 st3 hs3
          exact ⟨hlt, β3, s3, acc, xs, f1, f2, f3, hs3, f4, f5, hlen, f6, q'⟩
        | true =>
          dsimp only at q'
          refine iteT ⟨β3, ρ2, s3, hl2.step st3, hs3, ?_⟩
          cases ee : e ρ2 s3 with
          | bad => rw [ee] at q'; exact q'.elim
          | ex x1 s4 => rw [ee] at q'; exact q'.elim
          | ok y1 s4 =>
            rw [ee] at q'
            dsimp only at q'
            intro β4 H4 u st4 hs4 ru
            by_cases hal : acc.length < sizeLine
            rotate_left
            · rw [if_neg hal] at q'; exact q'.elim
            rw [if_pos hal] at q'
            obtain ⟨f1, f2, f3, f4, f5, f6⟩ := fin β4 s4 H4 (st3.trans st4) hs4
            refine ⟨xs, f5, by rw [← f6.len]; exact hal, hlt, β4, s4, acc ++ [y1], xs ++ [u], ?_⟩
            have gp : Gp β4 H4 D := ⟨f2, _, f5⟩
            refine ⟨⟨f1.pre, f1.gsub, f1.gam, f1.new, fun a o h n => ?_, fun a o h => ?_, fun a o w h => ?_, fun a o h => ?_⟩, f2, f3, gp.rs hs4, gp.rl f4, upd_same, by simp; omega, (gp.rvs f6).append (.cons (gp.rv ru) .nil), q'⟩
            · rw [upd_ne (ne_of_none h hD)]; exact f1.keep a o h n
            · rw [upd_ne (ne_of_none h hD)]; exact f1.tups a o h
            · rw [upd_ne (ne_of_none h hD)]; exact f1.frzs a o w h
            · rw [upd_ne (ne_of_none h hD)]; exact f1.liv a o h
  · have ei : i = c.items.length := by omega
    subst ei
    rw [List.drop_length, compM] at q'
    by_cases ok : c.ok s'
    rotate_left
    · rw [if_neg ok] at q'; exact q'.elim
    rw [if_pos ok] at q'
    refine .inl ⟨wm.stop β' s' H' st' hs' ok, ?_⟩
    have hb : D ∉ β'.b := (hs'.gs D hDg).2
    have stq : Step β1 H1 ⟨β'.b, β1.g⟩ H' := ⟨st'.pre, fun _ h => h, fun _ h => .inl h, st'.new, st'.keep, st'.tups, st'.frzs, st'.liv⟩
    exact q' ⟨β'.b, β1.g⟩ H' D stq (RelS.drop (g := β'.g) hsub hs') ⟨hb, hs1.nig hD, hlen, xs, hDx, Rvs.drop (g := β'.g) hsub racc⟩
theorem de_lc {elt tg iter : Expr} {ifs : List Expr} {scope : Scope} {own : List (Str × Nat)} {pos : Pos} {it : MI} {g : TG} {gm : Vl → Loc → Option Loc} {t : MT} {e : ME} (hc : X.calm = true) (hN : X.N.Nodup) (hi : DI X zx W tg iter it) (ok : BlkOk X.N X.env.scope scope own) (go : GOk (cf X zx) g gm (own.map (·.2)))
    (hg : ∀ (s : Shared) (H : Hp) (C : Addr) (cl : List (Str × Addr)) (fp : List Addr), PG (X.blk s H scope (compEnvC scope cl C X.env) fp) tg g) (ht : ∀ (s : Shared) (H : Hp) (C : Addr) (cl : List (Str × Addr)) (fp : List Addr), PTs (X.blk s H scope (compEnvC scope cl C X.env) fp) ifs (tG (cf X zx) rB WF t))
    (he : ∀ (s : Shared) (H : Hp) (C : Addr) (cl : List (Str × Addr)) (fp : List Addr), PE (X.blk s H scope (compEnvC scope cl C X.env) fp) elt (tG (cf X zx) (Rv (cf X zx)) WF e)) (hs : ∀ x, foldedSetIterable iter X.env x = pure x := by intro _; rfl) :
    DE X zx W (.ListComp elt [⟨tg, iter, ifs, 0⟩] scope pos) (mLc it gm t e (own.map (·.2))) := PE.imp (pe_lc hc hN hi ok hg ht he hs) fun σ H Q q => by
  obtain ⟨β, ρ, s, hl, hs, hp⟩ := q
  refine lc_go go ⟨β, ρ, s, hl, hs, Post.bind hp fun acc s1 β1 H1 D st1 hs1 r1 h1 => ?_⟩
  obtain ⟨n1, n2, hlen, xs, hx, rx⟩ := r1
  cases ed : datas acc with
  | none => rw [ed] at h1; exact h1.elim
  | some ds =>
    rw [ed] at h1
    have ea := datas_eq ed
    rw [ea] at rx hlen
    exact h1 β1 H1 _ (Step.refl _ _) hs1 (Dq.lst ⟨hx, n1, n2⟩ (by simpa using hlen) (Rvs.undats rx))
end
end Pm
set_option maxRecDepth 100000
set_option maxHeartbeats 4000000
namespace Pm
open PySem PySem.Spec PyProof.Rows L2 Sw
/-! ### defs -/
abbrev MF := List Vl → Sto → R Vl
/-- what a def promises -/
def spD (G : Cf) (n : Nat) (g : MF) : Sp := fun vs H Q E => ∃ β s xs, RelS G β s H ∧ Rvs G H β xs vs ∧ xs.length = n ∧ Post G (Rv G) (fun c d _ H => E c d H) [] β H Q (g xs s)
structure FnD (P : Program) (w : World) (K : PySem.W.Frag) (mg : Str → Option Value) (base : Heap) (k : Nat) (f : Addr) (fd : FuncData) (ps : List Str) (g : MF) : Prop where
  goes : ∀ (A : Around) (outer : List Env) (s : Shared) (H : Hp) (args : Args) (us : List Value) (vs : List V) (Q : VK) (E : XK), A.guards = some [] →
    Room k A → Env0 P w K mg base A outer s H → BindsTo s fd args (ps.zip us) → Vals vs us → spD ⟨K, mg, none⟩ ps.length g vs H Q E → codeAny (model P w) A (.call (.ref f) args) (CR (L2.CX P w) outer P w H s Q E) s
def startM (n : Nat) (xs : List Vl) : Loc := xs.map some ++ List.replicate (n - xs.length) none
def Fl.fin (f : Fl) : R Vl := match f with
  | .nx _ s => .ok (.dat .none) s
  | .rt v s => .ok v s
  | .ex x _ s => .ex x s
  | _ => .bad
@[simp] theorem Fl.fin_nx (ρ : Loc) (s : Sto) : (Fl.nx ρ s).fin = .ok (.dat .none) s := rfl
@[simp] theorem Fl.fin_rt (v : Vl) (s : Sto) : (Fl.rt v s).fin = .ok v s := rfl
@[simp] theorem Fl.fin_ex (x : Exn) (ρ : Loc) (s : Sto) : (Fl.ex x ρ s).fin = .ex x s := rfl
def runM (n : Nat) (b : MS) : MF := fun xs s => (b (startM n xs) s).fin
theorem start_rel {G : Cf} {H : Hp} {β : Bs} {N : List Str} {xs : List Vl} {vs : List V} (r : Rvs G H β xs vs) : RelL G H β (startM N.length xs) (start N vs) := by
  have hl := r.len
  refine ⟨by simp [startM, L2.start, hl], fun i v e => ?_⟩
  unfold startM at e
  unfold L2.start
  by_cases hi : i < xs.length
  · rw [List.getElem?_append_left (by simpa using hi), List.getElem?_map] at e
    obtain ⟨y, h1, h2⟩ := Option.map_eq_some_iff.mp e
    cases h2
    obtain ⟨u, h3, h4⟩ := Rvs.get' r h1
    refine ⟨u, ?_, h4⟩
    rw [List.getElem?_append_left (by simp; omega), List.getElem?_map, h3]
    rfl
  · rw [List.getElem?_append_right (by simp; omega)] at e
    have := List.mem_of_getElem? e
    simp at this
theorem post_fin {G : Cf} {E : XK} {β : Bs} {H : Hp} {Q : VK} {f : Fl} (h : Post G (Rv G) (fun c d _ H => E c d H) [] β H Q f.fin) : PostS G (fun c d _ H => E c d H) β H { nx := fun _ H' => Q .non H', rt := Q } f := by
  cases f with
  | nx ρ s => exact fun β' σ' H' st _ hs => h β' H' .non st hs .non
  | rt v s => exact h
  | ex x ρ s => exact fun β' σ' H' c d st _ hs r => h β' H' c d st hs r
  | bk ρ s => exact h.elim
  | ct ρ s => exact h.elim
  | bad => exact h.elim
section
variable {P : Program} {w : World} {K : PySem.W.Frag} {mg : Str → Option Value} {base : Heap}
theorem fnD_of {x qual : Str} {st : Stmt} {f : Addr} {fd : FuncData} {N ps : List Str} {k : Nat} {b : MS} (F : Fun K x qual st f fd) (S : FnScope N ps (defScope st))
    (hb : ∀ (cdv : Value) (A : Around) (outer : List Env) (s : Shared) (H : Hp) (E : XK), A.guards = some [] → Room k (A.deeper (envOfC qual (defScope st) s.heap.objs.size f cdv)) →
      DSs (cxOf (L2.CX P w) P w K mg base N qual (defScope st) f cdv A outer s H E) none (fun c d _ H => E c d H) (defBody st) b) : FnD P w K mg base (k + 1) f fd ps (runM N.length b) := by
  refine ⟨fun A outer s H args us vs Q E hg hr e0 bd r hsp => ?_⟩
  obtain ⟨oc, od, kV, doc, pm, an, cdv, ct, osl, rfl, lk, hcd⟩ := F.ex
  obtain ⟨β, st0, xs, hs, rx, hlen, hp⟩ := hsp
  have ht := hb cdv A outer s H E hg (hr.deeper _)
  have hvl : vs.length = ps.length := by rw [← rx.len]; exact hlen
  have kin : K.In s.heap := e0.mod.kin.keeps fun b o e => (e0.bs b o e).1
  refine codeAny_call_function hr.depth (kin _ _ lk) rfl S.co S.gen rfl (PySem.W.codeRec_of kin hcd) (bd _ _ _ _ ?_)
  refine wpAny_newFunctionEnv_cells S.kind ?_ fun env he s1 x => ?_
  · rintro ⟨n, v⟩ hy
    rcases S.par n (List.of_mem_zip hy).1 with q | q
    · exact .inl q
    · exact .inr ⟨q, PySem.W.cellsFrom_some _ _ _ (.inl q)⟩
  · subst he
    refine ⟨(e0.mod.nolimit.keeps fun b o e => (e0.bs b o e).1).keeps x.toInCall.keep, codeAny_func ?_⟩
    refine wpAny_mono (ht.run [] s1 (start N vs) H { nx := fun _ H' => Q .non H', rt := Q } (inv_start S hr.hd e0 hvl r x) ⟨β, startM N.length xs, st0, start_rel rx, hs, post_fin hp⟩) (fun fl s' hs => ?_) fun e s' hs => hs
    cases fl with
    | ret u =>
      obtain ⟨v, σ', H', J, rv, q⟩ := hs
      exact ⟨v, H', J.os, J.bare, J.base, J.hok, rv, q⟩
    | next =>
      obtain ⟨σ', H', J, q⟩ := hs
      exact ⟨V.non, H', J.os, J.bare, J.base, J.hok, rfl, q⟩
    | brk =>
      obtain ⟨_, _, _, q⟩ := hs
      exact q.elim
    | cont =>
      obtain ⟨_, _, _, q⟩ := hs
      exact q.elim
theorem FnD.mono {f : Addr} {fd : FuncData} {ps : List Str} {j k : Nat} {g : MF} (F : FnD P w K mg base j f fd ps g) (h : j ≤ k) : FnD P w K mg base k f fd ps g := ⟨fun A outer s H args us vs Q E hg hr => F.goes A outer s H args us vs Q E hg (hr.mono h)⟩
end
theorem RelS.oz {K : PySem.W.Frag} {mg : Str → Option Value} {z z' : Exo} {β : Bs} {s : Sto} {H : Hp} (h : RelS ⟨K, mg, z⟩ β s H) : RelS ⟨K, mg, z'⟩ β s H := ⟨h.len, h.nd, h.ob, h.gs⟩
theorem post_oz {K : PySem.W.Frag} {mg : Str → Option Value} {z : Exo} {W : WX} {σ : L2.St} {β : Bs} {H : Hp} {Q : VK} {r : R Vl} (h : Post ⟨K, mg, z⟩ (Rv ⟨K, mg, z⟩) W σ β H Q r) : Post ⟨K, mg, none⟩ (Rv ⟨K, mg, none⟩) (fun c d _ H' => W c d σ H') [] β H Q r := by
  cases r with
  | ok v s => exact fun β' H' u st hs rv => h β' H' u st hs.oz (Rv.up rv)
  | ex x s => exact fun β' H' c d st hs rx => h β' H' c d st hs.oz rx
  | bad => exact h
/-- a call with so many arguments -/
def mCall (n : Nat) (g : MF) (r : MA) : ME := fun ρ s => (r ρ s).bind fun vs s1 => if vs.length = n ∧ vs.all noX = true then g vs s1 else .bad
section
variable {X : Cx} {zx : Exo} {W : WX} {k : Nat} {f : Addr} {fd : FuncData} {ps : List Str} {g : MF} {x : Str} {p pos : Pos} {e : Expr} {es : List Expr} {r : MA}
theorem call_run {pins : List (Addr × Obj)} {σ : L2.St} {H : Hp} {s : Shared} {Q : VK} {us : List Value} {vs : List V} (hG : X.A.guards = some []) (F : FnD X.prog X.w X.K X.mg X.base k f fd ps g) (hr : Room k X.A) (hb : Binds X.K fd ps []) (tk : Takes X W)
    (I : Inv X pins σ H s) (rv : Vals vs us) (h : spD (cf X none) ps.length g vs H Q (fun c d H' => W c d σ H')) : wpAny (model X.prog X.w) X.A (call (.ref f) us) (EP X pins σ Q) X.xe s := by
  have hvl : vs.length = ps.length := by
    obtain ⟨β, s0, xs, _, rx, hlen, _⟩ := h
    rw [← rx.len]; exact hlen
  have bd := hb s us I.kIn (by rw [List.append_nil, ← rv.length]; exact hvl)
  rw [List.append_nil] at bd
  refine wpAny_call (codeAny_mono (F.goes X.A X.stack s H ⟨us, []⟩ us vs Q _ hG hr I.env0 bd rv h) fun fl s' hq => ?_)
  cases fl with
  | error e => exact tk e s' (XE.of_call I (fun _ _ _ h => h) hq)
  | ok fl =>
    cases fl with
    | ret u => exact I.after hq
    | next => exact False.elim hq
    | brk => exact False.elim hq
    | cont => exact False.elim hq
theorem de_call {n : Nat} (hG : X.A.guards = some []) (F : FnD X.prog X.w X.K X.mg X.base k f fd ps g) (hr : Room k X.A) (hb : Binds X.K fd ps []) (tk : Takes X W) (hg : Gl X x) (hm : X.mg x = some (.ref f)) (hk : PySem.W.keepIn X.K (.ref f) = true)
    (ha : DA X zx W (e :: es) r) (hdb : (x == ("__debug__" : Str)) = false := by decide) (he : starEach (e :: es) X.env = (false, eval e X.env) :: starEach es X.env := by rfl) (hpl : (backTo pos (starEach es X.env)).any (·.1) = false := by rfl) (hn : ps.length = n := by rfl) :
    DE X zx W (.Call (.Name x p) (e :: es) [] pos) (mCall n g r) := by
  subst hn
  refine ⟨fun pins s0 σ H Q I hq => ?_⟩
  obtain ⟨β, ρ, s, hl, hs, hp⟩ := hq
  refine wpAny_Call_Name_kw (ld_glob I hg hm (PySem.W.callWith_K (h₀ := X.base) I.ok.mod.kin hk ?_ he hpl) hdb)
  refine thn (ha.run pos pins s0 σ H (fun vs H1 => spD (cf X none) ps.length g vs H1 Q (fun c d H' => W c d σ H')) I ⟨β, ρ, s, hl, hs, Post.bind hp fun vs s1 β1 H1 us st1 hs1 r1 h1 => ?_⟩) fun us s1 hh => ?_
  · split at h1
    · rename_i hlen
      exact ⟨β1, s1, vs, hs1.oz, Rvs.dn (G := cf X zx) hlen.2 r1, hlen.1, post_oz h1⟩
    · exact h1.elim
  · obtain ⟨vs, H1, I1, rv, q⟩ := hh
    exact ⟨I1.kIn, call_run hG F hr hb tk I1 rv q⟩
theorem de_call0 {F0 : Unit} (hG : X.A.guards = some []) (F : FnD X.prog X.w X.K X.mg X.base k f fd [] g) (hr : Room k X.A) (hb : Binds X.K fd [] []) (tk : Takes X W) (hg : Gl X x) (hm : X.mg x = some (.ref f)) (hk : PySem.W.keepIn X.K (.ref f) = true)
    (hdb : (x == ("__debug__" : Str)) = false := by decide) : DE X zx W (.Call (.Name x p) [] [] pos) (mCall 0 g aNil) := by
  refine ⟨fun pins s0 σ H Q I hq => ?_⟩
  obtain ⟨β, ρ, s, hl, hs, hp⟩ := hq
  refine wpAny_Call_Name_kw (ld_glob I hg hm (PySem.W.callWith_K0 I.kIn hk ?_) hdb)
  have hp : Post (cf X zx) (Rv (cf X zx)) W σ β H Q (if ([] : List Vl).length = 0 ∧ ([] : List Vl).all noX = true then g [] s else .bad) := hp
  rw [if_pos ⟨rfl, rfl⟩] at hp
  exact call_run (us := []) (vs := []) hG F hr hb tk I .nil ⟨β, s, [], hs.oz, .nil, rfl, post_oz hp⟩
end
/-! ### another function that tells the same -/
/-- the same ends, where the second one is not bad -/
theorem FnD.imp {P : Program} {w : World} {K : PySem.W.Frag} {mg : Str → Option Value} {base : Heap} {f : Addr} {fd : FuncData} {ps : List Str} {k : Nat} {g g' : MF} (F : FnD P w K mg base k f fd ps g) (h : ∀ xs s, g' xs s ≠ .bad → g xs s = g' xs s) : FnD P w K mg base k f fd ps g' :=
  ⟨fun A outer s H args us vs Q E hg hr e0 bd r ⟨β, s0, xs, hs, rx, hl, hp⟩ => F.goes A outer s H args us vs Q E hg hr e0 bd r ⟨β, s0, xs, hs, rx, hl, by
    rw [h xs s0 (fun z => by rw [z] at hp; exact hp)]
    exact hp⟩⟩
end Pm
set_option maxRecDepth 100000
set_option maxHeartbeats 4000000
namespace Pm
open PySem PySem.Spec PyProof.Rows L2 Sw
/-! ### own rules below the machine -/
section
variable {X : Cx} {zx : Exo}
def rNum (f : Int → Int → Int) : R2 := fun x y H Q => ∃ j, y = .int j ∧ ((∃ i, x = .int i ∧ Q (.int (f i j)) H) ∨ ∃ b : Bool, x = .bl b ∧ Q (.int (f (if b = true then 1 else 0) j)) H)
theorem op_addB : OpR X (binaryOp .Add) (rNum fun i j => i + j) := by
  intro pins s σ H x y v u Q I rx ry h
  obtain ⟨j, rfl, h⟩ := h
  obtain ⟨t', rfl⟩ := ry
  rcases h with ⟨i, rfl, q⟩ | ⟨b, rfl, q⟩
  · obtain ⟨t, rfl⟩ := rx
    exact add_int ⟨.int _, H, I.tok _, ⟨_, rfl⟩, q⟩
  · cases (show v = Value.bool b from rx)
    exact PySem.IntBool.add_bool_int ⟨.int _, H, I.tok _, ⟨_, rfl⟩, q⟩
theorem op_subB : OpR X (binaryOp .Sub) (rNum fun i j => i - j) := by
  intro pins s σ H x y v u Q I rx ry h
  obtain ⟨j, rfl, h⟩ := h
  obtain ⟨t', rfl⟩ := ry
  rcases h with ⟨i, rfl, q⟩ | ⟨b, rfl, q⟩
  · obtain ⟨t, rfl⟩ := rx
    exact sub_int ⟨.int _, H, I.tok _, ⟨_, rfl⟩, q⟩
  · cases (show v = Value.bool b from rx)
    exact PySem.IntBool.sub_bool_int ⟨.int _, H, I.tok _, ⟨_, rfl⟩, q⟩
theorem gives_neg_bool (b : Bool) : Gives (Builtin.«int.__neg__» ⟨[.bool b], []⟩) (.int (-(if b = true then 1 else 0))) := by
  cases b <;> exact .of_eq rfl
theorem un_negB : UnR X (unaryOp .USub) (fun x H Q => (∃ i, x = .int i ∧ Q (.int (-i)) H) ∨ ∃ b : Bool, x = .bl b ∧ Q (.int (-(if b = true then 1 else 0))) H) := by
  intro pins s σ H x v Q I rx h
  rcases h with ⟨i, rfl, q⟩ | ⟨b, rfl, q⟩
  · obtain ⟨t, rfl⟩ := rx
    exact PyProof.Rows.neg_int ⟨.int _, H, I.tok _, ⟨_, rfl⟩, q⟩
  · cases (show v = Value.bool b from rx)
    exact unaryOp_gives (op := .USub) (T := "bool") rfl rfl PySem.F.slot_bool_neg PySem.F.entry_int_neg (PySem.F.args_int_neg_1 _) (gives_neg_bool b) ⟨.int _, H, I.tok _, ⟨_, rfl⟩, q⟩
def rNotB2 : R2 := fun x y H Q => ∃ b : Bool, y = .bl b ∧ ((∃ i, x = .int i ∧ Q (.bl true) H) ∨ ∃ a, x = .bl a ∧ Q (.bl (!decide (a = b))) H)
theorem op_notB2 {X : Cx} : OpR X (compareOp .IsNot) rNotB2 := by
  intro pins s σ H x y v u Q I rx ry h
  obtain ⟨b, rfl, h⟩ := h
  cases (show u = Value.bool b from ry)
  rcases h with ⟨i, rfl, q⟩ | ⟨a, rfl, q⟩
  · obtain ⟨t, rfl⟩ := rx
    exact wpAny_isNot_other rfl (fun z => by cases z) ⟨.bl true, H, I, rfl, q⟩
  · cases (show v = Value.bool a from rx)
    by_cases e : a = b
    · subst e
      exact wpAny_isNot_self rfl ⟨.bl false, H, I, rfl, by simpa using q⟩
    · exact wpAny_isNot_other rfl (fun z => e (Value.bool.inj z)) ⟨.bl true, H, I, rfl, by simpa [e] using q⟩
theorem get_list : PGet X (fun o i H Q => ∃ p xs k v, o = .ref p ∧ i = .int k ∧ 0 ≤ k ∧ SqL X.K H p xs ∧ xs[k.toNat]? = some v ∧ Q v H) := by
  intro pins s σ H o i ov iv Q I ro ri h
  obtain ⟨p, xs, k, v, rfl, rfl, h0, hq, he, q⟩ := h
  cases ro
  obtain ⟨t, rfl⟩ := ri
  obtain ⟨its, r, pl, hz⟩ := I.list hq
  obtain ⟨u, eu, ru⟩ := r.get he
  have hl := (List.getElem?_eq_some_iff.mp he).1
  have hn := line63
  exact wpAny_getItem_list pl.isList h0 (by omega) (by simpa using eu) ⟨v, H, I, ru, q⟩
end
/-! ### reckoning -/
def b2 (b : Bool) : Int := if b = true then 1 else 0
def mil : Nat := 1000000
theorem mil_le {n : Nat} (h : n ≤ mil) : n ≤ sizeLine := by
  have : n ≤ 1000000 := h
  rw [sizeLine_eq]; omega
def phAdd : Vl → Vl → Sto → Option Vl
  | .dat (.int i), .dat (.int j), _ => some (.dat (.int (i + j)))
  | .dat (.bool b), .dat (.int j), _ => some (.dat (.int (b2 b + j)))
  | .dat (.str x), .dat (.str y), _ => if x.length + y.length ≤ mil then some (.dat (.str (x ++ y))) else none
  | .dat (.tuple x), .dat (.tuple y), _ => if x.length + y.length ≤ mil then some (.dat (.tuple (x ++ y))) else none
  | .dat (.list x), .dat (.list y), _ => if x.length + y.length ≤ mil then some (.dat (.list (x ++ y))) else none
  | _, _, _ => none
def phSub : Vl → Vl → Sto → Option Vl
  | .dat (.int i), .dat (.int j), _ => some (.dat (.int (i - j)))
  | .dat (.bool b), .dat (.int j), _ => some (.dat (.int (b2 b - j)))
  | _, _, _ => none
open Classical in
noncomputable def phMul : Vl → Vl → Sto → Option Vl
  | .dat (.int i), .dat (.int j), _ => if CMul i j ∨ CMulW i j then some (.dat (.int (i * j))) else none
  | _, _, _ => none
open Classical in
noncomputable def phDiv : Vl → Vl → Sto → Option Vl
  | .dat (.int i), .dat (.int j), _ => if 0 < j ∧ j < 1073741824 then some (.dat (.int (i / j))) else none
  | _, _, _ => none
def phMod : Vl → Vl → Sto → Option Vl
  | .dat (.int i), .dat (.int j), _ => if 0 < j then some (.dat (.int (i % j))) else none
  | _, _, _ => none
def phPow : Vl → Vl → Sto → Option Vl
  | .dat (.int i), .dat (.int j), _ => if 0 ≤ j ∧ j ≤ 1000000 ∧ i.natAbs < 2 ^ 64 then some (.dat (.int (i ^ j.toNat))) else none
  | _, _, _ => none
def phNeg : Vl → Sto → Option Vl
  | .dat (.int i), _ => some (.dat (.int (-i)))
  | .dat (.bool b), _ => some (.dat (.int (-(b2 b))))
  | _, _ => none
theorem str_cat_len (x y : Str) : (x ++ y).length = x.length + y.length := by
  show (x.cps ++ y.cps).size = _
  rw [Array.size_append]
  rfl
section
variable {X : Cx} {zx : Exo}
theorem mo_add : OpR X (binaryOp .Add) (r2 (cf X zx) phAdd) := by
  intro pins s σ H x y v u Q I rx ry h
  obtain ⟨β, st, a, b, z, hs, ra, rb, e, q⟩ := h
  unfold phAdd at e
  split at e
  · cases e; cases ra; cases rb
    exact op_add pins s σ H _ _ v u Q I rx ry ⟨_, _, rfl, rfl, q H _ (Same.refl H) (.int _)⟩
  · cases e; cases ra; cases rb
    exact op_addB pins s σ H _ _ v u Q I rx ry ⟨_, rfl, .inr ⟨_, rfl, q H _ (Same.refl H) (.int _)⟩⟩
  · split at e
    · rename_i hl
      cases e
      cases ra with
      | str hx =>
        cases rb with
        | str hy => exact op_add_str pins s σ H _ _ v u Q I rx ry ⟨_, _, rfl, rfl, mil_le hl, q H _ (Same.refl H) (.str (by rw [str_cat_len]; exact mil_le hl))⟩
    · cases e
  · split at e
    · rename_i hl
      cases e
      cases ra with
      | @tup a xs ds hx hz dx =>
        cases rb with
        | @tup b ys es hy hz2 dy =>
          have l1 := dx.len
          have l2 := dy.len
          refine op_catA pins s σ H _ _ v u Q I rx ry ⟨a, b, xs, ys, rfl, rfl, hx, hy, by rw [l1, l2]; exact mil_le hl, fun e => ?_, fun _ e => ?_, fun _ _ p hp => ?_⟩
          · subst e
            cases dx
            exact q H _ (Same.refl H) (.tup hy hz2 dy)
          · subst e
            cases dy
            exact q H _ (Same.refl H) (by rw [List.append_nil]; exact .tup hx hz dx)
          · exact q _ _ (same_new hp) (.tup (SqT.of upd_same) (by rw [List.length_append]; exact mil_le hl) ((Step.lay hp).dqs (dx.append dy)))
    · cases e
  · split at e
    · rename_i hl
      cases e
      cases ra with
      | @lst a xs ds hx hz dx =>
        cases rb with
        | @lst b ys es hy hz2 dy =>
          have l1 := dx.len
          have l2 := dy.len
          refine op_cat pins s σ H _ _ v u Q I rx ry ⟨a, b, xs, ys, rfl, rfl, hx.1, hy.1, by rw [l1, l2]; exact mil_le hl, fun p hp => ?_⟩
          exact q _ _ (same_new hp) (.lst ⟨upd_same, hs.nin hp, hs.nig hp⟩ (by rw [List.length_append]; exact mil_le hl) ((Step.lay hp).dqs (dx.append dy)))
    · cases e
  · cases e
theorem mo_sub : OpR X (binaryOp .Sub) (r2 (cf X zx) phSub) := by
  intro pins s σ H x y v u Q I rx ry h
  obtain ⟨β, st, a, b, z, hs, ra, rb, e, q⟩ := h
  unfold phSub at e
  split at e
  · cases e; cases ra; cases rb
    exact op_sub pins s σ H _ _ v u Q I rx ry ⟨_, _, rfl, rfl, q H _ (Same.refl H) (.int _)⟩
  · cases e; cases ra; cases rb
    exact op_subB pins s σ H _ _ v u Q I rx ry ⟨_, rfl, .inr ⟨_, rfl, q H _ (Same.refl H) (.int _)⟩⟩
  · cases e
theorem mo_mul : OpR X (binaryOp .Mult) (r2 (cf X zx) phMul) := by
  intro pins s σ H x y v u Q I rx ry h
  obtain ⟨β, st, a, b, z, hs, ra, rb, e, q⟩ := h
  unfold phMul at e
  split at e
  · split at e
    · rename_i hc
      cases e; cases ra; cases rb
      rcases hc with hc | hc
      · exact op_mul pins s σ H _ _ v u Q I rx ry ⟨_, _, rfl, rfl, hc, q H _ (Same.refl H) (.int _)⟩
      · exact op_mulW pins s σ H _ _ v u Q I rx ry ⟨_, _, rfl, rfl, hc, q H _ (Same.refl H) (.int _)⟩
    · cases e
  · cases e
theorem mo_div : OpR X (binaryOp .FloorDiv) (r2 (cf X zx) phDiv) := by
  intro pins s σ H x y v u Q I rx ry h
  obtain ⟨β, st, a, b, z, hs, ra, rb, e, q⟩ := h
  unfold phDiv at e
  split at e
  · split at e
    · rename_i hc
      cases e; cases ra; cases rb
      exact op_fdiv pins s σ H _ _ v u Q I rx ry ⟨_, _, rfl, rfl, hc, q H _ (Same.refl H) (.int _)⟩
    · cases e
  · cases e
theorem mo_mod : OpR X (binaryOp .Mod) (r2 (cf X zx) phMod) := by
  intro pins s σ H x y v u Q I rx ry h
  obtain ⟨β, st, a, b, z, hs, ra, rb, e, q⟩ := h
  unfold phMod at e
  split at e
  · split at e
    · rename_i hc
      cases e; cases ra; cases rb
      exact op_mod pins s σ H _ _ v u Q I rx ry ⟨_, _, rfl, rfl, hc, q H _ (Same.refl H) (.int _)⟩
    · cases e
  · cases e
theorem mo_pow : OpR X (binaryOp .Pow) (r2 (cf X zx) phPow) := by
  intro pins s σ H x y v u Q I rx ry h
  obtain ⟨β, st, a, b, z, hs, ra, rb, e, q⟩ := h
  unfold phPow at e
  split at e
  · split at e
    · rename_i hc
      cases e; cases ra; cases rb
      exact op_pow pins s σ H _ _ v u Q I rx ry ⟨_, _, rfl, rfl, hc, q H _ (Same.refl H) (.int _)⟩
    · cases e
  · cases e
theorem mu_neg : UnR X (unaryOp .USub) (r1 (cf X zx) phNeg) := by
  intro pins s σ H x v Q I rx h
  obtain ⟨β, st, a, z, hs, ra, e, q⟩ := h
  unfold phNeg at e
  split at e
  · cases e; cases ra
    exact un_negB pins s σ H _ v Q I rx (.inl ⟨_, rfl, q H _ (Same.refl H) (.int _)⟩)
  · cases e; cases ra
    exact un_negB pins s σ H _ v Q I rx (.inr ⟨_, rfl, q H _ (Same.refl H) (.int _)⟩)
  · cases e
end
/-! ### comparisons -/
def phEq : Vl → Vl → Sto → Option Vl
  | .dat (.str x), .dat (.str y), _ => some (.dat (.bool (decide (x = y))))
  | .dat a, .dat b, _ => if SeqAt.shaped a = true ∧ SeqAt.shaped b = true then some (.dat (.bool (PyData.eqv a b))) else none
  | _, _, _ => none
def phNe : Vl → Vl → Sto → Option Vl
  | .dat (.str x), .dat (.str y), _ => some (.dat (.bool (!decide (x = y))))
  | .dat a, .dat b, _ => if SeqAt.shaped a = true ∧ SeqAt.shaped b = true then some (.dat (.bool (!PyData.eqv a b))) else none
  | _, _, _ => none
def phCmp (p : Int → Int → Bool) (t : List Nat → List Nat → Bool) : Vl → Vl → Sto → Option Vl
  | .dat (.int i), .dat (.int j), _ => some (.dat (.bool (p i j)))
  | .dat (.str x), .dat (.str y), _ => some (.dat (.bool (t x.cps.toList y.cps.toList)))
  | _, _, _ => none
def phLt := phCmp (fun i j => decide (i < j)) (fun x y => decide (x < y))
def phLe := phCmp (fun i j => decide (i ≤ j)) (fun x y => !decide (y < x))
def phGt := phCmp (fun i j => decide (j < i)) (fun x y => decide (y < x))
def phGe := phCmp (fun i j => decide (j ≤ i)) (fun x y => !decide (x < y))
/-- is None, is True -/
def isD : PyData → PyData → Option Bool
  | .none, .none => some true
  | .bool _, .none => some false
  | .int _, .none => some false
  | .str _, .none => some false
  | .list _, .none => some false
  | .tuple _, .none => some false
  | .bool a, .bool b => some (decide (a = b))
  | .int _, .bool _ => some false
  | _, _ => none
def phIs : Vl → Vl → Sto → Option Vl
  | .dat a, .dat b, _ => (isD a b).map fun k => .dat (.bool k)
  | .ref _, .dat .none, _ => some (.dat (.bool false))
  | _, _, _ => none
def phIsNot : Vl → Vl → Sto → Option Vl
  | .dat a, .dat b, _ => (isD a b).map fun k => .dat (.bool (!k))
  | .ref _, .dat .none, _ => some (.dat (.bool true))
  | _, _, _ => none
section
variable {X : Cx} {zx : Exo}
theorem mo_eq (hu : X.A.units + 64 < cLine) : OpR X (compareOp .Eq) (r2 (cf X zx) phEq) := by
  intro pins s σ H x y v u Q I rx ry h
  obtain ⟨β, st, a, b, z, hs, ra, rb, e, q⟩ := h
  unfold phEq at e
  split at e
  · rename_i x1 x2
    cases e; cases ra; cases rb
    exact op_eq pins s σ H _ _ v u Q I rx ry ⟨rfl, by
      have ed : decide (V.str x1 = V.str x2) = decide (x1 = x2) := by simp
      rw [ed]
      exact q H _ (Same.refl H) (.bl _)⟩
  · split at e
    · rename_i hc
      cases e
      exact op_eqD hu pins s σ H _ _ v u Q I rx ry ⟨_, _, Dq.dp ra, Dq.dp rb, hc.1, hc.2, q H _ (Same.refl H) (.bl _)⟩
    · cases e
  · cases e
theorem mo_ne (hu : X.A.units + 64 < cLine) : OpR X (compareOp .NotEq) (r2 (cf X zx) phNe) := by
  intro pins s σ H x y v u Q I rx ry h
  obtain ⟨β, st, a, b, z, hs, ra, rb, e, q⟩ := h
  unfold phNe at e
  split at e
  · rename_i x1 x2
    cases e; cases ra; cases rb
    exact op_ne pins s σ H _ _ v u Q I rx ry ⟨rfl, by
      have ed : decide (V.str x1 = V.str x2) = decide (x1 = x2) := by simp
      rw [ed]
      exact q H _ (Same.refl H) (.bl _)⟩
  · split at e
    · rename_i hc
      cases e
      exact op_neD hu pins s σ H _ _ v u Q I rx ry ⟨_, _, Dq.dp ra, Dq.dp rb, hc.1, hc.2, q H _ (Same.refl H) (.bl _)⟩
    · cases e
  · cases e
theorem mo_lt : OpR X (compareOp .Lt) (r2 (cf X zx) phLt) := by
  intro pins s σ H x y v u Q I rx ry h
  obtain ⟨β, st, a, b, z, hs, ra, rb, e, q⟩ := h
  unfold phLt phCmp at e
  split at e
  · cases e; cases ra; cases rb
    exact op_lt pins s σ H _ _ v u Q I rx ry ⟨_, _, rfl, rfl, q H _ (Same.refl H) (.bl _)⟩
  · cases e; cases ra; cases rb
    exact op_lt_str pins s σ H _ _ v u Q I rx ry ⟨_, _, rfl, rfl, q H _ (Same.refl H) (.bl _)⟩
  · cases e
theorem mo_le : OpR X (compareOp .LtE) (r2 (cf X zx) phLe) := by
  intro pins s σ H x y v u Q I rx ry h
  obtain ⟨β, st, a, b, z, hs, ra, rb, e, q⟩ := h
  unfold phLe phCmp at e
  split at e
  · cases e; cases ra; cases rb
    exact op_le pins s σ H _ _ v u Q I rx ry ⟨_, _, rfl, rfl, q H _ (Same.refl H) (.bl _)⟩
  · cases e; cases ra; cases rb
    exact op_le_str pins s σ H _ _ v u Q I rx ry ⟨_, _, rfl, rfl, q H _ (Same.refl H) (.bl _)⟩
  · cases e
theorem mo_gt : OpR X (compareOp .Gt) (r2 (cf X zx) phGt) := by
  intro pins s σ H x y v u Q I rx ry h
  obtain ⟨β, st, a, b, z, hs, ra, rb, e, q⟩ := h
  unfold phGt phCmp at e
  split at e
  · cases e; cases ra; cases rb
    exact op_gt pins s σ H _ _ v u Q I rx ry ⟨_, _, rfl, rfl, q H _ (Same.refl H) (.bl _)⟩
  · cases e; cases ra; cases rb
    exact op_gt_str pins s σ H _ _ v u Q I rx ry ⟨_, _, rfl, rfl, q H _ (Same.refl H) (.bl _)⟩
  · cases e
theorem mo_ge : OpR X (compareOp .GtE) (r2 (cf X zx) phGe) := by
  intro pins s σ H x y v u Q I rx ry h
  obtain ⟨β, st, a, b, z, hs, ra, rb, e, q⟩ := h
  unfold phGe phCmp at e
  split at e
  · cases e; cases ra; cases rb
    exact op_ge pins s σ H _ _ v u Q I rx ry ⟨_, _, rfl, rfl, q H _ (Same.refl H) (.bl _)⟩
  · cases e; cases ra; cases rb
    exact op_ge_str pins s σ H _ _ v u Q I rx ry ⟨_, _, rfl, rfl, q H _ (Same.refl H) (.bl _)⟩
  · cases e
end
end Pm
set_option maxRecDepth 100000
set_option maxHeartbeats 4000000
namespace Pm
open PySem PySem.Spec PyProof.Rows L2 Sw
/-! ### is, is not -/
section
variable {X : Cx} {zx : Exo}
theorem mo_is : OpR X (compareOp .Is) (r2 (cf X zx) phIs) := by
  intro pins s σ H x y v u Q I rx ry h
  obtain ⟨β, st, a, b, z, hs, ra, rb, e, q⟩ := h
  have non : ∀ k : Bool, decide (x = V.non) = k → y = .non → (.dat (.bool k)) = z → wpAny (model X.prog X.w) X.A (compareOp .Is v u) (EP X pins σ Q) X.xe s := fun k h1 h2 h3 => by
    subst h3
    exact op_isN pins s σ H _ _ v u Q I rx ry ⟨h2, by rw [h1]; exact q H _ (Same.refl H) (.bl _)⟩
  unfold phIs at e
  split at e
  · rename_i d1 d2
    cases ei : isD d1 d2 with
    | none => rw [ei] at e; cases e
    | some k =>
      rw [ei] at e
      have e : (.dat (.bool k) : Vl) = z := by simpa using e
      unfold isD at ei
      split at ei
      · cases ei; cases ra; cases rb; exact non _ (by simp) rfl e
      · cases ei; cases ra; cases rb; exact non _ (by simp) rfl e
      · cases ei; cases ra; cases rb; exact non _ (by simp) rfl e
      · cases ei; cases ra; cases rb; exact non _ (by simp) rfl e
      · cases ei; cases ra; cases rb; exact non _ (by simp) rfl e
      · cases ei; cases ra; cases rb; exact non _ (by simp) rfl e
      · cases ei; cases ra; cases rb
        subst e
        exact op_isBl pins s σ H _ _ v u Q I rx ry ⟨_, _, rfl, rfl, q H _ (Same.refl H) (.bl _)⟩
      · cases ei; cases ra; cases rb
        subst e
        obtain ⟨t, rfl⟩ := rx
        rename_i i b
        cases (show u = Value.bool b from ry)
        exact wpAny_is_other rfl (fun z => by cases z) ⟨.bl false, H, I, rfl, q H _ (Same.refl H) (.bl _)⟩
      · cases ei
  · cases e
    obtain ⟨a, ha, rfl⟩ := ra
    cases rb
    exact non false (by simp) rfl rfl
  · cases e
theorem mo_isNot : OpR X (compareOp .IsNot) (r2 (cf X zx) phIsNot) := by
  intro pins s σ H x y v u Q I rx ry h
  obtain ⟨β, st, a, b, z, hs, ra, rb, e, q⟩ := h
  have non : ∀ k : Bool, decide (x = V.non) = k → y = .non → (.dat (.bool !k)) = z → wpAny (model X.prog X.w) X.A (compareOp .IsNot v u) (EP X pins σ Q) X.xe s := fun k h1 h2 h3 => by
    subst h3
    exact op_notN pins s σ H _ _ v u Q I rx ry ⟨h2, by rw [h1]; exact q H _ (Same.refl H) (.bl _)⟩
  unfold phIsNot at e
  split at e
  · rename_i d1 d2
    cases ei : isD d1 d2 with
    | none => rw [ei] at e; cases e
    | some k =>
      rw [ei] at e
      have e : (.dat (.bool !k) : Vl) = z := by simpa using e
      unfold isD at ei
      split at ei
      · cases ei; cases ra; cases rb; exact non _ (by simp) rfl e
      · cases ei; cases ra; cases rb; exact non _ (by simp) rfl e
      · cases ei; cases ra; cases rb; exact non _ (by simp) rfl e
      · cases ei; cases ra; cases rb; exact non _ (by simp) rfl e
      · cases ei; cases ra; cases rb; exact non _ (by simp) rfl e
      · cases ei; cases ra; cases rb; exact non _ (by simp) rfl e
      · cases ei; cases ra; cases rb
        subst e
        exact op_notB2 pins s σ H _ _ v u Q I rx ry ⟨_, rfl, .inr ⟨_, rfl, q H _ (Same.refl H) (.bl _)⟩⟩
      · cases ei; cases ra; cases rb
        subst e
        exact op_notB2 pins s σ H _ _ v u Q I rx ry ⟨_, rfl, .inl ⟨_, rfl, q H _ (Same.refl H) (.bl _)⟩⟩
      · cases ei
  · cases e
    obtain ⟨a, ha, rfl⟩ := ra
    cases rb
    exact non false (by simp) rfl rfl
  · cases e
end
/-! ### in, not in: flat things -/
def fV : PyData → Option V
  | .none => some .non
  | .bool b => some (.bl b)
  | .int i => some (.int i)
  | .str x => some (.str x)
  | _ => none
def fVs : List PyData → Option (List V)
  | [] => some []
  | d :: r => (fV d).bind fun v => (fVs r).map (v :: ·)
theorem fV_eq {K : PySem.W.Frag} {H : Hp} {β : Bs} {u : V} {d : PyData} {v : V} (r : Dq K H β u d) (e : fV d = some v) : u = v ∧ flatV v = true := by
  cases r <;> first | (cases e; exact ⟨rfl, rfl⟩) | cases e
theorem fVs_eq {K : PySem.W.Frag} {H : Hp} {β : Bs} : ∀ {us : List V} {ds : List PyData} {vs : List V}, DqAll K H β us ds → fVs ds = some vs → us = vs ∧ vs.all flatV = true
  | _, _, _, .nil, e => by cases e; exact ⟨rfl, rfl⟩
  | _, d :: ds, vs, .cons h t, e => by
    unfold fVs at e
    cases e1 : fV d with
    | none => rw [e1] at e; cases e
    | some v =>
      rw [e1] at e
      cases e2 : fVs ds with
      | none => rw [e2] at e; cases e
      | some l =>
        rw [e2] at e
        cases e
        obtain ⟨rfl, h1⟩ := fV_eq h e1
        obtain ⟨rfl, h2⟩ := fVs_eq t e2
        exact ⟨rfl, by rw [List.all_cons, h1, h2]; rfl⟩
/-- the items of a tuple, a list -/
def seqD : Vl → Sto → Option (List PyData)
  | .dat (.tuple ds), _ => some ds
  | .dat (.list ds), _ => some ds
  | .ref n, s => match s[n]? with
    | some (.lst l) => datas l
    | _ => none
  | _, _ => none
theorem seqD_at {G : Cf} {H : Hp} {β : Bs} {s : Sto} {v : Vl} {u : V} {ds : List PyData} (hs : RelS G β s H) (r : Rv G H β v u) (e : seqD v s = some ds) : ∃ a xs, u = .ref a ∧ (SqL G.K H a xs ∨ SqT G.K H a xs) ∧ DqAll G.K H β xs ds ∧ ds.length ≤ sizeLine := by
  unfold seqD at e
  split at e
  · cases e
    cases r with
    | tup h hz d => exact ⟨_, _, rfl, .inr h, d, hz⟩
  · cases e
    cases r with
    | lst h hz d => exact ⟨_, _, rfl, .inl h.sq, d, hz⟩
  · obtain ⟨a, ha, rfl⟩ := r
    split at e
    · rename_i l hl
      obtain ⟨hz, xs, h1, h2⟩ := hs.ob _ _ a hl ha
      rw [datas_eq e] at h2 hz
      exact ⟨a, xs, rfl, .inl (SqL.of h1), Rvs.undats (Rvs.up h2), by simpa using hz⟩
    · cases e
  · cases e
def phIn (neg : Bool) : Vl → Vl → Sto → Option Vl
  | .dat x, c, s => (fV x).bind fun vx => (seqD c s).bind fun ds => (fVs ds).map fun vs => .dat (.bool (if neg = true then !inV vx vs else inV vx vs))
  | _, _, _ => none
section
variable {X : Cx} {zx : Exo}
theorem in_key {neg : Bool} {H : Hp} {x y : V} {Q : VK} (h : r2 (cf X zx) (phIn neg) x y H Q) : rIn X.K neg x y H Q := by
  obtain ⟨β, st, a, b, z, hs, ra, rb, e, q⟩ := h
  cases a with
  | ref n => cases e
  | scr n => cases e
  | exo _ _ => cases e
  | dat x =>
    have e : ((fV x).bind fun vx => (seqD b st).bind fun ds => (fVs ds).map fun vs => Vl.dat (.bool (if neg = true then !inV vx vs else inV vx vs))) = some z := e
    cases e1 : fV x with
    | none => rw [e1] at e; cases e
    | some vx =>
      cases e2 : seqD b st with
      | none => rw [e1, e2] at e; cases e
      | some ds =>
        cases e3 : fVs ds with
        | none => rw [e1, e2] at e; simp [e3] at e
        | some vs =>
          rw [e1, e2] at e
          simp only [Option.bind_some, e3, Option.map_some, Option.some.injEq] at e
          subst e
          obtain ⟨rfl, f1⟩ := fV_eq ra e1
          obtain ⟨p, xs, rfl, h1, h2, _⟩ := seqD_at hs rb e2
          obtain ⟨rfl, f2⟩ := fVs_eq h2 e3
          exact ⟨p, _, rfl, h1, f1, f2, q H _ (Same.refl H) (.bl _)⟩
theorem mo_in : OpR X (compareOp .In) (r2 (cf X zx) (phIn false)) := fun pins s σ H x y v u Q I rx ry h => op_in_seq pins s σ H x y v u Q I rx ry (in_key h)
theorem mo_notIn : OpR X (compareOp .NotIn) (r2 (cf X zx) (phIn true)) := fun pins s σ H x y v u Q I rx ry h => op_notIn_seq pins s σ H x y v u Q I rx ry (in_key h)
end
/-! ### xs[i] -/
def phIx : Vl → Vl → Sto → Option Vl
  | .dat (.tuple ds), .dat (.int i), _ => (atI ds i).map Vl.dat
  | .dat (.list ds), .dat (.int i), _ => (atI ds i).map Vl.dat
  | .dat (.str z), .dat (.int i), _ => (atI z.cps.toList i).map fun c => Vl.dat (.str ⟨#[c]⟩)
  | .ref n, .dat (.int i), s => match s[n]? with
    | some (.lst l) => atI l i
    | _ => none
  | _, _, _ => none
theorem atI_dq {K : PySem.W.Frag} {H : Hp} {β : Bs} {xs : List V} {ds : List PyData} {i : Int} {d : PyData} (h : DqAll K H β xs ds) (e : atI ds i = some d) : ∃ v, atI xs i = some v ∧ Dq K H β v d := by
  unfold atI at e ⊢
  rw [h.len]
  cases ei : ixN ds.length i with
  | none => rw [ei] at e; cases e
  | some j =>
    rw [ei] at e
    obtain ⟨v, h1, h2⟩ := h.get' (show ds[j]? = some d from e)
    exact ⟨v, h1, h2⟩
theorem atI_rv {G : Cf} {H : Hp} {β : Bs} {xs : List V} {ds : List Vl} {i : Int} {d : Vl} (h : Rvs G H β ds xs) (e : atI ds i = some d) : ∃ v, atI xs i = some v ∧ Rv G H β d v := by
  unfold atI at e ⊢
  rw [← h.len]
  cases ei : ixN ds.length i with
  | none => rw [ei] at e; cases e
  | some j =>
    rw [ei] at e
    obtain ⟨v, h1, h2⟩ := h.get' (show ds[j]? = some d from e)
    exact ⟨v, h1, h2⟩
section
variable {X : Cx} {zx : Exo}
theorem mx_ix : IxR X (r2 (cf X zx) phIx) := by
  intro value slice pins s σ H x y v u Q I rx ry h hsub
  obtain ⟨β, st, a, b, z, hs, ra, rb, e, q⟩ := h
  unfold phIx at e
  split at e
  · obtain ⟨d, h1, rfl⟩ := Option.map_eq_some_iff.mp e
    cases rb
    cases ra with
    | @tup p xs _ hx hz dx =>
      obtain ⟨w, h2, h3⟩ := atI_dq dx h1
      exact ix_tup value slice pins s σ H _ _ v u Q I rx ry ⟨p, xs, _, w, rfl, rfl, hx, h2, q H _ (Same.refl H) h3⟩ hsub
  · obtain ⟨d, h1, rfl⟩ := Option.map_eq_some_iff.mp e
    cases rb
    cases ra with
    | @lst p xs _ hx hz dx =>
      obtain ⟨w, h2, h3⟩ := atI_dq dx h1
      exact ix_list value slice pins s σ H _ _ v u Q I rx ry ⟨p, xs, _, w, rfl, rfl, hx.sq, h2, q H _ (Same.refl H) h3⟩ hsub
  · obtain ⟨c, h1, rfl⟩ := Option.map_eq_some_iff.mp e
    cases rb
    cases ra with
    | str hz => exact ix_str value slice pins s σ H _ _ v u Q I rx ry ⟨_, _, c, rfl, rfl, hz, h1, q H _ (Same.refl H) (.str (by rw [sizeLine_eq]; show 1 ≤ 16777216; decide))⟩ hsub
  · split at e
    · rename_i l hl
      cases rb
      obtain ⟨p, ha, rfl⟩ := ra
      obtain ⟨hz, xs, h1, h2⟩ := hs.ob _ _ p hl ha
      obtain ⟨w, h3, h4⟩ := atI_rv h2 e
      exact ix_list value slice pins s σ H _ _ v u Q I rx ry ⟨p, xs, _, w, rfl, rfl, SqL.of h1, h3, q H _ (Same.refl H) (Rv.up h4)⟩ hsub
    · cases e
  · cases e
end
/-! ### xs[a:b] -/
def cut {α : Type} (xs : List α) (lo hi : Option Int) : List α := (xs.drop (HT.sIx xs.length 0 lo)).take (HT.sIx xs.length xs.length hi - HT.sIx xs.length 0 lo)
theorem cut_len {α : Type} (xs : List α) (lo hi : Option Int) : (cut xs lo hi).length ≤ xs.length := by
  unfold cut
  rw [List.length_take, List.length_drop]
  omega
theorem cut_dq {K : PySem.W.Frag} {H : Hp} {β : Bs} {xs : List V} {ds : List PyData} {lo hi : Option Int} (h : DqAll K H β xs ds) : DqAll K H β (cutV xs lo hi) (cut ds lo hi) := by
  unfold cutV cut
  rw [h.len]
  exact (h.drop _).take _
def phSl : Vl → Option Int → Option Int → Sto → Option Vl
  | .dat (.tuple ds), lo, hi, _ => some (.dat (.tuple (cut ds lo hi)))
  | .dat (.list ds), lo, hi, _ => some (.dat (.list (cut ds lo hi)))
  | .dat (.str z), lo, hi, _ => some (.dat (.str (cutS z lo hi)))
  | .ref n, lo, hi, s => match s[n]? with
    | some (.lst l) => (datas l).map fun ds => .dat (.list (cut ds lo hi))
    | _ => none
  | .scr ns, lo, hi, _ => if ns.length ≤ mil then some (.dat (.list (cut (ns.map PyData.int) lo hi))) else none
  | _, _, _, _ => none
theorem cutS_len (z : Str) (lo hi : Option Int) : (cutS z lo hi).length ≤ z.length := by
  show (((z.cps.toList.drop _).take _).toArray).size ≤ z.cps.size
  simp
  omega
theorem dq_ints {K : PySem.W.Frag} {H : Hp} {β : Bs} : ∀ ns : List Int, DqAll K H β (ns.map V.int) (ns.map PyData.int)
  | [] => .nil
  | n :: ns => .cons (.int n) (dq_ints ns)
def rSl (G : Cf) : V → Option Int → Option Int → Hp → VK → Prop := fun x lo hi H Q => ∃ β s v z, RelS G β s H ∧ Rv G H β v x ∧ phSl v lo hi s = some z ∧ ∀ H' u, Same H H' → Rv G H' β z u → Q u H'
section
variable {X : Cx} {zx : Exo} {W : WX} {e : Expr} {f : ME}
theorem ms_sl : SlR X (rSl (cf X zx)) := by
  intro pins s σ H x v vl vu lo hi sl Q I rx hsl pl pu h
  obtain ⟨β, st, a, z, hs, ra, e, q⟩ := h
  unfold phSl at e
  split at e
  · cases e
    cases ra with
    | @tup p xs ds hx hz dx =>
      refine sl_tupA pins s σ H _ v vl vu lo hi sl Q I rx hsl pl pu ⟨p, xs, rfl, hx, fun hw => ?_, fun _ p2 hp => ?_⟩
      · refine q H _ (Same.refl H) ?_
        have l1 := dx.len
        rw [l1] at hw
        unfold cut
        rw [hw.1, hw.2]
        simp only [List.drop_zero, Nat.sub_zero, List.take_length]
        exact .tup hx hz dx
      · exact q _ _ (same_new hp) (.tup (SqT.of upd_same) (Nat.le_trans (cut_len _ _ _) hz) ((Step.lay hp).dqs (cut_dq dx)))
  · cases e
    cases ra with
    | @lst p xs _ hx hz dx =>
      exact sl_list pins s σ H _ v vl vu lo hi sl Q I rx hsl pl pu ⟨p, xs, rfl, hx.sq, fun p2 hp => q _ _ (same_new hp) (.lst ⟨upd_same, hs.nin hp, hs.nig hp⟩ (Nat.le_trans (cut_len _ _ _) hz) ((Step.lay hp).dqs (cut_dq dx)))⟩
  · cases e
    cases ra with
    | str hz => exact sl_str pins s σ H _ v vl vu lo hi sl Q I rx hsl pl pu ⟨_, rfl, hz, q H _ (Same.refl H) (.str (Nat.le_trans (cutS_len _ _ _) hz))⟩
  · split at e
    · rename_i l hl
      cases ed : datas l with
      | none => rw [ed] at e; cases e
      | some ds =>
        rw [ed] at e
        cases e
        obtain ⟨p, ha, rfl⟩ := ra
        obtain ⟨hz, xs, h1, h2⟩ := hs.ob _ _ p hl ha
        rw [datas_eq ed] at h2 hz
        have dx := Rvs.undats h2
        exact sl_list pins s σ H _ v vl vu lo hi sl Q I rx hsl pl pu ⟨p, xs, rfl, SqL.of h1, fun p2 hp => q _ _ (same_new hp) (.lst ⟨upd_same, hs.nin hp, hs.nig hp⟩ (Nat.le_trans (cut_len _ _ _) (by simpa using hz)) ((Step.lay hp).dqs (cut_dq dx)))⟩
    · cases e
  · split at e
    · rename_i hl
      cases e
      obtain ⟨p, rfl, sc⟩ := ra
      exact sl_list pins s σ H _ v vl vu lo hi sl Q I rx hsl pl pu ⟨p, _, rfl, sc.sq, fun p2 hp => q _ _ (same_new hp) (.lst ⟨upd_same, hs.nin hp, hs.nig hp⟩ (Nat.le_trans (cut_len _ _ _) (by rw [List.length_map]; exact mil_le hl)) (cut_dq (dq_ints _)))⟩
    · cases e
  · cases e
abbrev MO := Loc → Sto → R (Option Int)
abbrev rO : Rel (Option Int) (Option Int) := fun _ _ a b => a = b
abbrev DO (X : Cx) (zx : Exo) (W : WX) (e : Option Expr) (f : MO) : Prop := PO X e (tG (cf X zx) rO W f)
theorem PO.imp {X : Cx} {e : Option Expr} {t t' : TO} (h : PO X e t) (i : ∀ σ H Q, t' σ H Q → t σ H Q) : PO X e t' := ⟨fun pins s σ H Q I q => h.run pins s σ H Q I (i σ H Q q)⟩
def oNone : MO := fun _ s => .ok none s
def int? : Vl → Option Int
  | .dat (.int i) => some i
  | _ => none
def oSome (f : ME) : MO := fun ρ s => (f ρ s).bind fun v s1 => R.of ((int? v).map some) s1
theorem do_none : DO X zx W none oNone := PO.imp po_none fun σ H Q ⟨β, ρ, s, hl, hs, hp⟩ => hp β H _ (Step.refl _ _) hs rfl
theorem do_some (h : DE X zx W e f) : DO X zx W (some e) (oSome f) := PO.imp (po_some h) fun σ H Q ⟨β, ρ, s, hl, hs, hp⟩ => by
  refine ⟨β, ρ, s, hl, hs, Post.bind hp fun v s1 β1 H1 u st1 hs1 r1 h1 => ?_⟩
  cases ei : int? v with
  | none => rw [ei] at h1; exact h1.elim
  | some i =>
    rw [ei] at h1
    cases v with
    | ref n => cases ei
    | scr n => cases ei
    | exo _ _ => cases ei
    | dat d =>
      cases d with
      | int j => cases ei; cases r1; exact ⟨_, rfl, h1 β1 H1 _ (Step.refl _ _) hs1 rfl⟩
      | _ => cases ei
def mSl (f : ME) (lo hi : MO) : ME := fun ρ s => (f ρ s).bind fun v s1 => (lo ρ s1).bind fun l s2 => (hi ρ s2).bind fun h s3 => R.of (phSl v l h s3) s3
theorem de_slice {lo hi : Option Expr} {fl fh : MO} {p2 pos : Pos} (he : DE X zx W e f) (hl : DO X zx W lo fl) (hu : DO X zx W hi fh) : DE X zx W (.Subscript e (.Slice lo hi none p2) pos) (mSl f fl fh) := PE.imp (pe_slice ms_sl he hl hu) fun σ H Q ⟨β, ρ, s, hl, hs, hp⟩ => by
  refine ⟨β, ρ, s, hl, hs, Post.bind hp fun v s1 β1 H1 u st1 hs1 r1 h1 => ?_⟩
  refine ⟨β1, ρ, s1, hl.step st1, hs1, Post.bind h1 fun l s2 β2 H2 u2 st2 hs2 r2 h2 => ?_⟩
  refine ⟨β2, ρ, s2, (hl.step st1).step st2, hs2, Post.bind h2 fun h s3 β3 H3 u3 st3 hs3 r3 h3 => ?_⟩
  cases (show l = u2 from r2)
  cases (show h = u3 from r3)
  obtain ⟨z, e, q⟩ := post_of h3 hs3
  exact ⟨β3, s3, v, z, hs3, st3.rv (st2.rv r1), e, q⟩
end
/-! ### builtins -/
def phLen : List Vl → Sto → Option Vl
  | [.dat (.tuple ds)], _ => some (.dat (.int ds.length))
  | [.dat (.list ds)], _ => some (.dat (.int ds.length))
  | [.dat (.str z)], _ => some (.dat (.int z.length))
  | [.ref n], s => match s[n]? with
    | some (.lst l) => some (.dat (.int l.length))
    | some (.dic l) => some (.dat (.int l.length))
    | _ => none
  | _, _ => none
def phTuple : List Vl → Sto → Option Vl
  | [v], s => (seqD v s).map fun ds => .dat (.tuple ds)
  | _, _ => none
def phList : List Vl → Sto → Option Vl
  | [v], s => (seqD v s).map fun ds => .dat (.list ds)
  | _, _ => none
def bls : List PyData → Option (List Bool)
  | [] => some []
  | .bool b :: r => (bls r).map (b :: ·)
  | _ :: _ => none
def phAll : List Vl → Sto → Option Vl
  | [.dat (.list ds)], _ => (bls ds).map fun bs => .dat (.bool (bs.all id))
  | _, _ => none
open Classical in
noncomputable def phRepr : List Vl → Sto → Option Vl
  | [.dat (.tuple ds)], _ => if (PyData.tuple ds).showable = true ∧ (PyData.tuple ds).hasDict = false ∧ (PyData.tuple ds).depth ≤ 60 ∧ (PyData.tuple ds).shown.length ≤ sizeLine then some (.dat (.str (PyData.tuple ds).shown)) else none
  | [.dat (.list ds)], _ => if (PyData.list ds).showable = true ∧ (PyData.list ds).hasDict = false ∧ (PyData.list ds).depth ≤ 60 ∧ (PyData.list ds).shown.length ≤ sizeLine then some (.dat (.str (PyData.list ds).shown)) else none
  | _, _ => none
theorem bls_eq {K : PySem.W.Frag} {H : Hp} {β : Bs} : ∀ {xs : List V} {ds : List PyData} {bs : List Bool}, DqAll K H β xs ds → bls ds = some bs → xs = bs.map V.bl
  | _, _, _, .nil, e => by cases e; rfl
  | _, d :: ds, bs, .cons h t, e => by
    cases d with
    | bool b =>
      cases e1 : bls ds with
      | none => simp [bls, e1] at e
      | some l =>
        have : b :: l = bs := by simpa [bls, e1] using e
        subst this
        cases h
        rw [bls_eq t e1]
        rfl
    | _ => simp [bls] at e
section
variable {X : Cx} {zx : Exo} {W : WX}
theorem rvs1 {G : Cf} {H : Hp} {β : Bs} {v : Vl} {xs : List V} (r : Rvs G H β [v] xs) : ∃ x, xs = [x] ∧ Rv G H β v x := by
  cases r with
  | cons r0 r1 => cases r1; exact ⟨_, rfl, r0⟩
theorem mc_len : CallR X (.builtin "len") (rn (cf X zx) phLen) := by
  intro pins s σ H xs us Q I rx h
  obtain ⟨β, st, vs, z, hs, rv, e, q⟩ := h
  unfold phLen at e
  split at e
  · cases e
    obtain ⟨x, rfl, r⟩ := rvs1 rv
    cases r with
    | @tup p ys _ hx hz dx => exact call_len_seq pins s σ H _ us Q I rx ⟨p, ys, rfl, .inr hx, by rw [dx.len]; exact q H _ (Same.refl H) (.int _)⟩
  · cases e
    obtain ⟨x, rfl, r⟩ := rvs1 rv
    cases r with
    | @lst p ys _ hx hz dx => exact call_len_seq pins s σ H _ us Q I rx ⟨p, ys, rfl, .inl hx.sq, by rw [dx.len]; exact q H _ (Same.refl H) (.int _)⟩
  · cases e
    obtain ⟨x, rfl, r⟩ := rvs1 rv
    cases r with
    | str hz => exact call_len_str pins s σ H _ us Q I rx ⟨_, rfl, hz, q H _ (Same.refl H) (.int _)⟩
  · obtain ⟨x, rfl, r⟩ := rvs1 rv
    obtain ⟨p, ha, rfl⟩ := r
    split at e
    · rename_i l hl
      cases e
      obtain ⟨hz, ys, h1, h2⟩ := hs.ob _ _ p hl ha
      exact call_len_seq pins s σ H _ us Q I rx ⟨p, ys, rfl, .inl (SqL.of h1), by rw [← h2.len]; exact q H _ (Same.refl H) (.int _)⟩
    · rename_i l hl
      cases e
      obtain ⟨ys, h1, h2⟩ := hs.ob _ _ p hl ha
      exact call_lenD pins s σ H _ us Q I rx ⟨p, ys, rfl, h1, by rw [← Paired.length h2]; exact q H _ (Same.refl H) (.int _)⟩
    · cases e
  · cases e
theorem mc_tuple : CallR X (.type "tuple") (rn (cf X zx) phTuple) := by
  intro pins s σ H xs us Q I rx h
  obtain ⟨β, st, vs, z, hs, rv, e, q⟩ := h
  unfold phTuple at e
  split at e
  · obtain ⟨x, rfl, r⟩ := rvs1 rv
    obtain ⟨ds, es, rfl⟩ := Option.map_eq_some_iff.mp e
    · skip
      obtain ⟨p, ys, rfl, h1, dx, hz⟩ := seqD_at hs r es
      refine call_tuple_of pins s σ H _ us Q I rx ⟨p, ys, rfl, ?_⟩
      rcases h1 with h1 | h1
      · exact .inl ⟨h1, fun l hl => q _ _ (same_new hl) (.tup (SqT.of upd_same) hz ((Step.lay hl).dqs dx))⟩
      · exact .inr ⟨h1, q H _ (Same.refl H) (.tup h1 hz dx)⟩
  · cases e
theorem mc_list : CallR X (.type "list") (rn (cf X zx) phList) := by
  intro pins s σ H xs us Q I rx h
  obtain ⟨β, st, vs, z, hs, rv, e, q⟩ := h
  unfold phList at e
  split at e
  · obtain ⟨x, rfl, r⟩ := rvs1 rv
    obtain ⟨ds, es, rfl⟩ := Option.map_eq_some_iff.mp e
    · skip
      obtain ⟨p, ys, rfl, h1, dx, hz⟩ := seqD_at hs r es
      exact call_list_of pins s σ H _ us Q I rx ⟨p, ys, rfl, h1, fun l hl => q _ _ (same_new hl) (.lst ⟨upd_same, hs.nin hl, hs.nig hl⟩ hz ((Step.lay hl).dqs dx))⟩
  · cases e
theorem mc_all (hc : X.calm = true) : CallR X (.builtin "all") (rn (cf X zx) phAll) := by
  intro pins s σ H xs us Q I rx h
  obtain ⟨β, st, vs, z, hs, rv, e, q⟩ := h
  unfold phAll at e
  split at e
  · obtain ⟨x, rfl, r⟩ := rvs1 rv
    obtain ⟨bs, eb, rfl⟩ := Option.map_eq_some_iff.mp e
    · cases r with
      | @lst p ys _ hx hz dx =>
        have := bls_eq dx eb
        subst this
        exact cr_all hc pins s σ H _ us Q I rx ⟨p, bs, rfl, hx.sq, q H _ (Same.refl H) (.bl _)⟩
  · cases e
theorem mc_repr (hg : X.A.guards = some []) (hu : X.A.units + 64 < cLine) : CallR X (.builtin "repr") (rn (cf X zx) phRepr) := by
  intro pins s σ H xs us Q I rx h
  obtain ⟨β, st, vs, z, hs, rv, e, q⟩ := h
  unfold phRepr at e
  split at e
  · split at e
    · rename_i hc
      cases e
      obtain ⟨x, rfl, r⟩ := rvs1 rv
      have dp := Dq.dp r
      cases r
      exact call_repr hg hu pins s σ H _ us Q I rx ⟨_, _, rfl, dp, hc.1, hc.2.1, hc.2.2.1, hc.2.2.2, q H _ (Same.refl H) (.str hc.2.2.2)⟩
    · cases e
  · split at e
    · rename_i hc
      cases e
      obtain ⟨x, rfl, r⟩ := rvs1 rv
      have dp := Dq.dp r
      cases r
      exact call_repr hg hu pins s σ H _ us Q I rx ⟨_, _, rfl, dp, hc.1, hc.2.1, hc.2.2.1, hc.2.2.2, q H _ (Same.refl H) (.str hc.2.2.2)⟩
    · cases e
  · cases e
/-- isinstance(e, T) -/
def isaList : PyData → Bool
  | .list _ => true
  | _ => false
theorem isa_list {K : PySem.W.Frag} {H : Hp} {v : V} {d : PyData} (h : Dp K H v d) : ∃ t, TyX K H v t ∧ PySem.W.kitOne K t (.type "list") = some (isaList d) :=
  isa_data (g := isaList) h (by decide +kernel) (fun _ => by show _ = some false; decide +kernel) (fun _ => by show _ = some false; decide +kernel) (fun _ => by show _ = some false; decide +kernel) (fun _ => by show _ = some true; decide +kernel) (fun _ => by show _ = some false; decide +kernel)
def phIsi (g : PyData → Bool) : Vl → Sto → Option Vl
  | .dat d, _ => some (.dat (.bool (g d)))
  | _, _ => none
theorem de_isi {T : String} {g : PyData → Bool} {x : Str} {e : Expr} {f : ME} {p p2 pos : Pos} (hT : ∀ {H : Hp} {v : V} {d : PyData}, Dp X.K H v d → ∃ t, TyX X.K H v t ∧ PySem.W.kitOne X.K t (.type T) = some (g d)) (hg : Gl X "isinstance") (hm : X.mg "isinstance" = none) (ha : DE X zx W e f)
    (hgT : Gl X x) (hmT : X.mg x = none) (hv : bootBuiltins x = some (.type T)) (hn : x ≠ "__name__" := by decide) (hdb : (x == ("__debug__" : Str)) = false := by decide)
    (he : starEach [e, .Name x p2] X.env = (false, eval e X.env) :: starEach [.Name x p2] X.env := by rfl) : DE X zx W (.Call (.Name "isinstance" p) [e, .Name x p2] [] pos) (m1 (phIsi g) f) :=
  PE.imp (pe_callB (r := rIsi X.K) call_isi hg hm (by decide +kernel) (pa_cons ha (pa_cons (pe_bltn (v := .ty T) hgT hmT hv rfl hn hdb) pa_nil) he) (by decide) (by decide) he) fun σ H Q ⟨β, ρ, s, hl, hs, hp⟩ => by
  refine ⟨β, ρ, s, hl, hs, Post.bind hp fun v s1 β1 H1 u st1 hs1 r1 h1 => ?_⟩
  obtain ⟨z, ez, q⟩ := post_of h1 hs1
  cases v with
  | ref n => cases ez
  | scr n => cases ez
  | exo _ _ => cases ez
  | dat d =>
    cases ez
    obtain ⟨t, ty, k⟩ := hT (Dq.dp r1)
    exact ⟨u, .ty T, t, _, _, rfl, .ty _, ty, k, q H1 _ (Same.refl _) (.bl _)⟩
end
end Pm
set_option maxRecDepth 100000
set_option maxHeartbeats 4000000
namespace Sw
open PySem PySem.Spec PyProof.Rows L2
/-! ### for k, x in enumerate(t), t a tuple -/
/-- the making of it -/
theorem enum_new {v : Value} {o : Obj} {H : Heap → Prop} (Bg : Begins v o H) :
    Meets (Builtin.«enumerate.__new__» ⟨[.type "enumerate", v], []⟩) (fun _ R s => H s.heap ∧ R (.ok (.ret (.ref (s.heap.push o).objs.size)))
      { s with heap := (s.heap.push o).push { cls := .type "enumerate", data := .fields #[.none, .bool false, .ref s.heap.objs.size, rawInt 0, .none, .none] } }) :=
  .of_wp fun pr w A R s hh => by
    obtain ⟨hp, g, d, tk, os⟩ := s
    obtain ⟨hb, h⟩ := hh
    have sbe := sub_enumerate
    have itr : ∀ {A' : Around} {Er : Value → Shared → Prop} {Q : Value → Shared → Prop}, Q (.ref hp.objs.size) ⟨hp.push o, g, d, tk, os⟩ → wpAny (model pr w) A' (pyIter v) Q Er ⟨hp, g, d, tk, os⟩ := fun q => Bg.iter pr w _ _ ⟨hp, g, d, tk, os⟩ _ hb q
    wp_walk using itr
    refine wpAny_stack_any fun stk => wpAny_pure ?_
    split
    · rename_i cl _ _ _ _ _
      cases (cl == Value.type "enumerate")
      all_goals (wp_walk using itr; exact ⟨_, rfl, h⟩)
    · wp_walk using itr
      exact ⟨_, rfl, h⟩
section
variable {P : Program} {w : World} {A : Around} {Er : Value → Shared → Prop} {s : Shared}
theorem call_enumT {v : Value} {o : Obj} {H : Heap → Prop} {Q : Value → Shared → Prop} (Bg : Begins v o H) (hb : H s.heap)
    (h : ∀ hx, IsEnum hx (s.heap.objs.size + 1) s.heap.objs.size 0 .none → hx.get? s.heap.objs.size = some o → (∀ b u, s.heap.get? b = some u → hx.get? b = some u) → Q (.ref (s.heap.objs.size + 1)) { s with heap := hx }) :
    wpAny (model P w) A (call (.type "enumerate") [v]) Q Er s := by
  refine callType_new F.called_enumerate (by decide) (F.typeCall_enumerate_1 v) (F.newCall_enumerate_1 v) (fun ob => F.args_object_init_2 ob v) F.entry_enumerate_new (enum_new Bg) ⟨hb, ?_⟩
  have sz : (s.heap.push o).objs.size = s.heap.objs.size + 1 := Heap.size_push ..
  have top := Heap.get?_push_size (s.heap.push o) (o := { cls := .type "enumerate", data := .fields #[.none, .bool false, .ref s.heap.objs.size, rawInt 0, .none, .none] }) rfl
  show _ ∧ _
  rw [sz] at top ⊢
  exact ⟨⟨_, top, rfl⟩, h _ top (Heap.get?_push_of_some _ (Heap.get?_push_size _ Bg.free)) fun b u x => Heap.get?_push_of_some _ (Heap.get?_push_of_some _ x)⟩
end
/-- the pairs of it, each a new tuple -/
def ItT (K : PySem.W.Frag) (a : Addr) : It :=
  ⟨fun i H => ∃ (xs : List V) (x : V), SqT K H a xs ∧ xs[i]? = some x,
    fun i H v H' => ∃ T x, v = .ref T ∧ H T = none ∧ H' = upd H T (.tup [.int (i : Nat), x]) ∧ ∀ xs, SqT K H a xs → xs[i]? = some x,
    fun i H => ∃ xs : List V, SqT K H a xs ∧ xs.length = i⟩
theorem not_it {h : Heap} {t it : Addr} {items : Array Value} {i : Nat} (h1 : h.IsTuple t items) (h2 : h.IsTupleIter it t i) : t ≠ it := fun z => by
  obtain ⟨o, ho, hc, _⟩ := h1
  obtain ⟨u, hu, hd, _⟩ := h2
  rw [z, hu] at ho
  cases ho
  rw [hd] at hc
  exact absurd hc (by decide)
theorem not_en {h : Heap} {t e it : Addr} {items : Array Value} {i : Int} {old : Value} (h1 : h.IsTuple t items) (h2 : IsEnum h e it i old) : t ≠ e := fun z => by
  obtain ⟨o, ho, hc, _⟩ := h1
  rw [z, h2] at ho
  cases ho
  exact absurd (show Value.type "enumerate" = Value.type "tuple" from hc) (by decide)
theorem turn_enT {P : Program} {w : World} {K : PySem.W.Frag} {elts : List Expr} {kk : Nat} {tpos : Pos} (a e it : Addr) :
    Turn P w K (.Tuple elts kk tpos) (ItT K a) [e, it] e (fun i h => (∃ old, IsEnum h e it (i : Nat) old) ∧ h.IsTupleIter it a i ∧ e ≠ it) where
  mem := List.mem_cons_self
  obj := by
    rintro i h ⟨⟨old, hE⟩, ⟨o, ho, _, hdt⟩, _⟩ b hb
    simp only [List.mem_cons, List.not_mem_nil, or_false] at hb
    rcases hb with rfl | rfl
    · exact ⟨_, hE, fun v z => nomatch z⟩
    · exact ⟨o, ho, fun v z => by rw [hdt] at z; cases z⟩
  keep := by
    rintro i h h2 ⟨⟨old, hE⟩, hI, hn⟩ kp
    exact ⟨⟨old, kp e (by simp) _ hE⟩, hI.at fun o z => kp it (by simp) o z, hn⟩
  item := by
    intro X hP hw hK hc i pins s σ H Er I fps ⟨⟨old, hE⟩, hI, hn⟩ ⟨xs, x, hq, hx⟩
    subst hP hw hK
    obtain ⟨its, rv, tp, _⟩ := I.tuple hq
    obtain ⟨u, hu, ru⟩ := rv.get hx
    have nt := not_it tp hI
    have ne := not_en tp hE
    have Dr := Draws.tuple (prog := X.prog) (w := X.w) (A := X.A.in1) (by simp [I.ok.hd hc]) it a nt its.toArray
    have lte : e < s.heap.objs.size := Heap.lt_size hE
    have lti : it < s.heap.objs.size := by obtain ⟨_, z, _⟩ := hI; exact Heap.lt_size z
    have hsz : i < its.toArray.size := by
      have := (List.getElem?_eq_some_iff.mp hu).1
      simpa using this
    refine wpAny_pyNext_enum_itemC (i := i) (c := (i : Nat)) Dr hE ⟨hI, tp⟩ hsz hn (by simp only [List.mem_cons, List.not_mem_nil, or_false, not_or]; exact ⟨hn, Ne.symm ne⟩) fun y hx1 tk hy ho hst hT sz kp => ?_
    have eyu : y = u := by
      have h1 : its[i]? = some y := by simpa using hy
      rw [hu] at h1
      exact (Option.some.inj h1).symm
    subst eyu
    refine ⟨_, rfl, wpAny_letOwnedTupleGo_enum (s := { s with heap := hx1, toks := tk + 1 }) ho fun hx2 hE2 sb => ?_⟩
    have nT : s.heap.objs.size ≠ e := Nat.ne_of_gt lte
    have hT2 := (sb.2 _ nT).trans hT
    have kp2 : ∀ b ob, b ∉ [e, it] → s.heap.get? b = some ob → hx2.get? b = some ob := fun b ob hb z => by
      simp only [List.mem_cons, List.not_mem_nil, or_false, not_or] at hb
      exact (sb.2 b hb.1).trans (kp b ob hb.1 hb.2 z)
    have new : ObjOk X.prog X.w (upd H s.heap.objs.size (.tup [.int (i : Nat), x])) hx2 s.heap.objs.size (.tup [.int (i : Nat), x]) := ⟨by show 2 ≤ sizeLine; decide, [.int (i : Nat) tk, y], .cons ⟨_, rfl⟩ (.cons ru .nil), ⟨_, hT2, rfl, _, rfl⟩⟩
    have I1 := I.turnedNew (ch := [e, it]) (h' := hx2) (t' := tk + 1) kp2 fps (Nat.le_refl _) new
    refine ⟨.ref s.heap.objs.size, _, I1, rfl, ⟨_, x, rfl, I.hok.fresh (Nat.le_refl _), rfl, fun zs hz => ?_⟩, ⟨⟨y, ?_⟩, hst.1.at fun o z => (sb.2 it (Ne.symm hn)).trans z, hn⟩, fun b hb => ?_⟩
    · rw [I.tuple_inj hz hq]
      exact hx
    · rw [show ((i + 1 : Nat) : Int) = ((i : Nat) : Int) + 1 by omega]
      exact hE2
    · have lb : b ≠ s.heap.objs.size := by
        simp only [List.mem_cons, List.not_mem_nil, or_false] at hb
        rcases hb with rfl | rfl
        · exact Nat.ne_of_lt lte
        · exact Nat.ne_of_lt lti
      rw [upd_ne lb]
      exact (fps b hb).1
  done := by
    intro X hP hw hK hc i pins s σ H Er I fps ⟨⟨old, hE⟩, hI, hn⟩ ⟨xs, hq, hx⟩
    subst hP hw hK
    obtain ⟨its, rv, tp, _⟩ := I.tuple hq
    have lr := rv.length
    have nt := not_it tp hI
    have Dr := Draws.tuple (prog := X.prog) (w := X.w) (A := X.A.in1) (by simp [I.ok.hd hc]) it a nt its.toArray
    have es : its.toArray.size = i := by simp; omega
    rw [es] at Dr
    obtain ⟨f0, f1, f2, f3, f4, f5⟩ := fps it (by simp)
    exact wpAny_pyNext_enum_endD Dr hE ⟨hI, tp⟩ fun hx1 eb => ⟨rfl, I.turned (t' := s.toks) (fun b o hb z => eb b o hb z) f0 f1 f3 f4 f5⟩
  self := by
    rintro A i s Q Er ⟨⟨old, hE⟩, _⟩ h
    exact wpAny_pyIter_enum hE h
def iEnT (K : PySem.W.Frag) (ta : TA) : TI := fun σ H R => ta σ H fun vs H1 => ∃ a xs, vs = [.ref a] ∧ SqT K H1 a xs ∧ R (ItT K a) H1
theorem pi_enT {X : Cx} {e : Expr} {ta : TA} {p pos tpos : Pos} {elts : List Expr} {kk : Nat} (hg : Gl X "enumerate") (hm : X.mg "enumerate" = none) (ha : PA X [e] ta) (hs : starEach [e] X.env = [(false, eval e X.env)] := by rfl) :
    PI X (.Tuple elts kk tpos) (.Call (.Name "enumerate" p) [e] [] pos) (iEnT X.K ta) := by
  refine ⟨fun pins s σ H R I h => ?_⟩
  refine Call_ (ld_blt I hg hm boot_enumerate (PyProof.Rows.callWith_type1 (thn (ha.run pos pins s σ H _ I h) fun us s1 ⟨vs, H1, I1, rs, q1⟩ => ?_) hs rfl))
  obtain ⟨a, xs, rfl, hq, q⟩ := q1
  obtain ⟨its, rv, tp, _⟩ := I1.tuple hq
  rw [Vals.ref1 rs]
  refine call_enumT (begins_tuple a its.toArray) tp fun hx hE hi kp => wpAny_pyIter_enum hE ?_
  have I2 : Inv X pins σ H1 { s1 with heap := hx } := I1.kept (t' := s1.toks) kp
  refine ⟨s1.heap.objs.size + 1, [s1.heap.objs.size + 1, s1.heap.objs.size], _, _, H1, rfl, I2, turn_enT a (s1.heap.objs.size + 1) s1.heap.objs.size, ⟨⟨.none, hE⟩, ⟨_, hi, rfl, rfl⟩, Nat.succ_ne_self _⟩, fun b hb => ?_, q⟩
  have le : s1.heap.objs.size ≤ b := by
    simp only [List.mem_cons, List.not_mem_nil, or_false] at hb
    rcases hb with z | z
    · rw [z]; exact Nat.le_add_right _ _
    · rw [z]; exact Nat.le_refl _
  exact I1.fpOk le (I1.hok.fresh le)
/-- its walk: each turn has a new pair -/
theorem walk_enT {K : PySem.W.Frag} {a : Addr} {xs : List V} : Walk (ItT K a) xs.length (fun H => SqT K H a xs) (fun i H v H' => ∃ T x, v = .ref T ∧ H T = none ∧ H' = upd H T (.tup [.int (i : Nat), x]) ∧ xs[i]? = some x) :=
  ⟨fun i _ hi q => ⟨xs, xs[i], q, List.getElem?_eq_getElem hi⟩, fun _ q => ⟨xs, q, rfl⟩, fun i H x H' _ q ⟨T, y, e1, e2, e3, e4⟩ => ⟨T, y, e1, e2, e3, e4 xs q⟩⟩
end Sw
set_option maxRecDepth 100000
set_option maxHeartbeats 4000000
namespace Pm
open PySem PySem.Spec PyProof.Rows L2 Sw
/-! ### lists of the store that are turned -/
def lstAt (s : Sto) (n : Nat) : Option (List Vl) := match s[n]? with
  | some (.lst l) => some l
  | _ => none
theorem lstAt_eq {s : Sto} {n : Nat} {l : List Vl} (h : lstAt s n = some l) : s[n]? = some (.lst l) := by
  unfold lstAt at h
  split at h
  · rename_i e; cases h; exact e
  · cases h
theorem lstAt_of {s : Sto} {n : Nat} {l : List Vl} (h : s[n]? = some (.lst l)) : lstAt s n = some l := by
  unfold lstAt
  rw [h]
/-- xs.append(e) -/
def mApp (f : ME) (r : MA) : ME := fun ρ s => (f ρ s).bind fun v s1 => match v with
  | .ref n => (match lstAt s1 n with
    | none => .bad
    | some _ => (r ρ s1).bind fun vs s2 => match vs, lstAt s2 n with
      | [w], some l => if l.length < mil ∧ noX w = true then .ok (.dat .none) (s2.set n (.lst (l ++ [w]))) else .bad
      | _, _ => .bad)
  | _ => .bad
/-- xs.extend(e) -/
def mExt (f : ME) (r : MA) : ME := fun ρ s => (f ρ s).bind fun v s1 => match v with
  | .ref n => (match lstAt s1 n with
    | none => .bad
    | some _ => (r ρ s1).bind fun vs s2 => match vs, lstAt s2 n with
      | [.dat (.list ds)], some l => if l.length + ds.length ≤ mil then .ok (.dat .none) (s2.set n (.lst (l ++ ds.map Vl.dat))) else .bad
      | _, _ => .bad)
  | _ => .bad
section
variable {X : Cx} {zx : Exo} {W : WX} {o e : Expr} {f : ME} {r : MA} {apos cpos pos : Pos}
theorem put_lst {β : Bs} {s : Sto} {H : Hp} {n : Nat} {a : Addr} {l l' : List Vl} {xs xs' : List V} (hs : RelS (cf X zx) β s H) (hl : s[n]? = some (.lst l)) (ha : β.b[n]? = some a) (hx : H a = some (.lst xs)) (hz : l'.length ≤ sizeLine) (rv : Rvs (cf X zx).o H β l' xs') :
    Step β H β (upd H a (.lst xs')) ∧ RelS (cf X zx) β (s.set n (.lst l')) (upd H a (.lst xs')) := by
  have st : Step β H β (upd H a (.lst xs')) := Step.put (List.mem_of_getElem? ha) hx trivial
  exact ⟨st, hs.put hl ha ⟨hz, xs', upd_same, st.rvs rv⟩⟩
theorem de_append (ho : DE X zx W o f) (ha : DA X zx W [e] r)
    (hbase : attributeBase o "append" X.env (eval o X.env) = eval o X.env := by rfl)
    (hfew : ((backTo cpos (starEach [e] X.env)).all (fun x => !x.1) && (backToKw cpos (keywordEach [] X.env)).all (fun x => x.1.isSome)
      && decide ([e].length + ([] : List Keyword).length + (if ([] : List Keyword).isEmpty then 0 else 1) < 30)) = true := by rfl)
    (hline : (apos.endLine == cpos.line) = true := by rfl) (hs : starEach [e] X.env = (false, eval e X.env) :: starEach [] X.env := by rfl) (hplain : (backTo cpos (starEach [] X.env)).any (·.1) = false := by rfl) :
    DE X zx W (.Call (.Attribute o "append" apos) [e] [] cpos) (mApp f r) := PE.imp (pe_bm PySem.F.plainAttrs_list PySem.F.slot_list_append PySem.F.type_list_append mt_append ho ha hbase hfew hline hs hplain) fun σ H Q ⟨β, ρ, s, hl, hs, hp⟩ => by
  refine ⟨β, ρ, s, hl, hs, Post.bind hp fun v s1 β1 H1 u st1 hs1 r1 h1 => ?_⟩
  cases v with
  | ref n =>
    obtain ⟨a, hb, rfl⟩ := r1
    cases e1 : lstAt s1 n with
    | none => simp only [e1] at h1; exact h1.elim
    | some l1 =>
      simp only [e1] at h1
      obtain ⟨_, xs, hx, _⟩ := hs1.ob n _ a (lstAt_eq e1) hb
      refine ⟨.inl ⟨rfl, xs, SqL.of hx⟩, β1, ρ, s1, hl.step st1, hs1, Post.bind h1 fun vs s2 β2 H2 us st2 hs2 r2 h2 => ?_⟩
      split at h2
      · rename_i w l e2
        split at h2
        · rename_i hc
          obtain ⟨y, rfl, ry⟩ := rvs1 r2
          obtain ⟨t, ht⟩ := st2.pre
          have hb2 : β2.b[n]? = some a := by
            rw [← ht, List.getElem?_append_left (List.getElem?_eq_some_iff.mp hb).1]
            exact hb
          obtain ⟨hz, xs2, hx2, rv2⟩ := hs2.ob n _ a (lstAt_eq e2) hb2
          obtain ⟨st3, hs3⟩ := put_lst (l' := l ++ [w]) (xs' := xs2 ++ [y]) hs2 (lstAt_eq e2) hb2 hx2 (by rw [List.length_append]; exact mil_le hc.1) (rv2.append (.cons (Rv.dn hc.2 ry) .nil))
          exact ⟨a, xs2, y, rfl, rfl, hx2, by rw [← rv2.len]; exact Nat.lt_of_lt_of_le hc.1 (mil_le (Nat.le_refl _)), h2 β2 _ _ st3 hs3 .non⟩
        · exact h2.elim
      · exact h2.elim
  | _ => exact h1.elim
theorem de_extend (ho : DE X zx W o f) (ha : DA X zx W [e] r)
    (hbase : attributeBase o "extend" X.env (eval o X.env) = eval o X.env := by rfl)
    (hfew : ((backTo cpos (starEach [e] X.env)).all (fun x => !x.1) && (backToKw cpos (keywordEach [] X.env)).all (fun x => x.1.isSome)
      && decide ([e].length + ([] : List Keyword).length + (if ([] : List Keyword).isEmpty then 0 else 1) < 30)) = true := by rfl)
    (hline : (apos.endLine == cpos.line) = true := by rfl) (hs : starEach [e] X.env = (false, eval e X.env) :: starEach [] X.env := by rfl) (hplain : (backTo cpos (starEach [] X.env)).any (·.1) = false := by rfl) :
    DE X zx W (.Call (.Attribute o "extend" apos) [e] [] cpos) (mExt f r) := PE.imp (pe_bm PySem.F.plainAttrs_list PySem.F.slot_list_extend PySem.F.type_list_extend mt_extend ho ha hbase hfew hline hs hplain) fun σ H Q ⟨β, ρ, s, hl, hs, hp⟩ => by
  refine ⟨β, ρ, s, hl, hs, Post.bind hp fun v s1 β1 H1 u st1 hs1 r1 h1 => ?_⟩
  cases v with
  | ref n =>
    obtain ⟨a, hb, rfl⟩ := r1
    cases e1 : lstAt s1 n with
    | none => simp only [e1] at h1; exact h1.elim
    | some l1 =>
      simp only [e1] at h1
      obtain ⟨_, xs, hx, _⟩ := hs1.ob n _ a (lstAt_eq e1) hb
      refine ⟨.inl ⟨rfl, xs, SqL.of hx⟩, β1, ρ, s1, hl.step st1, hs1, Post.bind h1 fun vs s2 β2 H2 us st2 hs2 r2 h2 => ?_⟩
      split at h2
      · rename_i ds l e2
        split at h2
        · rename_i hc
          obtain ⟨y, rfl, ry⟩ := rvs1 r2
          obtain ⟨t, ht⟩ := st2.pre
          have hb2 : β2.b[n]? = some a := by
            rw [← ht, List.getElem?_append_left (List.getElem?_eq_some_iff.mp hb).1]
            exact hb
          obtain ⟨hz, xs2, hx2, rv2⟩ := hs2.ob n _ a (lstAt_eq e2) hb2
          cases ry with
          | @lst p ys _ hy hz2 dy =>
            obtain ⟨st3, hs3⟩ := put_lst (l' := l ++ ds.map Vl.dat) (xs' := xs2 ++ ys) hs2 (lstAt_eq e2) hb2 hx2 (by rw [List.length_append, List.length_map]; exact mil_le hc) (rv2.append (Rvs.dats dy))
            exact ⟨a, p, xs2, ys, rfl, rfl, hx2, hy.1, by rw [← rv2.len, dy.len]; exact mil_le hc, h2 β2 _ _ st3 hs3 .non⟩
        · exact h2.elim
      · exact h2.elim
  | _ => exact h1.elim
/-- xs[i] = v -/
def gSubM (f g : ME) : MG := fun v ρ s => match f ρ s with
  | .ok (.ref n) s1 => (match g ρ s1 with
    | .ok (.dat (.int i)) s2 => (match lstAt s2 n with
      | some l => (match ixN l.length i with
        | some j => if noX v = true then .nx ρ (s2.set n (.lst (l.set j v))) else .bad
        | none => .bad)
      | none => .bad)
    | _ => .bad)
  | _ => .bad
theorem dg_sub {i : Expr} {g : ME} (ho : DE X zx WF o f) (hi : DE X zx WF i g)
    (ha : ∀ v, assign (.Subscript o i pos) X.env v = (do
      let ov ← holding [v] (eval o X.env)
      let iv ← holding [v, ov] (eval i X.env)
      standAt pos
      holding [v, ov, iv] (setItem ov iv v)
      release [v, ov, iv] []) := by intro _; rfl) : DG X zx (.Subscript o i pos) (gSubM f g) := PG.imp (pg_sub ho hi set_list ha) fun v σ H Q ⟨β, ρ, s, x, hl, hs, rx, q⟩ => by
  refine ⟨β, ρ, s, hl, hs, ?_⟩
  unfold gSubM at q
  cases ef : f ρ s with
  | bad => rw [ef] at q; exact q.elim
  | ex x1 s1 => rw [ef] at q; exact q.elim
  | ok v1 s1 =>
    rw [ef] at q
    cases v1 with
    | ref n =>
      intro β1 H1 u st1 hs1 r1
      obtain ⟨a, hb, rfl⟩ := r1
      refine ⟨β1, ρ, s1, hl.step st1, hs1, ?_⟩
      dsimp only at q
      cases eg : g ρ s1 with
      | bad => rw [eg] at q; exact q.elim
      | ex x1 s2 => rw [eg] at q; exact q.elim
      | ok v2 s2 =>
        rw [eg] at q
        cases v2 with
        | dat d =>
          cases d with
          | int k =>
            dsimp only at q
            intro β2 H2 u2 st2 hs2 r2
            cases r2
            cases el : lstAt s2 n with
            | none => rw [el] at q; exact q.elim
            | some l =>
              rw [el] at q
              dsimp only at q
              cases ej : ixN l.length k with
              | none => rw [ej] at q; exact q.elim
              | some j =>
                rw [ej] at q
                dsimp only at q
                split at q
                · rename_i hn
                  obtain ⟨t, ht⟩ := st2.pre
                  have hb2 : β2.b[n]? = some a := by
                    rw [← ht, List.getElem?_append_left (List.getElem?_eq_some_iff.mp hb).1]
                    exact hb
                  obtain ⟨hz, xs2, hx2, rv2⟩ := hs2.ob n _ a (lstAt_eq el) hb2
                  have rx2 := st2.rv (st1.rv rx)
                  obtain ⟨st3, hs3⟩ := put_lst (l' := l.set j x) (xs' := xs2.set j v) hs2 (lstAt_eq el) hb2 hx2 (by rw [List.length_set]; exact hz) (Rvs.set (Rv.dn hn rx2) j rv2)
                  exact ⟨a, xs2, k, j, rfl, rfl, hx2, by rw [← rv2.len]; exact ej, q β2 σ _ ((st1.trans st2).trans st3) (((hl.step st1).step st2).step st3) hs3⟩
                · exact q.elim
          | _ => exact q.elim
        | _ => exact q.elim
    | _ => exact q.elim
/-- xs[i] += e of ints -/
def sAugS (f g h : ME) : MS := fun ρ s => (f ρ s).to ρ fun v s1 => (g ρ s1).to ρ fun i s2 => match v, i with
  | .ref n, .dat (.int k) => (match lstAt s2 n with
    | some l => if 0 ≤ k then (match l[k.toNat]? with
      | some (.dat (.int old)) => (h ρ s2).to ρ fun y s3 => match y, lstAt s3 n with
        | .dat (.int d), some l3 => if k < l3.length then .nx ρ (s3.set n (.lst (l3.set k.toNat (.dat (.int (old + d)))))) else .bad
        | _, _ => .bad
      | _ => .bad) else .bad
    | none => .bad)
  | _, _ => .bad
theorem ds_augS {i : Expr} {g h : ME} {tpos : Pos} (ho : DE X zx W o f) (hi : DE X zx W i g) (he : DE X zx W e h)
    (ha : ∀ ov iv new, augStore i ov iv new = (do holding [new, ov, iv] (setItem ov iv new); release [new, ov, iv] []; pure .next) := by intros; rfl) : DS X zx W (.AugAssign (.Subscript o i tpos) .Add e pos) (sAugS f g h) := PS.imp (ps_augS ho hi get_list he ip_add set_list ha) fun D σ H ⟨β, ρ, s, hl, hs, q⟩ => by
  refine ⟨β, ρ, s, hl, hs, PostS.to hl q fun v s1 β1 H1 u st1 hs1 r1 h1 => ?_⟩
  have hl1 := hl.step st1
  refine ⟨β1, ρ, s1, hl1, hs1, PostS.to hl1 h1 fun iv s2 β2 H2 u2 st2 hs2 r2 h2 => ?_⟩
  have hl2 := hl1.step st2
  split at h2
  · rename_i n k
    obtain ⟨a, hb, rfl⟩ := r1
    cases r2
    cases el : lstAt s2 n with
    | none => rw [el] at h2; exact h2.elim
    | some l =>
      rw [el] at h2
      dsimp only at h2
      split at h2
      · rename_i hk
        cases eo : l[k.toNat]? with
        | none => rw [eo] at h2; exact h2.elim
        | some ov =>
          rw [eo] at h2
          cases ov with
          | dat d =>
            cases d with
            | int old =>
              dsimp only at h2
              obtain ⟨t, ht⟩ := st2.pre
              have hb2 : β2.b[n]? = some a := by
                rw [← ht, List.getElem?_append_left (List.getElem?_eq_some_iff.mp hb).1]
                exact hb
              obtain ⟨hz, xs2, hx2, rv2⟩ := hs2.ob n _ a (lstAt_eq el) hb2
              obtain ⟨w, hw, rw2⟩ := rv2.get' eo
              cases rw2
              refine ⟨a, xs2, k, _, rfl, rfl, hk, SqL.of hx2, hw, β2, ρ, s2, hl2, hs2, PostS.to hl2 h2 fun y s3 β3 H3 u3 st3 hs3 r3 h3 => ?_⟩
              split at h3
              · rename_i d3 l3 el3
                split at h3
                · rename_i hlt
                  cases r3
                  obtain ⟨t3, ht3⟩ := st3.pre
                  have hb3 : β3.b[n]? = some a := by
                    rw [← ht3, List.getElem?_append_left (List.getElem?_eq_some_iff.mp hb2).1]
                    exact hb2
                  obtain ⟨hz3, xs3, hx3, rv3⟩ := hs3.ob n _ a (lstAt_eq el3) hb3
                  obtain ⟨st4, hs4⟩ := put_lst (l' := l3.set k.toNat (.dat (.int (old + d3)))) (xs' := xs3.set k.toNat (.int (old + d3))) hs3 (lstAt_eq el3) hb3 hx3 (by rw [List.length_set]; exact hz3) (Rvs.set (v := .dat (.int (old + d3))) (.int _) _ rv3)
                  refine ⟨old, d3, rfl, rfl, a, xs3, k, k.toNat, rfl, rfl, hx3, ?_, h3 β3 σ _ st4 ((hl2.step st3).step st4) hs4⟩
                  unfold ixN
                  rw [if_pos hk, if_pos (by rw [← rv3.len]; exact hlt)]
                · exact h3.elim
              · exact h3.elim
            | _ => exact h2.elim
          | _ => exact h2.elim
      · exact h2.elim
  · exact h2.elim
end
/-! ### enumerate of a tuple -/
def pairs (ds : List PyData) : Nat → List Vl
  | k => match ds with
    | [] => []
    | d :: r => .dat (.tuple [.int k, d]) :: pairs r (k + 1)
theorem pairs_len : ∀ (ds : List PyData) (k : Nat), (pairs ds k).length = ds.length
  | [], _ => rfl
  | d :: r, k => by
    show (pairs r (k + 1)).length + 1 = r.length + 1
    rw [pairs_len r (k + 1)]
theorem pairs_get : ∀ {ds : List PyData} {k i : Nat} {d : PyData}, ds[i]? = some d → (pairs ds k)[i]? = some (.dat (.tuple [.int ((k + i : Nat) : Int), d]))
  | [], _, _, _, h => by simp at h
  | d :: r, k, 0, e, h => by
    have : d = e := by simpa using h
    subst this
    rfl
  | d :: r, k, i + 1, e, h => by
    have h' : r[i]? = some e := by simpa using h
    show (pairs r (k + 1))[i]? = _
    rw [pairs_get h', show k + 1 + i = k + (i + 1) by omega]
def iEn (r : MA) : MI := fun ρ s => (r ρ s).bind fun vs s1 => match vs with
  | [.dat (.tuple ds)] => .ok ⟨pairs ds 0, none⟩ s1
  | _ => .bad
section
variable {X : Cx} {zx : Exo} {W : WX}
theorem di_enT {e : Expr} {r : MA} {p pos tpos : Pos} {elts : List Expr} {kk : Nat} (hg : Gl X "enumerate") (hm : X.mg "enumerate" = none) (ha : DA X zx W [e] r) (hs : starEach [e] X.env = [(false, eval e X.env)] := by rfl) : DI X zx W (.Tuple elts kk tpos) (.Call (.Name "enumerate" p) [e] [] pos) (iEn r) := PI.imp (pi_enT hg hm ha hs) fun σ H T q => by
  obtain ⟨β, ρ, s, hl, hs, hp⟩ := q
  refine ⟨β, ρ, s, hl, hs, Post.bind hp fun vs s1 β1 H1 us st1 hs1 r1 h1 => ?_⟩
  split at h1
  · rename_i ds
    obtain ⟨x, rfl, rx⟩ := rvs1 r1
    cases rx with
    | @tup a xs _ hx hz dx =>
      refine ⟨a, xs, rfl, hx, h1 β1 H1 _ (Step.refl _ _) hs1 ?_⟩
      have w := walk_enT (K := X.K) (a := a) (xs := xs)
      have hlen := dx.len
      refine ⟨fun i β' s' H' hi st hs' _ => w.goes i H' (by rw [hlen]; simpa [pairs_len] using hi) (st.sqt hx), fun β' s' H' st hs' _ => ?_, fun i β' s' H' x H2 hi st hs' _ y => ?_⟩
      · have := w.stops H' (st.sqt hx)
        simpa [pairs_len, hlen] using this
      · obtain ⟨T2, v, rfl, hT, rfl, hv⟩ := w.yields i H' x H2 (by rw [hlen]; simpa [pairs_len] using hi) (st.sqt hx) y
        obtain ⟨d, h1, h2⟩ := (st.dqs dx).get hv
        refine ⟨same_new hT, _, pairs_get h1, ?_⟩
        rw [Nat.zero_add]
        exact Dq.tup (SqT.of upd_same) (thou (by show 2 ≤ 1000; decide)) (.cons (.int _) (.cons ((Step.lay hT).dq h2) .nil))
  · exact h1.elim
end
end Pm
set_option maxRecDepth 100000
set_option maxHeartbeats 4000000
namespace Pm
open PySem PySem.Spec PyProof.Rows L2 Sw
/-! ### exceptions of two fields and of one -/
def clsB (s : Stmt) : List Stmt := match s with
  | .ClassDef _ _ _ b _ _ _ _ _ _ _ => b
  | _ => []
/-- what the text says of the class, where it is made -/
structure Mk2 (K : PySem.W.Frag) (mg : Str → Option Value) (nm f1 f2 : Str) (C fI : Addr) : Prop where
  oex : OexC K C
  gC : mg nm = some (.ref C)
  iC : PySem.W.findIn K (.ref C) "__init__" = some (some (.ref fI))
  tI : PySem.W.typeIn K (.ref fI) = some (.type "function")
  no1 : PySem.W.findIn K (.ref C) f1 = some none
  no2 : PySem.W.findIn K (.ref C) f2 = some none
def spIn2 (C : Addr) (f1 f2 : Str) : Sp := fun vs H Q _ => ∃ (a : Addr) (x y : V), vs = [.ref a, x, y] ∧ H a = some (L2.exo a C none) ∧
  ∀ dx, H dx = none → dx ≠ a → Q .non (upd (upd (upd H dx (exd dx [(f1, x)])) a (L2.exo a C (some dx))) dx (exd dx [(f2, y), (f1, x)]))
/-- C(x, y), made -/
theorem in2 {C : Addr} {f1 f2 : Str} {H1 : Hp} {x y : V} {Q : XK} (q : ∀ d, H1 d = none → Q (.ref C) (some d) (upd H1 d (.xd [(f2, y), (f1, x)]))) :
    [x, y].length ≤ 1000 ∧ ∀ a, H1 a = none → spIn2 C f1 f2 (.ref a :: ([x, y] ++ [])) (upd H1 a (L2.exo a C none)) (fun v H2 => v = .non ∧ ∃ (d : Addr) (fs : List (Str × V)), H2 a = some (L2.exo a C (some d)) ∧ H2 d = some (exd d fs) ∧ H1 d = none ∧ Q (.ref C) (some d) (upd (L2.del H2 a) d (.xd fs))) (fun _ _ _ => False) := by
  refine ⟨by show 2 ≤ 1000; decide, fun a ha => ⟨a, x, y, rfl, upd_same, fun dx hdx ne => ⟨rfl, dx, _, ?_, upd_same, ?_, ?_⟩⟩⟩
  · rw [upd_ne (Ne.symm ne)]
    exact upd_same
  · rw [upd_ne ne] at hdx
    exact hdx
  · rw [upd_ne ne] at hdx
    refine cast (congrArg _ ?_) (q dx hdx)
    funext b
    by_cases h1 : b = dx
    · rw [h1, upd_same, upd_same]
    · rw [upd_ne h1, upd_ne h1]
      by_cases h2 : b = a
      · rw [h2, ha]
        exact (L2.del_same).symm
      · rw [L2.del_ne h2, upd_ne h1, upd_ne h2, upd_ne h1, upd_ne h2]
structure Mk1 (K : PySem.W.Frag) (mg : Str → Option Value) (nm f1 : Str) (C fI : Addr) : Prop where
  oex : OexC K C
  gC : mg nm = some (.ref C)
  iC : PySem.W.findIn K (.ref C) "__init__" = some (some (.ref fI))
  tI : PySem.W.typeIn K (.ref fI) = some (.type "function")
  no1 : PySem.W.findIn K (.ref C) f1 = some none
def spIn1 (C : Addr) (f1 : Str) : Sp := fun vs H Q _ => ∃ (a : Addr) (x : V), vs = [.ref a, x] ∧ H a = some (L2.exo a C none) ∧
  ∀ dx, H dx = none → dx ≠ a → Q .non (upd (upd H dx (exd dx [(f1, x)])) a (L2.exo a C (some dx)))
theorem in1 {C : Addr} {f1 : Str} {H1 : Hp} {x : V} {Q : XK} (q : ∀ d, H1 d = none → Q (.ref C) (some d) (upd H1 d (.xd [(f1, x)]))) :
    [x].length ≤ 1000 ∧ ∀ a, H1 a = none → spIn1 C f1 (.ref a :: ([x] ++ [])) (upd H1 a (L2.exo a C none)) (fun v H2 => v = .non ∧ ∃ (d : Addr) (fs : List (Str × V)), H2 a = some (L2.exo a C (some d)) ∧ H2 d = some (exd d fs) ∧ H1 d = none ∧ Q (.ref C) (some d) (upd (L2.del H2 a) d (.xd fs))) (fun _ _ _ => False) := by
  refine ⟨by show 1 ≤ 1000; decide, fun a ha => ⟨a, x, rfl, upd_same, fun dx hdx ne => ⟨rfl, dx, [(f1, x)], upd_same, ?_, ?_, ?_⟩⟩⟩
  · rw [upd_ne ne]; exact upd_same
  · rw [upd_ne ne] at hdx
    exact hdx
  · rw [upd_ne ne] at hdx
    refine cast (congrArg _ ?_) (q dx hdx)
    funext b
    by_cases h1 : b = dx
    · rw [h1, upd_same, upd_same]
    · rw [upd_ne h1, upd_ne h1]
      by_cases h2 : b = a
      · rw [h2, ha]
        exact (L2.del_same).symm
      · rw [L2.del_ne h2, upd_ne h2, upd_ne h1, upd_ne h2]
theorem rvs2 {G : Cf} {H : Hp} {β : Bs} {v w : Vl} {xs : List V} (r : Rvs G H β [v, w] xs) : ∃ x y, xs = [x, y] ∧ Rv G H β v x ∧ Rv G H β w y := by
  cases r with
  | cons r0 r1 =>
    cases r1 with
    | cons r1 r2 => cases r2; exact ⟨_, _, rfl, r0, r1⟩
def sRaise2 (nm f1 f2 : Str) (r : MA) : MS := fun ρ s => (r ρ s).to ρ fun vs s1 => match vs with
  | [.dat x, .dat y] => .ex (nm, [(f2, y), (f1, x)]) ρ s1
  | _ => .bad
def sRaise1 (nm f1 : Str) (r : MA) : MS := fun ρ s => (r ρ s).to ρ fun vs s1 => match vs with
  | [.dat x] => .ex (nm, [(f1, x)]) ρ s1
  | _ => .bad
section
variable {X : Cx} {zx : Exo} {W : WX} {k : Nat} {nm f1 f2 : Str} {C fI : Addr} {fd : FuncData} {ps : List Str} {e : Expr} {es : List Expr} {r : MA} {p pos pos2 : Pos}
theorem ds_raise2 (hc : X.calm = true) (tk : Takes X W) (T : Mk2 X.K X.mg nm f1 f2 C fI) (F : FnOk X.prog X.w X.K X.mg X.base CX0 k fI fd ps (spIn2 C f1 f2)) (hr : Room (k + 1) X.A) (hb : Binds X.K fd ps []) (hg : Gl X nm) (ha : DA X zx W (e :: es) r)
    (hdb : (nm == ("__debug__" : Str)) = false := by decide) (he : starEach (e :: es) X.env = (false, eval e X.env) :: starEach es X.env := by rfl) (hpl : (backTo pos2 (starEach es X.env)).any (·.1) = false := by rfl) :
    DS X zx W (.Raise (some (.Call (.Name nm p) (e :: es) [] pos2)) none pos) (sRaise2 nm f1 f2 r) := PS.imp (ps_raise hc tk (pmk_oex T.oex T.iC T.tI F hr hb .nil pass0 hg T.gC ha hdb he hpl)) fun D σ H ⟨β, ρ, s, hl, hs, q⟩ => by
  refine ⟨β, ρ, s, hl, hs, PostS.to hl q fun vs s1 β1 H1 us st1 hs1 r1 h1 => ?_⟩
  split at h1
  · rename_i x y
    obtain ⟨v, w, rfl, r0, r1⟩ := rvs2 r1
    have r0 : Dq X.K H1 β1 v x := r0
    have r1 : Dq X.K H1 β1 w y := r1
    refine in2 (H1 := H1) (C := C) (f1 := f1) (f2 := f2) (x := v) (y := w) (Q := fun cls d H' => W cls d σ H') fun d hd => ?_
    exact h1 β1 σ _ _ _ (Step.lay hd) ((hl.step st1).step (Step.lay hd)) (hs1.same (same_new hd)) ⟨C, d, [(f2, w), (f1, v)], T.gC, rfl, rfl, upd_same, hs1.nin hd, .cons ⟨rfl, (Step.lay hd).dq r1⟩ (.cons ⟨rfl, (Step.lay hd).dq r0⟩ .nil)⟩
  · exact h1.elim
theorem ds_raise1 (hc : X.calm = true) (tk : Takes X W) (T : Mk1 X.K X.mg nm f1 C fI) (F : FnOk X.prog X.w X.K X.mg X.base CX0 k fI fd ps (spIn1 C f1)) (hr : Room (k + 1) X.A) (hb : Binds X.K fd ps []) (hg : Gl X nm) (ha : DA X zx W (e :: es) r)
    (hdb : (nm == ("__debug__" : Str)) = false := by decide) (he : starEach (e :: es) X.env = (false, eval e X.env) :: starEach es X.env := by rfl) (hpl : (backTo pos2 (starEach es X.env)).any (·.1) = false := by rfl) :
    DS X zx W (.Raise (some (.Call (.Name nm p) (e :: es) [] pos2)) none pos) (sRaise1 nm f1 r) := PS.imp (ps_raise hc tk (pmk_oex T.oex T.iC T.tI F hr hb .nil pass0 hg T.gC ha hdb he hpl)) fun D σ H ⟨β, ρ, s, hl, hs, q⟩ => by
  refine ⟨β, ρ, s, hl, hs, PostS.to hl q fun vs s1 β1 H1 us st1 hs1 r1 h1 => ?_⟩
  split at h1
  · rename_i x
    obtain ⟨v, rfl, r0⟩ := rvs1 r1
    have r0 : Dq X.K H1 β1 v x := r0
    refine in1 (H1 := H1) (C := C) (f1 := f1) (x := v) (Q := fun cls d H' => W cls d σ H') fun d hd => ?_
    exact h1 β1 σ _ _ _ (Step.lay hd) ((hl.step st1).step (Step.lay hd)) (hs1.same (same_new hd)) ⟨C, d, [(f1, v)], T.gC, rfl, rfl, upd_same, hs1.nin hd, .cons ⟨rfl, (Step.lay hd).dq r0⟩ .nil⟩
  · exact h1.elim
/-- a statement that is never come to -/
def sNever : MS := fun _ _ => .bad
theorem ds_never {st : Stmt} : DS X zx W st sNever := PS.imp ps_never fun D σ H ⟨_, _, _, _, _, q⟩ => q
end
/-! ### try .. except x as n -/
/-- behind the suite its name is gone -/
def Fl.unset (i : Nat) (f : Fl) : Fl := match f with
  | .nx ρ s => if (ρ.set i none).all (fun o => match o with | some v => noX v | none => true) = true then .nx (ρ.set i none) s else .bad
  | .rt v s => if noX v = true then .rt v s else .bad
  | .bk ρ s => if (ρ.set i none).all (fun o => match o with | some v => noX v | none => true) = true then .bk (ρ.set i none) s else .bad
  | .ct ρ s => if (ρ.set i none).all (fun o => match o with | some v => noX v | none => true) = true then .ct (ρ.set i none) s else .bad
  | _ => .bad
/-- t tells whether the clause takes an exception of that name -/
def sTry (b : MS) (t : Str → Option Bool) (i : Nat) (su : MS) : MS := fun ρ s => match b ρ s with
  | .ex x ρ1 s1 => (match t x.1 with
    | some true => (su (ρ1.set i (some (.exo x.1 x.2))) s1).unset i
    | some false => .ex x ρ1 s1
    | none => .bad)
  | r => r
theorem RelL.up {K : PySem.W.Frag} {mg : Str → Option Value} {z : Exo} {H : Hp} {β : Bs} {ρ : Loc} {σ : L2.St} (h : RelL ⟨K, mg, none⟩ H β ρ σ) : RelL ⟨K, mg, z⟩ H β ρ σ := ⟨h.len, fun i v e => by
  obtain ⟨u, h1, h2⟩ := h.at' i v e
  exact ⟨u, h1, Rv.up (G := ⟨K, mg, z⟩) h2⟩⟩
theorem RelL.dn {K : PySem.W.Frag} {mg : Str → Option Value} {z : Exo} {H : Hp} {β : Bs} {ρ : Loc} {σ : L2.St} (h : RelL ⟨K, mg, z⟩ H β ρ σ) (hn : ρ.all (fun o => match o with | some v => noX v | none => true) = true) : RelL ⟨K, mg, none⟩ H β ρ σ := ⟨h.len, fun i v e => by
  obtain ⟨u, h1, h2⟩ := h.at' i v e
  exact ⟨u, h1, Rv.dn (G := ⟨K, mg, z⟩) (List.all_eq_true.mp hn _ (List.mem_of_getElem? e)) h2⟩⟩
section
variable {X : Cx} {W : WX} {x n : Str} {c : Value} {i : Nat} {body suite : List Stmt} {b₀ : Stmt} {np pos pos' : Pos} {fb fs : MS} {t : Str → Option Bool}
theorem ds_try_as (hs : X.stack = X.env :: X.outer) (hf : X.env.frame = some X.env.locals) (hN : X.N.Nodup) (hi : X.N[i]? = some n) (hln : X.env.kindOf n = some .local) (hc : Names X x c) (tk : Takes X W)
    (ht : ∀ nm C b, X.mg nm = some (.ref C) → t nm = some b → PySem.W.exmOne X.K (.ref C) c = some b)
    (hb : ∀ (W : WX) (pn : List (Addr × Obj)) (xe : Value → Shared → Prop), Takes (X.tr pn xe) W → PassesOwn (model X.prog X.w) X.A X.env xe → DSs (X.tr pn xe) none W body fb)
    (hsu : ∀ (a : Addr) (oe : Obj) (cls : Value) (d : Option Addr) (pn : List (Addr × Obj)), Zc cls d oe → (∃ vs, oe.data = .fields vs) → DSs (X.suite a ((a, oe) :: pn)) (some (a, cls, d)) WF (b₀ :: suite) fs) :
    DS X none W (.Try body [.ExceptHandler (some (.Name x np)) (some n) (b₀ :: suite) pos'] [] [] pos) (sTry fb t i fs) :=
  PS.imp (ps_try_as (tb := fun W => tS (cf X none) W fb) (ts := fun a cls d => tS (cf X (some (a, cls, d))) WF fs) hs hf hN hi hln hc tk hb hsu) fun D σ H ⟨β, ρ, s, hl, hs, q⟩ => by
  refine ⟨β, ρ, s, hl, hs, ?_⟩
  unfold sTry at q
  cases ef : fb ρ s with
  | ex x1 ρ1 s1 =>
    rw [ef] at q
    dsimp only at q
    intro β1 σ1 H1 c1 d1 st1 hl1 hs1 rx
    obtain ⟨C, dd, xs, h1, h2, h3, h4, h5, h6⟩ := id rx
    cases et : t x1.1 with
    | none => rw [et] at q; exact q.elim
    | some b =>
      rw [et] at q
      refine ⟨b, by rw [h2]; exact ht _ C b h1 et, fun hb a ha => ?_, fun hb => ?_⟩
      · subst hb
        dsimp only at q
        have rxo : Rv (cf X (some (a, c1, d1))) H1 β1 (.exo x1.1 x1.2) (.ref a) := ⟨a, c1, d1, rfl, rfl, rx⟩
        have hlu : RelL (cf X (some (a, c1, d1))) H1 β1 (ρ1.set i (some (.exo x1.1 x1.2))) (σ1.set i (some (.ref a))) := (RelL.up hl1).set rxo
        refine ⟨β1, _, s1, hlu, hs1.oz, ?_⟩
        have q2 := PostS.step q st1
        generalize fs (ρ1.set i (some (.exo x1.1 x1.2))) s1 = fl at q2
        cases fl with
        | nx ρ2 s2 =>
          intro β2 σ2 H2 st2 hl2 hs2
          unfold Fl.unset at q2
          dsimp only at q2
          split at q2
          · rename_i hall
            exact q2 β2 _ H2 st2 (RelL.dn hl2.setN hall) hs2.oz
          · exact q2.elim
        | bk ρ2 s2 =>
          intro β2 σ2 H2 st2 hl2 hs2
          unfold Fl.unset at q2
          dsimp only at q2
          split at q2
          · rename_i hall
            exact q2 β2 _ H2 st2 (RelL.dn hl2.setN hall) hs2.oz
          · exact q2.elim
        | ct ρ2 s2 =>
          intro β2 σ2 H2 st2 hl2 hs2
          unfold Fl.unset at q2
          dsimp only at q2
          split at q2
          · rename_i hall
            exact q2 β2 _ H2 st2 (RelL.dn hl2.setN hall) hs2.oz
          · exact q2.elim
        | rt v s2 =>
          intro β2 H2 u st2 hs2 rv
          unfold Fl.unset at q2
          dsimp only at q2
          split at q2
          · rename_i hn
            exact q2 β2 H2 u st2 hs2.oz (Rv.dn (G := cf X (some (a, c1, d1))) hn rv)
          · exact q2.elim
        | ex x2 ρ2 s2 => exact q2.elim
        | bad => exact q2.elim
      · subst hb
        dsimp only at q
        exact q β1 σ1 H1 c1 d1 st1 hl1 hs1 rx
  | nx ρ1 s1 => rw [ef] at q; exact q
  | rt v s1 => rw [ef] at q; exact q
  | bk ρ1 s1 => rw [ef] at q; exact q
  | ct ρ1 s1 => rw [ef] at q; exact q
  | bad => rw [ef] at q; exact q
end
/-! ### the caught one: its fields, its classes -/
/-- what isinstance asks of the class of a caught one -/
structure XisC (K : PySem.W.Frag) (C : Addr) : Prop where
  cl : (PySem.W.clsIn K C).isSome = true
  ga : PySem.W.findIn K (.ref C) "__getattribute__" = some (some (.builtin "BaseException.__getattribute__"))
  gg : PySem.W.findIn K (.ref C) "__getattr__" = some none
  ex : PySem.W.subIn K (.ref C) (.type "BaseException") = some true
  cA : PySem.W.findIn K (.ref C) "__class__" = some (some (.builtin "object.__class__"))
  sg : PySem.W.specialIn K (.builtin "object.__class__") "__get__" = some (some (.builtin "getset_descriptor.__get__"))
  tk : PySem.W.takesIn K (.builtin "object.__class__") = some true
  mo : PySem.W.mroIn K C (.type "object") = some true
theorem lookup_rel {G : Cf} {H : Hp} {β : Bs} {n : Str} : ∀ {fs : List (Str × PyData)} {xs : List (Str × V)} {d : PyData}, Paired (fun (p : Str × PyData) (q : Str × V) => p.1 = q.1 ∧ Dq G.K H β q.2 p.2) fs xs → fs.lookup n = some d → ∃ v, xs.lookup n = some v ∧ Dq G.K H β v d
  | _, _, _, .nil, e => by simp at e
  | (k, d0) :: fs, (k2, v0) :: xs, d, .cons h t, e => by
    obtain ⟨h1, h2⟩ := h
    have h1 : k = k2 := h1
    subst h1
    rw [List.lookup_cons] at e ⊢
    cases hk : (n == k) with
    | true => rw [hk] at e; cases e; exact ⟨v0, rfl, h2⟩
    | false => rw [hk] at e; exact lookup_rel t e
section
variable {X : Cx} {a : Addr} {oe : Obj} {cls : Value} {d : Option Addr} {pn : List (Addr × Obj)} {W : WX} {e : Expr} {f : ME} {pos p p2 : Pos} {n nm : Str} {C : Addr}
theorem exo_at {fs : List (Str × PyData)} {H : Hp} {β : Bs} {u : V} (r : Rv (cf X (some (a, cls, d))) H β (.exo nm fs) u) : u = .ref a ∧ RX (cf X none) H β (nm, fs) cls d := by
  obtain ⟨a1, c1, d1, e1, e2, rx⟩ := r
  cases e1
  exact ⟨e2, rx⟩
/-- e.n of a caught one of the class nm -/
def phFld (nm n : Str) : Vl → Sto → Option Vl
  | .exo m fs, _ => if m = nm then (fs.lookup n).map Vl.dat else none
  | _, _ => none
theorem de_xf (T : XfC X.K C) (hno : PySem.W.findIn X.K (.ref C) n = some none) (gC : X.mg nm = some (.ref C)) (hz : Zc cls d oe) (hf : ∃ vs, oe.data = .fields vs) (he : DE (X.suite a ((a, oe) :: pn)) (some (a, cls, d)) W e f) (hb : attributeBase e n X.env (eval e X.env) = eval e X.env := by rfl) :
    DE (X.suite a ((a, oe) :: pn)) (some (a, cls, d)) W (.Attribute e n pos) (m1 (phFld nm n) f) := PE.imp (pe_xf (C := C) T hno hz hf he hb) fun σ H Q ⟨β, ρ, s, hl, hs, hp⟩ => by
  refine ⟨β, ρ, s, hl, hs, Post.bind hp fun v s1 β1 H1 u st1 hs1 r1 h1 => ?_⟩
  obtain ⟨z, ez, q⟩ := post_of h1 hs1
  cases v with
  | exo m fs =>
    unfold phFld at ez
    dsimp only at ez
    split at ez
    · rename_i em
      subst em
      obtain ⟨rfl, C1, dd, xs, h1, h2, h3, h4, h5, h6⟩ := exo_at (X := X) r1
      have ec : C1 = C := by
        have : X.mg m = some (.ref C1) := h1
        rw [gC] at this
        cases this
        rfl
      subst ec
      obtain ⟨d1, el, rfl⟩ := Option.map_eq_some_iff.mp ez
      obtain ⟨v, hv, dv⟩ := lookup_rel (G := cf X none) h6 el
      exact ⟨rfl, h2, dd, xs, v, h3, h4, hv, q H1 _ (Same.refl _) dv⟩
    · cases ez
  | _ => cases ez
/-- isinstance(e, c) of a caught one with fields -/
def rIsED (K : PySem.W.Frag) (a : Addr) (cls : Value) (d : Option Addr) : List V → Hp → VK → Prop := fun xs H Q => ∃ (c : V) (cv : Value) (b : Bool) (C dd : Addr) (fs : List (Str × V)), xs = [.ref a, c] ∧ (∀ u, RelV c u → u = cv) ∧ cls = .ref C ∧ d = some dd ∧ H dd = some (.xd fs) ∧ XisC K C ∧ PySem.W.kitOne K (.ref C) cv = some b ∧ Q (.bl b) H
theorem inst_at {C dd : Addr} {fs : List (Str × V)} {pins : List (Addr × Obj)} {σ : L2.St} {H : Hp} {s : Shared} (hz : Zc (.ref C) (some dd) oe) (hf : ∃ vs, oe.data = .fields vs) (I : Inv (X.suite a ((a, oe) :: pn)) pins σ H s) (hd : H dd = some (.xd fs)) :
    ∃ od, PySem.W.InstAt s.heap a oe C (some od) := by
  obtain ⟨hget, _⟩ := I.pin (a, oe) (List.mem_append_left _ List.mem_cons_self)
  obtain ⟨vs, hv⟩ := hf
  have hx : ObjOk X.prog X.w H s.heap dd (.xd fs) := I.hok dd _ hd
  obtain ⟨mA, hns, _⟩ := hx
  obtain ⟨od, ho, _⟩ := lookIn_ns hns
  exact ⟨od, hget, hz.1, by unfold PySem.W.notCls; rw [hv] <;> rfl, by rw [hz.2]; exact ho⟩
theorem call_isED (hz : Zc cls d oe) (hf : ∃ vs, oe.data = .fields vs) : CallR (X.suite a ((a, oe) :: pn)) (.builtin "isinstance") (rIsED X.K a cls d) := by
  intro pins s σ H xs us Q I r h
  obtain ⟨c, cv, b, C, dd, fs, rfl, hcv, rfl, rfl, hd, T, e, q⟩ := h
  obtain ⟨u1, u2, rfl, r1, r2⟩ := vals2 r
  cases r1
  have ec := hcv _ r2
  subst ec
  obtain ⟨od, J⟩ := inst_at (X := X) hz hf I hd
  exact PySem.W.kia_one (PySem.W.kitx_exc T.cl T.ga T.gg T.ex T.cA T.sg T.tk T.mo) I.kIn J e (fun z => nomatch z) fun tk => ⟨.bl b, H, I.kept (t' := tk) fun _ _ z => z, rfl, q⟩
/-- isinstance(e, (A, B, ..)) of it -/
def rIsEDT (K : PySem.W.Frag) (a : Addr) (cls : Value) (d : Option Addr) : List V → Hp → VK → Prop := fun xs H Q => ∃ (t : Addr) (as : List Addr) (b : Bool) (C dd : Addr) (fs : List (Str × V)), xs = [.ref a, .ref t] ∧ SqT K H t (as.map V.ref) ∧ cls = .ref C ∧ d = some dd ∧ H dd = some (.xd fs) ∧ XisC K C ∧ PySem.W.kitAny K (.ref C) (as.map Value.ref) = some b ∧ Q (.bl b) H
theorem refs_at : ∀ {as : List Addr} {us : List Value}, Vals (as.map V.ref) us → us = as.map Value.ref
  | [], _, .nil => rfl
  | a :: as, _, .cons h t => by
    rw [refs_at t]
    cases h
    rfl
theorem call_isEDT (hz : Zc cls d oe) (hf : ∃ vs, oe.data = .fields vs) : CallR (X.suite a ((a, oe) :: pn)) (.builtin "isinstance") (rIsEDT X.K a cls d) := by
  intro pins s σ H xs us Q I r h
  obtain ⟨t, as, b, C, dd, fs, rfl, hq, rfl, rfl, hd, T, e, q⟩ := h
  obtain ⟨u1, u2, rfl, r1, r2⟩ := vals2 r
  cases r1
  cases r2
  obtain ⟨od, J⟩ := inst_at (X := X) hz hf I hd
  obtain ⟨its, rv, ⟨⟨cls, dt, da, sl⟩, ho, hc, n, hdd⟩, _⟩ := I.tuple hq
  cases hc
  cases hdd
  have ei := refs_at rv
  subst ei
  exact PySem.W.kia_tup (PySem.W.kitx_exc T.cl T.ga T.gg T.ex T.cA T.sg T.tk T.mo) I.kIn J ho e (fun z => nomatch z) fun tk => ⟨.bl b, H, I.kept (t' := tk) fun _ _ z => z, rfl, q⟩
/-- isinstance(e, ..) of a caught one of the class nm: k -/
def phIsE (nm : Str) (k : Bool) : Vl → Sto → Option Vl
  | .exo m _, _ => if m = nm then some (.dat (.bool k)) else none
  | _, _ => none
/-- what is asked of an argument: a class, as a value -/
theorem isE_go {k : Bool} {σ : L2.St} {H : Hp} {Q : VK} (gC : X.mg nm = some (.ref C)) (q : tG (cf X (some (a, cls, d))) (Rv (cf X (some (a, cls, d)))) W (m1 (phIsE nm k) f) σ H Q) :
    tG (cf X (some (a, cls, d))) (Rv (cf X (some (a, cls, d)))) W f σ H fun u H1 => u = .ref a ∧ cls = .ref C ∧ (∃ dd xs, d = some dd ∧ H1 dd = some (.xd xs)) ∧ ∀ H2, Same H1 H2 → Q (.bl k) H2 := by
  obtain ⟨β, ρ, s, hl, hs, hp⟩ := q
  refine ⟨β, ρ, s, hl, hs, Post.bind hp fun v s1 β1 H1 u st1 hs1 r1 h1 => ?_⟩
  obtain ⟨z, ez, q⟩ := post_of h1 hs1
  cases v with
  | exo m fs =>
    unfold phIsE at ez
    dsimp only at ez
    split at ez
    · rename_i em
      subst em
      cases ez
      obtain ⟨rfl, C1, dd, xs, h1, h2, h3, h4, h5, h6⟩ := exo_at (X := X) r1
      have ec : C1 = C := by
        have : X.mg m = some (.ref C1) := h1
        rw [gC] at this
        cases this
        rfl
      subst ec
      exact ⟨rfl, h2, ⟨dd, xs, h3, h4⟩, fun H2 sm => q H2 _ sm (.bl _)⟩
    · cases ez
  | _ => cases ez
theorem de_isC {c : V} {cv : Value} {k : Bool} {t : Expr} (T : XisC X.K C) (gC : X.mg nm = some (.ref C)) (hk : PySem.W.kitOne X.K (.ref C) cv = some k) (hz : Zc cls d oe) (hf : ∃ vs, oe.data = .fields vs) (hg : Gl X "isinstance") (hm : X.mg "isinstance" = none)
    (he : DE (X.suite a ((a, oe) :: pn)) (some (a, cls, d)) W e f) (ht : PE (X.suite a ((a, oe) :: pn)) t (tC c)) (hcv : ∀ u, RelV c u → u = cv)
    (hs : starEach [e, t] X.env = (false, eval e X.env) :: starEach [t] X.env := by rfl) (hs2 : starEach [t] X.env = (false, eval t X.env) :: starEach [] X.env := by rfl) (hpl : (backTo pos (starEach [t] X.env)).any (·.1) = false := by rfl) :
    DE (X.suite a ((a, oe) :: pn)) (some (a, cls, d)) W (.Call (.Name "isinstance" p) [e, t] [] pos) (m1 (phIsE nm k) f) :=
  PE.imp (pe_callB (X := X.suite a ((a, oe) :: pn)) (call_isED hz hf) hg hm (by decide +kernel) (pa_cons (X := X.suite a ((a, oe) :: pn)) he (pa_cons (X := X.suite a ((a, oe) :: pn)) ht pa_nil hs2) hs) (by decide) (by decide) hs hpl) fun σ H Q q => by
  obtain ⟨β, ρ, s, hl, hs, hp⟩ := isE_go (X := X) gC q
  refine ⟨β, ρ, s, hl, hs, ?_⟩
  cases ef : f ρ s with
  | bad => rw [ef] at hp; exact hp
  | ex x s1 => rw [ef] at hp; exact hp
  | ok v s1 =>
    rw [ef] at hp
    intro β1 H1 u st1 hs1 r1
    obtain ⟨h1, h2, ⟨dd, xs, h3, h4⟩, q⟩ := hp β1 H1 u st1 hs1 r1
    exact ⟨c, cv, k, C, dd, xs, by rw [h1], hcv, h2, h3, h4, T, hk, q H1 (Same.refl _)⟩
theorem de_isT {as : List Addr} {k : Bool} {ts : List Expr} {x1} {tp : Pos} {ta : TA} (T : XisC X.K C) (gC : X.mg nm = some (.ref C)) (hk : PySem.W.kitAny X.K (.ref C) (as.map Value.ref) = some k) (hz : Zc cls d oe) (hf : ∃ vs, oe.data = .fields vs) (hg : Gl X "isinstance") (hm : X.mg "isinstance" = none)
    (he : DE (X.suite a ((a, oe) :: pn)) (some (a, cls, d)) W e f) (ht : PA (X.suite a ((a, oe) :: pn)) ts ta) (hta : ∀ σ H Q, Q (as.map V.ref) H → ta σ H Q) (hal : as.length ≤ 1000)
    (hs : starEach [e, .Tuple ts x1 tp] X.env = (false, eval e X.env) :: starEach [.Tuple ts x1 tp] X.env := by rfl) (hs2 : starEach [.Tuple ts x1 tp] X.env = (false, eval (.Tuple ts x1 tp) X.env) :: starEach [] X.env := by rfl) (hpl : (backTo pos (starEach [.Tuple ts x1 tp] X.env)).any (·.1) = false := by rfl) :
    DE (X.suite a ((a, oe) :: pn)) (some (a, cls, d)) W (.Call (.Name "isinstance" p) [e, .Tuple ts x1 tp] [] pos) (m1 (phIsE nm k) f) :=
  PE.imp (pe_callB (X := X.suite a ((a, oe) :: pn)) (call_isEDT hz hf) hg hm (by decide +kernel) (pa_cons (X := X.suite a ((a, oe) :: pn)) he (pa_cons (X := X.suite a ((a, oe) :: pn)) (pe_tup ht) pa_nil hs2) hs) (by decide) (by decide) hs hpl) fun σ H Q q => by
  obtain ⟨β, ρ, s, hl, hs, hp⟩ := isE_go (X := X) gC q
  refine ⟨β, ρ, s, hl, hs, ?_⟩
  cases ef : f ρ s with
  | bad => rw [ef] at hp; exact hp
  | ex x s1 => rw [ef] at hp; exact hp
  | ok v s1 =>
    rw [ef] at hp
    intro β1 H1 u st1 hs1 r1
    obtain ⟨h1, h2, ⟨dd, xs, h3, h4⟩, q⟩ := hp β1 H1 u st1 hs1 r1
    refine hta _ _ _ ⟨by rw [List.length_map]; exact thou hal, fun t ht => ?_⟩
    exact ⟨t, as, k, C, dd, xs, by rw [h1], SqT.of upd_same, h2, h3, same_new ht _ _ h4, T, hk, q _ (same_new ht)⟩
end
end Pm
set_option maxRecDepth 100000
set_option maxHeartbeats 4000000
namespace Pm
open PySem PySem.Spec PyProof.Rows L2 Sw
/-! ### what a def has laid and nobody has any more -/
def refOk (n : Nat) : Vl → Prop
  | .ref m => m < n
  | _ => True
def obOk (n : Nat) : Ob → Prop
  | .lst l => ∀ v ∈ l, refOk n v
  | .dic l => ∀ p ∈ l, refOk n p.2
  | .dit l => ∀ p ∈ l, refOk n p.2
  | .ins _ l => ∀ p ∈ l, refOk n p.2
def Closed (s : Sto) : Prop := ∀ o ∈ s, obOk s.length o
theorem paired_left {α γ : Type} {F : α → γ → Prop} : ∀ {l : List α} {m : List γ}, Paired F l m → ∀ a ∈ l, ∃ b ∈ m, F a b
  | _, _, .nil, a, h => by cases h
  | _, _, .cons r t, a, h => by
    rcases List.mem_cons.mp h with e | h
    · subst e
      exact ⟨_, List.mem_cons_self, r⟩
    · obtain ⟨b, h1, h2⟩ := paired_left t a h
      exact ⟨b, List.mem_cons_of_mem _ h1, h2⟩
theorem rv_ref {G : Cf} {H : Hp} {β : Bs} {v : Vl} {u : V} (r : Rv G H β v u) : refOk β.b.length v := by
  cases v with
  | ref n =>
    obtain ⟨a, h, _⟩ := r
    exact (List.getElem?_eq_some_iff.mp h).1
  | _ => trivial
theorem RelS.closed {G : Cf} {β : Bs} {s : Sto} {H : Hp} (h : RelS G β s H) : Closed s := fun o ho => by
  obtain ⟨n, hn, e⟩ := List.getElem_of_mem ho
  have hb : n < β.b.length := by rw [h.len]; exact hn
  have r := h.ob n o _ (by rw [List.getElem?_eq_getElem hn, e]) (List.getElem?_eq_getElem hb)
  rw [← h.len]
  cases o with
  | lst l =>
    obtain ⟨_, xs, _, r⟩ := r
    intro v hv
    obtain ⟨u, _, hu⟩ := paired_left r v hv
    exact rv_ref hu
  | dic l =>
    obtain ⟨xs, _, r⟩ := r
    intro p hp
    obtain ⟨u, _, hu⟩ := paired_left r p hp
    exact rv_ref hu.2
  | dit l =>
    obtain ⟨xs, _, r⟩ := r
    intro p hp
    obtain ⟨u, _, hu⟩ := paired_left r p hp
    exact rv_ref hu.2
  | ins c l =>
    obtain ⟨_, _, xs, _, _, _, _, r⟩ := r
    intro p hp
    obtain ⟨u, _, hu⟩ := paired_left r p hp
    exact rv_ref hu.2
mutual
theorem Dq.sub {K : PySem.W.Frag} {H : Hp} {β β' : Bs} (i : ∀ x ∈ β'.b, x ∈ β.b) (j : ∀ x ∈ β'.g, x ∈ β.g) : ∀ {v : V} {d : PyData}, Dq K H β v d → Dq K H β' v d
  | _, _, .non => .non
  | _, _, .bl b => .bl b
  | _, _, .int i => .int i
  | _, _, .str h => .str h
  | _, _, .lst h l r => .lst ⟨h.1, fun z => h.2.1 (i _ z), fun z => h.2.2 (j _ z)⟩ l (DqAll.sub i j r)
  | _, _, .tup h l r => .tup h l (DqAll.sub i j r)
theorem DqAll.sub {K : PySem.W.Frag} {H : Hp} {β β' : Bs} (i : ∀ x ∈ β'.b, x ∈ β.b) (j : ∀ x ∈ β'.g, x ∈ β.g) : ∀ {vs : List V} {ds : List PyData}, DqAll K H β vs ds → DqAll K H β' vs ds
  | _, _, .nil => .nil
  | _, _, .cons h r => .cons (Dq.sub i j h) (DqAll.sub i j r)
end
def Bs.cut (β : Bs) (n : Nat) : Bs := ⟨β.b.take n, β.g⟩
section
variable {G : Cf} {H : Hp} {β : Bs} {n : Nat}
theorem cut_b : ∀ x ∈ (β.cut n).b, x ∈ β.b := fun x h => List.mem_of_mem_take h
theorem Rv.cut {v : Vl} {u : V} (h : refOk n v) (r : Rv G H β v u) : Rv G H (β.cut n) v u := by
  cases v with
  | dat p => exact Dq.sub (β := β) cut_b (fun _ z => z) r
  | ref m =>
    obtain ⟨a, e, q⟩ := r
    exact ⟨a, by show (β.b.take n)[m]? = some a; rw [List.getElem?_take_of_lt h]; exact e, q⟩
  | scr ns => exact r
  | exo nm fs =>
    obtain ⟨a, c, d, e, q, C, dd, xs, h1, h2, h3, h4, h5, h6⟩ := r
    exact ⟨a, c, d, e, q, C, dd, xs, h1, h2, h3, h4, fun z => h5 (cut_b _ z), Paired.mapP h6 fun p q z => ⟨z.1, Dq.sub (β := β) cut_b (fun _ z => z) z.2⟩⟩
theorem pair_cut {α : Type} {κ : α → Vl} {γ : Type} {μ : γ → V} {F : α → γ → Prop} : ∀ {l : List α} {m : List γ}, (∀ p ∈ l, refOk n (κ p)) → Paired (fun p q => F p q ∧ Rv G H β (κ p) (μ q)) l m → Paired (fun p q => F p q ∧ Rv G H (β.cut n) (κ p) (μ q)) l m
  | _, _, _, .nil => .nil
  | _, _, h, .cons r t => .cons ⟨r.1, Rv.cut (h _ List.mem_cons_self) r.2⟩ (pair_cut (fun p hp => h p (List.mem_cons_of_mem _ hp)) t)
theorem Rvs.cut : ∀ {vs : List Vl} {us : List V}, (∀ v ∈ vs, refOk n v) → Rvs G H β vs us → Rvs G H (β.cut n) vs us
  | _, _, _, .nil => .nil
  | _, _, h, .cons r t => .cons (Rv.cut (h _ List.mem_cons_self) r) (Rvs.cut (fun p hp => h p (List.mem_cons_of_mem _ hp)) t)
theorem RO.cut {a : Addr} {o : Ob} (h : obOk n o) (r : RO G H β a o) : RO G H (β.cut n) a o := by
  cases o with
  | lst l => obtain ⟨hl, xs, e, r⟩ := r; exact ⟨hl, xs, e, Rvs.cut h r⟩
  | dic l => obtain ⟨xs, e, r⟩ := r; exact ⟨xs, e, pair_cut (κ := fun p : Key × Vl => p.2) (μ := fun q : Key × V => q.2) (F := fun p q => p.1 = q.1) h r⟩
  | dit l => obtain ⟨xs, e, r⟩ := r; exact ⟨xs, e, pair_cut (κ := fun p : List Key × Vl => p.2) (μ := fun q : List Key × V => q.2) (F := fun p q => p.1 = q.1) h r⟩
  | ins c l =>
    obtain ⟨C, dx, xs, hm, e, hd, nn, r⟩ := r
    exact ⟨C, dx, xs, hm, e, hd, fun z => nn (cut_b _ z), pair_cut (κ := fun p : Str × Vl => p.2) (μ := fun q : Str × V => q.2) (F := fun p q => p.1 = q.1) h r⟩
theorem RelS.cut {s1 more : Sto} (h : RelS G β (s1 ++ more) H) (hc : Closed s1) : RelS G (β.cut s1.length) s1 H := by
  have hl := h.len
  rw [List.length_append] at hl
  refine ⟨by show (β.b.take s1.length).length = _; rw [List.length_take]; omega, h.nd.sublist (List.take_sublist _ _), fun m o a h1 h2 => ?_, fun a ha => ?_⟩
  · have hm := (List.getElem?_eq_some_iff.mp h1).1
    have h2 : (β.b.take s1.length)[m]? = some a := h2
    rw [List.getElem?_take_of_lt hm] at h2
    exact RO.cut (hc o (List.mem_of_getElem? h1)) (h.ob m o a (by rw [List.getElem?_append_left hm]; exact h1) h2)
  · obtain ⟨h1, h2⟩ := h.gs a ha
    exact ⟨h1, fun z => h2 (cut_b _ z)⟩
theorem Step.cut {β' : Bs} {H' : Hp} (st : Step β H β' H') (h : β.b.length ≤ n) : Step β H (β'.cut n) H' := by
  obtain ⟨t, ht⟩ := st.pre
  refine ⟨⟨t.take (n - β.b.length), ?_⟩, st.gsub, st.gam, fun a ha => st.new a (cut_b a ha), st.keep, st.tups, st.frzs, st.liv⟩
  show β.b ++ t.take (n - β.b.length) = β'.b.take n
  rw [← ht, List.take_append, List.take_of_length_le h]
end
/-- a value as it is, or a list that was laid as a list that nobody turns -/
inductive Frz (s1 more : Sto) : Vl → Vl → Prop where
  | as {v : Vl} (h : refOk s1.length v) : Frz s1 more v v
  | lst {n : Nat} {ds : List PyData} (h : s1.length ≤ n) (e : (s1 ++ more)[n]? = some (.lst (ds.map Vl.dat))) : Frz s1 more (.ref n) (.dat (.list ds))
inductive Trim (s : Sto) : R Vl → R Vl → Prop where
  | bad {r : R Vl} : Trim s r .bad
  | ok {v v' : Vl} {s1 more : Sto} (hl : s.length ≤ s1.length) (hc : Closed s1) (f : Frz s1 more v v') : Trim s (.ok v (s1 ++ more)) (.ok v' s1)
  | ex {x : Exn} {s1 more : Sto} (hl : s.length ≤ s1.length) (hc : Closed s1) : Trim s (.ex x (s1 ++ more)) (.ex x s1)
theorem FnD.trim {P : Program} {w : World} {K : PySem.W.Frag} {mg : Str → Option Value} {base : Heap} {f : Addr} {fd : FuncData} {ps : List Str} {k : Nat} {g g' : MF} (F : FnD P w K mg base k f fd ps g)
    (h : ∀ xs s, Closed s → Trim s (g xs s) (g' xs s)) : FnD P w K mg base k f fd ps g' := by
  refine ⟨fun A outer s H args us vs Q E hg hr e0 bd r ⟨β, s0, xs, hs, rx, hl, hp⟩ => F.goes A outer s H args us vs Q E hg hr e0 bd r ⟨β, s0, xs, hs, rx, hl, ?_⟩⟩
  have t := h xs s0 hs.closed
  generalize g xs s0 = r1 at t ⊢
  generalize g' xs s0 = r2 at t hp
  cases t with
  | bad => exact hp.elim
  | @ok v v' s1 more hl hc fz =>
    intro β' H' u st hs' rv
    refine hp (β'.cut s1.length) H' u (st.cut (by rw [hs.len]; exact hl)) (hs'.cut hc) ?_
    cases fz with
    | as h => exact Rv.cut h rv
    | @lst n ds h e =>
      obtain ⟨a, ha, rfl⟩ := rv
      obtain ⟨hz, ys, h1, h2⟩ := hs'.ob n _ a e ha
      have d2 := Rvs.undats h2
      refine Dq.lst ⟨h1, fun z => ?_, fun z => (hs'.gs a z).2 (List.mem_of_getElem? ha)⟩ (by simpa using hz) (DqAll.sub (β := β') cut_b (fun _ z => z) d2)
      obtain ⟨m, hm, em⟩ := List.getElem_of_mem (show a ∈ β'.b.take s1.length from z)
      have hm2 : m < s1.length := by rw [List.length_take] at hm; omega
      have e1 : β'.b[m]? = some a := by
        rw [← List.getElem?_take_of_lt hm2, List.getElem?_eq_getElem hm, em]
      obtain ⟨i1, q1⟩ := List.getElem?_eq_some_iff.mp e1
      obtain ⟨i2, q2⟩ := List.getElem?_eq_some_iff.mp ha
      have := (List.getElem_inj hs'.nd).mp (q1.trans q2.symm)
      omega
  | @ex x s1 more hl hc =>
    intro β' H' c d st hs' rx
    refine hp (β'.cut s1.length) H' c d (st.cut (by rw [hs.len]; exact hl)) (hs'.cut hc) ?_
    obtain ⟨C, dd, xs, h1, h2, h3, h4, h5, h6⟩ := rx
    exact ⟨C, dd, xs, h1, h2, h3, h4, fun z => h5 (cut_b _ z), Paired.mapP h6 fun p q z => ⟨z.1, Dq.sub (β := β') cut_b (fun _ z => z) z.2⟩⟩
theorem closed_set {s : Sto} {n : Nat} {o : Ob} (h : Closed s) (ho : obOk s.length o) : Closed (s.set n o) := fun x hx => by
  rw [List.length_set]
  rcases List.mem_or_eq_of_mem_set hx with z | z
  · exact h x z
  · rw [z]; exact ho
end Pm
set_option maxRecDepth 100000
set_option maxHeartbeats 4000000
namespace Pm
open PySem PySem.Spec PyProof.Rows L2 Sw
section
variable {X : Cx} {zx : Exo} {W : WX}
theorem PTs.imp {ifs : List Expr} {t t' : TT} (h : PTs X ifs t) (i : ∀ σ H Q, t' σ H Q → t σ H Q) : PTs X ifs t' := ⟨fun pins s σ H Q I q => h.run pins s σ H Q I (i σ H Q q)⟩
abbrev DTs (X : Cx) (zx : Exo) (W : WX) (ifs : List Expr) (f : MT) : Prop := PTs X ifs (tG (cf X zx) rB W f)
theorem dts_nil : DTs X zx W [] tYesM := PTs.imp pts_nil fun σ H Q ⟨β, ρ, s, hl, hs, hp⟩ => hp β H _ (Step.refl _ _) hs rfl
theorem dts_one {c : Expr} {f : MT} (h : DT X zx W c f) : DTs X zx W [c] f := pts_one h
/-! ### sorted(set(t)) of numbers -/
/-- set(t) of a tuple of numbers -/
def rSetIT (K : PySem.W.Frag) (w : World) : List V → Hp → VK → Prop := fun vs H Q => ∃ (l : Addr) (ns : List Int), vs = [.ref l] ∧ SqT K H l (ns.map V.int) ∧ ns.length ≤ 60 ∧
  ∀ a c, H a = none → c ≤ ns.length → Q (.ref a) (upd H a (SetO w a (fun j => decide (j ∈ ns)) c))
theorem cr_setIT (hc : X.calm = true) : CallR X (.type "set") (rSetIT X.K X.w) := by
  intro pins s σ H vs us Q I r h
  obtain ⟨l, ns, rfl, hl, hn, q⟩ := h
  obtain ⟨its, rv, hp, _⟩ := I.tuple hl
  rw [Vals.ref1 r]
  refine call_set_tupI ns (I.ok.hd hc) hp (by simpa using rv.ints) (by unfold scanBound; omega) ?_
  intro h' tk c hS hcl k
  exact ⟨.ref s.heap.objs.size, _, I.laid (t' := tk) (o := SetO X.w s.heap.objs.size (fun j => decide (j ∈ ns)) c) k (Nat.le_refl _) (setO_new hS), rfl, q _ c (I.hok.fresh (Nat.le_refl _)) hcl⟩
end
def insI (a : Int) : List Int → List Int
  | [] => [a]
  | b :: r => if a < b then a :: b :: r else if a = b then b :: r else b :: insI a r
def risI (ns : List Int) : List Int := ns.foldr insI []
theorem mem_insI {a k : Int} : ∀ {r : List Int}, k ∈ insI a r ↔ k = a ∨ k ∈ r
  | [] => by simp [insI]
  | b :: r => by
    unfold insI
    split
    · simp
    · split
      · rename_i h; subst h; simp
      · rw [List.mem_cons, mem_insI, List.mem_cons]
        constructor
        · rintro (h | h | h)
          · exact .inr (.inl h)
          · exact .inl h
          · exact .inr (.inr h)
        · rintro (h | h | h)
          · exact .inr (.inl h)
          · exact .inl h
          · exact .inr (.inr h)
theorem sorted_insI {a : Int} : ∀ {r : List Int}, r.Pairwise (· < ·) → (insI a r).Pairwise (· < ·)
  | [], _ => by simp [insI]
  | b :: r, h => by
    have hc := List.pairwise_cons.mp h
    unfold insI
    split
    · rename_i hab
      refine List.pairwise_cons.mpr ⟨fun x hx => ?_, h⟩
      rcases List.mem_cons.mp hx with rfl | hx
      · exact hab
      · have := hc.1 x hx
        omega
    · split
      · exact h
      · rename_i h1 h2
        refine List.pairwise_cons.mpr ⟨fun x hx => ?_, sorted_insI hc.2⟩
        rcases mem_insI.mp hx with rfl | hx
        · omega
        · exact hc.1 x hx
theorem mem_risI {k : Int} : ∀ {ns : List Int}, k ∈ risI ns ↔ k ∈ ns
  | [] => Iff.rfl
  | n :: ns => by
    show k ∈ insI n (risI ns) ↔ _
    rw [mem_insI, mem_risI, List.mem_cons]
theorem sorted_risI : ∀ ns : List Int, (risI ns).Pairwise (· < ·)
  | [] => List.Pairwise.nil
  | n :: ns => sorted_insI (sorted_risI ns)
theorem ris_eq : ∀ {xs ys : List Int}, xs.Pairwise (· < ·) → ys.Pairwise (· < ·) → (∀ k, k ∈ xs ↔ k ∈ ys) → xs = ys
  | [], [], _, _, _ => rfl
  | [], y :: ys, _, _, h => by have := (h y).mpr List.mem_cons_self; simp at this
  | x :: xs, [], _, _, h => by have := (h x).mp List.mem_cons_self; simp at this
  | x :: xs, y :: ys, hx, hy, h => by
    have hx' := List.pairwise_cons.mp hx
    have hy' := List.pairwise_cons.mp hy
    have e : x = y := by
      have h1 := (h x).mp List.mem_cons_self
      have h2 := (h y).mpr List.mem_cons_self
      rcases List.mem_cons.mp h1 with h1 | h1
      · exact h1
      · rcases List.mem_cons.mp h2 with h2 | h2
        · exact h2.symm
        · have a := hy'.1 x h1
          have b := hx'.1 y h2
          omega
    subst e
    rw [ris_eq hx'.2 hy'.2 fun k => ?_]
    constructor
    · intro hk
      have := (h k).mp (List.mem_cons_of_mem _ hk)
      rcases List.mem_cons.mp this with z | z
      · have a := hx'.1 k hk
        omega
      · exact z
    · intro hk
      have := (h k).mpr (List.mem_cons_of_mem _ hk)
      rcases List.mem_cons.mp this with z | z
      · have a := hy'.1 k hk
        omega
      · exact z
/-- all of a list are numbers -/
def nums : List PyData → Option (List Int)
  | [] => some []
  | .int i :: r => (nums r).map (i :: ·)
  | _ :: _ => none
theorem nums_eq : ∀ {ds : List PyData} {ns : List Int}, nums ds = some ns → ds = ns.map PyData.int
  | [], ns, h => by
    have : [] = ns := by simpa [nums] using h
    subst this
    rfl
  | d :: r, ns, h => by
    cases d with
    | int i =>
      cases e : nums r with
      | none => simp [nums, e] at h
      | some l =>
        have : i :: l = ns := by simpa [nums, e] using h
        subst this
        rw [nums_eq e]
        rfl
    | _ => simp [nums] at h
@[simp] theorem nums_map : ∀ ns : List Int, nums (ns.map PyData.int) = some ns
  | [] => rfl
  | n :: ns => by simp [nums, nums_map ns]
theorem dq_ints_of {K : PySem.W.Frag} {H : Hp} {β : Bs} : ∀ {ns : List Int} {xs : List V}, DqAll K H β xs (ns.map PyData.int) → xs = ns.map V.int
  | [], [], _ => rfl
  | n :: ns, x :: xs, .cons h t => by
    rw [dq_ints_of t]
    cases h
    rfl
def phSS : List Vl → Sto → Option Vl
  | [.dat (.tuple ds)], _ => (nums ds).bind fun ns => if ns.length ≤ 60 then some (.dat (.list ((risI ns).map PyData.int))) else none
  | _, _ => none
theorem risI_len (ns : List Int) : (risI ns).length ≤ ns.length := by
  have key : ∀ (a : Int) (r : List Int), (insI a r).length ≤ r.length + 1 := by
    intro a r
    induction r with
    | nil => simp [insI]
    | cons b r ih =>
      unfold insI
      split
      · simp
      · split
        · simp
        · simp; omega
  induction ns with
  | nil => exact Nat.le_refl _
  | cons n ns ih =>
    have := key n (risI ns)
    show (insI n (risI ns)).length ≤ ns.length + 1
    omega
section
variable {X : Cx} {zx : Exo} {W : WX}
theorem de_ss {e : Expr} {r : MA} {p p2 pos pos2 : Pos} (hc : X.calm = true) (hgs : Gl X "sorted") (hms : X.mg "sorted" = none) (hgt : Gl X "set") (hmt : X.mg "set" = none) (ha : DA X zx W [e] r)
    (he : starEach [e] X.env = (false, eval e X.env) :: starEach [] X.env := by rfl)
    (hs2 : starEach [Expr.Call (.Name "set" p2) [e] [] pos2] X.env = (false, eval (Expr.Call (.Name "set" p2) [e] [] pos2) X.env) :: starEach [] X.env := by rfl) :
    DE X zx W (.Call (.Name "sorted" p) [.Call (.Name "set" p2) [e] [] pos2] [] pos) (mn phSS r) :=
  PE.imp (pe_callB (cr_sortedSet hc) hgs hms (by decide +kernel) (pa_cons (pe_callTy (cr_setIT hc) hgt hmt (by decide +kernel) ha (by decide) (by decide) he) pa_nil hs2) (by decide) (by decide) hs2) fun σ H Q ⟨β, ρ, s, hl, hs, hp⟩ => by
  refine ⟨β, ρ, s, hl, hs, Post.bind hp fun vs s1 β1 H1 us st1 hs1 r1 h1 => ?_⟩
  obtain ⟨z, ez, q⟩ := post_of h1 hs1
  unfold phSS at ez
  split at ez
  · obtain ⟨ns, en, ez⟩ := Option.bind_eq_some_iff.mp ez
    · have ez : (if ns.length ≤ 60 then some (Vl.dat (.list ((risI ns).map PyData.int))) else none) = some z := ez
      split at ez
      · rename_i hl60
        cases ez
        have := nums_eq en
        subst this
        obtain ⟨x, rfl, rx⟩ := rvs1 r1
        cases rx with
        | @tup a xs _ hx hz dx =>
          have := dq_ints_of dx
          subst this
          refine ⟨a, ns, rfl, hx, hl60, fun t2 c ht2 hc2 => ?_⟩
          refine ⟨t2, _, c, rfl, upd_same, by omega, fun ms t3 hsd hm hlm ht3 => ?_⟩
          have em : ms = risI ns := ris_eq hsd (sorted_risI ns) fun k => by rw [hm, mem_risI]; simp
          subst em
          have sm := (same_new (o := SetO X.w t2 (fun j => decide (j ∈ ns)) c) ht2).trans (same_new (o := .lst ((risI ns).map V.int)) ht3)
          have hs3 := hs1.same (same_new (o := SetO X.w t2 (fun j => decide (j ∈ ns)) c) ht2)
          refine q _ _ sm (.lst ⟨upd_same, hs3.nin ht3, hs3.nig ht3⟩ ?_ (dq_ints _))
          rw [List.length_map]
          exact thou (Nat.le_trans (risI_len ns) (by omega))
      · cases ez
  · cases ez
end
end Pm
set_option maxRecDepth 100000
set_option maxHeartbeats 4000000
namespace Pm
open PySem PySem.Spec PyProof.Rows L2 Sw
/-! ### how the machine reckons: applied forms -/
section
variable {ρ : Loc} {s : Sto} {f g h : ME} {r : MA} {t u : MT} {a b : MS}
theorem mVar_ap {i : Nat} : mVar i ρ s = (match ρ[i]? with | some (some v) => .ok v s | _ => .bad) := rfl
@[simp] theorem mVar_at {i : Nat} {v : Vl} (h : ρ[i]? = some (some v)) : mVar i ρ s = .ok v s := by rw [mVar_ap, h]
@[simp] theorem mVar_0 {v : Vl} {l : Loc} : mVar 0 (some v :: l) s = .ok v s := rfl
@[simp] theorem mVar_S {i : Nat} {o : Option Vl} {l : Loc} : mVar (i + 1) (o :: l) s = mVar i l s := rfl
@[simp] theorem mC_ap {p : PyData} : mC p ρ s = .ok (.dat p) s := rfl
@[simp] theorem m2_ap {ph : Vl → Vl → Sto → Option Vl} : m2 ph f g ρ s = (f ρ s).bind fun v s1 => (g ρ s1).bind fun w s2 => R.of (ph v w s2) s2 := rfl
@[simp] theorem m1_ap {ph : Vl → Sto → Option Vl} : m1 ph f ρ s = (f ρ s).bind fun v s1 => R.of (ph v s1) s1 := rfl
@[simp] theorem mn_ap {ph : List Vl → Sto → Option Vl} : mn ph r ρ s = (r ρ s).bind fun v s1 => R.of (ph v s1) s1 := rfl
@[simp] theorem aNil_ap : aNil ρ s = .ok [] s := rfl
@[simp] theorem aCons_ap : aCons f r ρ s = (f ρ s).bind fun v s1 => (r ρ s1).bind fun vs s2 => .ok (v :: vs) s2 := rfl
@[simp] theorem mTup_ap : mTup r ρ s = (r ρ s).bind fun vs s1 => R.of ((datas vs).bind fun ds => if ds.length ≤ 1000 then some (.dat (.tuple ds)) else none) s1 := rfl
@[simp] theorem mLst_ap : mLst r ρ s = (r ρ s).bind fun vs s1 => R.of ((datas vs).bind fun ds => if ds.length ≤ 1000 then some (.dat (.list ds)) else none) s1 := rfl
@[simp] theorem mNew_ap : mNew r ρ s = (r ρ s).bind fun vs s1 => if vs.length ≤ 1000 ∧ vs.all noX = true then .ok (.ref s1.length) (s1 ++ [.lst vs]) else .bad := rfl
@[simp] theorem mTru_ap : mTru f ρ s = (f ρ s).bind fun v s1 => R.of (tru v s1) s1 := rfl
@[simp] theorem mB_ap : mB f ρ s = (f ρ s).bind fun v s1 => R.of (bool? v) s1 := rfl
@[simp] theorem tAnd_ap : tAndM t u ρ s = (t ρ s).bind fun c s1 => if c = true then u ρ s1 else .ok false s1 := rfl
@[simp] theorem tOr_ap : tOrM t u ρ s = (t ρ s).bind fun c s1 => if c = true then .ok true s1 else u ρ s1 := rfl
@[simp] theorem tNot_ap : tNotM t ρ s = (t ρ s).bind fun c s1 => .ok (!c) s1 := rfl
@[simp] theorem tYes_ap : tYesM ρ s = .ok true s := rfl
@[simp] theorem mAnd_ap : mAnd f g ρ s = (f ρ s).bind fun v s1 => match tru v s1 with | some true => g ρ s1 | some false => .ok v s1 | none => .bad := rfl
@[simp] theorem mOr_ap : mOr f g ρ s = (f ρ s).bind fun v s1 => match tru v s1 with | some true => .ok v s1 | some false => g ρ s1 | none => .bad := rfl
@[simp] theorem mNot_ap : mNot f ρ s = (f ρ s).bind fun v s1 => R.of ((tru v s1).map fun k => .dat (.bool (!k))) s1 := rfl
@[simp] theorem mIf_ap : mIf t f g ρ s = (t ρ s).bind fun c s1 => if c = true then f ρ s1 else g ρ s1 := rfl
@[simp] theorem oNone_ap : oNone ρ s = .ok none s := rfl
@[simp] theorem oSome_ap : oSome f ρ s = (f ρ s).bind fun v s1 => R.of ((int? v).map some) s1 := rfl
@[simp] theorem mSl_ap {l h : MO} : mSl f l h ρ s = (f ρ s).bind fun v s1 => (l ρ s1).bind fun l s2 => (h ρ s2).bind fun h s3 => R.of (phSl v l h s3) s3 := rfl
@[simp] theorem mCall_ap {n : Nat} {g : MF} : mCall n g r ρ s = (r ρ s).bind fun vs s1 => if vs.length = n ∧ vs.all noX = true then g vs s1 else .bad := rfl
@[simp] theorem sNil_ap : sNil ρ s = .nx ρ s := rfl
@[simp] theorem sSeq_ap : sSeq a b ρ s = (a ρ s).seq b := rfl
@[simp] theorem sPass_ap : sPass ρ s = .nx ρ s := rfl
@[simp] theorem sBreak_ap : sBreak ρ s = .bk ρ s := rfl
@[simp] theorem sCont_ap : sCont ρ s = .ct ρ s := rfl
@[simp] theorem sExpr_ap : sExpr f ρ s = (f ρ s).to ρ fun _ s1 => .nx ρ s1 := rfl
@[simp] theorem sRet_ap : sRet f ρ s = (f ρ s).to ρ fun v s1 => .rt v s1 := rfl
@[simp] theorem sRetN_ap : sRetN ρ s = .rt (.dat .none) s := rfl
@[simp] theorem sIf_ap : sIf t a b ρ s = (t ρ s).to ρ fun c s1 => if c = true then a ρ s1 else b ρ s1 := rfl
@[simp] theorem sSet_ap {i : Nat} : sSet i f ρ s = (f ρ s).to ρ fun v s1 => .nx (ρ.set i (some v)) s1 := rfl
@[simp] theorem sAsg_ap {g : MG} : sAsg f g ρ s = (f ρ s).to ρ fun v s1 => (g v ρ s1).thn fun ρ2 s2 => .nx ρ2 s2 := rfl
@[simp] theorem sPar_ap {i j : Nat} : sPar i j r ρ s = (r ρ s).to ρ fun vs s1 => match vs with | [v, w] => .nx ((ρ.set i (some v)).set j (some w)) s1 | _ => .bad := rfl
@[simp] theorem sPar3_ap {i j l : Nat} : sPar3 i j l r ρ s = (r ρ s).to ρ fun vs s1 => match vs with | [v, w, x] => .nx (((ρ.set i (some v)).set j (some w)).set l (some x)) s1 | _ => .bad := rfl
@[simp] theorem sRaise2_ap {nm f1 f2 : Str} : sRaise2 nm f1 f2 r ρ s = (r ρ s).to ρ fun vs s1 => match vs with | [.dat x, .dat y] => .ex (nm, [(f2, y), (f1, x)]) ρ s1 | _ => .bad := rfl
@[simp] theorem sFor_ap {it : MI} {g : MG} : sFor it g b ρ s = (it ρ s).to ρ fun c s1 => forM c g b c.items ρ s1 := rfl
@[simp] theorem iSeq_ap : iSeq f ρ s = (f ρ s).bind fun v s1 => R.of (src v s1) s1 := rfl
@[simp] theorem gSet_ap {i : Nat} {v : Vl} : gSetM i v ρ s = .nx (ρ.set i (some v)) s := rfl
@[simp] theorem gNil_ap : gNilM [] ρ s = .nx ρ s := rfl
@[simp] theorem gCons_ap {g : MG} {r : MGs} {v : Vl} {vs : List Vl} : gConsM g r (v :: vs) ρ s = (g v ρ s).thn fun ρ1 s1 => r vs ρ1 s1 := rfl
@[simp] theorem gTup_ap {n : Nat} {r : MGs} {ds : List PyData} : gTupM n r (.dat (.tuple ds)) ρ s = if ds.length = n then r (ds.map Vl.dat) ρ s else .bad := rfl
theorem mLc0_ap {it : MI} {gm : Vl → Loc → Option Loc} {e : ME} {vs : List Nat} : mLc0 it gm t e vs ρ s = (it ρ s).bind fun c s1 => compM c gm t e (wipeM ρ vs) c.items [] s1 := rfl
theorem mLc_ap {it : MI} {gm : Vl → Loc → Option Loc} {e : ME} {vs : List Nat} : mLc it gm t e vs ρ s = (mLc0 it gm t e vs ρ s).bind fun acc s2 => R.of ((datas acc).map fun ds => .dat (.list ds)) s2 := rfl
open Classical in
theorem iRng1_ap : iRng1 r ρ s = (r ρ s).bind fun vs s1 => match vs with | [.dat (.int j)] => if In62 j then .ok ⟨rgs 0 j.toNat, none⟩ s1 else .bad | _ => .bad := rfl
@[simp] theorem iEn_ap : iEn r ρ s = (r ρ s).bind fun vs s1 => match vs with | [.dat (.tuple ds)] => .ok ⟨pairs ds 0, none⟩ s1 | _ => .bad := rfl
@[simp] theorem datas_nil : datas [] = some [] := rfl
@[simp] theorem datas_cons {p : PyData} {l : List Vl} : datas (.dat p :: l) = (datas l).map (p :: ·) := rfl
@[simp] theorem noX_dat {p : PyData} : noX (.dat p) = true := rfl
@[simp] theorem noX_ref {n : Nat} : noX (.ref n) = true := rfl
@[simp] theorem noX_scr {n : List Int} : noX (.scr n) = true := rfl
@[simp] theorem bool?_b {k : Bool} : bool? (.dat (.bool k)) = some k := rfl
@[simp] theorem int?_i {i : Int} : int? (.dat (.int i)) = some i := rfl
@[simp] theorem tru_b {k : Bool} : tru (.dat (.bool k)) s = some k := rfl
@[simp] theorem tru_l {l : List PyData} : tru (.dat (.list l)) s = some (!l.isEmpty) := rfl
@[simp] theorem tru_t {l : List PyData} : tru (.dat (.tuple l)) s = some (!l.isEmpty) := rfl
@[simp] theorem tru_n : tru (.dat .none) s = some false := rfl
@[simp] theorem tru_i {i : Int} : tru (.dat (.int i)) s = some (i != 0) := rfl
@[simp] theorem src_t {l : List PyData} : src (.dat (.tuple l)) s = some ⟨l.map Vl.dat, none⟩ := rfl
@[simp] theorem src_l {l : List PyData} : src (.dat (.list l)) s = some ⟨l.map Vl.dat, none⟩ := rfl
@[simp] theorem phIsi_d {g : PyData → Bool} {p : PyData} : phIsi g (.dat p) s = some (.dat (.bool (g p))) := rfl
@[simp] theorem phAdd_i {i j : Int} : phAdd (.dat (.int i)) (.dat (.int j)) s = some (.dat (.int (i + j))) := rfl
@[simp] theorem phSub_i {i j : Int} : phSub (.dat (.int i)) (.dat (.int j)) s = some (.dat (.int (i - j))) := rfl
@[simp] theorem phNeg_i {i : Int} : phNeg (.dat (.int i)) s = some (.dat (.int (-i))) := rfl
@[simp] theorem phLt_i {i j : Int} : phLt (.dat (.int i)) (.dat (.int j)) s = some (.dat (.bool (decide (i < j)))) := rfl
@[simp] theorem phLe_i {i j : Int} : phLe (.dat (.int i)) (.dat (.int j)) s = some (.dat (.bool (decide (i ≤ j)))) := rfl
@[simp] theorem phGt_i {i j : Int} : phGt (.dat (.int i)) (.dat (.int j)) s = some (.dat (.bool (decide (j < i)))) := rfl
@[simp] theorem phGe_i {i j : Int} : phGe (.dat (.int i)) (.dat (.int j)) s = some (.dat (.bool (decide (j ≤ i)))) := rfl
@[simp] theorem phIx_t {ds : List PyData} {i : Int} : phIx (.dat (.tuple ds)) (.dat (.int i)) s = (atI ds i).map Vl.dat := rfl
@[simp] theorem phIx_l {ds : List PyData} {i : Int} : phIx (.dat (.list ds)) (.dat (.int i)) s = (atI ds i).map Vl.dat := rfl
@[simp] theorem phSl_t {ds : List PyData} {l h : Option Int} : phSl (.dat (.tuple ds)) l h s = some (.dat (.tuple (cut ds l h))) := rfl
@[simp] theorem phSl_l {ds : List PyData} {l h : Option Int} : phSl (.dat (.list ds)) l h s = some (.dat (.list (cut ds l h))) := rfl
@[simp] theorem phLen_t {ds : List PyData} : phLen [.dat (.tuple ds)] s = some (.dat (.int ds.length)) := rfl
@[simp] theorem phLen_l {ds : List PyData} : phLen [.dat (.list ds)] s = some (.dat (.int ds.length)) := rfl
@[simp] theorem phTuple_l {ds : List PyData} : phTuple [.dat (.list ds)] s = some (.dat (.tuple ds)) := rfl
@[simp] theorem phTuple_t {ds : List PyData} : phTuple [.dat (.tuple ds)] s = some (.dat (.tuple ds)) := rfl
@[simp] theorem phList_t {ds : List PyData} : phList [.dat (.tuple ds)] s = some (.dat (.list ds)) := rfl
@[simp] theorem phAll_l {ds : List PyData} : phAll [.dat (.list ds)] s = (bls ds).map fun bs => .dat (.bool (bs.all id)) := rfl
@[simp] theorem phAdd_t {x y : List PyData} : phAdd (.dat (.tuple x)) (.dat (.tuple y)) s = if x.length + y.length ≤ mil then some (.dat (.tuple (x ++ y))) else none := rfl
@[simp] theorem wipeM_nil : wipeM ρ [] = ρ := rfl
@[simp] theorem wipeM_cons {v : Nat} {vs : List Nat} : wipeM ρ (v :: vs) = (wipeM ρ vs).set v none := rfl
@[simp] theorem atI_0 {α : Type} {x : α} {l : List α} : atI (x :: l) 0 = some x := by
  unfold atI ixN
  rw [if_pos (Int.le_refl 0), if_pos (by simp)]
  rfl
theorem atI_nat' {α : Type} {l : List α} {n : Nat} : atI l (n : Int) = l[n]? := by
  unfold atI ixN
  rw [if_pos (by omega)]
  by_cases h : n < l.length
  · rw [if_pos (by omega)]
    rfl
  · rw [if_neg (by omega), List.getElem?_eq_none (by omega)]
    rfl
@[simp] theorem atI_1 {α : Type} {x y : α} {l : List α} : atI (x :: y :: l) 1 = some y := atI_nat' (n := 1)
@[simp] theorem atI_2 {α : Type} {x y z : α} {l : List α} : atI (x :: y :: z :: l) 2 = some z := atI_nat' (n := 2)
@[simp] theorem atI_3 {α : Type} {x y z w : α} {l : List α} : atI (x :: y :: z :: w :: l) 3 = some w := atI_nat' (n := 3)
end
/-! ### a comprehension whose turns leave the store -/
theorem compM_pure {l : List Vl} {gm : Vl → Loc → Option Loc} {t : MT} {e : ME} {ρ0 : Loc} {s : Sto} {items : List Vl} {p : Vl → Bool} {y : Vl → Vl} :
    ∀ {acc : List Vl}, (∀ v ∈ items, ∃ ρ2, gm v ρ0 = some ρ2 ∧ t ρ2 s = .ok (p v) s ∧ (p v = true → e ρ2 s = .ok (y v) s)) → acc.length + items.length ≤ mil →
    compM ⟨l, none⟩ gm t e ρ0 items acc s = .ok (acc ++ (items.filter p).map y) s := by
  induction items with
  | nil =>
    intro acc _ _
    unfold compM
    rw [if_pos (show Src.ok ⟨l, none⟩ s from trivial)]
    simp
  | cons v r ih =>
    intro acc h hl
    obtain ⟨ρ2, h1, h2, h3⟩ := h v List.mem_cons_self
    rw [compM, if_pos (show Src.ok ⟨l, none⟩ s from trivial), h1]
    simp only [h2]
    have hl' : acc.length + (r.length + 1) ≤ mil := hl
    cases hp : p v with
    | false =>
      simp only []
      rw [ih (fun w hw => h w (List.mem_cons_of_mem _ hw)) (by omega), List.filter_cons_of_neg (by rw [hp]; simp)]
    | true =>
      simp only []
      rw [h3 hp]
      simp only []
      rw [if_pos (show acc.length < sizeLine from Nat.lt_of_lt_of_le (by omega) (mil_le (Nat.le_refl _))), ih (fun w hw => h w (List.mem_cons_of_mem _ hw)) (by rw [List.length_append]; simp; omega), List.filter_cons_of_pos hp, List.map_cons]
      simp
end Pm
namespace Pm
open PySem PySem.Spec PyProof.Rows L2 Sw
/-- a comprehension over data whose turns leave the store -/
theorem lc_data {it : MI} {gm : Vl → Loc → Option Loc} {t : MT} {e : ME} {vs : List Nat} {ρ : Loc} {s s1 : Sto} {ds : List PyData} (p : PyData → Bool) (y : PyData → PyData) (hit : it ρ s = .ok ⟨ds.map Vl.dat, none⟩ s1)
    (h : ∀ d ∈ ds, ∃ ρ2, gm (.dat d) (wipeM ρ vs) = some ρ2 ∧ t ρ2 s1 = .ok (p d) s1 ∧ (p d = true → e ρ2 s1 = .ok (.dat (y d)) s1)) (hl : ds.length ≤ mil) : mLc it gm t e vs ρ s = .ok (.dat (.list ((ds.filter p).map y))) s1 := by
  have e1 := compM_pure (l := ds.map Vl.dat) (gm := gm) (t := t) (e := e) (ρ0 := wipeM ρ vs) (s := s1) (items := ds.map Vl.dat) (p := fun v => match v with | .dat d => p d | _ => true) (y := fun v => match v with | .dat d => .dat (y d) | v => v) (acc := []) (fun v hv => by
    obtain ⟨d, hd, rfl⟩ := List.mem_map.mp hv
    exact h d hd) (by simpa using hl)
  rw [mLc_ap, mLc0_ap, hit, R.bind_ok, e1, R.bind_ok, List.nil_append, List.filter_map, List.map_map]
  have : datas ((ds.filter p).map fun d => Vl.dat (y d)) = some ((ds.filter p).map y) := by
    generalize ds.filter p = l
    induction l with
    | nil => rfl
    | cons d l ih => simp [ih]
  show R.of ((datas ((ds.filter p).map fun d => Vl.dat (y d))).map fun ds => Vl.dat (.list ds)) s1 = _
  rw [this]
  rfl
end Pm
namespace Pm
open PySem PySem.Spec PyProof.Rows L2 Sw
theorem i62 {n : Nat} (h : n ≤ mil) : In62 (n : Int) := by
  have h : n ≤ 1000000 := h
  constructor
  · exact Int.le_trans (by decide) (Int.natCast_nonneg n)
  · exact Int.lt_of_le_of_lt (Int.ofNat_le.mpr h) (by decide)
theorem iRng1_n {r : MA} {ρ : Loc} {s s1 : Sto} {n : Nat} (h : r ρ s = .ok [.dat (.int (n : Int))] s1) (hn : n ≤ mil) : iRng1 r ρ s = .ok ⟨rgs 0 n, none⟩ s1 := by
  rw [iRng1_ap, h, R.bind_ok]
  simp only []
  rw [if_pos (i62 hn), Int.toNat_natCast]
end Pm
set_option maxRecDepth 100000
set_option maxHeartbeats 4000000
namespace Pm
open PySem PySem.Spec PyProof.Rows L2 Sw
open Classical in
/-- what a def lays for itself is forgotten; a list of its own that it hands back is one that nobody turns -/
noncomputable def trimG (g : MF) : MF := fun xs s => match g xs s with
  | .ok v s' => if s.length ≤ s'.length ∧ Closed (s'.take s.length) then
      (match v with
      | .ref n => if n < s.length then .ok (.ref n) (s'.take s.length) else (match lstAt s' n with
        | some l => (match datas l with
          | some ds => .ok (.dat (.list ds)) (s'.take s.length)
          | none => .bad)
        | none => .bad)
      | v => .ok v (s'.take s.length)) else .bad
  | .ex x s' => if s.length ≤ s'.length ∧ Closed (s'.take s.length) then .ex x (s'.take s.length) else .bad
  | .bad => .bad
theorem trimG_is (g : MF) (xs : List Vl) (s : Sto) : Trim s (g xs s) (trimG g xs s) := by
  unfold trimG
  cases e : g xs s with
  | bad => exact .bad
  | ex x s' =>
    dsimp only
    split
    · rename_i h
      have ht : s' = s'.take s.length ++ s'.drop s.length := (List.take_append_drop _ _).symm
      have := Trim.ex (s := s) (x := x) (s1 := s'.take s.length) (more := s'.drop s.length) (by rw [List.length_take]; omega) h.2
      rw [← ht] at this
      exact this
    · exact .bad
  | ok v s' =>
    dsimp only
    split
    · rename_i h
      have ht : s' = s'.take s.length ++ s'.drop s.length := (List.take_append_drop _ _).symm
      have hl : (s'.take s.length).length = s.length := by rw [List.length_take]; omega
      have mk : ∀ v', Frz (s'.take s.length) (s'.drop s.length) v v' → Trim s (.ok v s') (.ok v' (s'.take s.length)) := fun v' f => by
        have := Trim.ok (s := s) (by rw [hl]; exact Nat.le_refl _) h.2 f
        rw [← ht] at this
        exact this
      cases v with
      | ref n =>
        dsimp only
        split
        · rename_i hn
          exact mk _ (.as (by rw [hl]; exact hn))
        · rename_i hn
          cases el : lstAt s' n with
          | none => exact .bad
          | some l =>
            dsimp only
            cases ed : datas l with
            | none => exact .bad
            | some ds =>
              exact mk _ (.lst (by rw [hl]; omega) (by rw [← ht, lstAt_eq el, datas_eq ed]))
      | dat p => exact mk _ (.as trivial)
      | scr p => exact mk _ (.as trivial)
      | exo p q => exact mk _ (.as trivial)
    · exact .bad
theorem FnD.trimG {P : Program} {w : World} {K : PySem.W.Frag} {mg : Str → Option Value} {base : Heap} {f : Addr} {fd : FuncData} {ps : List Str} {k : Nat} {g : MF} (F : FnD P w K mg base k f fd ps g) : FnD P w K mg base k f fd ps (trimG g) := F.trim fun xs s _ => trimG_is g xs s
theorem trim_dat {g : MF} {xs : List Vl} {s s1 more : Sto} {p : PyData} (h : g xs s = .ok (.dat p) (s1 ++ more)) (hl : s1.length = s.length) (hc : Closed s1) : trimG g xs s = .ok (.dat p) s1 := by
  have e : (s1 ++ more).take s.length = s1 := by rw [← hl]; exact List.take_left
  unfold trimG
  rw [h]
  dsimp only
  rw [if_pos ⟨by rw [List.length_append]; omega, by rw [e]; exact hc⟩, e]
theorem trim_lst {g : MF} {xs : List Vl} {s s1 more : Sto} {n : Nat} {ds : List PyData} (h : g xs s = .ok (.ref n) (s1 ++ more)) (hl : s1.length = s.length) (hc : Closed s1) (hn : s.length ≤ n) (he : (s1 ++ more)[n]? = some (.lst (ds.map Vl.dat))) : trimG g xs s = .ok (.dat (.list ds)) s1 := by
  have e : (s1 ++ more).take s.length = s1 := by rw [← hl]; exact List.take_left
  unfold trimG
  rw [h]
  dsimp only
  rw [if_pos ⟨by rw [List.length_append]; omega, by rw [e]; exact hc⟩, if_neg (by omega), lstAt_of he]
  dsimp only
  rw [datas_map, e]
end Pm
set_option maxRecDepth 100000
set_option maxHeartbeats 4000000
namespace Pm
open PySem PySem.Spec PyProof.Rows L2 Sw
/-! ### answers of statements, by values alone -/
inductive An (S L : Type) where
  | nx (a : S) (s : Sto)
  | rt (v : Vl) (s : Sto)
  | bk (a : L) (s : Sto)
  | ct (a : L) (s : Sto)
  | ex (x : Exn) (s : Sto)
  | bad
section
variable {α S S' L L' : Type}
def R.an (r : R α) (k : α → Sto → An S L) : An S L := match r with
  | .ok a s => k a s
  | .ex x s => .ex x s
  | .bad => .bad
def An.thn (f : An S L) (k : S → Sto → An S' L) : An S' L := match f with
  | .nx a s => k a s
  | .rt v s => .rt v s
  | .bk a s => .bk a s
  | .ct a s => .ct a s
  | .ex x s => .ex x s
  | .bad => .bad
/-- one that never goes on -/
def An.up (f : An Empty L) : An S L := match f with
  | .rt v s => .rt v s
  | .bk a s => .bk a s
  | .ct a s => .ct a s
  | .ex x s => .ex x s
  | .bad => .bad
def An.fin (f : An Unit Empty) : R Vl := match f with
  | .nx _ s => .ok (.dat .none) s
  | .rt v s => .ok v s
  | .ex x s => .ex x s
  | .bad => .bad
@[simp] theorem R.an_ok (a : α) (s : Sto) (k : α → Sto → An S L) : (R.ok a s).an k = k a s := rfl
@[simp] theorem R.an_ex (x : Exn) (s : Sto) (k : α → Sto → An S L) : (R.ex x s : R α).an k = .ex x s := rfl
@[simp] theorem R.an_bad (k : α → Sto → An S L) : (R.bad : R α).an k = .bad := rfl
@[simp] theorem An.thn_nx (a : S) (s : Sto) (k : S → Sto → An S' L) : (An.nx a s : An S L).thn k = k a s := rfl
@[simp] theorem An.thn_rt (a : Vl) (s : Sto) (k : S → Sto → An S' L) : (An.rt a s : An S L).thn k = .rt a s := rfl
@[simp] theorem An.thn_bk (a : L) (s : Sto) (k : S → Sto → An S' L) : (An.bk a s : An S L).thn k = .bk a s := rfl
@[simp] theorem An.thn_ct (a : L) (s : Sto) (k : S → Sto → An S' L) : (An.ct a s : An S L).thn k = .ct a s := rfl
@[simp] theorem An.thn_ex (a : Exn) (s : Sto) (k : S → Sto → An S' L) : (An.ex a s : An S L).thn k = .ex a s := rfl
@[simp] theorem An.thn_bad (k : S → Sto → An S' L) : (An.bad : An S L).thn k = .bad := rfl
@[simp] theorem An.up_rt (a : Vl) (s : Sto) : (An.rt a s : An Empty L).up = (.rt a s : An S L) := rfl
@[simp] theorem An.up_bk (a : L) (s : Sto) : (An.bk a s : An Empty L).up = (.bk a s : An S L) := rfl
@[simp] theorem An.up_ct (a : L) (s : Sto) : (An.ct a s : An Empty L).up = (.ct a s : An S L) := rfl
@[simp] theorem An.up_ex (a : Exn) (s : Sto) : (An.ex a s : An Empty L).up = (.ex a s : An S L) := rfl
@[simp] theorem An.up_bad : (An.bad : An Empty L).up = (.bad : An S L) := rfl
@[simp] theorem An.fin_nx (a : Unit) (s : Sto) : (An.nx a s).fin = .ok (.dat .none) s := rfl
@[simp] theorem An.fin_rt (a : Vl) (s : Sto) : (An.rt a s).fin = .ok a s := rfl
@[simp] theorem An.fin_ex (a : Exn) (s : Sto) : (An.ex a s).fin = .ex a s := rfl
@[simp] theorem An.fin_bad : An.bad.fin = .bad := rfl
end
/-! ### locals: less is known -/
inductive LeL : Loc → Loc → Prop where
  | nil : LeL [] []
  | non {o : Option Vl} {l m : Loc} (h : LeL l m) : LeL (none :: l) (o :: m)
  | som {v : Option Vl} {l m : Loc} (h : LeL l m) : LeL (v :: l) (v :: m)
theorem LeL.len {l m : Loc} (h : LeL l m) : l.length = m.length := by
  induction h with
  | nil => rfl
  | non _ ih => simp [ih]
  | som _ ih => simp [ih]
theorem LeL.get {l m : Loc} (h : LeL l m) : ∀ {i : Nat} {v : Vl}, l[i]? = some (some v) → m[i]? = some (some v) := by
  induction h with
  | nil => intro i v e; simp at e
  | non _ ih =>
    intro i v e
    cases i with
    | zero => simp at e
    | succ i => simp at e ⊢; exact ih e
  | som _ ih =>
    intro i v e
    cases i with
    | zero => simpa using e
    | succ i => simp at e ⊢; exact ih e
theorem LeL.refl : ∀ l : Loc, LeL l l
  | [] => .nil
  | _ :: l => .som (LeL.refl l)
theorem LeL.nones : ∀ {n : Nat} {l : Loc}, l.length = n → LeL (List.replicate n none) l
  | 0, [], _ => .nil
  | n + 1, o :: l, h => .non (LeL.nones (by simpa using h))
  | 0, _ :: _, h => by cases h
  | n + 1, [], h => by cases h
theorem RelL.le {G : Cf} {H : Hp} {β : Bs} {ρ ρ' : Loc} {σ : L2.St} (e : LeL ρ' ρ) (h : RelL G H β ρ σ) : RelL G H β ρ' σ := ⟨by rw [e.len, h.len], fun i v q => h.at' i v (e.get q)⟩
/-! ### what a native answer promises -/
/-- what is known of the locals where an exception leaves -/
def ExR (G : Cf) (ox : Option Loc) (H : Hp) (β : Bs) (σ : L2.St) : Prop := match ox with
  | none => True
  | some ρ => RelL G H β ρ σ
def OxLe (ox : Option Loc) (ρ : Loc) : Prop := match ox with
  | none => True
  | some ρx => LeL ρx ρ
theorem ox0 {ρ : Loc} : OxLe none ρ := trivial
theorem OxLe.rel {G : Cf} {H : Hp} {β : Bs} {ρ : Loc} {σ : L2.St} {ox : Option Loc} (e : OxLe ox ρ) (h : RelL G H β ρ σ) : ExR G ox H β σ := by
  cases ox with
  | none => trivial
  | some ρx => exact h.le e
section
variable {α υ S S' L : Type} {G : Cf} {W : WX} {mkS : S → Loc} {mkL : L → Loc} {ox : Option Loc}
def PostN (G : Cf) (W : WX) (mkS : S → Loc) (mkL : L → Loc) (ox : Option Loc) (β : Bs) (H : Hp) (D : Ends) : An S L → Prop
  | .nx a s => ∀ β' σ' H', Step β H β' H' → RelL G H' β' (mkS a) σ' → RelS G β' s H' → D.nx σ' H'
  | .rt v s => ∀ β' H' u, Step β H β' H' → RelS G β' s H' → Rv G H' β' v u → D.rt u H'
  | .bk a s => ∀ β' σ' H', Step β H β' H' → RelL G H' β' (mkL a) σ' → RelS G β' s H' → D.bk σ' H'
  | .ct a s => ∀ β' σ' H', Step β H β' H' → RelL G H' β' (mkL a) σ' → RelS G β' s H' → D.ct σ' H'
  | .ex x s => ∀ β' σ' H' c d, Step β H β' H' → ExR G ox H' β' σ' → RelS G β' s H' → RX G H' β' x c d → W c d σ' H'
  | .bad => False
theorem PostN.step {β β1 : Bs} {H H1 : Hp} {D : Ends} {f : An S L} (h : PostN G W mkS mkL ox β H D f) (s : Step β H β1 H1) : PostN G W mkS mkL ox β1 H1 D f := by
  cases f with
  | nx ρ st => exact fun β' σ' H' s' => h β' σ' H' (s.trans s')
  | rt v st => exact fun β' H' u s' => h β' H' u (s.trans s')
  | bk ρ st => exact fun β' σ' H' s' => h β' σ' H' (s.trans s')
  | ct ρ st => exact fun β' σ' H' s' => h β' σ' H' (s.trans s')
  | ex x st => exact fun β' σ' H' c d s' => h β' σ' H' c d (s.trans s')
  | bad => exact h
/-- a block's reading, its locals at its beginning being ρ -/
def tN (G : Cf) (W : WX) (mkS : S → Loc) (mkL : L → Loc) (ox : Option Loc) (ρ : Loc) (n : Sto → An S L) : TS := fun D σ H => ∃ β s, RelL G H β ρ σ ∧ RelS G β s H ∧ PostN G W mkS mkL ox β H D (n s)
theorem PostN.an {rel : Rel α υ} {σ : L2.St} {ρ : Loc} {β : Bs} {H : Hp} {D : Ends} {Q1 : υ → Hp → Prop} {r : R α} {k : α → Sto → An S L} (hl : RelL G H β ρ σ) (hx : OxLe ox ρ) (h : PostN G W mkS mkL ox β H D (r.an k))
    (hk : ∀ v s1 β1 H1 u, Step β H β1 H1 → RelS G β1 s1 H1 → rel H1 β1 v u → PostN G W mkS mkL ox β1 H1 D (k v s1) → Q1 u H1) : Post G rel W σ β H Q1 r := by
  cases r with
  | ok v st => exact fun β' H' u s' hs hr => hk v st β' H' u s' hs hr (PostN.step (show PostN G W mkS mkL ox β H D (k v st) from h) s')
  | ex x st => exact fun β' H' c d s' hs hx' => h β' σ H' c d s' (hx.rel (hl.step s')) hs hx'
  | bad => exact h
/-- less is asked of what comes behind -/
theorem PostN.up {mk' : S' → Loc} {mk0 : Empty → Loc} {β : Bs} {H : Hp} {D : Ends} {f : An Empty L} (nx' : L2.St → Hp → Prop) (h : PostN G W mk' mkL ox β H D (f.up : An S' L)) : PostN G W mk0 mkL ox β H { D with nx := nx' } f := by
  cases f with
  | nx a s => exact a.elim
  | rt v s => exact h
  | bk a s => exact h
  | ct a s => exact h
  | ex x s => exact h
  | bad => exact h
theorem PostN.thn {mk1 : S → Loc} {mk2 : S' → Loc} {β : Bs} {H : Hp} {D : Ends} {f : An S L} {k : S → Sto → An S' L} (h : PostN G W mk2 mkL ox β H D (f.thn k)) : PostN G W mk1 mkL ox β H { D with nx := fun σ' H' => ∃ a, tN G W mk2 mkL ox (mk1 a) (k a) D σ' H' } f := by
  cases f with
  | nx a s => exact fun β' σ' H' st hl hs => ⟨a, β', s, hl, hs, PostN.step (show PostN G W mk2 mkL ox β H D (k a s) from h) st⟩
  | rt v s => exact h
  | bk a s => exact h
  | ct a s => exact h
  | ex x s => exact h
  | bad => exact h
end
theorem pss_ex {X : Cx} {b : List Stmt} {J : Type} {t : J → TS} (h : ∀ j, PSs X b (t j)) : PSs X b (fun D σ H => ∃ j, t j D σ H) := ⟨fun pins s σ H D I ⟨j, q⟩ => (h j).run pins s σ H D I q⟩
abbrev NSs {S L : Type} (X : Cx) (zx : Exo) (W : WX) (ox : Option Loc) (mkS : S → Loc) (mkL : L → Loc) (ρ : Loc) (b : List Stmt) (n : Sto → An S L) : Prop := PSs X b (tN (cf X zx) W mkS mkL ox ρ n)
abbrev NS {S L : Type} (X : Cx) (zx : Exo) (W : WX) (ox : Option Loc) (mkS : S → Loc) (mkL : L → Loc) (ρ : Loc) (b : Stmt) (n : Sto → An S L) : Prop := PS X b (tN (cf X zx) W mkS mkL ox ρ n)
/-! ### simple statements -/
section
variable {S S' L : Type} {X : Cx} {zx : Exo} {W : WX} {mkS : S → Loc} {mkL : L → Loc} {ox : Option Loc} {ρ : Loc} {st : Stmt} {rest : List Stmt} {e : Expr} {F : ME} {f : Sto → R Vl} {pos : Pos}
theorem nss_nil {a : S} (h : LeL (mkS a) ρ) : NSs X zx W ox mkS mkL ρ [] (fun s => .nx a s) := PSs.imp pss_nil fun D σ H ⟨β, s, hl, hs, q⟩ => q β σ H (Step.refl _ _) (hl.le h) hs
theorem nss_cons {mk1 : S' → Loc} {n1 : Sto → An S' L} {k : S' → Sto → An S L} (h1 : NS X zx W ox mk1 mkL ρ st n1) (h2 : ∀ j, NSs X zx W ox mkS mkL (mk1 j) rest (k j)) : NSs X zx W ox mkS mkL ρ (st :: rest) (fun s => (n1 s).thn k) :=
  PSs.imp (pss_cons h1 (pss_ex h2)) fun D σ H ⟨β, s, hl, hs, q⟩ => ⟨β, s, hl, hs, PostN.thn q⟩
/-- a statement that goes on with all it has -/
theorem nss_step {ρ' : Loc} {n : Sto → An S L} {t : TS} (h1 : PS X st t) (h2 : NSs X zx W ox mkS mkL ρ' rest n) {m : Sto → An S L}
    (h : ∀ D σ H, tN (cf X zx) W mkS mkL ox ρ m D σ H → t { D with nx := tN (cf X zx) W mkS mkL ox ρ' n D } σ H) : NSs X zx W ox mkS mkL ρ (st :: rest) m := PSs.imp (pss_cons h1 h2) h
theorem nss_skip {n : Sto → An S L} (h1 : PS X st tNext) (h2 : NSs X zx W ox mkS mkL ρ rest n) : NSs X zx W ox mkS mkL ρ (st :: rest) n := nss_step h1 h2 fun D σ H q => q
theorem nss_doc {x j pos pos'} {n : Sto → An S L} (h2 : NSs X zx W ox mkS mkL ρ rest n) : NSs X zx W ox mkS mkL ρ (.Expr (.Constant (.str x) j pos) pos' :: rest) n := nss_skip ps_doc h2
theorem nss_pass {n : Sto → An S L} (h2 : NSs X zx W ox mkS mkL ρ rest n) : NSs X zx W ox mkS mkL ρ (.Pass pos :: rest) n := nss_skip ps_pass h2
theorem nss_expr {k : Sto → An S L} (he : DE X zx W e F) (h2 : NSs X zx W ox mkS mkL ρ rest k) (hx : OxLe ox ρ) (hF : ∀ s, F ρ s = f s := by intro _; rfl) (hs : swapsWith e none pos.line X.env = pure false := by rfl) : NSs X zx W ox mkS mkL ρ (.Expr e pos :: rest) (fun s => (f s).an fun _ s1 => k s1) :=
  nss_step (ps_expr he hs) h2 fun D σ H ⟨β, s, hl, hs, q⟩ => ⟨β, ρ, s, hl, hs, by
    rw [hF]
    exact PostN.an hl hx q fun v s1 β1 H1 u st1 hs1 _ h1 => ⟨β1, s1, hl.step st1, hs1, h1⟩⟩
theorem nss_set {i : Nat} {x : Str} {pos' : Pos} {ρ' : Vl → Loc} {k : Vl → Sto → An S L} (hN : X.N.Nodup) (hi : X.N[i]? = some x) (hx : L2.Loc X.env.scope x) (he : DE X zx W e F) (h2 : ∀ v, NSs X zx W ox mkS mkL (ρ' v) rest (k v)) (hox : OxLe ox ρ) (hF : ∀ s, F ρ s = f s := by intro _; rfl) (hρ : ∀ v, ρ.set i (some v) = ρ' v := by intro _; rfl)
    (hs : swapsWith e (some (.Name x pos')) pos.line X.env = pure false := by rfl) (hf : X.fn x = true ∨ X.env.scope.names.lookup x = some .local := by first | exact .inl rfl | exact .inr rfl | assumption) :
    NSs X zx W ox mkS mkL ρ (.Assign [.Name x pos'] e pos :: rest) (fun s => (f s).an fun v s1 => k v s1) :=
  PSs.imp (pss_cons (ps_set hN hi hx he hs hf) (pss_ex h2)) fun D σ H ⟨β, s, hl, hs, q⟩ => ⟨β, ρ, s, hl, hs, by
    rw [hF]
    exact PostN.an hl hox q fun v s1 β1 H1 u st1 hs1 r1 h1 => ⟨v, β1, s1, by rw [← hρ]; exact (hl.step st1).set r1, hs1, h1⟩⟩
/-- target = value -/
theorem nss_asg {tg : Expr} {g : MG} {P : Type} {pat : Vl → Sto → R P} {ρ' : P → Loc} {k : P → Sto → An S L} (he : DE X zx W e F) (hg : DG X zx tg g) (h2 : ∀ p, NSs X zx W ox mkS mkL (ρ' p) rest (k p)) (hox : OxLe ox ρ)
    (hgp : ∀ v s, g v ρ s = (match pat v s with | .ok p s1 => .nx (ρ' p) s1 | _ => .bad)) (hF : ∀ s, F ρ s = f s := by intro _; rfl) (hs : swapsWithSole [tg] e pos.line X.env = pure false := by rfl) (hw : swappedStores [tg] e X.env = pure none := by rfl)
    (h1 : (assignEach [tg] X.env).map (·.2) = [assign tg X.env] := by rfl) : NSs X zx W ox mkS mkL ρ (.Assign [tg] e pos :: rest) (fun s => (f s).an fun v s1 => match pat v s1 with | .ok p s2 => k p s2 | _ => .bad) :=
  PSs.imp (pss_cons (ps_asg he hg hs hw h1) (pss_ex h2)) fun D σ H ⟨β, s, hl, hs, q⟩ => ⟨β, ρ, s, hl, hs, by
    rw [hF]
    refine PostN.an hl hox q fun v s1 β1 H1 u st1 hs1 r1 h1 => ⟨β1, ρ, s1, v, hl.step st1, hs1, r1, ?_⟩
    rw [hgp]
    cases e : pat v s1 with
    | ok p s2 => rw [e] at h1; exact fun β' σ' H' st' hl' hs' => ⟨p, β', s2, hl', hs', PostN.step h1 st'⟩
    | ex _ _ => rw [e] at h1; exact h1.elim
    | bad => rw [e] at h1; exact h1.elim⟩
theorem nss_par {i j : Nat} {x y : Str} {a b : Expr} {r : MA} {fr : Sto → R (List Vl)} {px py pt : Pos} {kt k2 pt2} {ρ' : Vl → Vl → Loc} {k : Vl → Vl → Sto → An S L} (hc : X.calm = true) (hN : X.N.Nodup) (hi : X.N[i]? = some x) (hj : X.N[j]? = some y) (hij : i ≠ j)
    (hx : X.env.scope.names.lookup x = some .local) (hy : X.env.scope.names.lookup y = some .local) (ha : DA X zx W [a, b] r) (h2 : ∀ v w, NSs X zx W ox mkS mkL (ρ' v w) rest (k v w)) (hox : OxLe ox ρ) (hF : ∀ s, r ρ s = fr s := by intro _; rfl) (hρ : ∀ v w, (ρ.set i (some v)).set j (some w) = ρ' v w := by intro _ _; rfl)
    (hw : swappedStores [.Tuple [.Name x px, .Name y py] kt pt] (.Tuple [a, b] k2 pt2) X.env = pure (some [x, y]) := by rfl)
    (hs : swapsWithSole [.Tuple [.Name x px, .Name y py] kt pt] (.Tuple [a, b] k2 pt2) pos.line X.env = pure false := by rfl) :
    NSs X zx W ox mkS mkL ρ (.Assign [.Tuple [.Name x px, .Name y py] kt pt] (.Tuple [a, b] k2 pt2) pos :: rest) (fun s => (fr s).an fun vs s1 => match vs with | [v, w] => k v w s1 | _ => .bad) :=
  PSs.imp (pss_cons (ps_par hc hN hi hj hij hx hy ha hw hs) (pss_ex fun v => pss_ex (h2 v))) fun D σ H ⟨β, s, hl, hs, q⟩ => ⟨β, ρ, s, hl, hs, by
    rw [hF]
    exact PostN.an hl hox q fun vs s1 β1 H1 us st1 hs1 r1 h1 => by
      cases r1 with
      | nil => exact h1.elim
      | cons r0 r1 =>
        cases r1 with
        | nil => exact h1.elim
        | cons r1 r2 =>
          cases r2 with
          | nil => exact ⟨_, _, rfl, _, _, β1, s1, by rw [← hρ]; exact ((hl.step st1).set r0).set r1, hs1, h1⟩
          | cons _ _ => exact h1.elim⟩
theorem nss_par3 {i j l : Nat} {x y z : Str} {a b c : Expr} {r : MA} {fr : Sto → R (List Vl)} {px py pz pt : Pos} {kt k2 pt2} {ρ' : Vl → Vl → Vl → Loc} {k : Vl → Vl → Vl → Sto → An S L} (hc : X.calm = true) (hN : X.N.Nodup) (hi : X.N[i]? = some x) (hj : X.N[j]? = some y) (hk : X.N[l]? = some z) (hij : i ≠ j) (hik : i ≠ l) (hjk : j ≠ l)
    (hx : X.env.scope.names.lookup x = some .local) (hy : X.env.scope.names.lookup y = some .local) (hz : X.env.scope.names.lookup z = some .local) (ha : DA X zx W [a, b, c] r) (h2 : ∀ v w u, NSs X zx W ox mkS mkL (ρ' v w u) rest (k v w u)) (hox : OxLe ox ρ) (hF : ∀ s, r ρ s = fr s := by intro _; rfl) (hρ : ∀ v w u, ((ρ.set i (some v)).set j (some w)).set l (some u) = ρ' v w u := by intro _ _ _; rfl)
    (hw : swappedStores [.Tuple [.Name x px, .Name y py, .Name z pz] kt pt] (.Tuple [a, b, c] k2 pt2) X.env = pure (some [x, y, z]) := by rfl)
    (hs : swapsWithSole [.Tuple [.Name x px, .Name y py, .Name z pz] kt pt] (.Tuple [a, b, c] k2 pt2) pos.line X.env = pure false := by rfl) :
    NSs X zx W ox mkS mkL ρ (.Assign [.Tuple [.Name x px, .Name y py, .Name z pz] kt pt] (.Tuple [a, b, c] k2 pt2) pos :: rest) (fun s => (fr s).an fun vs s1 => match vs with | [v, w, u] => k v w u s1 | _ => .bad) :=
  PSs.imp (pss_cons (ps_par3 hc hN hi hj hk hij hik hjk hx hy hz ha hw hs) (pss_ex fun v => pss_ex fun w => pss_ex (h2 v w))) fun D σ H ⟨β, s, hl, hs, q⟩ => ⟨β, ρ, s, hl, hs, by
    rw [hF]
    exact PostN.an hl hox q fun vs s1 β1 H1 us st1 hs1 r1 h1 => by
      cases r1 with
      | nil => exact h1.elim
      | cons r0 r1 =>
        cases r1 with
        | nil => exact h1.elim
        | cons r1 r2 =>
          cases r2 with
          | nil => exact h1.elim
          | cons r2 r3 =>
            cases r3 with
            | nil => exact ⟨_, _, _, rfl, _, _, _, β1, s1, by rw [← hρ]; exact (((hl.step st1).set r0).set r1).set r2, hs1, h1⟩
            | cons _ _ => exact h1.elim⟩
/-! ### statements that end a block -/
theorem nss_ret (he : DE X zx W e F) (hox : OxLe ox ρ) (hF : ∀ s, F ρ s = f s := by intro _; rfl) : NSs X zx W ox mkS mkL ρ [.Return (some e) pos] (fun s => (f s).an fun v s1 => .rt v s1) :=
  PSs.imp (pss_one (ps_ret he)) fun D σ H ⟨β, s, hl, hs, q⟩ => ⟨β, ρ, s, hl, hs, by
    rw [hF]
    exact PostN.an hl hox q fun v s1 β1 H1 u st1 hs1 r1 h1 => h1 β1 H1 u (Step.refl _ _) hs1 r1⟩
theorem nss_retN : NSs X zx W ox mkS mkL ρ [.Return none pos] (fun s => .rt (.dat .none) s) := PSs.imp (pss_one ps_retN) fun D σ H ⟨β, s, hl, hs, q⟩ => q β H .non (Step.refl _ _) hs .non
theorem nss_break {a : L} (h : LeL (mkL a) ρ) : NSs X zx W ox mkS mkL ρ [.Break pos] (fun s => .bk a s) := PSs.imp (pss_one ps_break) fun D σ H ⟨β, s, hl, hs, q⟩ => q β σ H (Step.refl _ _) (hl.le h) hs
theorem nss_cont {a : L} (h : LeL (mkL a) ρ) : NSs X zx W ox mkS mkL ρ [.Continue pos] (fun s => .ct a s) := PSs.imp (pss_one ps_continue) fun D σ H ⟨β, s, hl, hs, q⟩ => q β σ H (Step.refl _ _) (hl.le h) hs
/-- raise -/
def raise2N (nm f1 f2 : Str) (vs : List Vl) (s : Sto) : An S L := match vs with
  | [.dat x, .dat y] => .ex (nm, [(f2, y), (f1, x)]) s
  | _ => .bad
def raise1N (nm f1 : Str) (vs : List Vl) (s : Sto) : An S L := match vs with
  | [.dat x] => .ex (nm, [(f1, x)]) s
  | _ => .bad
@[simp] theorem raise2N_d {nm f1 f2 : Str} {x y : PyData} {s : Sto} : (raise2N nm f1 f2 [.dat x, .dat y] s : An S L) = .ex (nm, [(f2, y), (f1, x)]) s := rfl
@[simp] theorem raise1N_d {nm f1 : Str} {x : PyData} {s : Sto} : (raise1N nm f1 [.dat x] s : An S L) = .ex (nm, [(f1, x)]) s := rfl
theorem nss_raise {g : MS} {n : Sto → An S L} (h : DS X zx W st g) (hox : OxLe ox ρ) (hg : ∀ s, n s = .bad ∨ ∃ x s1, n s = .ex x s1 ∧ g ρ s = .ex x ρ s1) : NSs X zx W ox mkS mkL ρ [st] n :=
  PSs.imp (pss_one h) fun D σ H ⟨β, s, hl, hs, q⟩ => ⟨β, ρ, s, hl, hs, by
    rcases hg s with e | ⟨x, s1, e1, e2⟩
    · rw [e] at q; exact q.elim
    · rw [e1] at q
      rw [e2]
      exact fun β' σ' H' c d st' hl' hs' rx => q β' σ' H' c d st' (hox.rel hl') hs' rx⟩
theorem nss_raise2 {nm f1 f2 : Str} {r : MA} {fr : Sto → R (List Vl)} (h : DS X zx W st (sRaise2 nm f1 f2 r)) (hox : OxLe ox ρ) (hF : ∀ s, r ρ s = fr s := by intro _; rfl) : NSs X zx W ox mkS mkL ρ [st] (fun s => (fr s).an fun vs s1 => raise2N nm f1 f2 vs s1) :=
  nss_raise h hox fun s => by
    show _ ∨ ∃ x s1, _ ∧ ((r ρ s).to ρ fun vs s1 => match vs with
      | [.dat x, .dat y] => .ex (nm, [(f2, y), (f1, x)]) ρ s1
      | _ => .bad) = _
    rw [hF]
    cases fr s with
    | bad => exact .inl rfl
    | ex x s1 => exact .inr ⟨x, s1, rfl, rfl⟩
    | ok vs s1 =>
      show raise2N nm f1 f2 vs s1 = _ ∨ _
      unfold raise2N
      split
      · exact .inr ⟨_, _, rfl, rfl⟩
      · exact .inl rfl
theorem nss_raise1 {nm f1 : Str} {r : MA} {fr : Sto → R (List Vl)} (h : DS X zx W st (sRaise1 nm f1 r)) (hox : OxLe ox ρ) (hF : ∀ s, r ρ s = fr s := by intro _; rfl) : NSs X zx W ox mkS mkL ρ [st] (fun s => (fr s).an fun vs s1 => raise1N nm f1 vs s1) :=
  nss_raise h hox fun s => by
    show _ ∨ ∃ x s1, _ ∧ ((r ρ s).to ρ fun vs s1 => match vs with
      | [.dat x] => .ex (nm, [(f1, x)]) ρ s1
      | _ => .bad) = _
    rw [hF]
    cases fr s with
    | bad => exact .inl rfl
    | ex x s1 => exact .inr ⟨x, s1, rfl, rfl⟩
    | ok vs s1 =>
      show raise1N nm f1 vs s1 = _ ∨ _
      unfold raise1N
      split
      · exact .inr ⟨_, _, rfl, rfl⟩
      · exact .inl rfl
/-- a statement that is never come to -/
theorem nss_never : NSs X zx W ox mkS mkL ρ [st] (fun _ => .bad) := PSs.imp (pss_one ps_never) fun D σ H ⟨_, _, _, _, q⟩ => q
/-! ### if -/
theorem nss_ifx {mk0 : Empty → Loc} {c : Expr} {a : List Stmt} {T : MT} {tt : Sto → R Bool} {na : Sto → An Empty L} {nr : Sto → An S L} (hc : DT X zx W c T) (ha : NSs X zx W ox mk0 mkL ρ a na) (hr : NSs X zx W ox mkS mkL ρ rest nr) (hox : OxLe ox ρ) (hT : ∀ s, T ρ s = tt s := by intro _; rfl) :
    NSs X zx W ox mkS mkL ρ (.If c a [] pos :: rest) (fun s => (tt s).an fun k s1 => if k = true then (na s1).up else nr s1) :=
  PSs.imp (pss_cons (ps_if hc ha pss_nil) hr) fun D σ H ⟨β, s, hl, hs, q⟩ => ⟨β, ρ, s, hl, hs, by
    rw [hT]
    exact PostN.an hl hox q fun v s1 β1 H1 u st1 hs1 r1 h1 => by
      cases (show v = u from r1)
      cases v with
      | true => exact iteT ⟨β1, s1, hl.step st1, hs1, PostN.up _ h1⟩
      | false => exact iteF ⟨β1, s1, hl.step st1, hs1, h1⟩⟩
/-- the last one of a block -/
theorem nss_if1 {c : Expr} {a b : List Stmt} {T : MT} {tt : Sto → R Bool} {na nb : Sto → An S L} (hc : DT X zx W c T) (ha : NSs X zx W ox mkS mkL ρ a na) (hb : NSs X zx W ox mkS mkL ρ b nb) (hox : OxLe ox ρ) (hT : ∀ s, T ρ s = tt s := by intro _; rfl) :
    NSs X zx W ox mkS mkL ρ [.If c a b pos] (fun s => (tt s).an fun k s1 => if k = true then na s1 else nb s1) :=
  PSs.imp (pss_one (ps_if hc ha hb)) fun D σ H ⟨β, s, hl, hs, q⟩ => ⟨β, ρ, s, hl, hs, by
    rw [hT]
    exact PostN.an hl hox q fun v s1 β1 H1 u st1 hs1 r1 h1 => by
      cases (show v = u from r1)
      cases v with
      | true => exact iteT ⟨β1, s1, hl.step st1, hs1, h1⟩
      | false => exact iteF ⟨β1, s1, hl.step st1, hs1, h1⟩⟩
theorem ns_if {mk1 : S' → Loc} {c : Expr} {a b : List Stmt} {T : MT} {tt : Sto → R Bool} {na nb : Sto → An S' L} (hc : DT X zx W c T) (ha : NSs X zx W ox mk1 mkL ρ a na) (hb : NSs X zx W ox mk1 mkL ρ b nb) (hox : OxLe ox ρ) (hT : ∀ s, T ρ s = tt s := by intro _; rfl) :
    NS X zx W ox mk1 mkL ρ (.If c a b pos) (fun s => (tt s).an fun k s1 => if k = true then na s1 else nb s1) :=
  PS.imp (ps_if hc ha hb) fun D σ H ⟨β, s, hl, hs, q⟩ => ⟨β, ρ, s, hl, hs, by
    rw [hT]
    exact PostN.an hl hox q fun v s1 β1 H1 u st1 hs1 r1 h1 => by
      cases (show v = u from r1)
      cases v with
      | true => exact iteT ⟨β1, s1, hl.step st1, hs1, h1⟩
      | false => exact iteF ⟨β1, s1, hl.step st1, hs1, h1⟩⟩
end
end Pm
set_option maxRecDepth 100000
set_option maxHeartbeats 4000000
namespace Pm
open PySem PySem.Spec PyProof.Rows L2 Sw
/-! ### behind a turn: what nobody has any more is forgotten -/
def locOk (n : Nat) : Loc → Prop
  | [] => True
  | none :: l => locOk n l
  | some v :: l => refOk n v ∧ locOk n l
def stoOk (n : Nat) : Sto → Prop
  | [] => True
  | o :: s => obOk n o ∧ stoOk n s
theorem stoOk_iff {n : Nat} : ∀ {s : Sto}, stoOk n s ↔ ∀ o ∈ s, obOk n o
  | [] => by simp [stoOk]
  | o :: s => by simp [stoOk, stoOk_iff]
theorem locOk_get {n : Nat} : ∀ {l : Loc} {i : Nat} {v : Vl}, locOk n l → l[i]? = some (some v) → refOk n v
  | [], _, _, _, e => by simp at e
  | none :: l, 0, _, _, e => by simp at e
  | none :: l, i + 1, v, h, e => locOk_get (l := l) (i := i) h (by simpa using e)
  | some w :: l, 0, v, h, e => by
    have : w = v := by simpa using e
    rw [← this]; exact h.1
  | some w :: l, i + 1, v, h, e => locOk_get (l := l) (i := i) h.2 (by simpa using e)
@[simp] theorem locOk_nil {n : Nat} : locOk n [] = True := rfl
@[simp] theorem locOk_none {n : Nat} {l : Loc} : locOk n (none :: l) = locOk n l := rfl
@[simp] theorem locOk_some {n : Nat} {v : Vl} {l : Loc} : locOk n (some v :: l) = (refOk n v ∧ locOk n l) := rfl
@[simp] theorem stoOk_nil {n : Nat} : stoOk n [] = True := rfl
@[simp] theorem stoOk_cons {n : Nat} {o : Ob} {l : Sto} : stoOk n (o :: l) = (obOk n o ∧ stoOk n l) := rfl
@[simp] theorem refOk_dat {n : Nat} {p : PyData} : refOk n (.dat p) = True := rfl
@[simp] theorem refOk_scr {n : Nat} {p : List Int} : refOk n (.scr p) = True := rfl
@[simp] theorem refOk_ref {n m : Nat} : refOk n (.ref m) = (m < n) := rfl
@[simp] theorem obOk_lst {n : Nat} {l : List Vl} : obOk n (.lst l) = ∀ v ∈ l, refOk n v := rfl
@[simp] theorem obOk_dic {n : Nat} {l : List (Key × Vl)} : obOk n (.dic l) = ∀ v ∈ l, refOk n v.2 := rfl
@[simp] theorem obOk_dit {n : Nat} {l : List (List Key × Vl)} : obOk n (.dit l) = ∀ v ∈ l, refOk n v.2 := rfl
open Classical in
/-- behind a turn that began with a store of length n -/
noncomputable def tidyN {S S' L : Type} (mk : S → Loc) (n : Nat) (a : S) (s : Sto) (k : S → Sto → An S' L) : An S' L :=
  if s.length = n then k a s else if n ≤ s.length ∧ stoOk n (s.take n) ∧ locOk n (mk a) then k a (s.take n) else .bad
theorem RelL.cut {G : Cf} {H : Hp} {β : Bs} {n : Nat} {ρ : Loc} {σ : L2.St} (h : locOk n ρ) (r : RelL G H β ρ σ) : RelL G H (β.cut n) ρ σ := ⟨r.len, fun i v e => by
  obtain ⟨u, h1, h2⟩ := r.at' i v e
  exact ⟨u, h1, Rv.cut (locOk_get h e) h2⟩⟩
theorem RelS.cutN {G : Cf} {H : Hp} {β : Bs} {s : Sto} {n : Nat} (h : RelS G β s H) (hn : n ≤ s.length) (hc : stoOk n (s.take n)) : RelS G (β.cut n) (s.take n) H := by
  have e : (s.take n).length = n := by rw [List.length_take]; omega
  have h' : RelS G β (s.take n ++ s.drop n) H := by rw [List.take_append_drop]; exact h
  have := RelS.cut h' (fun o ho => by rw [e]; exact stoOk_iff.mp hc o ho)
  rw [e] at this
  exact this
section
variable {S S' L : Type} {G : Cf} {W : WX} {mk : S → Loc} {mkS : S' → Loc} {mkL : L → Loc} {ox : Option Loc}
theorem tidy_go {β β4 : Bs} {H H4 : Hp} {D : Ends} {n : Nat} {a : S} {s4 : Sto} {σ4 : L2.St} {k : S → Sto → An S' L} (q : PostN G W mkS mkL ox β H D (tidyN mk n a s4 k)) (hn : β.b.length ≤ n) (st : Step β H β4 H4) (hl : RelL G H4 β4 (mk a) σ4) (hs : RelS G β4 s4 H4) :
    ∃ β5 s5, Step β H β5 H4 ∧ RelL G H4 β5 (mk a) σ4 ∧ RelS G β5 s5 H4 ∧ PostN G W mkS mkL ox β5 H4 D (k a s5) := by
  unfold tidyN at q
  split at q
  · exact ⟨β4, s4, st, hl, hs, PostN.step q st⟩
  · split at q
    · rename_i h
      have st' := st.cut hn
      exact ⟨β4.cut n, s4.take n, st', hl.cut h.2.2, hs.cutN h.1 h.2.1, PostN.step q st'⟩
    · exact q.elim
noncomputable def An.lp (f : An S S) (mk : S → Loc) (n : Nat) (k : S → Sto → An S L) : An S L := match f with
  | .nx a s => tidyN mk n a s k
  | .ct a s => tidyN mk n a s k
  | .bk a s => tidyN mk n a s fun a s => .nx a s
  | .rt v s => .rt v s
  | .ex x s => .ex x s
  | .bad => .bad
open Classical in
noncomputable def forN (ck : Sto → Prop) (mk : S → Loc) (nb : Vl → S → Sto → An S S) : List Vl → S → Sto → An S L
  | [], a, s => if ck s then .nx a s else .bad
  | v :: r, a, s => if ck s then (nb v a s).lp mk s.length (forN ck mk nb r) else .bad
/-- nothing is asked of the store -/
def okT : Sto → Prop := fun _ => True
theorem src_ok_none {l : List Vl} : Src.ok ⟨l, none⟩ = okT := funext fun _ => rfl
@[simp] theorem forN_nil {mk : S → Loc} {nb : Vl → S → Sto → An S S} {a : S} {s : Sto} : (forN okT mk nb [] a s : An S L) = .nx a s := by
  unfold forN
  exact if_pos trivial
theorem forN_cons {mk : S → Loc} {nb : Vl → S → Sto → An S S} {v : Vl} {r : List Vl} {a : S} {s : Sto} : (forN okT mk nb (v :: r) a s : An S L) = (nb v a s).lp mk s.length (forN okT mk nb r) := by
  rw [forN]
  exact if_pos trivial
@[simp] theorem lp_nx {mk : S → Loc} {n : Nat} {a : S} {s : Sto} {k : S → Sto → An S L} : (An.nx a s : An S S).lp mk n k = tidyN mk n a s k := rfl
@[simp] theorem lp_ct {mk : S → Loc} {n : Nat} {a : S} {s : Sto} {k : S → Sto → An S L} : (An.ct a s : An S S).lp mk n k = tidyN mk n a s k := rfl
@[simp] theorem lp_bk {mk : S → Loc} {n : Nat} {a : S} {s : Sto} {k : S → Sto → An S L} : (An.bk a s : An S S).lp mk n k = tidyN mk n a s fun a s => .nx a s := rfl
@[simp] theorem lp_rt {mk : S → Loc} {n : Nat} {v : Vl} {s : Sto} {k : S → Sto → An S L} : (An.rt v s : An S S).lp mk n k = .rt v s := rfl
@[simp] theorem lp_ex {mk : S → Loc} {n : Nat} {v : Exn} {s : Sto} {k : S → Sto → An S L} : (An.ex v s : An S S).lp mk n k = .ex v s := rfl
@[simp] theorem lp_bad {mk : S → Loc} {n : Nat} {k : S → Sto → An S L} : (An.bad : An S S).lp mk n k = .bad := rfl
theorem tidy_same {mk : S → Loc} {n : Nat} {a : S} {s : Sto} {k : S → Sto → An S' L} (h : s.length = n) : tidyN mk n a s k = k a s := if_pos h
theorem tidy_cut {mk : S → Loc} {n : Nat} {a : S} {s t : Sto} {k : S → Sto → An S' L} (h : s.length = n) (hs : stoOk n s) (hl : locOk n (mk a)) : tidyN mk n a (s ++ t) k = k a s := by
  unfold tidyN
  have e : (s ++ t).take n = s := by rw [← h]; exact List.take_left
  by_cases hn : (s ++ t).length = n
  · rw [if_pos hn]
    have : t = [] := by rw [List.length_append] at hn; exact List.eq_nil_of_length_eq_zero (by omega)
    rw [this, List.append_nil]
  · rw [if_neg hn, if_pos ⟨by rw [List.length_append]; omega, by rw [e]; exact hs, hl⟩, e]
end
section
variable {S' L P : Type} {X : Cx} {zx : Exo} {W : WX} {mk1 : S' → Loc} {mkL : L → Loc} {ox : Option Loc} {ρ : Loc} {body : List Stmt} {pos : Pos}
theorem ns_for {tg iter : Expr} {IT : MI} {it : Sto → R Src} {g : MG} {pat : Vl → Option P} {ρb : P → S' → Loc} {nb : P → S' → Sto → An S' S'} {a0 : S'} (hp : PassesOwn (model X.prog X.w) X.A X.env X.xe) (hc : X.calm = true) (hi : DI X zx W tg iter IT) (hg : DG X zx tg g)
    (hb : ∀ p a, NSs X zx W ox mk1 mk1 (ρb p a) body (nb p a)) (hgp : ∀ v a s, g v (mk1 a) s = (match pat v with | some p => .nx (ρb p a) s | none => .bad)) (h0 : LeL (mk1 a0) ρ) (hox : OxLe ox ρ) (hF : ∀ s, IT ρ s = it s := by intro _; rfl)
    (hs : ∀ x, foldedSetIterable iter X.env x = pure x := by intro _; rfl) :
    NS X zx W ox mk1 mkL ρ (.For tg iter body [] pos) (fun s => (it s).an fun c s1 => forN c.ok mk1 (fun v a s => match pat v with | some p => nb p a s | none => .bad) c.items a0 s1) := PS.imp (ps_for hp hc hi hg (pss_ex fun p => pss_ex fun a => hb p a) hs) fun D σ H ⟨β, s, hl, hs, q⟩ => by
  refine ⟨β, ρ, s, hl, hs, ?_⟩
  rw [hF]
  refine PostN.an hl hox q fun c s1 β1 H1 J st1 hs1 wm h1 => ?_
  generalize hnb : (fun (v : Vl) (a : S') (s : Sto) => (match pat v with | some p => nb p a s | none => An.bad : An S' S')) = nb' at h1
  refine ⟨fun i m σ' H' => m = c.items.length - i ∧ i ≤ c.items.length ∧ ∃ β' a' s', Step β1 H1 β' H' ∧ RelL (cf X zx) H' β' (mk1 a') σ' ∧ RelS (cf X zx) β' s' H' ∧ PostN (cf X zx) W mk1 mkL ox β' H' D (forN c.ok mk1 nb' (c.items.drop i) a' s'),
    ⟨_, rfl, Nat.zero_le _, β1, a0, s1, Step.refl _ _, (hl.step st1).le h0, hs1, h1⟩, ?_⟩
  rintro i m σ' H' ⟨rfl, hi, β', a', s', st', hl', hs', q'⟩
  by_cases hlt : i < c.items.length
  · rw [List.drop_eq_getElem_cons hlt, forN] at q'
    by_cases ok : c.ok s'
    rotate_left
    · rw [if_neg ok] at q'; exact q'.elim
    rw [if_pos ok] at q'
    refine .inr ⟨wm.go i β' s' H' hlt st' hs' ok, fun σ2 H2 => i + 1 ≤ c.items.length ∧ ∃ β2 a2 s2, Step β1 H1 β2 H2 ∧ RelL (cf X zx) H2 β2 (mk1 a2) σ2 ∧ RelS (cf X zx) β2 s2 H2 ∧ PostN (cf X zx) W mk1 mkL ox β2 H2 D (forN c.ok mk1 nb' (c.items.drop (i + 1)) a2 s2),
      fun σ2 H2 h2 => ⟨_, by omega, rfl, h2.1, h2.2⟩, fun x H2 y => ?_⟩
    obtain ⟨sm, v, hv, rv⟩ := wm.yld i β' s' H' x H2 hlt st' hs' ok y
    rw [List.getElem?_eq_getElem hlt] at hv
    cases hv
    have st2 : Step β' H' β' H2 := Step.same sm
    refine ⟨β', mk1 a', s', _, hl'.step st2, hs'.same sm, rv, ?_⟩
    have q2 := PostN.step q' st2
    generalize c.items[i] = v at q2 ⊢
    rw [← hnb] at q2
    dsimp only at q2
    rw [hgp]
    cases eg : pat v with
    | none => rw [eg] at q2; exact q2.elim
    | some p =>
      rw [eg] at q2
      dsimp only at q2
      rw [hnb] at q2
      intro β3 σ3 H3 st3 hl3 hs3
      have q3 := PostN.step q2 st3
      have hlen : β3.b.length = s'.length := hs3.len
      have tr : ∀ {β4 H4}, Step β3 H3 β4 H4 → Step β1 H1 β4 H4 := fun h => ((st'.trans st2).trans st3).trans h
      refine ⟨p, a', β3, s', hl3, hs3, ?_⟩
      have ongo : ∀ a4 s4, PostN (cf X zx) W mk1 mkL ox β3 H3 D (tidyN mk1 s'.length a4 s4 (forN c.ok mk1 nb' (c.items.drop (i + 1)))) → ∀ β4 σ4 H4, Step β3 H3 β4 H4 → RelL (cf X zx) H4 β4 (mk1 a4) σ4 → RelS (cf X zx) β4 s4 H4 →
          i + 1 ≤ c.items.length ∧ ∃ β2 a2 s2, Step β1 H1 β2 H4 ∧ RelL (cf X zx) H4 β2 (mk1 a2) σ4 ∧ RelS (cf X zx) β2 s2 H4 ∧ PostN (cf X zx) W mk1 mkL ox β2 H4 D (forN c.ok mk1 nb' (c.items.drop (i + 1)) a2 s2) := fun a4 s4 q4 β4 σ4 H4 st4 hl4 hs4 => by
        obtain ⟨β5, s5, st5, hl5, hs5, q5⟩ := tidy_go q4 (Nat.le_of_eq hlen) st4 hl4 hs4
        exact ⟨hlt, β5, a4, s5, tr st5, hl5, hs5, q5⟩
      cases eb : nb p a' s' with
      | nx a4 s4 => rw [eb] at q3; exact ongo a4 s4 q3
      | ct a4 s4 => rw [eb] at q3; exact ongo a4 s4 q3
      | bk a4 s4 =>
        rw [eb] at q3
        intro β4 σ4 H4 st4 hl4 hs4
        obtain ⟨β5, s5, st5, hl5, hs5, q5⟩ := tidy_go (k := fun a s => .nx a s) q3 (Nat.le_of_eq hlen) st4 hl4 hs4
        exact q5 β5 σ4 H4 (Step.refl _ _) hl5 hs5
      | rt v s4 => rw [eb] at q3; exact q3
      | ex x s4 => rw [eb] at q3; exact q3
      | bad => rw [eb] at q3; exact q3
  · have e : i = c.items.length := by omega
    subst e
    rw [List.drop_length, forN] at q'
    by_cases ok : c.ok s'
    rotate_left
    · rw [if_neg ok] at q'; exact q'.elim
    rw [if_pos ok] at q'
    exact .inl ⟨wm.stop β' s' H' st' hs' ok, q' β' σ' H' (Step.refl _ _) hl' hs'⟩
end
/-! ### while -/
section
variable {S L : Type}
noncomputable def whileF (mk : S → Loc) (tt : S → Sto → R Bool) (nb : S → Sto → An S S) : Nat → S → Sto → An S L
  | 0, _, _ => .bad
  | n + 1, a, s => (tt a s).an fun c s1 => if c = true then (nb a s1).lp mk s1.length (whileF mk tt nb n) else .nx a s1
open Classical in
noncomputable def whl (mk : S → Loc) (tt : S → Sto → R Bool) (nb : S → Sto → An S S) (a : S) (s : Sto) : An S L := if h : ∃ n, (whileF mk tt nb n a s : An S L) ≠ .bad then whileF mk tt nb h.choose a s else .bad
theorem tidy_mono {mk : S → Loc} {n : Nat} {a : S} {s : Sto} {k k' : S → Sto → An S L} (h : ∀ a s, k a s ≠ .bad → k' a s = k a s) (hb : tidyN mk n a s k ≠ .bad) : tidyN mk n a s k' = tidyN mk n a s k := by
  unfold tidyN at hb ⊢
  split
  · rename_i e; rw [if_pos e] at hb; exact h _ _ hb
  · rename_i e
    rw [if_neg e] at hb
    split
    · rename_i e2; rw [if_pos e2] at hb; exact h _ _ hb
    · rfl
theorem whileF_mono {mk : S → Loc} {tt : S → Sto → R Bool} {nb : S → Sto → An S S} : ∀ {n m : Nat} {a : S} {s : Sto}, n ≤ m → (whileF mk tt nb n a s : An S L) ≠ .bad → (whileF mk tt nb m a s : An S L) = whileF mk tt nb n a s
  | 0, _, _, _, _, h => absurd rfl h
  | n + 1, 0, _, _, h, _ => by omega
  | n + 1, m + 1, a, s, h, hb => by
    rw [whileF] at hb ⊢
    rw [whileF]
    cases et : tt a s with
    | bad => rfl
    | ex x s1 => rfl
    | ok c s1 =>
      rw [et] at hb
      cases c with
      | false => rfl
      | true =>
        simp only [R.an_ok, if_true] at hb ⊢
        have key : ∀ a s, (whileF mk tt nb n a s : An S L) ≠ .bad → (whileF mk tt nb m a s : An S L) = whileF mk tt nb n a s := fun a s hb => whileF_mono (by omega) hb
        cases eb : nb a s1 with
        | nx ρ2 s2 => rw [eb] at hb; exact tidy_mono key hb
        | ct ρ2 s2 => rw [eb] at hb; exact tidy_mono key hb
        | _ => rfl
theorem whl_of {mk : S → Loc} {tt : S → Sto → R Bool} {nb : S → Sto → An S S} {n : Nat} {a : S} {s : Sto} (h : (whileF mk tt nb n a s : An S L) ≠ .bad) : (whl mk tt nb a s : An S L) = whileF mk tt nb n a s := by
  have hx : ∃ n, (whileF mk tt nb n a s : An S L) ≠ .bad := ⟨n, h⟩
  unfold whl
  rw [dif_pos hx]
  rcases Nat.le_total n hx.choose with z | z
  · exact whileF_mono z h
  · exact (whileF_mono z hx.choose_spec).symm
/-- one turn of a while -/
theorem whl_unfold {mk : S → Loc} {tt : S → Sto → R Bool} {nb : S → Sto → An S S} {a : S} {s : Sto} : (whl mk tt nb a s : An S L) = (tt a s).an fun c s1 => if c = true then (nb a s1).lp mk s1.length (whl mk tt nb) else .nx a s1 := by
  have main : ∀ r : An S L, r ≠ .bad → ((whl mk tt nb a s : An S L) = r ↔ ((tt a s).an fun c s1 => if c = true then (nb a s1).lp mk s1.length (whl mk tt nb) else .nx a s1 : An S L) = r) := by
    intro r hr
    constructor
    · intro h
      have hb : (whl mk tt nb a s : An S L) ≠ .bad := by rw [h]; exact hr
      have hx : ∃ n, (whileF mk tt nb n a s : An S L) ≠ .bad := by
        refine Classical.byContradiction fun z => hb ?_
        unfold whl
        rw [dif_neg z]
      obtain ⟨n, hn⟩ := hx
      rw [whl_of hn] at h
      rw [← h]
      cases n with
      | zero => exact absurd rfl hn
      | succ n =>
        rw [whileF] at hn ⊢
        cases et : tt a s with
        | bad => rfl
        | ex x s1 => rfl
        | ok c s1 =>
          rw [et] at hn
          cases c with
          | false => rfl
          | true =>
            simp only [R.an_ok, if_true] at hn ⊢
            have key : ∀ a s, (whileF mk tt nb n a s : An S L) ≠ .bad → (whl mk tt nb a s : An S L) = whileF mk tt nb n a s := fun a s hb => whl_of hb
            cases eb : nb a s1 with
            | nx ρ2 s2 => rw [eb] at hn; exact tidy_mono key hn
            | ct ρ2 s2 => rw [eb] at hn; exact tidy_mono key hn
            | _ => rfl
    · intro h
      -- some number of turns serves
      have : ∃ n, (whileF mk tt nb n a s : An S L) = r := by
        cases et : tt a s with
        | bad => rw [et] at h; exact absurd h.symm hr
        | ex x s1 => rw [et] at h; exact ⟨1, by rw [whileF, et]; exact h⟩
        | ok c s1 =>
          rw [et] at h
          cases c with
          | false => exact ⟨1, by rw [whileF, et]; exact h⟩
          | true =>
            simp only [R.an_ok, if_true] at h
            have go : ∀ a2 s2, (tidyN mk s1.length a2 s2 (whl mk tt nb) : An S L) = r → ∃ n, (tidyN mk s1.length a2 s2 (whileF mk tt nb n) : An S L) = r := by
              intro a2 s2 h2
              unfold tidyN at h2 ⊢
              have ex : ∀ a s, (whl mk tt nb a s : An S L) = r → ∃ n, (whileF mk tt nb n a s : An S L) = r := by
                intro a s h3
                unfold whl at h3
                split at h3
                · rename_i hx; exact ⟨_, h3⟩
                · exact absurd h3.symm hr
              split
              · rename_i e; rw [if_pos e] at h2; exact ex _ _ h2
              · rename_i e
                rw [if_neg e] at h2
                split
                · rename_i e2; rw [if_pos e2] at h2; exact ex _ _ h2
                · rename_i e2; rw [if_neg e2] at h2; exact absurd h2.symm hr
            cases eb : nb a s1 with
            | nx a2 s2 =>
              rw [eb] at h
              obtain ⟨n, hn⟩ := go a2 s2 h
              exact ⟨n + 1, by rw [whileF, et, R.an_ok, if_pos rfl, eb]; exact hn⟩
            | ct a2 s2 =>
              rw [eb] at h
              obtain ⟨n, hn⟩ := go a2 s2 h
              exact ⟨n + 1, by rw [whileF, et, R.an_ok, if_pos rfl, eb]; exact hn⟩
            | bk a2 s2 => rw [eb] at h; exact ⟨1, by rw [whileF, et, R.an_ok, if_pos rfl, eb]; exact h⟩
            | rt a2 s2 => rw [eb] at h; exact ⟨1, by rw [whileF, et, R.an_ok, if_pos rfl, eb]; exact h⟩
            | ex a2 s2 => rw [eb] at h; exact ⟨1, by rw [whileF, et, R.an_ok, if_pos rfl, eb]; exact h⟩
            | bad => rw [eb] at h; exact absurd h.symm hr
      obtain ⟨n, hn⟩ := this
      rw [← hn]
      exact whl_of (by rw [hn]; exact hr)
  by_cases h : (whl mk tt nb a s : An S L) = .bad
  · rw [h]
    refine Classical.byContradiction fun z => ?_
    have := (main _ (fun e => z e.symm)).mpr rfl
    rw [h] at this
    exact z this
  · exact ((main _ h).mp rfl).symm
end
section
variable {S' L : Type} {X : Cx} {zx : Exo} {W : WX} {mk1 : S' → Loc} {mkL : L → Loc} {ox : Option Loc} {ρ : Loc} {body : List Stmt} {pos : Pos}
theorem ns_while {c : Expr} {T : MT} {tt : S' → Sto → R Bool} {nb : S' → Sto → An S' S'} {a0 : S'} (hp : PassesOwn (model X.prog X.w) X.A X.env X.xe) (hc : DT X zx W c T) (hb : ∀ a, NSs X zx W ox mk1 mk1 (mk1 a) body (nb a)) (h0 : LeL (mk1 a0) ρ) (hox : ∀ a, OxLe ox (mk1 a)) (hT : ∀ a s, T (mk1 a) s = tt a s := by intro _ _; rfl) :
    NS X zx W ox mk1 mkL ρ (.While c body [] pos) (fun s => whl mk1 tt nb a0 s) := PS.imp (ps_while hp hc (pss_ex hb)) fun D σ H ⟨β, s, hl, hs, q⟩ => by
  dsimp only at q
  unfold whl at q
  split at q
  rotate_left
  · exact q.elim
  rename_i hx
  generalize hx.choose = n at q
  refine ⟨fun m σ' H' => ∃ β' a' s', RelL (cf X zx) H' β' (mk1 a') σ' ∧ RelS (cf X zx) β' s' H' ∧ PostN (cf X zx) W mk1 mkL ox β' H' D (whileF mk1 tt nb m a' s'), ⟨n, β, a0, s, hl.le h0, hs, q⟩, ?_⟩
  rintro m σ' H' ⟨β', a', s', hl', hs', q'⟩
  cases m with
  | zero => exact q'.elim
  | succ m =>
    rw [whileF] at q'
    refine ⟨β', mk1 a', s', hl', hs', ?_⟩
    rw [hT]
    refine PostN.an hl' (hox a') q' fun v s1 β1 H1 u st1 hs1 r1 h1 => ?_
    cases (show v = u from r1)
    cases v with
    | false => exact iteF (h1 β1 σ' H1 (Step.refl _ _) (hl'.step st1) hs1)
    | true =>
      have hlen : β1.b.length = s1.length := hs1.len
      refine iteT ⟨fun σ2 H2 => ∃ β2 a2 s2, RelL (cf X zx) H2 β2 (mk1 a2) σ2 ∧ RelS (cf X zx) β2 s2 H2 ∧ PostN (cf X zx) W mk1 mkL ox β2 H2 D (whileF mk1 tt nb m a2 s2), fun σ2 H2 h2 => ⟨m, Nat.lt_succ_self _, h2⟩, a', β1, s1, hl'.step st1, hs1, ?_⟩
      have h1 : PostN (cf X zx) W mk1 mkL ox β1 H1 D ((nb a' s1).lp mk1 s1.length (whileF mk1 tt nb m)) := h1
      have ongo : ∀ a4 s4, PostN (cf X zx) W mk1 mkL ox β1 H1 D (tidyN mk1 s1.length a4 s4 (whileF mk1 tt nb m)) → ∀ β4 σ4 H4, Step β1 H1 β4 H4 → RelL (cf X zx) H4 β4 (mk1 a4) σ4 → RelS (cf X zx) β4 s4 H4 →
          ∃ β2 a2 s2, RelL (cf X zx) H4 β2 (mk1 a2) σ4 ∧ RelS (cf X zx) β2 s2 H4 ∧ PostN (cf X zx) W mk1 mkL ox β2 H4 D (whileF mk1 tt nb m a2 s2) := fun a4 s4 q4 β4 σ4 H4 st4 hl4 hs4 => by
        obtain ⟨β5, s5, st5, hl5, hs5, q5⟩ := tidy_go q4 (Nat.le_of_eq hlen) st4 hl4 hs4
        exact ⟨β5, a4, s5, hl5, hs5, q5⟩
      cases eb : nb a' s1 with
      | nx a4 s4 => rw [eb] at h1; exact ongo a4 s4 h1
      | ct a4 s4 => rw [eb] at h1; exact ongo a4 s4 h1
      | bk a4 s4 =>
        rw [eb] at h1
        intro β4 σ4 H4 st4 hl4 hs4
        obtain ⟨β5, s5, st5, hl5, hs5, q5⟩ := tidy_go (k := fun a s => .nx a s) h1 (Nat.le_of_eq hlen) st4 hl4 hs4
        exact q5 β5 σ4 H4 (Step.refl _ _) hl5 hs5
      | rt v s4 => rw [eb] at h1; exact h1
      | ex x s4 => rw [eb] at h1; exact h1
      | bad => rw [eb] at h1; exact h1
end
end Pm
set_option maxRecDepth 100000
set_option maxHeartbeats 4000000
namespace Pm
open PySem PySem.Spec PyProof.Rows L2 Sw
/-! ### try .. except -/
def okX : Option Vl → Bool
  | some v => noX v
  | none => true
/-- behind a suite no exception is had by a name -/
def An.unx {S L : Type} (mk : S → Loc) (mkL : L → Loc) (f : An S L) : An S L := match f with
  | .nx a s => if (mk a).all okX = true then .nx a s else .bad
  | .rt v s => if noX v = true then .rt v s else .bad
  | .bk a s => if (mkL a).all okX = true then .bk a s else .bad
  | .ct a s => if (mkL a).all okX = true then .ct a s else .bad
  | _ => .bad
@[simp] theorem unx_rt {S L : Type} {mk : S → Loc} {mkL : L → Loc} {v : Vl} {s : Sto} : (An.rt v s : An S L).unx mk mkL = if noX v = true then .rt v s else .bad := rfl
@[simp] theorem unx_nx {S L : Type} {mk : S → Loc} {mkL : L → Loc} {a : S} {s : Sto} : (An.nx a s : An S L).unx mk mkL = if (mk a).all okX = true then .nx a s else .bad := rfl
@[simp] theorem unx_ct {S L : Type} {mk : S → Loc} {mkL : L → Loc} {a : L} {s : Sto} : (An.ct a s : An S L).unx mk mkL = if (mkL a).all okX = true then .ct a s else .bad := rfl
@[simp] theorem unx_bk {S L : Type} {mk : S → Loc} {mkL : L → Loc} {a : L} {s : Sto} : (An.bk a s : An S L).unx mk mkL = if (mkL a).all okX = true then .bk a s else .bad := rfl
/-- t tells whether the clause takes an exception of that name -/
def tryN {S L : Type} (mk : S → Loc) (mkL : L → Loc) (nb : Sto → An S L) (t : Str → Option Bool) (nsu : Exn → Sto → An S L) (s : Sto) : An S L := match nb s with
  | .ex x s1 => (match t x.1 with
    | some true => (nsu x s1).unx mk mkL
    | some false => .ex x s1
    | none => .bad)
  | r => r
theorem RelL.dnN {K : PySem.W.Frag} {mg : Str → Option Value} {z : Exo} {H : Hp} {β : Bs} {ρ : Loc} {σ : L2.St} (h : RelL ⟨K, mg, z⟩ H β ρ σ) (hn : ρ.all okX = true) : RelL ⟨K, mg, none⟩ H β ρ σ := ⟨h.len, fun i v e => by
  obtain ⟨u, h1, h2⟩ := h.at' i v e
  exact ⟨u, h1, Rv.dn (G := ⟨K, mg, z⟩) (List.all_eq_true.mp hn _ (List.mem_of_getElem? e)) h2⟩⟩
/-- a slot is nothing -/
def NoneAt (i : Nat) (ρ : Loc) : Prop := ρ[i]? = some none
theorem RelL.unset {G : Cf} {H : Hp} {β : Bs} {ρ : Loc} {σ : L2.St} {i : Nat} (h : RelL G H β ρ σ) (hn : NoneAt i ρ) : RelL G H β ρ (σ.set i none) := ⟨by simp [h.len], fun j v e => by
  by_cases z : j = i
  · subst z
    rw [show ρ[j]? = some none from hn] at e
    cases e
  · obtain ⟨u, h1, h2⟩ := h.at' j v e
    exact ⟨u, by rw [List.getElem?_set_ne (Ne.symm z)]; exact h1, h2⟩⟩
section
variable {S' L : Type} {X : Cx} {W : WX} {mk1 : S' → Loc} {mkL : L → Loc} {ox : Option Loc} {ρ ρx : Loc} {x n : Str} {c : Value} {i : Nat} {body suite : List Stmt} {b₀ : Stmt} {np pos pos' : Pos} {nb : Sto → An S' L} {nsu : Exn → Sto → An S' L} {t : Str → Option Bool}
theorem suite_go {a : Addr} {c1 : Value} {d1 : Option Addr} {β1 : Bs} {H1 : Hp} {D : Ends} {fl : An S' L} {i : Nat} (hn1 : ∀ a, NoneAt i (mk1 a)) (hnL : ∀ a, NoneAt i (mkL a)) (q2 : PostN (cf X none) W mk1 mkL ox β1 H1 D (fl.unx mk1 mkL)) :
    PostN (cf X (some (a, c1, d1))) WF mk1 mkL none β1 H1 { nx := fun σ' H' => D.nx (σ'.set i none) H', rt := D.rt, bk := fun σ' H' => D.bk (σ'.set i none) H', ct := fun σ' H' => D.ct (σ'.set i none) H' } fl := by
  cases fl with
  | nx a2 s2 =>
    intro β2 σ2 H2 st2 hl2 hs2
    unfold An.unx at q2
    dsimp only at q2
    split at q2
    · rename_i hall
      exact q2 β2 _ H2 st2 (RelL.unset (RelL.dnN hl2 hall) (hn1 a2)) hs2.oz
    · exact q2.elim
  | bk a2 s2 =>
    intro β2 σ2 H2 st2 hl2 hs2
    unfold An.unx at q2
    dsimp only at q2
    split at q2
    · rename_i hall
      exact q2 β2 _ H2 st2 (RelL.unset (RelL.dnN hl2 hall) (hnL a2)) hs2.oz
    · exact q2.elim
  | ct a2 s2 =>
    intro β2 σ2 H2 st2 hl2 hs2
    unfold An.unx at q2
    dsimp only at q2
    split at q2
    · rename_i hall
      exact q2 β2 _ H2 st2 (RelL.unset (RelL.dnN hl2 hall) (hnL a2)) hs2.oz
    · exact q2.elim
  | rt v s2 =>
    intro β2 H2 u st2 hs2 rv
    unfold An.unx at q2
    dsimp only at q2
    split at q2
    · rename_i hn
      exact q2 β2 H2 u st2 hs2.oz (Rv.dn (G := cf X (some (a, c1, d1))) hn rv)
    · exact q2.elim
  | ex x2 s2 => exact q2.elim
  | bad => exact q2.elim
theorem ns_try_as (hs : X.stack = X.env :: X.outer) (hf : X.env.frame = some X.env.locals) (hN : X.N.Nodup) (hi : X.N[i]? = some n) (hln : X.env.kindOf n = some .local) (hc : Names X x c) (tk : Takes X W)
    (ht : ∀ nm C b, X.mg nm = some (.ref C) → t nm = some b → PySem.W.exmOne X.K (.ref C) c = some b)
    (hb : ∀ (W : WX) (pn : List (Addr × Obj)) (xe : Value → Shared → Prop), Takes (X.tr pn xe) W → PassesOwn (model X.prog X.w) X.A X.env xe → NSs (X.tr pn xe) none W (some ρx) mk1 mkL ρ body nb)
    (hsu : ∀ (a : Addr) (oe : Obj) (cls : Value) (d : Option Addr) (pn : List (Addr × Obj)), Zc cls d oe → (∃ vs, oe.data = .fields vs) → ∀ x : Exn, NSs (X.suite a ((a, oe) :: pn)) (some (a, cls, d)) WF none mk1 mkL (ρx.set i (some (.exo x.1 x.2))) (b₀ :: suite) (nsu x))
    (hn1 : ∀ a, NoneAt i (mk1 a) := by intro _; rfl) (hnL : ∀ a, NoneAt i (mkL a) := by intro _; rfl) (hox : OxLe ox ρx) :
    NS X none W ox mk1 mkL ρ (.Try body [.ExceptHandler (some (.Name x np)) (some n) (b₀ :: suite) pos'] [] [] pos) (tryN mk1 mkL nb t nsu) :=
  PS.imp (ps_try_as (tb := fun W => tN (cf X none) W mk1 mkL (some ρx) ρ nb) (ts := fun a cls d => fun D σ H => ∃ x : Exn, tN (cf X (some (a, cls, d))) WF mk1 mkL none (ρx.set i (some (.exo x.1 x.2))) (nsu x) D σ H) hs hf hN hi hln hc tk hb (fun a oe cls d pn h1 h2 => pss_ex (hsu a oe cls d pn h1 h2))) fun D σ H ⟨β, s, hl, hs, q⟩ => by
  refine ⟨β, s, hl, hs, ?_⟩
  unfold tryN at q
  cases ef : nb s with
  | ex x1 s1 =>
    rw [ef] at q
    dsimp only at q
    intro β1 σ1 H1 c1 d1 st1 hl1 hs1 rx
    obtain ⟨C, dd, xs, h1, h2, h3, h4, h5, h6⟩ := id rx
    have hl1 : RelL (cf X none) H1 β1 ρx σ1 := hl1
    cases et : t x1.1 with
    | none => rw [et] at q; exact q.elim
    | some b =>
      rw [et] at q
      refine ⟨b, by rw [h2]; exact ht _ C b h1 et, fun hb a ha => ?_, fun hb => ?_⟩
      · subst hb
        dsimp only at q
        have rxo : Rv (cf X (some (a, c1, d1))) H1 β1 (.exo x1.1 x1.2) (.ref a) := ⟨a, c1, d1, rfl, rfl, rx⟩
        exact ⟨x1, β1, s1, (RelL.up hl1).set rxo, hs1.oz, suite_go hn1 hnL (PostN.step q st1)⟩
      · subst hb
        dsimp only at q
        exact q β1 σ1 H1 c1 d1 st1 (hox.rel hl1) hs1 rx
  | nx a1 s1 => rw [ef] at q; exact q
  | rt v s1 => rw [ef] at q; exact q
  | bk a1 s1 => rw [ef] at q; exact q
  | ct a1 s1 => rw [ef] at q; exact q
  | bad => rw [ef] at q; exact q
/-- without a name -/
theorem suite_go0 {a : Addr} {c1 : Value} {d1 : Option Addr} {β1 : Bs} {H1 : Hp} {D : Ends} {fl : An S' L} (q2 : PostN (cf X none) W mk1 mkL ox β1 H1 D (fl.unx mk1 mkL)) : PostN (cf X (some (a, c1, d1))) WF mk1 mkL none β1 H1 D fl := by
  cases fl with
  | nx a2 s2 =>
    intro β2 σ2 H2 st2 hl2 hs2
    unfold An.unx at q2
    dsimp only at q2
    split at q2
    · rename_i hall
      exact q2 β2 _ H2 st2 (RelL.dnN hl2 hall) hs2.oz
    · exact q2.elim
  | bk a2 s2 =>
    intro β2 σ2 H2 st2 hl2 hs2
    unfold An.unx at q2
    dsimp only at q2
    split at q2
    · rename_i hall
      exact q2 β2 _ H2 st2 (RelL.dnN hl2 hall) hs2.oz
    · exact q2.elim
  | ct a2 s2 =>
    intro β2 σ2 H2 st2 hl2 hs2
    unfold An.unx at q2
    dsimp only at q2
    split at q2
    · rename_i hall
      exact q2 β2 _ H2 st2 (RelL.dnN hl2 hall) hs2.oz
    · exact q2.elim
  | rt v s2 =>
    intro β2 H2 u st2 hs2 rv
    unfold An.unx at q2
    dsimp only at q2
    split at q2
    · rename_i hn
      exact q2 β2 H2 u st2 hs2.oz (Rv.dn (G := cf X (some (a, c1, d1))) hn rv)
    · exact q2.elim
  | ex x2 s2 => exact q2.elim
  | bad => exact q2.elim
theorem ns_try_only (hs : X.stack = X.env :: X.outer) (hf : X.env.frame = some X.env.locals) (hc : Names X x c) (tk : Takes X W)
    (ht : ∀ nm C b, X.mg nm = some (.ref C) → t nm = some b → PySem.W.exmOne X.K (.ref C) c = some b)
    (hb : ∀ (W : WX) (pn : List (Addr × Obj)) (xe : Value → Shared → Prop), Takes (X.tr pn xe) W → PassesOwn (model X.prog X.w) X.A X.env xe → NSs (X.tr pn xe) none W (some ρx) mk1 mkL ρ body nb)
    (hsu : ∀ (a : Addr) (oe : Obj) (cls : Value) (d : Option Addr) (pn : List (Addr × Obj)), Zc cls d oe → (∃ vs, oe.data = .fields vs) → ∀ x : Exn, NSs (X.suite a ((a, oe) :: pn)) (some (a, cls, d)) WF none mk1 mkL ρx (b₀ :: suite) (nsu x)) (hox : OxLe ox ρx) :
    NS X none W ox mk1 mkL ρ (.Try body [.ExceptHandler (some (.Name x np)) none (b₀ :: suite) pos'] [] [] pos) (tryN mk1 mkL nb t nsu) :=
  PS.imp (ps_try_only (tb := fun W => tN (cf X none) W mk1 mkL (some ρx) ρ nb) (ts := fun a cls d => fun D σ H => ∃ x : Exn, tN (cf X (some (a, cls, d))) WF mk1 mkL none ρx (nsu x) D σ H) hs hf hc tk hb (fun a oe cls d pn h1 h2 => pss_ex (hsu a oe cls d pn h1 h2))) fun D σ H ⟨β, s, hl, hs, q⟩ => by
  refine ⟨β, s, hl, hs, ?_⟩
  unfold tryN at q
  cases ef : nb s with
  | ex x1 s1 =>
    rw [ef] at q
    dsimp only at q
    intro β1 σ1 H1 c1 d1 st1 hl1 hs1 rx
    obtain ⟨C, dd, xs, h1, h2, h3, h4, h5, h6⟩ := id rx
    have hl1 : RelL (cf X none) H1 β1 ρx σ1 := hl1
    cases et : t x1.1 with
    | none => rw [et] at q; exact q.elim
    | some b =>
      rw [et] at q
      refine ⟨b, by rw [h2]; exact ht _ C b h1 et, fun hb a ha => ?_, fun hb => ?_⟩
      · subst hb
        dsimp only at q
        exact ⟨x1, β1, s1, RelL.up hl1, hs1.oz, suite_go0 (PostN.step q st1)⟩
      · subst hb
        dsimp only at q
        exact q β1 σ1 H1 c1 d1 st1 (hox.rel hl1) hs1 rx
  | nx a1 s1 => rw [ef] at q; exact q
  | rt v s1 => rw [ef] at q; exact q
  | bk a1 s1 => rw [ef] at q; exact q
  | ct a1 s1 => rw [ef] at q; exact q
  | bad => rw [ef] at q; exact q
end
/-! ### defs -/
def mkU (n : Nat) : Unit → Loc := fun _ => List.replicate n none
def mkE : Empty → Loc := fun a => a.elim
theorem post_finN {G : Cf} {E : XK} {β : Bs} {H : Hp} {Q : VK} {n : Nat} {f : An Unit Empty} (h : Post G (Rv G) (fun c d _ H => E c d H) [] β H Q f.fin) : PostN G (fun c d _ H => E c d H) (mkU n) mkE none β H { nx := fun _ H' => Q .non H', rt := Q } f := by
  cases f with
  | nx a s => exact fun β' σ' H' st _ hs => h β' H' .non st hs .non
  | rt v s => exact h
  | ex x s => exact fun β' σ' H' c d st _ hs r => h β' H' c d st hs r
  | bk a s => exact a.elim
  | ct a s => exact a.elim
  | bad => exact h.elim
/-- a def by its native function -/
def runN (nf : List Vl → Sto → An Unit Empty) : MF := fun xs s => (nf xs s).fin
section
variable {P : Program} {w : World} {K : PySem.W.Frag} {mg : Str → Option Value} {base : Heap}
theorem fnN_of {x qual : Str} {st : Stmt} {f : Addr} {fd : FuncData} {N ps : List Str} {k : Nat} {nf : List Vl → Sto → An Unit Empty} (F : Fun K x qual st f fd) (S : FnScope N ps (defScope st))
    (hb : ∀ (cdv : Value) (A : Around) (outer : List Env) (s : Shared) (H : Hp) (E : XK), A.guards = some [] → Room k (A.deeper (envOfC qual (defScope st) s.heap.objs.size f cdv)) →
      ∀ xs : List Vl, xs.length = ps.length → NSs (cxOf (L2.CX P w) P w K mg base N qual (defScope st) f cdv A outer s H E) none (fun c d _ H => E c d H) none (mkU N.length) mkE (startM N.length xs) (defBody st) (nf xs)) : FnD P w K mg base (k + 1) f fd ps (runN nf) := by
  refine ⟨fun A outer s H args us vs Q E hg hr e0 bd r hsp => ?_⟩
  obtain ⟨oc, od, kV, doc, pm, an, cdv, ct, osl, rfl, lk, hcd⟩ := F.ex
  obtain ⟨β, st0, xs, hs, rx, hlen, hp⟩ := hsp
  have ht := hb cdv A outer s H E hg (hr.deeper _) xs hlen
  have hvl : vs.length = ps.length := by rw [← rx.len]; exact hlen
  have kin : K.In s.heap := e0.mod.kin.keeps fun b o e => (e0.bs b o e).1
  refine codeAny_call_function hr.depth (kin _ _ lk) rfl S.co S.gen rfl (PySem.W.codeRec_of kin hcd) (bd _ _ _ _ ?_)
  refine wpAny_newFunctionEnv_cells S.kind ?_ fun env he s1 x => ?_
  · rintro ⟨n, v⟩ hy
    rcases S.par n (List.of_mem_zip hy).1 with q | q
    · exact .inl q
    · exact .inr ⟨q, PySem.W.cellsFrom_some _ _ _ (.inl q)⟩
  · subst he
    refine ⟨(e0.mod.nolimit.keeps fun b o e => (e0.bs b o e).1).keeps x.toInCall.keep, codeAny_func ?_⟩
    refine wpAny_mono (ht.run [] s1 (start N vs) H { nx := fun _ H' => Q .non H', rt := Q } (inv_start S hr.hd e0 hvl r x) ⟨β, st0, start_rel rx, hs, post_finN hp⟩) (fun fl s' hs => ?_) fun e s' hs => hs
    cases fl with
    | ret u =>
      obtain ⟨v, σ', H', J, rv, q⟩ := hs
      exact ⟨v, H', J.os, J.bare, J.base, J.hok, rv, q⟩
    | next =>
      obtain ⟨σ', H', J, q⟩ := hs
      exact ⟨V.non, H', J.os, J.bare, J.base, J.hok, rfl, q⟩
    | brk =>
      obtain ⟨_, _, _, q⟩ := hs
      exact q.elim
    | cont =>
      obtain ⟨_, _, _, q⟩ := hs
      exact q.elim
end
end Pm
set_option maxRecDepth 100000
set_option maxHeartbeats 4000000
namespace Pm
open PySem PySem.Spec PyProof.Rows L2 Sw
/-! ### a def sees of the store what it is handed alone -/
def refsOf : List Vl → List Nat
  | [] => []
  | .ref n :: r => n :: refsOf r
  | _ :: r => refsOf r
def renam : Nat → List Vl → List Vl
  | _, [] => []
  | j, .ref _ :: r => .ref j :: renam (j + 1) r
  | j, v :: r => v :: renam j r
def pickS (s : Sto) : List Nat → Option Sto
  | [] => some []
  | n :: r => (s[n]?).bind fun o => (pickS s r).map (o :: ·)
def putB : Sto → List Nat → Sto → Sto
  | s, n :: r, o :: t => putB (s.set n o) r t
  | s, _, _ => s
def frV (ks : List Nat) (s2 : Sto) : Vl → Option Vl
  | .dat p => some (.dat p)
  | .ref m => if m < ks.length then (ks[m]?).map Vl.ref else (lstAt s2 m).bind fun l => (datas l).map fun ds => .dat (.list ds)
  | _ => none
open Classical in
noncomputable def frameG (g : MF) : MF := fun xs s => if (refsOf xs).Nodup then (match pickS s (refsOf xs) with
  | none => .bad
  | some s0 => if stoOk 0 s0 then (match g (renam 0 xs) s0 with
    | .ok v s2 => if s0.length ≤ s2.length ∧ stoOk 0 (s2.take s0.length) then R.of (frV (refsOf xs) s2 v) (putB s (refsOf xs) s2) else .bad
    | .ex x s2 => if s0.length ≤ s2.length ∧ stoOk 0 (s2.take s0.length) then .ex x (putB s (refsOf xs) s2) else .bad
    | .bad => .bad) else .bad) else .bad
mutual
theorem Dq.conv {K : PySem.W.Frag} {H : Hp} {β β' : Bs} (i : ∀ x, x ∉ β.b → x ∉ β.g → x ∉ β'.b ∧ x ∉ β'.g) : ∀ {v : V} {d : PyData}, Dq K H β v d → Dq K H β' v d
  | _, _, .non => .non
  | _, _, .bl b => .bl b
  | _, _, .int i => .int i
  | _, _, .str h => .str h
  | _, _, .lst h l r => .lst ⟨h.1, (i _ h.2.1 h.2.2).1, (i _ h.2.1 h.2.2).2⟩ l (DqAll.conv i r)
  | _, _, .tup h l r => .tup h l (DqAll.conv i r)
theorem DqAll.conv {K : PySem.W.Frag} {H : Hp} {β β' : Bs} (i : ∀ x, x ∉ β.b → x ∉ β.g → x ∉ β'.b ∧ x ∉ β'.g) : ∀ {vs : List V} {ds : List PyData}, DqAll K H β vs ds → DqAll K H β' vs ds
  | _, _, .nil => .nil
  | _, _, .cons h r => .cons (Dq.conv i h) (DqAll.conv i r)
end
section
variable {K : PySem.W.Frag} {mg : Str → Option Value} {H : Hp} {β β' : Bs}
theorem Rv.conv (i : ∀ x, x ∉ β.b → x ∉ β.g → x ∉ β'.b ∧ x ∉ β'.g) {v : Vl} {u : V} (h : refOk 0 v) (r : Rv ⟨K, mg, none⟩ H β v u) : Rv ⟨K, mg, none⟩ H β' v u := by
  cases v with
  | dat p => exact Dq.conv i r
  | ref m => exact absurd (show m < 0 from h) (Nat.not_lt_zero _)
  | scr ns => exact r
  | exo nm fs => obtain ⟨_, _, _, e, _⟩ := r; cases e
theorem Rvs.conv (i : ∀ x, x ∉ β.b → x ∉ β.g → x ∉ β'.b ∧ x ∉ β'.g) : ∀ {vs : List Vl} {us : List V}, (∀ v ∈ vs, refOk 0 v) → Rvs ⟨K, mg, none⟩ H β vs us → Rvs ⟨K, mg, none⟩ H β' vs us
  | _, _, _, .nil => .nil
  | _, _, h, .cons r t => .cons (Rv.conv i (h _ List.mem_cons_self) r) (Rvs.conv i (fun p hp => h p (List.mem_cons_of_mem _ hp)) t)
theorem pair_conv (i : ∀ x, x ∉ β.b → x ∉ β.g → x ∉ β'.b ∧ x ∉ β'.g) {α : Type} {κ : α → Vl} {γ : Type} {μ : γ → V} {F : α → γ → Prop} : ∀ {l : List α} {m : List γ}, (∀ p ∈ l, refOk 0 (κ p)) → Paired (fun p q => F p q ∧ Rv ⟨K, mg, none⟩ H β (κ p) (μ q)) l m → Paired (fun p q => F p q ∧ Rv ⟨K, mg, none⟩ H β' (κ p) (μ q)) l m
  | _, _, _, .nil => .nil
  | _, _, h, .cons r t => .cons ⟨r.1, Rv.conv i (h _ List.mem_cons_self) r.2⟩ (pair_conv i (fun p hp => h p (List.mem_cons_of_mem _ hp)) t)
theorem RO.conv (i : ∀ x, x ∉ β.b → x ∉ β.g → x ∉ β'.b ∧ x ∉ β'.g) (hx : ∀ x a, H x = some (.own a) → x ∉ β'.b) {a : Addr} {o : Ob} (h : obOk 0 o) (r : RO ⟨K, mg, none⟩ H β a o) : RO ⟨K, mg, none⟩ H β' a o := by
  cases o with
  | lst l => obtain ⟨hl, xs, e, r⟩ := r; exact ⟨hl, xs, e, Rvs.conv i h r⟩
  | dic l => obtain ⟨xs, e, r⟩ := r; exact ⟨xs, e, pair_conv i (κ := fun p : Key × Vl => p.2) (μ := fun q : Key × V => q.2) (F := fun p q => p.1 = q.1) h r⟩
  | dit l => obtain ⟨xs, e, r⟩ := r; exact ⟨xs, e, pair_conv i (κ := fun p : List Key × Vl => p.2) (μ := fun q : List Key × V => q.2) (F := fun p q => p.1 = q.1) h r⟩
  | ins c l =>
    obtain ⟨C, dx, xs, hm, e, hd, nn, r⟩ := r
    exact ⟨C, dx, xs, hm, e, hd, hx dx a hd, pair_conv i (κ := fun p : Str × Vl => p.2) (μ := fun q : Str × V => q.2) (F := fun p q => p.1 = q.1) h r⟩
end
theorem stoOk_get {n : Nat} : ∀ {s : Sto} {i : Nat} {o : Ob}, stoOk n s → s[i]? = some o → obOk n o := fun h e => stoOk_iff.mp h _ (List.mem_of_getElem? e)
/-- which addresses are handed on -/
def pickA (b : List Addr) (ks : List Nat) : List Addr := ks.filterMap fun n => b[n]?
theorem pick_len {s : Sto} : ∀ {ks : List Nat} {s0 : Sto}, pickS s ks = some s0 → s0.length = ks.length ∧ (∀ n ∈ ks, n < s.length) ∧ ∀ (i n : Nat), ks[i]? = some n → s0[i]? = s[n]?
  | [], s0, h => by
    have : [] = s0 := by simpa [pickS] using h
    subst this
    exact ⟨rfl, (fun n h => by cases h), (fun i n h => by simp at h)⟩
  | n :: r, s0, h => by
    unfold pickS at h
    cases e : s[n]? with
    | none => rw [e] at h; cases h
    | some o =>
      rw [e] at h
      cases e2 : pickS s r with
      | none => rw [e2] at h; cases h
      | some t =>
        rw [e2] at h
        have : o :: t = s0 := by simpa using h
        subst this
        obtain ⟨h1, h2, h3⟩ := pick_len e2
        refine ⟨by simp [h1], fun m hm => ?_, fun i m hi => ?_⟩
        · rcases List.mem_cons.mp hm with rfl | hm
          · exact (List.getElem?_eq_some_iff.mp e).1
          · exact h2 m hm
        · cases i with
          | zero => have : n = m := by simpa using hi
                    subst this; simp [e]
          | succ i => simpa using h3 i m (by simpa using hi)
theorem pickA_get {b : List Addr} : ∀ {ks : List Nat}, (∀ n ∈ ks, n < b.length) → (pickA b ks).length = ks.length ∧ ∀ (i n : Nat), ks[i]? = some n → (pickA b ks)[i]? = b[n]?
  | [], _ => ⟨rfl, fun i n h => by simp at h⟩
  | k :: r, h => by
    have hk := h k List.mem_cons_self
    obtain ⟨h1, h2⟩ := pickA_get (b := b) (ks := r) fun n hn => h n (List.mem_cons_of_mem _ hn)
    have e : pickA b (k :: r) = b[k] :: pickA b r := by
      unfold pickA
      rw [List.filterMap_cons_some (List.getElem?_eq_getElem hk)]
    rw [e]
    refine ⟨by simp [h1], fun i n hi => ?_⟩
    cases i with
    | zero => have : k = n := by simpa using hi
              subst this; simp [List.getElem?_eq_getElem hk]
    | succ i => simpa using h2 i n (by simpa using hi)
theorem pickA_mem {b : List Addr} {ks : List Nat} {a : Addr} (h : a ∈ pickA b ks) : a ∈ b := by
  unfold pickA at h
  obtain ⟨n, _, e⟩ := List.mem_filterMap.mp h
  exact List.mem_of_getElem? e
theorem putB_len : ∀ {ks : List Nat} {s t : Sto}, (putB s ks t).length = s.length
  | [], s, t => by cases t <;> rfl
  | n :: r, s, [] => rfl
  | n :: r, s, o :: t => by
    show (putB (s.set n o) r t).length = _
    rw [putB_len, List.length_set]
theorem putB_get : ∀ {ks : List Nat} {s t : Sto}, ks.Nodup → ks.length ≤ t.length → (∀ n ∈ ks, n < s.length) →
    (∀ (i n : Nat), ks[i]? = some n → (putB s ks t)[n]? = t[i]?) ∧ ∀ n, n ∉ ks → (putB s ks t)[n]? = s[n]?
  | [], s, t, _, _, _ => ⟨fun i n h => by simp at h, fun n _ => by cases t <;> rfl⟩
  | k :: r, s, [], _, hl, _ => by simp at hl
  | k :: r, s, o :: t, hd, hl, hb => by
    have hd' := List.nodup_cons.mp hd
    obtain ⟨h1, h2⟩ := putB_get (ks := r) (s := s.set k o) (t := t) hd'.2 (by simpa using hl) (fun n hn => by rw [List.length_set]; exact hb n (List.mem_cons_of_mem _ hn))
    refine ⟨fun i n hi => ?_, fun n hn => ?_⟩
    · show (putB (s.set k o) r t)[n]? = _
      cases i with
      | zero =>
        have : k = n := by simpa using hi
        subst this
        rw [h2 k hd'.1, List.getElem?_set_self (hb k List.mem_cons_self)]
        rfl
      | succ i => rw [h1 i n (by simpa using hi)]; rfl
    · show (putB (s.set k o) r t)[n]? = _
      rw [h2 n (fun z => hn (List.mem_cons_of_mem _ z)), List.getElem?_set_ne (fun z => hn (by rw [← z]; exact List.mem_cons_self))]
section
variable {K : PySem.W.Frag} {mg : Str → Option Value}
theorem renam_rv {H : Hp} {β β' : Bs} (i : ∀ x, x ∉ β.b → x ∉ β.g → x ∉ β'.b ∧ x ∉ β'.g) : ∀ {xs : List Vl} {us : List V} {j : Nat}, (∀ (m n : Nat), (refsOf xs)[m]? = some n → β'.b[j + m]? = β.b[n]?) → Rvs ⟨K, mg, none⟩ H β xs us → Rvs ⟨K, mg, none⟩ H β' (renam j xs) us
  | [], _, _, _, .nil => .nil
  | .ref n :: xs, _, j, h, .cons r t => by
    obtain ⟨a, e, q⟩ := r
    refine .cons ⟨a, ?_, q⟩ (renam_rv i (xs := xs) (j := j + 1) (fun m k hk => ?_) t)
    · have := h 0 n rfl
      rw [Nat.add_zero] at this
      rw [this]; exact e
    · have := h (m + 1) k (by simpa [refsOf] using hk)
      rw [← this]
      congr 1; omega
  | .dat p :: xs, _, j, h, .cons r t => .cons (Dq.conv i r) (renam_rv i (xs := xs) (fun m k hk => h m k (by simpa [refsOf] using hk)) t)
  | .scr p :: xs, _, j, h, .cons r t => .cons r (renam_rv i (xs := xs) (fun m k hk => h m k (by simpa [refsOf] using hk)) t)
  | .exo p q :: xs, _, j, h, .cons r t => by obtain ⟨_, _, _, e, _⟩ := r; cases e
theorem renam_len : ∀ {xs : List Vl} {j : Nat}, (renam j xs).length = xs.length
  | [], _ => rfl
  | .ref n :: xs, j => by simp [renam, renam_len]
  | .dat p :: xs, j => by simp [renam, renam_len]
  | .scr p :: xs, j => by simp [renam, renam_len]
  | .exo p q :: xs, j => by simp [renam, renam_len]
end
theorem FnD.frame {P : Program} {w : World} {K : PySem.W.Frag} {mg : Str → Option Value} {base : Heap} {f : Addr} {fd : FuncData} {ps : List Str} {k : Nat} {g : MF} (F : FnD P w K mg base k f fd ps g) : FnD P w K mg base k f fd ps (frameG g) := by
  refine ⟨fun A outer s H args us vs Q E hg hr e0 bd r ⟨β, s0, xs, hs, rx, hl, hp⟩ => ?_⟩
  unfold frameG at hp
  split at hp
  rotate_left
  · exact hp.elim
  rename_i hnd
  cases hpk : pickS s0 (refsOf xs) with
  | none => rw [hpk] at hp; exact hp.elim
  | some st =>
    rw [hpk] at hp
    dsimp only at hp
    split at hp
    rotate_left
    · exact hp.elim
    rename_i hok
    obtain ⟨hlen, hin, hat⟩ := pick_len hpk
    generalize hks : refsOf xs = ks at *
    have hinb : ∀ n ∈ ks, n < β.b.length := fun n hn => by rw [hs.len]; exact hin n hn
    obtain ⟨hal, hag⟩ := pickA_get hinb
    have hnda : (pickA β.b ks).Nodup := by
      have gen : ∀ ks : List Nat, ks.Nodup → (∀ n ∈ ks, n < β.b.length) → (pickA β.b ks).Nodup := by
        intro ks
        induction ks with
        | nil => intro _ _; exact List.nodup_nil
        | cons k r ih =>
          intro h1 h2
          have h1' := List.nodup_cons.mp h1
          have hk := h2 k List.mem_cons_self
          have e : pickA β.b (k :: r) = β.b[k] :: pickA β.b r := by
            unfold pickA
            rw [List.filterMap_cons_some (List.getElem?_eq_getElem hk)]
          rw [e, List.nodup_cons]
          refine ⟨fun z => ?_, ih h1'.2 fun n hn => h2 n (List.mem_cons_of_mem _ hn)⟩
          unfold pickA at z
          obtain ⟨n, hn, en⟩ := List.mem_filterMap.mp z
          have hn2 := h2 n (List.mem_cons_of_mem _ hn)
          rw [List.getElem?_eq_getElem hn2] at en
          have := (List.getElem_inj hs.nd).mp (Option.some.inj en)
          exact h1'.1 (by rw [← this]; exact hn)
      exact gen ks hnd hinb
    have hconv : ∀ x, x ∉ β.b → x ∉ β.g → x ∉ (⟨pickA β.b ks, (β.b.filter fun a => decide (a ∉ pickA β.b ks)) ++ β.g⟩ : Bs).b ∧ x ∉ (⟨pickA β.b ks, (β.b.filter fun a => decide (a ∉ pickA β.b ks)) ++ β.g⟩ : Bs).g := fun x h1 h2 => by
      refine ⟨fun z => h1 (pickA_mem z), fun z => ?_⟩
      rcases List.mem_append.mp z with z | z
      · exact h1 (List.mem_filter.mp z).1
      · exact h2 z
    generalize hβ' : (⟨pickA β.b ks, (β.b.filter fun a => decide (a ∉ pickA β.b ks)) ++ β.g⟩ : Bs) = β' at hconv
    have hb' : β'.b = pickA β.b ks := by rw [← hβ']
    have hg' : β'.g = (β.b.filter fun a => decide (a ∉ pickA β.b ks)) ++ β.g := by rw [← hβ']
    have notown : ∀ x a, H x = some (.own a) → x ∉ β.b := fun x a e z => by
      obtain ⟨n, hn, en⟩ := List.getElem_of_mem z
      have hn2 : n < s0.length := by rw [← hs.len]; exact hn
      have ro := hs.ob n _ x (List.getElem?_eq_getElem hn2) (by rw [List.getElem?_eq_getElem hn, en])
      generalize s0[n] = o at ro
      cases o with
      | lst l => obtain ⟨_, xs, e2, _⟩ := ro; rw [e] at e2; cases e2
      | dic l => obtain ⟨xs, e2, _⟩ := ro; rw [e] at e2; cases e2
      | dit l => obtain ⟨xs, e2, _⟩ := ro; rw [e] at e2; cases e2
      | ins c l => obtain ⟨_, _, xs, _, e2, _⟩ := ro; rw [e] at e2; cases e2
    have hs' : RelS ⟨K, mg, none⟩ β' st H := by
      refine ⟨by rw [hb', hal, hlen], by rw [hb']; exact hnda, fun n o a h1 h2 => ?_, fun a ha => ?_⟩
      · have hn : n < ks.length := by rw [← hlen]; exact (List.getElem?_eq_some_iff.mp h1).1
        have e1 := hat n _ (List.getElem?_eq_getElem hn)
        have e2 := hag n _ (List.getElem?_eq_getElem hn)
        rw [hb', e2] at h2
        rw [e1] at h1
        refine RO.conv hconv (fun x a2 e z => ?_) (stoOk_get hok (by rw [e1]; exact h1)) (hs.ob _ o a h1 h2)
        rw [hb'] at z
        exact notown x a2 e (pickA_mem z)
      · rw [hg'] at ha
        rcases List.mem_append.mp ha with z | z
        · obtain ⟨z1, z2⟩ := List.mem_filter.mp z
          obtain ⟨x, hx, _⟩ := hs.own z1
          exact ⟨⟨x, hx⟩, by rw [hb']; simpa using z2⟩
        · obtain ⟨h1, h2⟩ := hs.gs a z
          exact ⟨h1, fun y => h2 (pickA_mem (by rw [hb'] at y; exact y))⟩
    have rx' : Rvs ⟨K, mg, none⟩ H β' (renam 0 xs) vs := renam_rv hconv (fun m n hmn => by
      rw [hks] at hmn
      rw [Nat.zero_add, hb']
      exact hag m n hmn) rx
    refine F.goes A outer s H args us vs Q E hg hr e0 bd r ⟨β', st, renam 0 xs, hs', rx', by rw [renam_len]; exact hl, ?_⟩
    -- what follows
    have key : ∀ (s2 : Sto) β2 H', st.length ≤ s2.length → stoOk 0 (s2.take st.length) → Step β' H β2 H' → RelS ⟨K, mg, none⟩ β2 s2 H' → Step β H β H' ∧ RelS ⟨K, mg, none⟩ β (putB s0 ks s2) H' ∧ (∀ x, x ∉ β2.b → x ∉ β2.g → x ∉ β.b ∧ x ∉ β.g) ∧ (∀ m n, ks[m]? = some n → β2.b[m]? = β.b[n]?) := fun s2 β2 H' hl2 hok2 st2 hs2 => by
      have stp : Step β H β H' := ⟨List.prefix_refl _, fun _ h => h, fun _ h => .inl h, fun _ h => .inl h, fun a o e n => st2.keep a o e fun z => n (pickA_mem (by rw [hb'] at z; exact z)), st2.tups, st2.frzs, st2.liv⟩
      have hback : ∀ x, x ∉ β2.b → x ∉ β2.g → x ∉ β.b ∧ x ∉ β.g := fun x h1 h2 => by
        refine ⟨fun z => ?_, fun z => h2 (st2.gsub x (by rw [hg']; exact List.mem_append_right _ z))⟩
        by_cases hx : x ∈ pickA β.b ks
        · obtain ⟨t, ht⟩ := st2.pre
          exact h1 (by rw [← ht, hb']; exact List.mem_append_left _ hx)
        · exact h2 (st2.gsub x (by rw [hg']; exact List.mem_append_left _ (List.mem_filter.mpr ⟨z, by simpa using hx⟩)))
      have hbk : ∀ m n, ks[m]? = some n → β2.b[m]? = β.b[n]? := fun m n hmn => by
        obtain ⟨t, ht⟩ := st2.pre
        have hm : m < ks.length := (List.getElem?_eq_some_iff.mp hmn).1
        rw [← ht, List.getElem?_append_left (by rw [hb', hal]; exact hm), hb', hag m n hmn]
      obtain ⟨pg1, pg2⟩ := putB_get (ks := ks) (s := s0) (t := s2) hnd (by rw [← hlen]; exact hl2) hin
      refine ⟨stp, ⟨by rw [putB_len, hs.len], hs.nd, fun n o a h1 h2 => ?_, fun a ha => ?_⟩, hback, hbk⟩
      · by_cases hn : n ∈ ks
        · obtain ⟨m, hm, em⟩ := List.getElem_of_mem hn
          have e1 : ks[m]? = some n := by rw [List.getElem?_eq_getElem hm, em]
          rw [pg1 m n e1] at h1
          refine RO.conv hback (fun x a2 e z => ?_) (stoOk_get hok2 (by rw [List.getElem?_take_of_lt (by rw [hlen]; exact hm)]; exact h1)) (hs2.ob m o a h1 (by rw [hbk m n e1]; exact h2))
          -- an own dict is none of the store's
          obtain ⟨i, hi, ei⟩ := List.getElem_of_mem z
          obtain ⟨y, hy, hyo⟩ := hs.own z
          by_cases hx : x ∈ pickA β.b ks
          · obtain ⟨t, ht⟩ := st2.pre
            have hx2 : x ∈ β2.b := by rw [← ht, hb']; exact List.mem_append_left _ hx
            obtain ⟨j, hj, ej⟩ := List.getElem_of_mem hx2
            have hj2 : j < s2.length := by rw [← hs2.len]; exact hj
            have ro := hs2.ob j _ x (List.getElem?_eq_getElem hj2) (by rw [List.getElem?_eq_getElem hj, ej])
            generalize s2[j] = o3 at ro
            cases o3 with
            | lst l => obtain ⟨_, xs, e2, _⟩ := ro; rw [e] at e2; cases e2
            | dic l => obtain ⟨xs, e2, _⟩ := ro; rw [e] at e2; cases e2
            | dit l => obtain ⟨xs, e2, _⟩ := ro; rw [e] at e2; cases e2
            | ins c l => obtain ⟨_, _, xs, _, e2, _⟩ := ro; rw [e] at e2; cases e2
          · have := st2.keep x y hy (by rw [hb']; exact hx)
            rw [e] at this
            cases this
            exact notown x a2 hy z
        · rw [pg2 n hn] at h1
          have ro := hs.ob n o a h1 h2
          have hna : a ∉ β'.b := fun z => by
            rw [hb'] at z
            obtain ⟨m, hm, em⟩ := List.getElem_of_mem z
            rw [hal] at hm
            have e2 := hag m _ (List.getElem?_eq_getElem hm)
            rw [List.getElem?_eq_getElem (by rw [hal]; exact hm), em, ← h2] at e2
            obtain ⟨i1, q1⟩ := List.getElem?_eq_some_iff.mp h2
            have b1 := hinb _ (List.getElem_mem hm)
            rw [List.getElem?_eq_getElem i1, List.getElem?_eq_getElem b1] at e2
            have := (List.getElem_inj hs.nd).mp (Option.some.inj e2)
            exact hn (by rw [this]; exact List.getElem_mem hm)
          obtain ⟨x, hx, _⟩ := ro.own
          exact ro.step stp (by rw [st2.keep a x hx hna, hx])
      · obtain ⟨⟨o, ho⟩, hn⟩ := hs.gs a ha
        exact ⟨st2.liv a o ho, hn⟩
    cases eg : g (renam 0 xs) st with
    | bad => rw [eg] at hp; exact hp.elim
    | ex x s2 =>
      rw [eg] at hp
      dsimp only at hp
      split at hp
      rotate_left
      · exact hp.elim
      rename_i hc
      intro β2 H' c d st2 hs2 rx2
      obtain ⟨stp, hsn, hback, _⟩ := key s2 β2 H' hc.1 hc.2 st2 hs2
      refine hp β H' c d stp hsn ?_
      obtain ⟨C, dd, ys, h1, h2, h3, h4, h5, h6⟩ := rx2
      refine ⟨C, dd, ys, h1, h2, h3, h4, fun z => ?_, Paired.mapP h6 fun p q z => ⟨z.1, Dq.conv hback z.2⟩⟩
      obtain ⟨n, hn, en⟩ := List.getElem_of_mem z
      have hn2 : n < (putB s0 ks s2).length := by rw [← hsn.len]; exact hn
      have ro := hsn.ob n _ dd (List.getElem?_eq_getElem hn2) (by rw [List.getElem?_eq_getElem hn, en])
      generalize (putB s0 ks s2)[n] = o at ro
      cases o with
      | lst l => obtain ⟨_, xs, e2, _⟩ := ro; rw [h4] at e2; cases e2
      | dic l => obtain ⟨xs, e2, _⟩ := ro; rw [h4] at e2; cases e2
      | dit l => obtain ⟨xs, e2, _⟩ := ro; rw [h4] at e2; cases e2
      | ins c l => obtain ⟨_, _, xs, _, e2, _⟩ := ro; rw [h4] at e2; cases e2
    | ok v s2 =>
      rw [eg] at hp
      dsimp only at hp
      split at hp
      rotate_left
      · exact hp.elim
      rename_i hc
      intro β2 H' u st2 hs2 rv2
      obtain ⟨stp, hsn, hback, hbk⟩ := key s2 β2 H' hc.1 hc.2 st2 hs2
      cases ev : frV ks s2 v with
      | none => rw [ev] at hp; exact hp.elim
      | some z =>
        rw [ev] at hp
        refine hp β H' u stp hsn ?_
        cases v with
        | dat p => cases ev; exact Dq.conv hback rv2
        | scr p => cases ev
        | exo p q => cases ev
        | ref m =>
          obtain ⟨a, ha, rfl⟩ := rv2
          unfold frV at ev
          dsimp only at ev
          split at ev
          · rename_i hm
            rw [List.getElem?_eq_getElem hm] at ev
            cases ev
            exact ⟨a, by rw [← hbk m _ (List.getElem?_eq_getElem hm)]; exact ha, rfl⟩
          · cases el : lstAt s2 m with
            | none => rw [el] at ev; cases ev
            | some l =>
              rw [el] at ev
              cases ed : datas l with
              | none => rw [Option.bind_some, ed] at ev; cases ev
              | some ds =>
                rw [Option.bind_some, ed] at ev
                cases ev
                obtain ⟨hz, ys, h1, h2⟩ := hs2.ob m _ a (lstAt_eq el) ha
                rw [datas_eq ed] at h2 hz
                have d2 := Rvs.undats h2
                have hag2 : a ∉ β2.g := fun z => (hs2.gs a z).2 (List.mem_of_getElem? ha)
                have hanb : a ∉ β.b := fun z => by
                  by_cases hx : a ∈ pickA β.b ks
                  · obtain ⟨t, ht⟩ := st2.pre
                    obtain ⟨j, hj, ej⟩ := List.getElem_of_mem hx
                    have e3 : β2.b[j]? = some a := by rw [← ht, hb', List.getElem?_append_left hj, List.getElem?_eq_getElem hj, ej]
                    obtain ⟨i1, q1⟩ := List.getElem?_eq_some_iff.mp e3
                    obtain ⟨i2, q2⟩ := List.getElem?_eq_some_iff.mp ha
                    have := (List.getElem_inj hs2.nd).mp (q1.trans q2.symm)
                    rw [hal] at hj
                    omega
                  · exact hag2 (st2.gsub a (by rw [hg']; exact List.mem_append_left _ (List.mem_filter.mpr ⟨z, by simpa using hx⟩)))
                exact Dq.lst ⟨h1, hanb, fun z => hag2 (st2.gsub a (by rw [hg']; exact List.mem_append_right _ z))⟩ (by simpa using hz) (DqAll.conv hback d2)
end Pm
set_option maxRecDepth 100000
set_option maxHeartbeats 4000000
namespace Pm
open PySem PySem.Spec PyProof.Rows L2 Sw
/-! ### targets by values -/
def pV : Vl → Option Vl := some
def pT1 {A : Type} (p : Vl → Option A) : Vl → Option A := fun v => match v with
  | .dat (.tuple [x]) => p (.dat x)
  | _ => none
def pT2 {A B : Type} (p : Vl → Option A) (q : Vl → Option B) : Vl → Option (A × B) := fun v => match v with
  | .dat (.tuple [x, y]) => (p (.dat x)).bind fun a => (q (.dat y)).map fun b => (a, b)
  | _ => none
def pT3 {A B C : Type} (p : Vl → Option A) (q : Vl → Option B) (r : Vl → Option C) : Vl → Option (A × B × C) := fun v => match v with
  | .dat (.tuple [x, y, z]) => (p (.dat x)).bind fun a => (q (.dat y)).bind fun b => (r (.dat z)).map fun c => (a, b, c)
  | _ => none
def pT4 {A B C D : Type} (p : Vl → Option A) (q : Vl → Option B) (r : Vl → Option C) (t : Vl → Option D) : Vl → Option (A × B × C × D) := fun v => match v with
  | .dat (.tuple [x, y, z, w]) => (p (.dat x)).bind fun a => (q (.dat y)).bind fun b => (r (.dat z)).bind fun c => (t (.dat w)).map fun d => (a, b, c, d)
  | _ => none
@[simp] theorem pV_ap {v : Vl} : pV v = some v := rfl
@[simp] theorem pT1_ap {A : Type} {p : Vl → Option A} {x : PyData} : pT1 p (.dat (.tuple [x])) = p (.dat x) := rfl
@[simp] theorem pT2_ap {A B : Type} {p : Vl → Option A} {q : Vl → Option B} {x y : PyData} : pT2 p q (.dat (.tuple [x, y])) = (p (.dat x)).bind fun a => (q (.dat y)).map fun b => (a, b) := rfl
@[simp] theorem pT3_ap {A B C : Type} {p : Vl → Option A} {q : Vl → Option B} {r : Vl → Option C} {x y z : PyData} : pT3 p q r (.dat (.tuple [x, y, z])) = (p (.dat x)).bind fun a => (q (.dat y)).bind fun b => (r (.dat z)).map fun c => (a, b, c) := rfl
@[simp] theorem pT4_ap {A B C D : Type} {p : Vl → Option A} {q : Vl → Option B} {r : Vl → Option C} {t : Vl → Option D} {x y z w : PyData} : pT4 p q r t (.dat (.tuple [x, y, z, w])) = (p (.dat x)).bind fun a => (q (.dat y)).bind fun b => (r (.dat z)).bind fun c => (t (.dat w)).map fun d => (a, b, c, d) := rfl
/-- what a target does -/
def TgP {P : Type} (g : MG) (p : Vl → Option P) (st : P → Loc → Loc) : Prop := ∀ v ρ s, g v ρ s = (match p v with | some x => .nx (st x ρ) s | none => .bad)
theorem tgp_n {i : Nat} : TgP (gSetM i) pV (fun v ρ => ρ.set i (some v)) := fun _ _ _ => rfl
theorem gTup_bad {n : Nat} {r : MGs} {v : Vl} {ρ : Loc} {s : Sto} (h : ∀ ds, v = .dat (.tuple ds) → ds.length ≠ n) : gTupM n r v ρ s = .bad := by
  unfold gTupM
  split
  · rename_i ds
    exact if_neg (h ds rfl)
  · rfl
theorem pT1_none {A : Type} {p1 : Vl → Option A} {v : Vl} (h : ¬ ∃ x, v = .dat (.tuple [x])) : pT1 p1 v = none := by
  unfold pT1
  split
  · exact absurd ⟨_, rfl⟩ h
  · rfl
theorem tgp_1 {A : Type} {g1 : MG} {p1 : Vl → Option A} {st1 : A → Loc → Loc} (h1 : TgP g1 p1 st1) : TgP (gTupM 1 (gConsM g1 gNilM)) (pT1 p1) (fun p ρ => (st1 p ρ)) := fun v ρ s => by
  by_cases hv : ∃ x, v = .dat (.tuple [x])
  · obtain ⟨x, rfl⟩ := hv
    show (if 1 = 1 then ((g1 (.dat x) ρ s).thn fun ρ1 s1 => gNilM [] ρ1 s1) else (.bad : Fl)) = _
    rw [if_pos rfl, h1]
    rw [pT1_ap]
    cases e1 : p1 (.dat x) with
    | none => rfl
    | some a1 =>
      rfl
  · rw [pT1_none hv]
    refine gTup_bad fun ds e hl => ?_
    match ds, hl with
    | [x], _ => exact hv ⟨x, e⟩
theorem pT2_none {A B : Type} {p1 : Vl → Option A} {p2 : Vl → Option B} {v : Vl} (h : ¬ ∃ x y, v = .dat (.tuple [x, y])) : pT2 p1 p2 v = none := by
  unfold pT2
  split
  · exact absurd ⟨_, _, rfl⟩ h
  · rfl
theorem tgp_2 {A B : Type} {g1 g2 : MG} {p1 : Vl → Option A} {p2 : Vl → Option B} {st1 : A → Loc → Loc} {st2 : B → Loc → Loc} (h1 : TgP g1 p1 st1) (h2 : TgP g2 p2 st2) : TgP (gTupM 2 (gConsM g1 (gConsM g2 gNilM))) (pT2 p1 p2) (fun p ρ => (st2 p.2 (st1 p.1 ρ))) := fun v ρ s => by
  by_cases hv : ∃ x y, v = .dat (.tuple [x, y])
  · obtain ⟨x, y, rfl⟩ := hv
    show (if 2 = 2 then ((g1 (.dat x) ρ s).thn fun ρ1 s1 => (g2 (.dat y) ρ1 s1).thn fun ρ2 s2 => gNilM [] ρ2 s2) else (.bad : Fl)) = _
    rw [if_pos rfl, h1]
    rw [pT2_ap]
    cases e1 : p1 (.dat x) with
    | none => rfl
    | some a1 =>
      show ((g2 (.dat y) (st1 a1 ρ) s).thn _) = _
      rw [h2]
      dsimp only [Option.bind_some]
      cases e2 : p2 (.dat y) with
      | none => rfl
      | some a2 =>
        rfl
  · rw [pT2_none hv]
    refine gTup_bad fun ds e hl => ?_
    match ds, hl with
    | [x, y], _ => exact hv ⟨x, y, e⟩
theorem pT3_none {A B C : Type} {p1 : Vl → Option A} {p2 : Vl → Option B} {p3 : Vl → Option C} {v : Vl} (h : ¬ ∃ x y z, v = .dat (.tuple [x, y, z])) : pT3 p1 p2 p3 v = none := by
  unfold pT3
  split
  · exact absurd ⟨_, _, _, rfl⟩ h
  · rfl
theorem tgp_3 {A B C : Type} {g1 g2 g3 : MG} {p1 : Vl → Option A} {p2 : Vl → Option B} {p3 : Vl → Option C} {st1 : A → Loc → Loc} {st2 : B → Loc → Loc} {st3 : C → Loc → Loc} (h1 : TgP g1 p1 st1) (h2 : TgP g2 p2 st2) (h3 : TgP g3 p3 st3) : TgP (gTupM 3 (gConsM g1 (gConsM g2 (gConsM g3 gNilM)))) (pT3 p1 p2 p3) (fun p ρ => (st3 p.2.2 (st2 p.2.1 (st1 p.1 ρ)))) := fun v ρ s => by
  by_cases hv : ∃ x y z, v = .dat (.tuple [x, y, z])
  · obtain ⟨x, y, z, rfl⟩ := hv
    show (if 3 = 3 then ((g1 (.dat x) ρ s).thn fun ρ1 s1 => (g2 (.dat y) ρ1 s1).thn fun ρ2 s2 => (g3 (.dat z) ρ2 s2).thn fun ρ3 s3 => gNilM [] ρ3 s3) else (.bad : Fl)) = _
    rw [if_pos rfl, h1]
    rw [pT3_ap]
    cases e1 : p1 (.dat x) with
    | none => rfl
    | some a1 =>
      show ((g2 (.dat y) (st1 a1 ρ) s).thn _) = _
      rw [h2]
      dsimp only [Option.bind_some]
      cases e2 : p2 (.dat y) with
      | none => rfl
      | some a2 =>
        show ((g3 (.dat z) (st2 a2 (st1 a1 ρ)) s).thn _) = _
        rw [h3]
        dsimp only [Option.bind_some]
        cases e3 : p3 (.dat z) with
        | none => rfl
        | some a3 =>
          rfl
  · rw [pT3_none hv]
    refine gTup_bad fun ds e hl => ?_
    match ds, hl with
    | [x, y, z], _ => exact hv ⟨x, y, z, e⟩
theorem pT4_none {A B C D : Type} {p1 : Vl → Option A} {p2 : Vl → Option B} {p3 : Vl → Option C} {p4 : Vl → Option D} {v : Vl} (h : ¬ ∃ x y z w, v = .dat (.tuple [x, y, z, w])) : pT4 p1 p2 p3 p4 v = none := by
  unfold pT4
  split
  · exact absurd ⟨_, _, _, _, rfl⟩ h
  · rfl
theorem tgp_4 {A B C D : Type} {g1 g2 g3 g4 : MG} {p1 : Vl → Option A} {p2 : Vl → Option B} {p3 : Vl → Option C} {p4 : Vl → Option D} {st1 : A → Loc → Loc} {st2 : B → Loc → Loc} {st3 : C → Loc → Loc} {st4 : D → Loc → Loc} (h1 : TgP g1 p1 st1) (h2 : TgP g2 p2 st2) (h3 : TgP g3 p3 st3) (h4 : TgP g4 p4 st4) : TgP (gTupM 4 (gConsM g1 (gConsM g2 (gConsM g3 (gConsM g4 gNilM))))) (pT4 p1 p2 p3 p4) (fun p ρ => (st4 p.2.2.2 (st3 p.2.2.1 (st2 p.2.1 (st1 p.1 ρ))))) := fun v ρ s => by
  by_cases hv : ∃ x y z w, v = .dat (.tuple [x, y, z, w])
  · obtain ⟨x, y, z, w, rfl⟩ := hv
    show (if 4 = 4 then ((g1 (.dat x) ρ s).thn fun ρ1 s1 => (g2 (.dat y) ρ1 s1).thn fun ρ2 s2 => (g3 (.dat z) ρ2 s2).thn fun ρ3 s3 => (g4 (.dat w) ρ3 s3).thn fun ρ4 s4 => gNilM [] ρ4 s4) else (.bad : Fl)) = _
    rw [if_pos rfl, h1]
    rw [pT4_ap]
    cases e1 : p1 (.dat x) with
    | none => rfl
    | some a1 =>
      show ((g2 (.dat y) (st1 a1 ρ) s).thn _) = _
      rw [h2]
      dsimp only [Option.bind_some]
      cases e2 : p2 (.dat y) with
      | none => rfl
      | some a2 =>
        show ((g3 (.dat z) (st2 a2 (st1 a1 ρ)) s).thn _) = _
        rw [h3]
        dsimp only [Option.bind_some]
        cases e3 : p3 (.dat z) with
        | none => rfl
        | some a3 =>
          show ((g4 (.dat w) (st3 a3 (st2 a2 (st1 a1 ρ))) s).thn _) = _
          rw [h4]
          dsimp only [Option.bind_some]
          cases e4 : p4 (.dat w) with
          | none => rfl
          | some a4 =>
            rfl
  · rw [pT4_none hv]
    refine gTup_bad fun ds e hl => ?_
    match ds, hl with
    | [x, y, z, w], _ => exact hv ⟨x, y, z, w, e⟩
def patN {S L P : Type} (o : Option P) (k : P → An S L) : An S L := match o with
  | some p => k p
  | none => .bad
@[simp] theorem patN_some {S L P : Type} (p : P) (k : P → An S L) : patN (some p) k = k p := rfl
@[simp] theorem patN_none {S L P : Type} (k : P → An S L) : patN none k = .bad := rfl
/-! ### native operations -/
def callN (n : Nat) (g : MF) (vs : List Vl) (s : Sto) : R Vl := if vs.length = n ∧ vs.all noX = true then g vs s else .bad
def tupN (vs : List Vl) : Option Vl := (datas vs).bind fun ds => if ds.length ≤ 1000 then some (.dat (.tuple ds)) else none
def lstN (vs : List Vl) : Option Vl := (datas vs).bind fun ds => if ds.length ≤ 1000 then some (.dat (.list ds)) else none
def newN (vs : List Vl) (s : Sto) : R Vl := if vs.length ≤ 1000 ∧ vs.all noX = true then .ok (.ref s.length) (s ++ [.lst vs]) else .bad
def andN (v : Vl) (s : Sto) (r : R Vl) : R Vl := match tru v s with
  | some true => r
  | some false => .ok v s
  | none => .bad
def orN (v : Vl) (s : Sto) (r : R Vl) : R Vl := match tru v s with
  | some true => .ok v s
  | some false => r
  | none => .bad
def notV (v : Vl) (s : Sto) : Option Vl := (tru v s).map fun k => .dat (.bool (!k))
def optN (o : Option Vl) (s : Sto) : R Vl := match o with
  | some v => .ok v s
  | none => .bad
def appN (v : Vl) (s1 : Sto) (r : Sto → R (List Vl)) : R Vl := match v with
  | .ref n => (match lstAt s1 n with
    | none => .bad
    | some _ => (r s1).bind fun vs s2 => match vs, lstAt s2 n with
      | [w], some l => if l.length < mil ∧ noX w = true then .ok (.dat .none) (s2.set n (.lst (l ++ [w]))) else .bad
      | _, _ => .bad)
  | _ => .bad
def extN (v : Vl) (s1 : Sto) (r : Sto → R (List Vl)) : R Vl := match v with
  | .ref n => (match lstAt s1 n with
    | none => .bad
    | some _ => (r s1).bind fun vs s2 => match vs, lstAt s2 n with
      | [.dat (.list ds)], some l => if l.length + ds.length ≤ mil then .ok (.dat .none) (s2.set n (.lst (l ++ ds.map Vl.dat))) else .bad
      | _, _ => .bad)
  | _ => .bad
@[simp] theorem callN_ap {n : Nat} {g : MF} {vs : List Vl} {s : Sto} : callN n g vs s = if vs.length = n ∧ vs.all noX = true then g vs s else .bad := rfl
@[simp] theorem tupN_ap {vs : List Vl} : tupN vs = (datas vs).bind fun ds => if ds.length ≤ 1000 then some (.dat (.tuple ds)) else none := rfl
@[simp] theorem lstN_ap {vs : List Vl} : lstN vs = (datas vs).bind fun ds => if ds.length ≤ 1000 then some (.dat (.list ds)) else none := rfl
@[simp] theorem newN_ap {vs : List Vl} {s : Sto} : newN vs s = if vs.length ≤ 1000 ∧ vs.all noX = true then .ok (.ref s.length) (s ++ [.lst vs]) else .bad := rfl
@[simp] theorem andN_ap {v : Vl} {s : Sto} {r : R Vl} : andN v s r = (match tru v s with | some true => r | some false => .ok v s | none => .bad) := rfl
@[simp] theorem orN_ap {v : Vl} {s : Sto} {r : R Vl} : orN v s r = (match tru v s with | some true => .ok v s | some false => r | none => .bad) := rfl
@[simp] theorem notV_ap {v : Vl} {s : Sto} : notV v s = (tru v s).map fun k => .dat (.bool (!k)) := rfl
@[simp] theorem optN_some {v : Vl} {s : Sto} : optN (some v) s = .ok v s := rfl
def par2N {S L : Type} (vs : List Vl) (k : Vl → Vl → An S L) : An S L := match vs with
  | [v, w] => k v w
  | _ => .bad
def par3N {S L : Type} (vs : List Vl) (k : Vl → Vl → Vl → An S L) : An S L := match vs with
  | [v, w, u] => k v w u
  | _ => .bad
@[simp] theorem par2N_ap {S L : Type} {v w : Vl} (k : Vl → Vl → An S L) : par2N [v, w] k = k v w := rfl
@[simp] theorem par3N_ap {S L : Type} {v w u : Vl} (k : Vl → Vl → Vl → An S L) : par3N [v, w, u] k = k v w u := rfl
open Classical in
noncomputable def rngN1 (vs : List Vl) (s1 : Sto) : R Src := match vs with
  | [.dat (.int j)] => if In62 j then .ok ⟨rgs 0 j.toNat, none⟩ s1 else .bad
  | _ => .bad
open Classical in
noncomputable def rngN2 (vs : List Vl) (s1 : Sto) : R Src := match vs with
  | [.dat (.int i), .dat (.int j)] => if In62 i ∧ In62 j then .ok ⟨rgs i (j - i).toNat, none⟩ s1 else .bad
  | _ => .bad
def enN (vs : List Vl) (s1 : Sto) : R Src := match vs with
  | [.dat (.tuple ds)] => .ok ⟨pairs ds 0, none⟩ s1
  | _ => .bad
@[simp] theorem enN_ap {ds : List PyData} {s : Sto} : enN [.dat (.tuple ds)] s = .ok ⟨pairs ds 0, none⟩ s := rfl
theorem rngN1_n {n : Nat} {s : Sto} (h : n ≤ mil) : rngN1 [.dat (.int (n : Int))] s = .ok ⟨rgs 0 n, none⟩ s := by
  unfold rngN1
  simp only []
  rw [if_pos (i62 h), Int.toNat_natCast]
/-! ### further statements -/
section
variable {S S' L : Type} {X : Cx} {zx : Exo} {W : WX} {mkS : S → Loc} {mkL : L → Loc} {ox : Option Loc} {ρ : Loc} {st : Stmt} {rest : List Stmt} {e : Expr} {F : ME} {f : Sto → R Vl} {pos : Pos}
theorem nss_par2 {i j : Nat} {x y : Str} {a b : Expr} {r : MA} {fr : Sto → R (List Vl)} {px py pt : Pos} {kt k2 pt2} {ρ' : Vl → Vl → Loc} {k : Vl → Vl → Sto → An S L} (hc : X.calm = true) (hN : X.N.Nodup) (hi : X.N[i]? = some x) (hj : X.N[j]? = some y) (hij : i ≠ j)
    (hx : X.env.scope.names.lookup x = some .local) (hy : X.env.scope.names.lookup y = some .local) (ha : DA X zx W [a, b] r) (h2 : ∀ v w, NSs X zx W ox mkS mkL (ρ' v w) rest (k v w)) (hox : OxLe ox ρ) (hF : ∀ s, r ρ s = fr s := by intro _; rfl) (hρ : ∀ v w, (ρ.set i (some v)).set j (some w) = ρ' v w := by intro _ _; rfl)
    (hw : swappedStores [.Tuple [.Name x px, .Name y py] kt pt] (.Tuple [a, b] k2 pt2) X.env = pure (some [x, y]) := by rfl)
    (hs : swapsWithSole [.Tuple [.Name x px, .Name y py] kt pt] (.Tuple [a, b] k2 pt2) pos.line X.env = pure false := by rfl) :
    NSs X zx W ox mkS mkL ρ (.Assign [.Tuple [.Name x px, .Name y py] kt pt] (.Tuple [a, b] k2 pt2) pos :: rest) (fun s => (fr s).an fun vs s1 => par2N vs fun v w => k v w s1) := nss_par hc hN hi hj hij hx hy ha h2 hox hF hρ hw hs
theorem nss_par3N {i j l : Nat} {x y z : Str} {a b c : Expr} {r : MA} {fr : Sto → R (List Vl)} {px py pz pt : Pos} {kt k2 pt2} {ρ' : Vl → Vl → Vl → Loc} {k : Vl → Vl → Vl → Sto → An S L} (hc : X.calm = true) (hN : X.N.Nodup) (hi : X.N[i]? = some x) (hj : X.N[j]? = some y) (hk : X.N[l]? = some z) (hij : i ≠ j) (hik : i ≠ l) (hjk : j ≠ l)
    (hx : X.env.scope.names.lookup x = some .local) (hy : X.env.scope.names.lookup y = some .local) (hz : X.env.scope.names.lookup z = some .local) (ha : DA X zx W [a, b, c] r) (h2 : ∀ v w u, NSs X zx W ox mkS mkL (ρ' v w u) rest (k v w u)) (hox : OxLe ox ρ) (hF : ∀ s, r ρ s = fr s := by intro _; rfl) (hρ : ∀ v w u, ((ρ.set i (some v)).set j (some w)).set l (some u) = ρ' v w u := by intro _ _ _; rfl)
    (hw : swappedStores [.Tuple [.Name x px, .Name y py, .Name z pz] kt pt] (.Tuple [a, b, c] k2 pt2) X.env = pure (some [x, y, z]) := by rfl)
    (hs : swapsWithSole [.Tuple [.Name x px, .Name y py, .Name z pz] kt pt] (.Tuple [a, b, c] k2 pt2) pos.line X.env = pure false := by rfl) :
    NSs X zx W ox mkS mkL ρ (.Assign [.Tuple [.Name x px, .Name y py, .Name z pz] kt pt] (.Tuple [a, b, c] k2 pt2) pos :: rest) (fun s => (fr s).an fun vs s1 => par3N vs fun v w u => k v w u s1) := nss_par3 hc hN hi hj hk hij hik hjk hx hy hz ha h2 hox hF hρ hw hs
theorem ns_forP {P : Type} {mk1 : S' → Loc} {body : List Stmt} {tg iter : Expr} {IT : MI} {it : Sto → R Src} {g : MG} {pat : Vl → Option P} {stp : P → Loc → Loc} {ρb : P → S' → Loc} {nb : P → S' → Sto → An S' S'} {a0 : S'} (hp : PassesOwn (model X.prog X.w) X.A X.env X.xe) (hc : X.calm = true) (hi : DI X zx W tg iter IT) (hg : DG X zx tg g)
    (hgp : TgP g pat stp) (hb : ∀ p a, NSs X zx W ox mk1 mk1 (ρb p a) body (nb p a)) (h0 : LeL (mk1 a0) ρ) (hox : OxLe ox ρ) (hρ : ∀ p a, stp p (mk1 a) = ρb p a := by intro _ _; rfl) (hF : ∀ s, IT ρ s = it s := by intro _; rfl)
    (hs : ∀ x, foldedSetIterable iter X.env x = pure x := by intro _; rfl) :
    NS X zx W ox mk1 mkL ρ (.For tg iter body [] pos) (fun s => (it s).an fun c s1 => forN c.ok mk1 (fun v a s => patN (pat v) fun p => nb p a s) c.items a0 s1) := by
  have e : (fun (v : Vl) (a : S') (s : Sto) => (patN (pat v) fun p => nb p a s : An S' S')) = fun v a s => (match pat v with | some p => nb p a s | none => .bad) := by
    funext v a s
    cases pat v <;> rfl
  rw [e]
  exact ns_for hp hc hi hg hb (fun v a s => by
    rw [hgp v (mk1 a) s]
    cases pat v with
    | none => rfl
    | some p => dsimp only; rw [hρ]) h0 hox hF hs
/-- what is shown, said -/
theorem nss_at {mkS : S → Loc} {mkL : L → Loc} {ρ : Loc} {n : Sto → An S L} {b : List Stmt} (h : NSs X zx W ox mkS mkL ρ b n) : NSs X zx W ox mkS mkL ρ b n := h
/-- a, b, .. = value -/
theorem nss_asgT {tg : Expr} {g : MG} {P : Type} {pat : Vl → Option P} {stp : P → Loc → Loc} {ρ' : P → Loc} {k : P → Sto → An S L} (he : DE X zx W e F) (hg : DG X zx tg g) (hgp : TgP g pat stp) (h2 : ∀ p, NSs X zx W ox mkS mkL (ρ' p) rest (k p)) (hox : OxLe ox ρ)
    (hρ : ∀ p, stp p ρ = ρ' p := by intro _; rfl) (hF : ∀ s, F ρ s = f s := by intro _; rfl) (hs : swapsWithSole [tg] e pos.line X.env = pure false := by rfl) (hw : swappedStores [tg] e X.env = pure none := by rfl)
    (h1 : (assignEach [tg] X.env).map (·.2) = [assign tg X.env] := by rfl) : NSs X zx W ox mkS mkL ρ (.Assign [tg] e pos :: rest) (fun s => (f s).an fun v s1 => patN (pat v) fun p => k p s1) :=
  PSs.imp (pss_cons (ps_asg he hg hs hw h1) (pss_ex h2)) fun D σ H ⟨β, s, hl, hs, q⟩ => ⟨β, ρ, s, hl, hs, by
    rw [hF]
    refine PostN.an hl hox q fun v s1 β1 H1 u st1 hs1 r1 h1 => ⟨β1, ρ, s1, v, hl.step st1, hs1, r1, ?_⟩
    rw [hgp]
    cases e : pat v with
    | some p =>
      rw [e] at h1
      dsimp only
      rw [hρ]
      exact fun β' σ' H' st' hl' hs' => ⟨p, β', s1, hl', hs', PostN.step h1 st'⟩
    | none => rw [e] at h1; exact h1.elim⟩
/-- what a store into a part does -/
def TgS (ρ : Loc) (g : MG) (u : Vl → Sto → Option Sto) : Prop := ∀ v s, g v ρ s = (match u v s with | some s1 => .nx ρ s1 | none => .bad)
def stoN {S L : Type} (o : Option Sto) (k : Sto → An S L) : An S L := match o with
  | some s => k s
  | none => .bad
@[simp] theorem stoN_some {S L : Type} (s : Sto) (k : Sto → An S L) : stoN (some s) k = k s := rfl
theorem nss_asgS {tg : Expr} {g : MG} {u : Vl → Sto → Option Sto} {k : Sto → An S L} (he : DE X zx W e F) (hg : DG X zx tg g) (hgp : TgS ρ g u) (h2 : NSs X zx W ox mkS mkL ρ rest k) (hox : OxLe ox ρ) (hF : ∀ s, F ρ s = f s := by intro _; rfl) (hs : swapsWithSole [tg] e pos.line X.env = pure false := by rfl) (hw : swappedStores [tg] e X.env = pure none := by rfl)
    (h1 : (assignEach [tg] X.env).map (·.2) = [assign tg X.env] := by rfl) : NSs X zx W ox mkS mkL ρ (.Assign [tg] e pos :: rest) (fun s => (f s).an fun v s1 => stoN (u v s1) k) :=
  PSs.imp (pss_cons (ps_asg he hg hs hw h1) h2) fun D σ H ⟨β, s, hl, hs, q⟩ => ⟨β, ρ, s, hl, hs, by
    rw [hF]
    refine PostN.an hl hox q fun v s1 β1 H1 u1 st1 hs1 r1 h1 => ⟨β1, ρ, s1, v, hl.step st1, hs1, r1, ?_⟩
    rw [hgp]
    cases e : u v s1 with
    | some s2 => rw [e] at h1; exact fun β' σ' H' st' hl' hs' => ⟨β', s2, hl', hs', PostN.step h1 st'⟩
    | none => rw [e] at h1; exact h1.elim⟩
/-- xs[i] = v -/
def subU (o : R Vl) (g : Sto → R Vl) (v : Vl) : Option Sto := match o with
  | .ok (.ref n) s1 => (match g s1 with
    | .ok (.dat (.int i)) s2 => (match lstAt s2 n with
      | some l => (match ixN l.length i with
        | some j => if noX v = true then some (s2.set n (.lst (l.set j v))) else none
        | none => none)
      | none => none)
    | _ => none)
  | _ => none
theorem tgs_sub {o i : ME} {fo : Sto → R Vl} {fi : Sto → R Vl} (h1 : ∀ s, o ρ s = fo s := by intro _; rfl) (h2 : ∀ s, i ρ s = fi s := by intro _; rfl) : TgS ρ (gSubM o i) (fun v s => subU (fo s) fi v) := fun v s => by
  have e2 : i ρ = fi := funext h2
  show gSubM o i v ρ s = (match subU (fo s) fi v with | some s1 => .nx ρ s1 | none => .bad)
  unfold gSubM subU
  rw [h1, e2]
  generalize fo s = a
  cases a with
  | ok w s1 =>
    cases w with
    | ref n =>
      dsimp only
      generalize fi s1 = b
      cases b with
      | ok w2 s2 =>
        cases w2 with
        | dat d =>
          cases d with
          | int k =>
            dsimp only
            generalize lstAt s2 n = c
            cases c with
            | none => rfl
            | some l =>
              dsimp only
              generalize ixN l.length k = j
              cases j with
              | none => rfl
              | some j =>
                dsimp only
                split <;> rfl
          | _ => rfl
        | _ => rfl
      | _ => rfl
    | _ => rfl
  | _ => rfl
/-- xs[i] += e of ints -/
def getI (v i : Vl) (s : Sto) : Option Int := match v, i with
  | .ref n, .dat (.int k) => (lstAt s n).bind fun l => if 0 ≤ k then (match l[k.toNat]? with
    | some (.dat (.int old)) => some old
    | _ => none) else none
  | _, _ => none
def putI (v i y : Vl) (old : Int) (s : Sto) : Option Sto := match v, i, y with
  | .ref n, .dat (.int k), .dat (.int d) => (lstAt s n).bind fun l => if k < l.length then some (s.set n (.lst (l.set k.toNat (.dat (.int (old + d)))))) else none
  | _, _, _ => none
theorem nss_augS {o i e : Expr} {tpos : Pos} {fo fi fh : ME} {go gi gh : Sto → R Vl} {k : Sto → An S L} (ho : DE X zx W o fo) (hi : DE X zx W i fi) (he : DE X zx W e fh) (h2 : NSs X zx W ox mkS mkL ρ rest k) (hox : OxLe ox ρ) (e1 : ∀ s, fo ρ s = go s := by intro _; rfl) (e2 : ∀ s, fi ρ s = gi s := by intro _; rfl) (e3 : ∀ s, fh ρ s = gh s := by intro _; rfl)
    (ha : ∀ ov iv new, augStore i ov iv new = (do holding [new, ov, iv] (setItem ov iv new); release [new, ov, iv] []; pure .next) := by intros; rfl) :
    NSs X zx W ox mkS mkL ρ (.AugAssign (.Subscript o i tpos) .Add e pos :: rest) (fun s => (go s).an fun v s1 => (gi s1).an fun i s2 => patN (getI v i s2) fun old => (gh s2).an fun y s3 => stoN (putI v i y old s3) k) :=
  PSs.imp (pss_cons (ps_augS ho hi get_list he ip_add set_list ha) h2) fun D σ H ⟨β, s, hl, hs, q⟩ => by
  refine ⟨β, ρ, s, hl, hs, ?_⟩
  rw [e1]
  refine PostN.an hl hox q fun v s1 β1 H1 u st1 hs1 r1 h1 => ?_
  have hl1 := hl.step st1
  refine ⟨β1, ρ, s1, hl1, hs1, ?_⟩
  rw [e2]
  refine PostN.an hl1 hox h1 fun iv s2 β2 H2 u2 st2 hs2 r2 h2 => ?_
  have hl2 := hl1.step st2
  cases eg : getI v iv s2 with
  | none => rw [eg] at h2; exact h2.elim
  | some old =>
    rw [eg] at h2
    dsimp only [patN] at h2
    unfold getI at eg
    split at eg
    · rename_i n k
      obtain ⟨a, hb, rfl⟩ := r1
      cases r2
      cases el : lstAt s2 n with
      | none => rw [el] at eg; cases eg
      | some l =>
        rw [el] at eg
        dsimp only [Option.bind_some] at eg
        split at eg
        · rename_i hk
          split at eg
          · rename_i old' eo
            cases eg
            obtain ⟨t, ht⟩ := st2.pre
            have hb2 : β2.b[n]? = some a := by
              rw [← ht, List.getElem?_append_left (List.getElem?_eq_some_iff.mp hb).1]
              exact hb
            obtain ⟨hz, xs2, hx2, rv2⟩ := hs2.ob n _ a (lstAt_eq el) hb2
            obtain ⟨w, hw, rw2⟩ := rv2.get' eo
            cases rw2
            refine ⟨a, xs2, k, _, rfl, rfl, hk, SqL.of hx2, hw, β2, ρ, s2, hl2, hs2, ?_⟩
            rw [e3]
            refine PostN.an hl2 hox h2 fun y s3 β3 H3 u3 st3 hs3 r3 h3 => ?_
            cases ep : putI (.ref n) (.dat (.int k)) y old s3 with
            | none => rw [ep] at h3; exact h3.elim
            | some s4 =>
              rw [ep] at h3
              dsimp only [stoN] at h3
              unfold putI at ep
              split at ep
              · rename_i n' k' d3 en ek
                cases en
                cases ek
                cases r3
                cases el3 : lstAt s3 n with
                | none => rw [el3] at ep; cases ep
                | some l3 =>
                  rw [el3] at ep
                  dsimp only [Option.bind_some] at ep
                  split at ep
                  · rename_i hlt
                    cases ep
                    obtain ⟨t3, ht3⟩ := st3.pre
                    have hb3 : β3.b[n]? = some a := by
                      rw [← ht3, List.getElem?_append_left (List.getElem?_eq_some_iff.mp hb2).1]
                      exact hb2
                    obtain ⟨hz3, xs3, hx3, rv3⟩ := hs3.ob n _ a (lstAt_eq el3) hb3
                    obtain ⟨st4, hs4⟩ := put_lst (l' := l3.set k.toNat (.dat (.int (old + d3)))) (xs' := xs3.set k.toNat (.int (old + d3))) hs3 (lstAt_eq el3) hb3 hx3 (by rw [List.length_set]; exact hz3) (Rvs.set (v := .dat (.int (old + d3))) (.int _) _ rv3)
                    refine ⟨old, d3, rfl, rfl, a, xs3, k, k.toNat, rfl, rfl, hx3, ?_, β3, _, (hl2.step st3).step st4, hs4, PostN.step h3 st4⟩
                    unfold ixN
                    rw [if_pos hk, if_pos (by rw [← rv3.len]; exact hlt)]
                  · cases ep
              · cases ep
          · cases eg
        · cases eg
    · cases eg
end
end Pm
set_option maxRecDepth 100000
set_option maxHeartbeats 4000000
namespace Pm
open PySem PySem.Spec PyProof.Rows L2 Sw
/-- the law's own call, from the promise of its def: the script is locked, or it is one of the module's own objects -/
theorem law_goesD {P : Program} {w : World} {K : PySem.W.Frag} {mg mb : Str → Option Value} {k : Nat} {fa a : Addr} {fd : FuncData} {x : Str} {g : MF} {s : Shared} {vs : List Value} {ns : List Int}
    (kin : K.In s.heap) (g0 : s.heap.Ns mainGlobals mg) (b : s.heap.Ns builtinsNs mb) (hbb : ∀ y : Str, y ≠ "__name__" → mb y = bootBuiltins y) (nl : s.heap.NoLimit) (gn : s.gens = #[])
    (ha : s.heap.get? a = some { cls := .type "list", data := .seq vs.toArray }) (hi : IntsAre vs ns) (hl : ns.length ≤ sizeLine) (hr : Room k callerA)
    (F : ∀ base : Heap, K.In base → base.Ns mainGlobals mg → FnD P w K mg base k fa fd [x] g) (bd : ∀ (s : Shared) (u : Value), BindsTo s fd ⟨[u], []⟩ [(x, u)])
    (hsp : ∃ s1, g [.scr ns] [] = .ok (.dat (.bool true)) s1) :
    codeAny (model P w) callerA (.call (.ref fa) ⟨[.ref a], []⟩) (fun r s' => r = .ok (.ret (.bool true)) ∧ OldK s.heap s'.heap ∧ s'.os = s.os ∧ AllBare s'.gens) s := by
  have rv := vals_ints hi
  have step : ∀ H : Hp, Scr K H a (ns.map V.int) → HOk P w H s.heap → (∀ c u, H c = some u → c = a ∧ u = .frz { cls := .type "list", data := .seq vs.toArray } (.lst (ns.map V.int)) ∧ K.lookup a = none) →
      codeAny (model P w) callerA (.call (.ref fa) ⟨[.ref a], []⟩) (fun r s' => r = .ok (.ret (.bool true)) ∧ OldK s.heap s'.heap ∧ s'.os = s.os ∧ AllBare s'.gens) s := by
    intro H hS hok only
    have dictFree : ∀ {c : Addr} {o : Obj} {es : Array DictEntry} {ep : Nat}, s.heap.get? c = some o → o.data = .dict es ep → H c = none := by
      intro c o es ep e d
      cases q : H c with
      | none => rfl
      | some u =>
        obtain ⟨rfl, _, _⟩ := only c u q
        rw [ha] at e
        cases e
        cases d
    have ns2 : ∀ {c : Addr} {m : Str → Option Value}, s.heap.Ns c m → (hidT s.heap H).Ns c m := by
      rintro c m ⟨o, es, ep, e, d, r⟩
      exact ⟨o, es, ep, hidT_get e (dictFree e d), d, r⟩
    have kb : K.In (hidT s.heap H) := by
      intro c o e
      refine hidT_get (kin c o e) ?_
      cases q : H c with
      | none => rfl
      | some u =>
        obtain ⟨rfl, _, z⟩ := only c u q
        rw [z] at e
        cases e
    have md : Mod K mg (hidT s.heap H) := ⟨kb, ns2 g0, ⟨mb, ns2 b, hbb⟩, by
      obtain ⟨mc, h1, h2⟩ := nl
      exact ⟨mc, ns2 h1, h2⟩⟩
    have e0 : Env0 P w K mg (hidT s.heap H) callerA [] s H := ⟨rfl, md, fun c o e => of_hidT e, Nat.le_of_eq (hidT_size _ _), trivial, fun c hc => (nomatch hc), hok, .of_eq gn⟩
    refine codeAny_mono ((F _ kb (ns2 g0)).goes callerA [] s H ⟨[.ref a], []⟩ [.ref a] [.ref a] (fun v _ => v = .bl true) (fun _ _ _ => False) rfl hr e0 (bd s (.ref a)) (.cons rfl .nil) ?sp) ?_
    case sp =>
      obtain ⟨s1, e1⟩ := hsp
      refine ⟨⟨[], []⟩, [], [.scr ns], ⟨rfl, List.nodup_nil, fun n o a h => by simp at h, fun a h => by cases h⟩, .cons ⟨a, rfl, hS⟩ .nil, rfl, ?_⟩
      rw [e1]
      intro β' H' u st hs rv
      cases rv
      rfl
    intro r s' h
    cases r with
    | error e =>
      obtain ⟨_, _, _, _, _, _, _, _, _, _, _, _, z⟩ := h
      exact z.elim
    | ok fl =>
      cases fl with
      | ret u =>
        obtain ⟨v, H', os, bare, un, hok', r', q⟩ := h
        cases (show v = .bl true from q)
        cases (show u = Value.bool true from r')
        refine ⟨rfl, OldK.of_keep fun c o e => ?_, os, bare⟩
        cases q : H c with
        | none => exact un.keep c o e q (fun z => nomatch z) (fun z => nomatch z)
        | some u =>
          obtain ⟨rfl, rfl, _⟩ := only c u q
          obtain ⟨e2, _⟩ := hok' _ _ (un.frzs _ _ _ q)
          rw [ha] at e
          cases e
          exact e2
      | next => exact False.elim h
      | brk => exact False.elim h
      | cont => exact False.elim h
  cases hk : K.lookup a with
  | some o =>
    have e := kin a o hk
    rw [ha] at e
    cases e
    refine step (fun _ => none) (.inr (.inr ⟨_, vs.toArray, _, hk, rfl, rfl, rfl, ?_, by simpa using rv⟩)) (fun c u z => nomatch z) (fun c u z => nomatch z)
    rw [List.size_toArray, hi.length]
    exact hl
  | none =>
    refine step (fun c => if c = a then some (.frz { cls := .type "list", data := .seq vs.toArray } (.lst (ns.map V.int))) else none) (.inl ⟨_, if_pos rfl⟩) ?_ ?_
    · intro c u z
      by_cases hc : c = a
      · have z' := (if_pos hc).symm.trans z
        cases z'
        subst hc
        exact ⟨ha, by rw [List.length_map]; exact hl, vs, _, rv, ha⟩
      · have z' := (if_neg hc).symm.trans z
        cases z'
    · intro c u z
      by_cases hc : c = a
      · have z' := (if_pos hc).symm.trans z
        exact ⟨hc, (Option.some.inj z').symm, hk⟩
      · have z' := (if_neg hc).symm.trans z
        cases z'
/-- the goal that k_head leaves, from the promise of the law's def -/
theorem walkD {l : PySem.W.OpenLaw} {n k : Nat} {q : Program} {loose : List Str} {XP : (Str → Option Value) → Heap → Prop} {YP : World → Heap → Prop} {d : DefRec} {K : Params → PySem.W.Frag} {g : MF} {x : Str}
    (hn : l.most = some n) (hn2 : n ≤ sizeLine) (hdf : d.params.defaults = []) (hr : Room k callerA) (hY : ∀ (w : World) (h : Heap), YP w h → (K w.params).In h)
    (F : ∀ (w : World) (mg : Str → Option Value) (fa : Addr) (h : Heap), (K w.params).In h → h.Ns mainGlobals mg → mg d.name = some (.ref fa) →
      ∃ fd : FuncData, (∀ (s : Shared) (u : Value), BindsTo s fd ⟨[u], []⟩ [(x, u)]) ∧ ∀ base : Heap, (K w.params).In base → base.Ns mainGlobals mg → FnD l.prog w (K w.params) mg base k fa fd [x] g)
    (hsp : ∀ ns : List Int, ns.length ≤ n → (∀ z ∈ ns, Builtin.Int.intBits z ≤ 1048576) → ∃ s1, g [.scr ns] [] = .ok (.dat (.bool true)) s1) :
    PySem.W.WalkO q loose XP YP l.row.toRowW d [] (fun f vs => PySem.call f vs) := by
  refine Att.attach_callB hn hdf ?_
  intro w s₀ s₁ mg mb fa o pm cd doc a vs ns G Y ho hd hcd hmg hobj hints hlen hbits hg
  obtain ⟨fd, hb, hF⟩ := F w mg fa _ (hY w _ Y) G.T.g hmg
  exact law_goesD (hY w _ Y) G.T.g G.T.b G.T.builtins G.T.nolimit hg hobj hints (Nat.le_trans hlen hn2) hr hF hb (hsp ns hlen hbits)
theorem FnD.bad {P : Program} {w : World} {K : PySem.W.Frag} {mg : Str → Option Value} {base : Heap} {f : Addr} {fd : FuncData} {ps : List Str} {k : Nat} : FnD P w K mg base k f fd ps (fun _ _ => .bad) := ⟨fun A outer s H args us vs Q E hg hr e0 bd r ⟨β, s0, xs, hs, rx, hl, hp⟩ => hp.elim⟩
theorem T_take {K : PySem.W.Frag} {mg : Str → Option Value} {x : Str} {C : Addr} {c : Value} (g : mg x = some (.ref C)) (e : PySem.W.exmOne K (.ref C) c = some true) : ∀ nm D b, mg nm = some (.ref D) → (if nm = x then some true else none) = some b → PySem.W.exmOne K (.ref D) c = some b := fun nm D b h1 h2 => by
  split at h2
  · rename_i h
    subst h
    rw [g] at h1
    cases h1
    cases h2
    exact e
  · cases h2
end Pm
set_option maxRecDepth 100000
set_option maxHeartbeats 4000000
namespace Pm
open PySem PySem.Spec PyProof.Rows L2 Sw

/-! ### specs of framed defs -/
@[simp] theorem putB_nil {s t : Sto} : putB s [] t = s := by cases t <;> rfl
@[simp] theorem refsOf_nil : refsOf [] = [] := rfl
@[simp] theorem refsOf_dat {p : PyData} {r : List Vl} : refsOf (.dat p :: r) = refsOf r := rfl
@[simp] theorem refsOf_scr {p : List Int} {r : List Vl} : refsOf (.scr p :: r) = refsOf r := rfl
@[simp] theorem refsOf_ref {n : Nat} {r : List Vl} : refsOf (.ref n :: r) = n :: refsOf r := rfl
@[simp] theorem renam_nil {j : Nat} : renam j [] = [] := rfl
@[simp] theorem renam_dat {j : Nat} {p : PyData} {r : List Vl} : renam j (.dat p :: r) = .dat p :: renam j r := rfl
@[simp] theorem renam_scr {j : Nat} {p : List Int} {r : List Vl} : renam j (.scr p :: r) = .scr p :: renam j r := rfl
@[simp] theorem renam_ref {j n : Nat} {r : List Vl} : renam j (.ref n :: r) = .ref j :: renam (j + 1) r := rfl
/-- without references -/
theorem fr0 {g : MF} {xs : List Vl} {s s2 : Sto} {p : PyData} (h : g xs [] = .ok (.dat p) s2) (hx : refsOf xs = [] := by rfl) (hr : renam 0 xs = xs := by rfl) : frameG g xs s = .ok (.dat p) s := by
  unfold frameG
  rw [hx, if_pos List.nodup_nil]
  simp only [pickS]
  rw [if_pos (show stoOk 0 [] from trivial), hr, h]
  simp only []
  rw [if_pos ⟨Nat.zero_le _, trivial⟩, putB_nil]
  rfl
theorem fr0l {g : MF} {xs : List Vl} {s s2 : Sto} {m : Nat} {ds : List PyData} (h : g xs [] = .ok (.ref m) s2) (he : s2[m]? = some (.lst (ds.map Vl.dat))) (hx : refsOf xs = [] := by rfl) (hr : renam 0 xs = xs := by rfl) : frameG g xs s = .ok (.dat (.list ds)) s := by
  unfold frameG
  rw [hx, if_pos List.nodup_nil]
  simp only [pickS]
  rw [if_pos (show stoOk 0 [] from trivial), hr, h]
  simp only []
  rw [if_pos ⟨Nat.zero_le _, trivial⟩]
  unfold frV
  simp only [List.length_nil]
  rw [if_neg (Nat.not_lt_zero _), lstAt_of he, Option.bind_some, datas_map, putB_nil]
  rfl
theorem fr0x {g : MF} {xs : List Vl} {s s2 : Sto} {x : Exn} (h : g xs [] = .ex x s2) (hx : refsOf xs = [] := by rfl) (hr : renam 0 xs = xs := by rfl) : frameG g xs s = .ex x s := by
  unfold frameG
  rw [hx, if_pos List.nodup_nil]
  simp only [pickS]
  rw [if_pos (show stoOk 0 [] from trivial), hr, h]
  simp only []
  rw [if_pos ⟨Nat.zero_le _, trivial⟩, putB_nil]
/-- the first argument is one of the store's -/
theorem fr1 {g : MF} {xs : List Vl} {s more : Sto} {k : Nat} {o o' : Ob} {p : PyData} (h : g (.ref 0 :: xs) [o] = .ok (.dat p) (o' :: more)) (hk : s[k]? = some o) (ho : obOk 0 o) (ho' : obOk 0 o') (hx : refsOf xs = [] := by rfl) (hr : renam 1 xs = xs := by rfl) : frameG g (.ref k :: xs) s = .ok (.dat p) (s.set k o') := by
  unfold frameG
  rw [refsOf_ref, hx, if_pos (by simp)]
  simp only [pickS, hk, Option.bind_some, Option.map_some]
  rw [if_pos (show stoOk 0 [o] from ⟨ho, trivial⟩), renam_ref, hr, h]
  simp only []
  rw [if_pos ⟨by simp, show stoOk 0 ((o' :: more).take 1) from ⟨ho', trivial⟩⟩]
  show R.ok _ (putB (s.set k o') [] more) = _
  rw [putB_nil]
theorem fr1l {g : MF} {xs : List Vl} {s more : Sto} {k m : Nat} {o o' : Ob} {ds : List PyData} (h : g (.ref 0 :: xs) [o] = .ok (.ref m) (o' :: more)) (he : (o' :: more)[m]? = some (.lst (ds.map Vl.dat))) (hm : 0 < m) (hk : s[k]? = some o) (ho : obOk 0 o) (ho' : obOk 0 o') (hx : refsOf xs = [] := by rfl) (hr : renam 1 xs = xs := by rfl) : frameG g (.ref k :: xs) s = .ok (.dat (.list ds)) (s.set k o') := by
  unfold frameG
  rw [refsOf_ref, hx, if_pos (by simp)]
  simp only [pickS, hk, Option.bind_some, Option.map_some]
  rw [if_pos (show stoOk 0 [o] from ⟨ho, trivial⟩), renam_ref, hr, h]
  simp only []
  rw [if_pos ⟨by simp, show stoOk 0 ((o' :: more).take 1) from ⟨ho', trivial⟩⟩]
  unfold frV
  simp only [List.length_cons, List.length_nil]
  rw [if_neg (by omega), lstAt_of he, Option.bind_some, datas_map]
  show R.ok _ (putB (s.set k o') [] more) = _
  rw [putB_nil]
/-! ### texts -/
/-- a text of plain signs -/
def Gs (x : Str) : Prop := ∀ c ∈ x.cps.toList, c < 128
theorem sh_int (i : Int) : SeqAt.shaped (.int i) = true := by simp [SeqAt.shaped, PyData.canLay0, PyData.depth]
theorem Gs.leaf {M : Nat} {x : Str} (h : Gs x) : leaf M (.str x) = true := leaf_str.mpr h
theorem sh_str {x : Str} (h : Gs x) : SeqAt.shaped (.str x) = true := by
  unfold SeqAt.shaped
  rw [leaf_canLay (M := 0) _ h.leaf]
  simp [PyData.depth]
theorem sh_data {M : Nat} {d : PyData} (h : leaf M d = true) (hd : d.depth ≤ 64) : SeqAt.shaped d = true := by
  unfold SeqAt.shaped
  rw [leaf_canLay _ h, Bool.true_and, decide_eq_true hd]
instance {x : Str} : Decidable (Gs x) := by unfold Gs; infer_instance
theorem eqv_ii (i j : Int) : PyData.eqv (.int i) (.int j) = decide (i = j) := by
  simp only [PyData.eqv]
  exact Bool.beq_eq_decide_eq i j
theorem eqv_ss (x y : Str) : PyData.eqv (.str x) (.str y) = decide (x = y) := by
  simp only [PyData.eqv]
  exact Bool.beq_eq_decide_eq x y
@[simp] theorem phEq_i {i j : Int} {s : Sto} : phEq (.dat (.int i)) (.dat (.int j)) s = some (.dat (.bool (decide (i = j)))) := by
  simp only [phEq]
  rw [if_pos ⟨sh_int _, sh_int _⟩, eqv_ii]
@[simp] theorem phNe_i {i j : Int} {s : Sto} : phNe (.dat (.int i)) (.dat (.int j)) s = some (.dat (.bool (!decide (i = j)))) := by
  simp only [phNe]
  rw [if_pos ⟨sh_int _, sh_int _⟩, eqv_ii]
@[simp] theorem phEq_s {x y : Str} {s : Sto} : phEq (.dat (.str x)) (.dat (.str y)) s = some (.dat (.bool (decide (x = y)))) := rfl
@[simp] theorem phNe_s {x y : Str} {s : Sto} : phNe (.dat (.str x)) (.dat (.str y)) s = some (.dat (.bool (!decide (x = y)))) := rfl
theorem phEq_sh {a b : PyData} {s : Sto} (ha : SeqAt.shaped a = true) (hb : SeqAt.shaped b = true) : phEq (.dat a) (.dat b) s = some (.dat (.bool (PyData.eqv a b))) := by
  cases a <;> cases b <;> simp only [phEq, eqv_ss] <;> rw [if_pos ⟨ha, hb⟩]
theorem phNe_sh {a b : PyData} {s : Sto} (ha : SeqAt.shaped a = true) (hb : SeqAt.shaped b = true) : phNe (.dat a) (.dat b) s = some (.dat (.bool (!PyData.eqv a b))) := by
  cases a <;> cases b <;> simp only [phNe, eqv_ss] <;> rw [if_pos ⟨ha, hb⟩]
theorem phEq_d {M : Nat} {a b : PyData} {s : Sto} (ha : leaf M a = true) (hb : leaf M b = true) (da : a.depth ≤ 64) (db : b.depth ≤ 64) : phEq (.dat a) (.dat b) s = some (.dat (.bool (PyData.eqv a b))) :=
  phEq_sh (sh_data ha da) (sh_data hb db)
theorem phNe_d {M : Nat} {a b : PyData} {s : Sto} (ha : leaf M a = true) (hb : leaf M b = true) (da : a.depth ≤ 64) (db : b.depth ≤ 64) : phNe (.dat a) (.dat b) s = some (.dat (.bool (!PyData.eqv a b))) :=
  phNe_sh (sh_data ha da) (sh_data hb db)
/-- two written texts -/
theorem eqS (x y : Str) (k : Bool) {s : Sto} (h : (decide (x = y) == k) = true) : phEq (.dat (.str x)) (.dat (.str y)) s = some (.dat (.bool k)) := by
  rw [phEq_s, eq_of_beq h]
/-! ### in -/
theorem fVs_ints : ∀ ns : List Int, fVs (ns.map PyData.int) = some (ns.map V.int)
  | [] => rfl
  | n :: ns => by
    show ((fV (.int n)).bind fun v => (fVs (ns.map PyData.int)).map (v :: ·)) = _
    rw [fVs_ints ns]
    rfl
theorem inV_ints {z : Int} {zs : List Int} : inV (.int z) (zs.map V.int) = decide (z ∈ zs) := by
  unfold inV
  rw [List.any_map, Bool.eq_iff_iff, List.any_eq_true, decide_eq_true_iff]
  constructor
  · rintro ⟨x, hx, e⟩
    have : x = z := by simpa [eqV] using e
    exact this ▸ hx
  · intro h
    exact ⟨z, h, by simp [eqV]⟩
theorem phIn_t {neg : Bool} {z : Int} {zs : List Int} {s : Sto} : phIn neg (.dat (.int z)) (.dat (.tuple (zs.map PyData.int))) s = some (.dat (.bool (if neg = true then !decide (z ∈ zs) else decide (z ∈ zs)))) := by
  show ((fV (.int z)).bind fun vx => (seqD (.dat (.tuple (zs.map PyData.int))) s).bind fun ds => (fVs ds).map fun vs => Vl.dat (.bool (if neg = true then !inV vx vs else inV vx vs))) = _
  show ((fVs (zs.map PyData.int)).map fun vs => Vl.dat (.bool (if neg = true then !inV (.int z) vs else inV (.int z) vs))) = _
  rw [fVs_ints]
  simp only [Option.map_some, inV_ints]
theorem phIn_l {neg : Bool} {z : Int} {zs : List Int} {s : Sto} : phIn neg (.dat (.int z)) (.dat (.list (zs.map PyData.int))) s = some (.dat (.bool (if neg = true then !decide (z ∈ zs) else decide (z ∈ zs)))) := by
  show ((fVs (zs.map PyData.int)).map fun vs => Vl.dat (.bool (if neg = true then !inV (.int z) vs else inV (.int z) vs))) = _
  rw [fVs_ints]
  simp only [Option.map_some, inV_ints]
theorem bls_map {α : Type} {f : α → Bool} : ∀ l : List α, bls (l.map fun x => PyData.bool (f x)) = some (l.map f)
  | [] => rfl
  | x :: l => by
    show (bls (l.map fun x => PyData.bool (f x))).map (f x :: ·) = _
    rw [bls_map l]
    rfl
/-! ### range -/
theorem rgs_zero {lo : Int} : rgs lo 0 = [] := rfl
theorem rgs_succ {lo : Int} {n : Nat} : rgs lo (n + 1) = .dat (.int lo) :: rgs (lo + 1) n := by
  unfold rgs
  rw [List.range_succ_eq_map, List.map_cons, List.map_map]
  congr 1
  · simp
  · apply List.map_congr_left
    intro a _
    show Vl.dat (.int (lo + ((a + 1 : Nat) : Int))) = _
    congr 2
    omega
/-! ### going on step by step -/
def Wp {S L : Type} (Q : An S L → Prop) (z : An S L) : Prop := Q z
theorem wp_of {S L : Type} {Q : An S L → Prop} {z : An S L} (h : Wp Q z) : Q z := h
theorem wp_an {α S L : Type} {Q : An S L → Prop} {r : R α} {k : α → Sto → An S L} {a : α} {s : Sto} (h : r = .ok a s) (h2 : Wp Q (k a s)) : Wp Q (r.an k) := by
  rw [h]; exact h2
theorem wp_ex {α S L : Type} {Q : An S L → Prop} {r : R α} {k : α → Sto → An S L} (P : α → Sto → Prop) (h : ∃ a s, r = .ok a s ∧ P a s) (h2 : ∀ a s, P a s → Wp Q (k a s)) : Wp Q (r.an k) := by
  obtain ⟨a, s, e, p⟩ := h
  rw [e]; exact h2 a s p
theorem wp_up {S L : Type} {Q : An S L → Prop} {z : An Empty L} (h : Wp (fun z => Q z.up) z) : Wp Q z.up := h
theorem wp_if {S L : Type} {Q : An S L → Prop} {r : R Bool} {k : Bool → Sto → An S L} {b : Bool} {s : Sto} (h : r = .ok b s) (h2 : Wp Q (k b s)) : Wp Q (r.an k) := by
  rw [h]; exact h2
theorem wp_thn {S S' L : Type} {Q : An S' L → Prop} {f : An S L} {k : S → Sto → An S' L} {a : S} {s : Sto} (h : f = .nx a s) (h2 : Wp Q (k a s)) : Wp Q (f.thn k) := by
  rw [h]; exact h2
theorem runN_ap {nf : List Vl → Sto → An Unit Empty} {xs : List Vl} {s : Sto} : runN nf xs s = (nf xs s).fin := rfl
theorem filter_true {α : Type} (l : List α) : l.filter (fun _ => true) = l := List.filter_eq_self.mpr fun _ _ => rfl
end Pm
set_option maxRecDepth 100000
set_option maxHeartbeats 4000000
namespace Pm
open PySem PySem.Spec PyProof.Rows L2 Sw

/-! ### code -/
inductive Opd where
  | n (i : Int)
  | v (x : Str)
structure Adr where
  names : List Str
  pick : Opd
  index : Opd
inductive Row where
  | load (x : Str) (a : Adr)
  | store (a : Adr) (o : Opd)
  | touch (a : Adr)
  | set (x w : Str) (p q : Opd)
  | tell (o : Opd)
  | need (o : Opd)
  | call (f : Str)
inductive Endd where
  | go (b : Int)
  | iff (o : Opd) (b c : Int)
  | back
structure Blk where
  rows : List Row
  fin : Endd
structure Cod where
  objs : List (Str × Int)
  rts : List (Str × List Blk)
def Opd.d : Opd → PyData
  | .n i => .int i
  | .v x => .str x
def strsD (l : List Str) : PyData := .tuple (l.map .str)
def Adr.d (a : Adr) : PyData := .tuple [strsD a.names, a.pick.d, a.index.d]
def Row.d : Row → PyData
  | .load x a => .tuple [.str "load", .str x, a.d]
  | .store a o => .tuple [.str "store", a.d, o.d]
  | .touch a => .tuple [.str "touch", a.d]
  | .set x w p q => .tuple [.str "set", .str x, .str w, p.d, q.d]
  | .tell o => .tuple [.str "tell", o.d]
  | .need o => .tuple [.str "need", o.d]
  | .call f => .tuple [.str "call", .str f]
def Endd.d : Endd → PyData
  | .go b => .tuple [.str "go", .int b]
  | .iff o b c => .tuple [.str "if", o.d, .int b, .int c]
  | .back => .tuple [.str "back"]
def rowsD (l : List Row) : PyData := .tuple (l.map Row.d)
def Blk.d (b : Blk) : PyData := .tuple [rowsD b.rows, b.fin.d]
def blksD (l : List Blk) : PyData := .tuple (l.map Blk.d)
def rtD (r : Str × List Blk) : PyData := .tuple [.str r.1, blksD r.2]
def objD (o : Str × Int) : PyData := .tuple [.str o.1, .int o.2]
def objsD (l : List (Str × Int)) : PyData := .tuple (l.map objD)
def Cod.d (c : Cod) : PyData := .tuple [objsD c.objs, .tuple (c.rts.map rtD)]
def Endd.all : Endd → List Int
  | .go b => [b]
  | .iff _ b c => [b, c]
  | .back => []
def Endd.goals (e : Endd) : List Int := risI e.all
def intsD (l : List Int) : PyData := .tuple (l.map .int)
noncomputable def n_is_number (v_thing : Vl) : Sto → An Unit Empty := fun s =>
  ((R.of (phIsi isaInt v_thing s) s).bind fun x1 s2 => andN x1 s2 ((R.of (phIsi isaBool v_thing s2) s2).bind fun x3 s4 => R.of (notV x3 s4) s4)).an fun x5 s6 => .rt x5 s6
noncomputable def r_is_number : MF := runN fun xs => match xs with
  | [v_thing] => n_is_number v_thing
  | _ => fun _ => .bad
noncomputable def G_is_number : MF := frameG (r_is_number)
noncomputable def n_goals (v_end : Vl) : Sto → An Unit Empty := fun s =>
  (((R.of (phIx v_end (Vl.dat (.int 0)) s) s).bind fun x1 s2 => R.of (phEq x1 (Vl.dat (.str "go")) s2) s2).bind fun x3 s4 => R.of (bool? x3) s4).an fun c5 s6 => if c5 = true then
    ((((R.of (phIx v_end (Vl.dat (.int 1)) s6) s6).bind fun x7 s8 => R.ok [x7] s8).bind fun l9 s10 => R.of (tupN l9) s10).an fun x11 s12 => .rt x11 s12 : An Empty _).up
    else
    (((R.of (phIx v_end (Vl.dat (.int 0)) s6) s6).bind fun x13 s14 => R.of (phEq x13 (Vl.dat (.str "if")) s14) s14).bind fun x15 s16 => R.of (bool? x15) s16).an fun c17 s18 => if c17 = true then
    (((((((R.of ((int? (Vl.dat (.int 2))).map some) s18).bind fun o19 s20 => R.of (phSl v_end o19 none s20) s20).bind fun x21 s22 => R.ok [x21] s22).bind fun l23 s24 => R.of (phSS l23 s24) s24).bind fun x25 s26 => R.ok [x25] s26).bind fun l27 s28 => R.of (phTuple l27 s28) s28).an fun x29 s30 => .rt x29 s30 : An Empty _).up
    else
    (R.of (tupN []) s18).an fun x31 s32 => .rt x31 s32
noncomputable def r_goals : MF := runN fun xs => match xs with
  | [v_end] => n_goals v_end
  | _ => fun _ => .bad
noncomputable def G_goals : MF := frameG (r_goals)
def mk_blocks_of_1 (v_name : Vl) : Unit → Loc := fun a => [none, some v_name, none, none]
noncomputable def nb_blocks_of_1 (v_name : Vl) (v_word : Vl) (v_blocks : Vl) : Sto → An Unit Unit := fun s =>
  ((R.of (phEq v_word v_name s) s).bind fun x3 s4 => R.of (bool? x3) s4).an fun c5 s6 => if c5 = true then
    (R.ok v_blocks s6).an fun x7 s8 => .rt x7 s8
    else
    .nx () s6
noncomputable def lp_blocks_of_1 {L : Type} (v_name : Vl) (ck : Sto → Prop) : List Vl → Unit → Sto → An Unit L := forN ck (mk_blocks_of_1 v_name) (fun v a s => patN ((pT2 pV pV) v) fun p => nb_blocks_of_1 v_name p.1 p.2 s)
@[simp] theorem lp_blocks_of_1_nil {L : Type} (v_name : Vl) {a : Unit} {s : Sto} : (lp_blocks_of_1 (L := L) v_name okT [] a s) = .nx a s := forN_nil
theorem lp_blocks_of_1_cons {L : Type} (v_name : Vl) {v : Vl} {r : List Vl} {a : Unit} {s : Sto} : (lp_blocks_of_1 (L := L) v_name okT (v :: r) a s) = (patN ((pT2 pV pV) v) fun p => nb_blocks_of_1 v_name p.1 p.2 s).lp (mk_blocks_of_1 v_name) s.length (lp_blocks_of_1 v_name okT r) := forN_cons
noncomputable def kt_blocks_of_1 (v_name : Vl) : Sto → An Unit Empty := fun s =>
  .bad
noncomputable def n_blocks_of (v_code : Vl) (v_name : Vl) : Sto → An Unit Empty := fun s =>
  (((R.of (phIx v_code (Vl.dat (.int 1)) s) s).bind fun x1 s2 => R.of (src x1 s2) s2).an fun c9 s10 => lp_blocks_of_1 v_name c9.ok c9.items () s10).thn fun j11 s12 => kt_blocks_of_1 v_name  s12
noncomputable def r_blocks_of : MF := runN fun xs => match xs with
  | [v_code, v_name] => n_blocks_of v_code v_name
  | _ => fun _ => .bad
noncomputable def G_blocks_of : MF := frameG (r_blocks_of)
noncomputable def n_nexts (v_code : Vl) (v_name : Vl) (v_block : Vl) : Sto → An Unit Empty := fun s =>
  ((callN 2 G_blocks_of [v_code, v_name] s).bind fun x1 s2 => R.of (phIx x1 v_block s2) s2).an fun x4 s5 => patN ((pT2 pV pV) x4) fun p3 =>
    (callN 1 G_goals [p3.2] s5).an fun x6 s7 => .rt x6 s7
noncomputable def r_nexts : MF := runN fun xs => match xs with
  | [v_code, v_name, v_block] => n_nexts v_code v_name v_block
  | _ => fun _ => .bad
noncomputable def G_nexts : MF := frameG (r_nexts)
noncomputable def n_is_numbers (v_thing : Vl) : Sto → An Unit Empty := fun s =>
  ((R.of (phIsi isaTup v_thing s) s).bind fun x1 s2 => andN x1 s2 ((((mLc (iSeq (mVar 0)) (gmName 1) tYesM (mCall 1 G_is_number (aCons (mVar 1) aNil)) [1]) [some v_thing, none] s2).bind fun x3 s4 => R.ok [x3] s4).bind fun l5 s6 => R.of (phAll l5 s6) s6)).an fun x7 s8 => .rt x7 s8
noncomputable def r_is_numbers : MF := runN fun xs => match xs with
  | [v_thing] => n_is_numbers v_thing
  | _ => fun _ => .bad
noncomputable def G_is_numbers : MF := frameG (r_is_numbers)

theorem G_is_number_eq (d : PyData) (s : Sto) : G_is_number [.dat d] s = .ok (.dat (.bool (dNum d))) s := by
  refine fr0 (s2 := []) ?_
  cases d <;> simp [r_is_number, runN_ap, n_is_number, isaInt, isaBool, dNum]
theorem phSS_i {ns : List Int} {s : Sto} (h : ns.length ≤ 60) : phSS [.dat (.tuple (ns.map PyData.int))] s = some (.dat (.list ((risI ns).map PyData.int))) := by
  simp [phSS, h]
theorem G_goals_eq (e : Endd) (s : Sto) : G_goals [.dat e.d] s = .ok (.dat (intsD e.goals)) s := by
  refine fr0 (s2 := []) ?_
  cases e with
  | go a => simp [r_goals, runN_ap, n_goals, Endd.d, eqS "go" "go" true (by decide), Endd.goals, Endd.all, intsD, risI, insI]
  | back => simp [r_goals, runN_ap, n_goals, Endd.d, eqS "back" "go" false (by decide), eqS "back" "if" false (by decide), Endd.goals, Endd.all, intsD, risI]
  | iff o a b =>
    have ec : cut [PyData.str "if", o.d, .int a, .int b] (some 2) none = ([a, b].map PyData.int) := rfl
    simp only [List.map_cons, List.map_nil] at ec
    have e2 := phSS_i (ns := [a, b]) (s := []) (by show 2 ≤ 60; decide)
    simp only [List.map_cons, List.map_nil] at e2
    simp [r_goals, runN_ap, n_goals, Endd.d, eqS "if" "go" false (by decide), eqS "if" "if" true (by decide), ec, e2, Endd.goals, Endd.all, intsD]
theorem lp_blocks_of_eq {nm : Str} {bs : List Blk} {L : Type} (s : Sto) : ∀ (l : List (Str × List Blk)), l.lookup nm = some bs → (lp_blocks_of_1 (L := L) (.dat (.str nm)) okT (l.map fun r => .dat (rtD r)) () s) = .rt (.dat (blksD bs)) s
  | [], h => by simp at h
  | r :: l, h => by
    rw [List.map_cons, lp_blocks_of_1_cons]
    have e : phEq (.dat (.str r.1)) (.dat (.str nm)) s = some (.dat (.bool (decide (r.1 = nm)))) := phEq_s
    rw [List.lookup_cons] at h
    by_cases hr : r.1 = nm
    · subst hr
      rw [beq_self_eq_true] at h
      cases h
      simp [show rtD r = .tuple [.str r.1, blksD r.2] from rfl, nb_blocks_of_1, e]
    · have hb : (nm == r.1) = false := by rw [beq_eq_false_iff_ne]; exact fun z => hr z.symm
      rw [hb] at h
      have ih := lp_blocks_of_eq (L := L) s l h
      simp [show rtD r = .tuple [.str r.1, blksD r.2] from rfl, nb_blocks_of_1, e, hr, tidy_same, ih]
theorem G_blocks_of_eq {c : Cod} {nm : Str} {bs : List Blk} (h : c.rts.lookup nm = some bs) (s : Sto) : G_blocks_of [.dat c.d, .dat (.str nm)] s = .ok (.dat (blksD bs)) s := by
  refine fr0 (s2 := []) ?_
  have e := lp_blocks_of_eq (L := Empty) [] c.rts h
  simp [r_blocks_of, runN_ap, n_blocks_of, Cod.d, src_ok_none, Function.comp_def, e]
/-- the goals of a routine's block -/
def goalsB (bs : List Blk) (b : Int) : List Int := match atI bs b with
  | some k => k.fin.goals
  | none => []
theorem atI_map {α β : Type} {f : α → β} {l : List α} {i : Int} : atI (l.map f) i = (atI l i).map f := by
  unfold atI
  rw [List.length_map]
  cases ixN l.length i with
  | none => rfl
  | some j => simp
theorem G_nexts_eq {c : Cod} {nm : Str} {bs : List Blk} {b : Int} {k : Blk} (h : c.rts.lookup nm = some bs) (hk : atI bs b = some k) (s : Sto) : G_nexts [.dat c.d, .dat (.str nm), .dat (.int b)] s = .ok (.dat (intsD k.fin.goals)) s := by
  refine fr0 (s2 := []) ?_
  simp [r_nexts, runN_ap, n_nexts, G_blocks_of_eq h, blksD, atI_map, hk, Blk.d, G_goals_eq]
def dNums : PyData → Bool
  | .tuple ds => ds.all dNum
  | _ => false
theorem th_mil {n : Nat} (h : n ≤ 1000) : n ≤ mil := Nat.le_trans h (by unfold mil; omega)
theorem G_is_numbers_eq (d : PyData) (s : Sto) (hl : ∀ ds, d = .tuple ds → ds.length ≤ mil) : G_is_numbers [.dat d] s = .ok (.dat (.bool (dNums d))) s := by
  refine fr0 (s2 := []) ?_
  cases d with
  | tuple ds =>
    have e := fun s => lc_data (it := iSeq (mVar 0)) (gm := gmName 1) (t := tYesM) (e := mCall 1 G_is_number (aCons (mVar 1) aNil)) (vs := [1]) (ρ := [some (.dat (.tuple ds)), none]) (s := s) (s1 := s) (ds := ds) (fun _ => true) (fun d => .bool (dNum d)) rfl (fun d hd => ⟨_, rfl, rfl, fun _ => by simp [G_is_number_eq]⟩) (hl ds rfl)
    rw [filter_true] at e
    simp [r_is_numbers, runN_ap, n_is_numbers, isaTup, e, bls_map, dNums, List.all_map]
  | _ => simp [r_is_numbers, runN_ap, n_is_numbers, isaTup, dNums]
end Pm
set_option maxRecDepth 100000
set_option maxHeartbeats 4000000
namespace Pm
open PySem PySem.Spec PyProof.Rows L2 Sw

/-! ### draws -/
/-- a feed that draws: Fd j o says that o is one after at most j draws -/
structure DrawSp (dr : MF) (Fd : Nat → Ob → Prop) : Prop where
  mono : ∀ {j k : Nat} {o : Ob}, Fd j o → j ≤ k → Fd k o
  ok : ∀ {j : Nat} {o : Ob}, Fd j o → obOk 0 o
  go : ∀ {j k : Nat} {f : Ob} {s : Sto} {m : Int}, Fd j f → j ≤ 1000000 → 1 ≤ m → m < 1073741824 → s[k]? = some f → ∃ r f', dr [.ref k, .dat (.int m)] s = .ok (.dat (.int r)) (s.set k f') ∧ Fd (j + 1) f' ∧ 0 ≤ r ∧ r < m
theorem DrawSp.go0 {dr : MF} {Fd : Nat → Ob → Prop} (D : DrawSp dr Fd) {j : Nat} {f : Ob} {t : Sto} {m : Int} (h : Fd j f) (hj : j ≤ 1000000) (h1 : 1 ≤ m) (h2 : m < 1073741824) : ∃ r f', dr [.ref 0, .dat (.int m)] (f :: t) = .ok (.dat (.int r)) (f' :: t) ∧ Fd (j + 1) f' ∧ 0 ≤ r ∧ r < m := by
  obtain ⟨r, f', e, h⟩ := D.go (k := 0) (s := f :: t) h hj h1 h2 rfl
  exact ⟨r, f', e, h⟩
theorem phMod_p {i j : Int} {s : Sto} (h : 0 < j) : phMod (.dat (.int i)) (.dat (.int j)) s = some (.dat (.int (i % j))) := if_pos h
theorem phDiv_p {i j : Int} {s : Sto} (h : 0 < j) (h2 : j < 1073741824) : phDiv (.dat (.int i)) (.dat (.int j)) s = some (.dat (.int (i / j))) := by
  simp only [phDiv]
  exact if_pos ⟨h, h2⟩
theorem phMul_l {i j : Int} {s : Sto} (h : 0 ≤ i) (h2 : i ≤ 1000000000000000000) : phMul (.dat (.int i)) (.dat (.int j)) s = some (.dat (.int (i * j))) := by
  simp only [phMul]
  refine if_pos (.inl (.inl ⟨?_, ?_⟩))
  · have : -(2 ^ 64 : Int) < 0 := by decide
    omega
  · have : (1000000000000000000 : Int) < 2 ^ 64 := by decide
    omega
theorem phMul_r {i j : Int} {s : Sto} (h : 0 ≤ j) (h2 : j ≤ 1000000000000000000) : phMul (.dat (.int i)) (.dat (.int j)) s = some (.dat (.int (i * j))) := by
  simp only [phMul]
  refine if_pos (.inl (.inr ⟨?_, ?_⟩))
  · have : -(2 ^ 64 : Int) < 0 := by decide
    omega
  · have : (1000000000000000000 : Int) < 2 ^ 64 := by decide
    omega
theorem phPow_c {i j : Int} {s : Sto} (h : 0 ≤ j ∧ j ≤ 1000000 ∧ i.natAbs < 2 ^ 64) : phPow (.dat (.int i)) (.dat (.int j)) s = some (.dat (.int (i ^ j.toNat))) := by
  simp only [phPow]
  exact if_pos h
theorem phMul_w {i j : Int} {s : Sto} (h : CMulW i j) : phMul (.dat (.int i)) (.dat (.int j)) s = some (.dat (.int (i * j))) := by
  simp only [phMul]
  exact if_pos (.inr h)
theorem sh_ints (ns : List Int) : SeqAt.shaped (.list (ns.map PyData.int)) = true := by
  have hf : PyData.canLayAll0 (ns.map PyData.int) = true := by
    induction ns with
    | nil => simp [PyData.canLayAll0]
    | cons n ns ih => simp [PyData.canLayAll0, PyData.canLay0, ih]
  unfold SeqAt.shaped
  rw [show (PyData.list (ns.map PyData.int)).canLay0 = true by simpa [PyData.canLay0] using hf, Bool.true_and, decide_eq_true_eq]
  have : (PyData.list (ns.map PyData.int)).depth ≤ 0 + 1 := depth_list.mpr fun x hx => by
    obtain ⟨z, _, rfl⟩ := List.mem_map.mp hx
    simp [PyData.depth]
  omega
theorem phEq_ints {ns : List Int} {s : Sto} : phEq (.dat (.list (ns.map PyData.int))) (.dat (.list [])) s = some (.dat (.bool ns.isEmpty)) := by
  simp only [phEq]
  rw [if_pos ⟨sh_ints ns, sh_ints []⟩]
  cases ns <;> rfl
theorem phNe_ints {ns : List Int} {s : Sto} : phNe (.dat (.list (ns.map PyData.int))) (.dat (.list [])) s = some (.dat (.bool (!ns.isEmpty))) := by
  simp only [phNe]
  rw [if_pos ⟨sh_ints ns, sh_ints []⟩]
  cases ns <;> rfl
/-! ### the feed that is a list -/
def fdL (ns : List Int) (a b c : Int) : Ob := .lst [.dat (.list (ns.map PyData.int)), .dat (.int a), .dat (.int b), .dat (.int c)]
def FdL (j : Nat) (o : Ob) : Prop := ∃ (ns : List Int) (a b c : Int), o = fdL ns a b c ∧ ns.length ≤ 63 ∧ 0 ≤ a ∧ 0 ≤ c ∧ c ≤ (j : Int)
noncomputable def n_law_feed_k01 (w_script : Vl) : Sto → An Unit Empty := fun s =>
  ((((R.of ((int? (Vl.dat (.int 63))).map some) s).bind fun o1 s2 => R.of (phSl w_script none o1 s2) s2).bind fun x3 s4 => R.ok [x3, (Vl.dat (.int 0)), (Vl.dat (.int 0)), (Vl.dat (.int 0))] s4).bind fun l5 s6 => newN l5 s6).an fun x7 s8 => .rt x7 s8
noncomputable def r_law_feed_k01 : MF := runN fun xs => match xs with
  | [w_script] => n_law_feed_k01 w_script
  | _ => fun _ => .bad
noncomputable def G_law_feed_k01 : MF := r_law_feed_k01
noncomputable def n_law_draw_k01 (w_feed_here : Vl) (w_many : Vl) : Sto → An Unit Empty := fun s =>
  (R.ok w_feed_here s).an fun x1 s2 => (R.ok (Vl.dat (.int 3)) s2).an fun x3 s4 => patN (getI x1 x3 s4) fun o5 => (R.ok (Vl.dat (.int 1)) s4).an fun x6 s7 => stoN (putI x1 x3 x6 o5 s7) fun s8 =>
    (((R.of (phIx w_feed_here (Vl.dat (.int 2)) s8) s8).bind fun x9 s10 => R.of (phGt x9 (Vl.dat (.int 0)) s10) s10).bind fun x11 s12 => R.of (bool? x11) s12).an fun c13 s14 => if c13 = true then
    (((R.of (phIx w_feed_here (Vl.dat (.int 2)) s14) s14).bind fun x16 s17 => R.of (phMod x16 w_many s17) s17).an fun w_told s15 =>
      ((R.of (phIx w_feed_here (Vl.dat (.int 2)) s15) s15).bind fun x18 s19 => R.of (phDiv x18 w_many s19) s19).an fun x20 s21 => stoN (subU (R.ok w_feed_here s21) (fun z => R.ok (Vl.dat (.int 2)) z) x20) fun s22 =>
      (R.ok w_told s22).an fun x23 s24 => .rt x23 s24 : An Empty _).up
    else
    ((((R.of (phIx w_feed_here (Vl.dat (.int 0)) s14) s14).bind fun x26 s27 => (R.of (lstN []) s27).bind fun x28 s29 => R.of (phEq x26 x28 s29) s29).bind fun x30 s31 => R.of (bool? x30) s31).bind fun c32 s33 => if c32 = true then R.ok (Vl.dat (.int 7)) s33 else (R.of (phIx w_feed_here (Vl.dat (.int 0)) s33) s33).bind fun x34 s35 => ((R.of (phIx w_feed_here (Vl.dat (.int 1)) s35) s35).bind fun x36 s37 => (((R.of (phIx w_feed_here (Vl.dat (.int 0)) s37) s37).bind fun x38 s39 => R.ok [x38] s39).bind fun l40 s41 => R.of (phLen l40 s41) s41).bind fun x42 s43 => R.of (phMod x36 x42 s43) s43).bind fun x44 s45 => R.of (phIx x34 x44 s45) s45).an fun w_cell s25 =>
    (R.ok w_feed_here s25).an fun x46 s47 => (R.ok (Vl.dat (.int 1)) s47).an fun x48 s49 => patN (getI x46 x48 s49) fun o50 => (R.ok (Vl.dat (.int 1)) s49).an fun x51 s52 => stoN (putI x46 x48 x51 o50 s52) fun s53 =>
    ((((R.of (phPow (Vl.dat (.int 10)) (Vl.dat (.int 18)) s53) s53).bind fun x54 s55 => R.of (phGe w_cell x54 s55) s55).bind fun x56 s57 => R.of (bool? x56) s57).bind fun c58 s59 => if c58 = true then ((R.of (phIx w_feed_here (Vl.dat (.int 1)) s59) s59).bind fun x60 s61 => (((R.of (phIx w_feed_here (Vl.dat (.int 0)) s61) s61).bind fun x62 s63 => R.ok [x62] s63).bind fun l64 s65 => R.of (phLen l64 s65) s65).bind fun x66 s67 => R.of (phLe x60 x66 s67) s67).bind fun x68 s69 => R.of (bool? x68) s69 else R.ok false s59).an fun c70 s71 => if c70 = true then
    ((R.of (phDiv w_cell w_many s71) s71).an fun x72 s73 => stoN (subU (R.ok w_feed_here s73) (fun z => R.ok (Vl.dat (.int 2)) z) x72) fun s74 =>
      (R.of (phMod w_cell w_many s74) s74).an fun x75 s76 => .rt x75 s76 : An Empty _).up
    else
    (R.of (phIx w_feed_here (Vl.dat (.int 3)) s71) s71).an fun w_turn s77 =>
    ((((R.of (phMod w_cell (Vl.dat (.int 2147483629)) s77) s77).bind fun x79 s80 => ((R.of (phMul (Vl.dat (.int 69621)) w_turn s80) s80).bind fun x81 s82 => R.of (phMul x81 w_turn s82) s82).bind fun x83 s84 => R.of (phAdd x79 x83 s84) s84).bind fun x85 s86 => (R.of (phMul (Vl.dat (.int 7)) w_turn s86) s86).bind fun x87 s88 => R.of (phAdd x85 x87 s88) s88).bind fun x89 s90 => R.of (phMod x89 (Vl.dat (.int 2147483629)) s90) s90).an fun w_mixed s78 =>
    (((R.of (phMul w_mixed w_mixed s78) s78).bind fun x92 s93 => (R.of (phMul (Vl.dat (.int 48271)) w_turn s93) s93).bind fun x94 s95 => R.of (phAdd x92 x94 s95) s95).bind fun x96 s97 => R.of (phMod x96 (Vl.dat (.int 2147483647)) s97) s97).an fun w_mixed s91 =>
    (((R.of (phMul w_mixed w_mixed s91) s91).bind fun x99 s100 => (R.of (phMul (Vl.dat (.int 16807)) w_turn s100) s100).bind fun x101 s102 => R.of (phAdd x99 x101 s102) s102).bind fun x103 s104 => R.of (phMod x103 (Vl.dat (.int 2147483587)) s104) s104).an fun w_mixed s98 =>
    (((((R.of (phMul w_mixed w_mixed s98) s98).bind fun x105 s106 => R.of (phAdd x105 w_turn s106) s106).bind fun x107 s108 => R.of (phMod x107 (Vl.dat (.int 2147483629)) s108) s108).bind fun x109 s110 => R.of (phDiv x109 (Vl.dat (.int 131)) s110) s110).bind fun x111 s112 => R.of (phMod x111 w_many s112) s112).an fun x113 s114 => .rt x113 s114
noncomputable def r_law_draw_k01 : MF := runN fun xs => match xs with
  | [w_feed_here, w_many] => n_law_draw_k01 w_feed_here w_many
  | _ => fun _ => .bad
noncomputable def G_law_draw_k01 : MF := frameG (r_law_draw_k01)

section
variable {ns : List Int} {a b c x : Int} {t : Sto}
@[simp] theorem fdL_ix0 : phIx (.ref 0) (.dat (.int 0)) (fdL ns a b c :: t) = some (.dat (.list (ns.map PyData.int))) := by simp [fdL, phIx]
@[simp] theorem fdL_ix1 : phIx (.ref 0) (.dat (.int 1)) (fdL ns a b c :: t) = some (.dat (.int a)) := by simp [fdL, phIx]
@[simp] theorem fdL_ix2 : phIx (.ref 0) (.dat (.int 2)) (fdL ns a b c :: t) = some (.dat (.int b)) := by simp [fdL, phIx]
@[simp] theorem fdL_ix3 : phIx (.ref 0) (.dat (.int 3)) (fdL ns a b c :: t) = some (.dat (.int c)) := by simp [fdL, phIx]
@[simp] theorem fdL_get3 : getI (.ref 0) (.dat (.int 3)) (fdL ns a b c :: t) = some c := rfl
@[simp] theorem fdL_get1 : getI (.ref 0) (.dat (.int 1)) (fdL ns a b c :: t) = some a := rfl
@[simp] theorem fdL_put3 : putI (.ref 0) (.dat (.int 3)) (.dat (.int x)) c (fdL ns a b c :: t) = some (fdL ns a b (c + x) :: t) := rfl
@[simp] theorem fdL_put1 : putI (.ref 0) (.dat (.int 1)) (.dat (.int x)) a (fdL ns a b c :: t) = some (fdL ns (a + x) b c :: t) := rfl
@[simp] theorem fdL_sub2 : subU (.ok (.ref 0) (fdL ns a b c :: t)) (fun z => .ok (.dat (.int 2)) z) (.dat (.int x)) = some (fdL ns a x c :: t) := rfl
end
theorem cellL {ns : List Int} {a : Int} (ha : 0 ≤ a) (hne : ns.isEmpty = false) : ∃ q : Int, atI (ns.map PyData.int) (a % (ns.length : Int)) = some (.int q) := by
  have hl : (0 : Int) < (ns.length : Int) := by cases ns with
    | nil => simp at hne
    | cons _ _ => simp
  have h1 := Int.emod_nonneg a (show (ns.length : Int) ≠ 0 by omega)
  have h2 := Int.emod_lt_of_pos a hl
  obtain ⟨q, hq⟩ : ∃ q : Nat, a % (ns.length : Int) = q := ⟨(a % (ns.length : Int)).toNat, by omega⟩
  have hq2 : q < ns.length := by omega
  exact ⟨ns[q], by rw [hq, atI_nat', List.getElem?_map, List.getElem?_eq_getElem hq2]; rfl⟩
theorem draw_k01 : DrawSp G_law_draw_k01 FdL := by
  refine ⟨fun ⟨ns, a, b, c, h1, h2, h3, h4, h5⟩ h => ⟨ns, a, b, c, h1, h2, h3, h4, by omega⟩, fun ⟨ns, a, b, c, h1, _⟩ => by subst h1; simp [fdL], ?_⟩
  rintro j k f s m ⟨ns, a, b, c, rfl, hn, ha, hc, hcj⟩ hj m1 m2 hs
  have key : ∃ r a' b', r_law_draw_k01 [.ref 0, .dat (.int m)] [fdL ns a b c] = .ok (.dat (.int r)) [fdL ns a' b' (c + 1)] ∧ 0 ≤ a' ∧ 0 ≤ r ∧ r < m := by
    have hm : (0 : Int) < m := by omega
    have fin : ∀ x : Int, 0 ≤ x % m ∧ x % m < m := fun x => ⟨Int.emod_nonneg x (by omega), Int.emod_lt_of_pos x hm⟩
    rw [r_law_draw_k01, runN_ap]
    simp only [n_law_draw_k01]
    by_cases hb : 0 < b
    · exact ⟨b % m, a, b / m, by simp [hb, phMod_p hm, phDiv_p hm m2], ha, fin b⟩
    · refine wp_of (Q := fun z => ∃ r a' b', An.fin z = .ok (.dat (.int r)) [fdL ns a' b' (c + 1)] ∧ 0 ≤ a' ∧ 0 ≤ r ∧ r < m) ?_
      simp only [R.an_ok, fdL_get3, patN_some, fdL_put3, stoN_some, fdL_ix2, R.of_some, R.bind_ok, phGt_i, decide_eq_false hb, bool?_b, if_false, Bool.false_eq_true]
      refine wp_ex (fun v s => ∃ q : Int, v = .dat (.int q) ∧ s = [fdL ns a b (c + 1)]) ?_ ?_
      · cases he : ns.isEmpty with
        | true => exact ⟨_, _, by simp [phEq_ints, he], 7, rfl, rfl⟩
        | false =>
          obtain ⟨q, hq⟩ := cellL ha he
          have hl : (0 : Int) < (ns.length : Int) := by cases ns with
            | nil => simp at he
            | cons _ _ => simp
          exact ⟨_, _, by simp [phEq_ints, he, phMod_p hl, hq], q, rfl, rfl⟩
      rintro _ _ ⟨q, rfl, rfl⟩
      have ep : ∀ s, phPow (.dat (.int 10)) (.dat (.int 18)) s = some (.dat (.int 1000000000000000000)) := fun s => by rw [phPow_c (by decide)]; rfl
      simp only [R.an_ok, fdL_get1, patN_some, fdL_put1, stoN_some]
      by_cases h18 : (1000000000000000000 : Int) ≤ q ∧ a + 1 ≤ (ns.length : Int)
      · exact ⟨q % m, a + 1, q / m, by simp [ep, h18.1, h18.2, phMod_p hm, phDiv_p hm m2], by omega, fin q⟩
      · have c1 : 0 ≤ c + 1 := by omega
        have c2 : c + 1 ≤ 1000000000000000000 := by omega
        refine wp_if (b := false) (s := [fdL ns (a + 1) b (c + 1)]) ?_ ?_
        · by_cases h1 : (1000000000000000000 : Int) ≤ q
          · have h2 : ¬ (a + 1 ≤ (ns.length : Int)) := fun z => h18 ⟨h1, z⟩
            simp [ep, h1, h2]
          · simp [ep, h1]
        have last : ∀ z : An Unit Empty, (∃ x : Int, z.fin = .ok (.dat (.int (x % m))) [fdL ns (a + 1) b (c + 1)]) → Wp (fun z => ∃ r a' b', An.fin z = .ok (.dat (.int r)) [fdL ns a' b' (c + 1)] ∧ 0 ≤ a' ∧ 0 ≤ r ∧ r < m) z := fun z ⟨x, h⟩ => ⟨x % m, a + 1, b, h, by omega, fin x⟩
        refine last _ ⟨?_, ?_⟩
        rotate_left
        · simp (disch := omega) [phMod_p, phDiv_p, phMul_l, phMul_r, hm, m2]
          rfl
  obtain ⟨r, a', b', e, h1, h2, h3⟩ := key
  exact ⟨r, _, fr1 e hs (by simp [fdL]) (by simp [fdL]), ⟨ns, a', b', c + 1, rfl, hn, h1, by omega, by omega⟩, h2, h3⟩
end Pm
set_option maxRecDepth 100000
set_option maxHeartbeats 4000000
namespace Pm
open PySem PySem.Spec PyProof.Rows L2 Sw

/-! ### CODE of main alone without rows -/
def cod2 (bs : List Blk) : Cod := ⟨[("a", 1)], [("main", bs)]⟩
structure GrOk (bs : List Blk) : Prop where
  few : bs.length ≤ 6
  pos : 0 < bs.length
  rng : ∀ b ∈ bs, ∀ x ∈ b.fin.all, 0 ≤ x ∧ x < (bs.length : Int)
  nor : ∀ b ∈ bs, b.rows = [] ∧ ∀ o x y, b.fin = .iff o x y → o = .v "i"
def mk_law_graph_1 (w_feed_here : Vl) (w_many : Vl) (w_blocks : Vl) : Unit → Loc := fun a => [some w_feed_here, none, some w_many, some w_blocks, none, none, none, none, none]
noncomputable def nb_law_graph_1 (dr : MF) (w_feed_here : Vl) (w_many : Vl) (w_blocks : Vl) (w_block : Vl) : Sto → An Unit Unit := fun s =>
  ((callN 2 dr [w_feed_here, w_many] s).bind fun x5 s6 => ((callN 2 dr [w_feed_here, w_many] s6).bind fun x7 s8 => (((R.of (phAdd w_block (Vl.dat (.int 1)) s8) s8).bind fun x9 s10 => R.of (phMod x9 w_many s10) s10).bind fun x11 s12 => R.ok [x11] s12).bind fun l13 s14 => R.ok (x7 :: l13) s14).bind fun l15 s16 => R.ok (x5 :: l15) s16).an fun l18 s17 => par3N l18 fun w_first w_second w_near =>
    (((R.of (tupN [(Vl.dat (.str "go")), w_first]) s17).bind fun x20 s21 => ((R.of (tupN [(Vl.dat (.str "go")), w_near]) s21).bind fun x22 s23 => ((R.of (tupN [(Vl.dat (.str "if")), (Vl.dat (.str "i")), w_first, w_second]) s23).bind fun x24 s25 => ((R.of (tupN [(Vl.dat (.str "if")), (Vl.dat (.str "i")), w_near, w_first]) s25).bind fun x26 s27 => ((R.of (tupN [(Vl.dat (.str "back"))]) s27).bind fun x28 s29 => R.ok [x28] s29).bind fun l30 s31 => R.ok (x26 :: l30) s31).bind fun l32 s33 => R.ok (x24 :: l32) s33).bind fun l34 s35 => R.ok (x22 :: l34) s35).bind fun l36 s37 => R.ok (x20 :: l36) s37).bind fun l38 s39 => R.of (lstN l38) s39).an fun w_ends s19 =>
    (appN w_blocks s19 (fun s40 => (((R.of (tupN []) s40).bind fun x41 s42 => (((callN 2 dr [w_feed_here, (Vl.dat (.int 5))] s42).bind fun x43 s44 => R.of (phIx w_ends x43 s44) s44).bind fun x45 s46 => R.ok [x45] s46).bind fun l47 s48 => R.ok (x41 :: l47) s48).bind fun l49 s50 => R.of (tupN l49) s50).bind fun x51 s52 => R.ok [x51] s52)).an fun _ s53 =>
    .nx () s53
noncomputable def lp_law_graph_1 {L : Type} (dr : MF) (w_feed_here : Vl) (w_many : Vl) (w_blocks : Vl) (ck : Sto → Prop) : List Vl → Unit → Sto → An Unit L := forN ck (mk_law_graph_1 w_feed_here w_many w_blocks) (fun v a s => patN (pV v) fun p => nb_law_graph_1 dr w_feed_here w_many w_blocks p s)
@[simp] theorem lp_law_graph_1_nil {L : Type} (dr : MF) (w_feed_here : Vl) (w_many : Vl) (w_blocks : Vl) {a : Unit} {s : Sto} : (lp_law_graph_1 (L := L) dr w_feed_here w_many w_blocks okT [] a s) = .nx a s := forN_nil
theorem lp_law_graph_1_cons {L : Type} (dr : MF) (w_feed_here : Vl) (w_many : Vl) (w_blocks : Vl) {v : Vl} {r : List Vl} {a : Unit} {s : Sto} : (lp_law_graph_1 (L := L) dr w_feed_here w_many w_blocks okT (v :: r) a s) = (patN (pV v) fun p => nb_law_graph_1 dr w_feed_here w_many w_blocks p s).lp (mk_law_graph_1 w_feed_here w_many w_blocks) s.length (lp_law_graph_1 dr w_feed_here w_many w_blocks okT r) := forN_cons
noncomputable def kt_law_graph_1 (dr : MF) (w_feed_here : Vl) (w_many : Vl) (w_blocks : Vl) : Sto → An Unit Empty := fun s =>
  (((((R.of (tupN [(Vl.dat (.str "a")), (Vl.dat (.int 1))]) s).bind fun x58 s59 => R.ok [x58] s59).bind fun l60 s61 => R.of (tupN l60) s61).bind fun x62 s63 => (((((((R.of (phTuple [w_blocks] s63) s63).bind fun x64 s65 => R.ok [x64] s65).bind fun l66 s67 => R.ok ((Vl.dat (.str "main")) :: l66) s67).bind fun l68 s69 => R.of (tupN l68) s69).bind fun x70 s71 => R.ok [x70] s71).bind fun l72 s73 => R.of (tupN l72) s73).bind fun x74 s75 => R.ok [x74] s75).bind fun l76 s77 => R.ok (x62 :: l76) s77).bind fun l78 s79 => R.of (tupN l78) s79).an fun x80 s81 => .rt x80 s81
noncomputable def n_law_graph (dr : MF) (w_feed_here : Vl) (w_most : Vl) : Sto → An Unit Empty := fun s =>
  ((callN 2 dr [w_feed_here, w_most] s).bind fun x2 s3 => R.of (phAdd (Vl.dat (.int 1)) x2 s3) s3).an fun w_many s1 =>
    (newN [] s1).an fun w_blocks s4 =>
    ((rngN1 [w_many] s4).an fun c54 s55 => lp_law_graph_1 dr w_feed_here w_many w_blocks c54.ok c54.items () s55).thn fun j56 s57 => kt_law_graph_1 dr w_feed_here w_many w_blocks  s57
noncomputable def r_law_graph (dr : MF) : MF := runN fun xs => match xs with
  | [w_feed_here, w_most] => n_law_graph dr w_feed_here w_most
  | _ => fun _ => .bad
noncomputable def G_law_graph (dr : MF) : MF := frameG (r_law_graph dr)
def mk_law_arrows_1 (w_found : Vl) : Unit → Loc := fun a => [none, some w_found, none, none, none]
noncomputable def nb_law_arrows_1 (w_found : Vl) (w_rows : Vl) (w_end : Vl) : Sto → An Unit Unit := fun s =>
  (appN w_found s (fun s8 => ((mLc (iSeq (mVar 3)) (gmName 4) (mTru (m1 (phIsi isaInt) (mVar 4))) (mVar 4) [4]) [none, some w_found, some w_rows, some w_end, none] s8).bind fun x11 s12 => R.ok [x11] s12)).an fun _ s13 =>
    .nx () s13
noncomputable def lp_law_arrows_1 {L : Type} (w_found : Vl) (ck : Sto → Prop) : List Vl → Unit → Sto → An Unit L := forN ck (mk_law_arrows_1 w_found) (fun v a s => patN ((pT2 pV pV) v) fun p => nb_law_arrows_1 w_found p.1 p.2 s)
@[simp] theorem lp_law_arrows_1_nil {L : Type} (w_found : Vl) {a : Unit} {s : Sto} : (lp_law_arrows_1 (L := L) w_found okT [] a s) = .nx a s := forN_nil
theorem lp_law_arrows_1_cons {L : Type} (w_found : Vl) {v : Vl} {r : List Vl} {a : Unit} {s : Sto} : (lp_law_arrows_1 (L := L) w_found okT (v :: r) a s) = (patN ((pT2 pV pV) v) fun p => nb_law_arrows_1 w_found p.1 p.2 s).lp (mk_law_arrows_1 w_found) s.length (lp_law_arrows_1 w_found okT r) := forN_cons
noncomputable def kt_law_arrows_1 (w_found : Vl) : Sto → An Unit Empty := fun s =>
  (R.ok w_found s).an fun x18 s19 => .rt x18 s19
noncomputable def n_law_arrows (w_code : Vl) : Sto → An Unit Empty := fun s =>
  (newN [] s).an fun w_found s1 =>
    (((((R.of (phIx w_code (Vl.dat (.int 1)) s1) s1).bind fun x2 s3 => R.of (phIx x2 (Vl.dat (.int 0)) s3) s3).bind fun x4 s5 => R.of (phIx x4 (Vl.dat (.int 1)) s5) s5).bind fun x6 s7 => R.of (src x6 s7) s7).an fun c14 s15 => lp_law_arrows_1 w_found c14.ok c14.items () s15).thn fun j16 s17 => kt_law_arrows_1 w_found  s17
noncomputable def r_law_arrows : MF := runN fun xs => match xs with
  | [w_code] => n_law_arrows w_code
  | _ => fun _ => .bad
noncomputable def G_law_arrows : MF := frameG (r_law_arrows)

theorem atI_ends {a b n : Int} {k : Int} (h0 : 0 ≤ k) (h1 : k < 5) : ∃ e : Endd, atI [(Endd.go a).d, (Endd.go n).d, (Endd.iff (.v "i") a b).d, (Endd.iff (.v "i") n a).d, Endd.back.d] k = some e.d ∧ (∀ x ∈ e.all, x = a ∨ x = b ∨ x = n) ∧ ∀ o x y, e = .iff o x y → o = .v "i" := by
  have : k = 0 ∨ k = 1 ∨ k = 2 ∨ k = 3 ∨ k = 4 := by omega
  rcases this with rfl | rfl | rfl | rfl | rfl
  · exact ⟨.go a, rfl, fun x hx => by simp [Endd.all] at hx; exact .inl hx, fun o x y h => by cases h⟩
  · exact ⟨.go n, rfl, fun x hx => by simp [Endd.all] at hx; exact .inr (.inr hx), fun o x y h => by cases h⟩
  · exact ⟨.iff (.v "i") a b, rfl, fun x hx => by simp [Endd.all] at hx; rcases hx with h | h; exact .inl h; exact .inr (.inl h), fun o x y h => by cases h; rfl⟩
  · exact ⟨.iff (.v "i") n a, rfl, fun x hx => by simp [Endd.all] at hx; rcases hx with h | h; exact .inr (.inr h); exact .inl h, fun o x y h => by cases h; rfl⟩
  · exact ⟨.back, rfl, fun x hx => by simp [Endd.all] at hx, fun o x y h => by cases h⟩
theorem nb_law_graph_eq {dr : MF} {Fd : Nat → Ob → Prop} (D : DrawSp dr Fd) {j : Nat} {f : Ob} {m i : Int} {acc : List Vl} (hf : Fd j f) (hj : j ≤ 900000) (m1 : 1 ≤ m) (m2 : m ≤ 6) (hacc : acc.length ≤ 100) :
    ∃ (b : Blk) (f' : Ob), nb_law_graph_1 dr (.ref 0) (.dat (.int m)) (.ref 1) (.dat (.int i)) [f, .lst acc] = .nx () [f', .lst (acc ++ [.dat b.d])] ∧ Fd (j + 3) f' ∧ (∀ x ∈ b.fin.all, 0 ≤ x ∧ x < m) ∧ b.rows = [] ∧ ∀ o x y, b.fin = .iff o x y → o = .v "i" := by
  obtain ⟨a, fa, ha, hfa, a0, a1⟩ := D.go0 (t := [.lst acc]) hf (by omega) m1 (show m < 1073741824 by omega)
  obtain ⟨b, fb, hb, hfb, b0, b1⟩ := D.go0 (t := [.lst acc]) hfa (by omega) m1 (show m < 1073741824 by omega)
  obtain ⟨k, fk, hk, hfk, k0, k1⟩ := D.go0 (t := [.lst acc]) (m := 5) hfb (by omega) (by decide) (by decide)
  have hm : (0 : Int) < m := by omega
  have n0 := Int.emod_nonneg (i + 1) (show m ≠ 0 by omega)
  have n1 := Int.emod_lt_of_pos (i + 1) hm
  obtain ⟨e, he, hx, hio⟩ := atI_ends (a := a) (b := b) (n := (i + 1) % m) k0 k1
  have hm2 : acc.length < mil := by unfold mil; omega
  refine ⟨⟨[], e⟩, fk, ?_, hfk, fun x hx' => ?_, rfl, hio⟩
  · have he' : atI [PyData.tuple [.str "go", .int a], .tuple [.str "go", .int ((i + 1) % m)], .tuple [.str "if", .str "i", .int a, .int b], .tuple [.str "if", .str "i", .int ((i + 1) % m), .int a], .tuple [.str "back"]] k = some e.d := he
    simp [nb_law_graph_1, ha, hb, hk, phMod_p hm, he', appN, lstAt, hm2, Blk.d, rowsD]
  · rcases hx x hx' with rfl | rfl | rfl
    · exact ⟨a0, a1⟩
    · exact ⟨b0, b1⟩
    · exact ⟨n0, n1⟩
theorem lp_law_graph_eq {dr : MF} {Fd : Nat → Ob → Prop} (D : DrawSp dr Fd) {m : Int} (m1 : 1 ≤ m) (m2 : m ≤ 6) {L : Type} : ∀ (k : Nat) (i : Int) (j : Nat) (f : Ob) (bs : List Blk), Fd j f → j + 3 * k ≤ 900000 → bs.length + k ≤ 100 →
    ∃ f' bs', (lp_law_graph_1 (L := L) dr (.ref 0) (.dat (.int m)) (.ref 1) okT (rgs i k) () [f, .lst (bs.map fun b => .dat b.d)]) = .nx () [f', .lst ((bs ++ bs').map fun b => .dat b.d)] ∧ Fd (j + 3 * k) f' ∧ bs'.length = k ∧ ∀ b ∈ bs', (∀ x ∈ b.fin.all, 0 ≤ x ∧ x < m) ∧ b.rows = [] ∧ ∀ o x y, b.fin = .iff o x y → o = .v "i"
  | 0, i, j, f, bs, hf, hj, hl => ⟨f, [], by simp [rgs_zero], hf, rfl, fun b hb => by cases hb⟩
  | k + 1, i, j, f, bs, hf, hj, hl => by
    obtain ⟨b, f1, h1, hf1, hx⟩ := nb_law_graph_eq (i := i) (acc := bs.map fun b => .dat b.d) D hf (by omega) m1 m2 (by simp; omega)
    obtain ⟨f', bs', h2, hf2, hl2, hx2⟩ := lp_law_graph_eq D m1 m2 (L := L) k (i + 1) (j + 3) f1 (bs ++ [b]) hf1 (by omega) (by simp; omega)
    refine ⟨f', b :: bs', ?_, D.mono hf2 (by omega), by simp [hl2], fun y hy => ?_⟩
    · rw [rgs_succ, lp_law_graph_1_cons]
      simp only [List.map_append, List.map_cons, List.map_nil] at h2
      simp [h1, tidy_same, h2]
    · rcases List.mem_cons.mp hy with rfl | hy
      · exact hx
      · exact hx2 y hy
theorem datas_dats {α : Type} {f : α → PyData} : ∀ l : List α, datas (l.map fun x => Vl.dat (f x)) = some (l.map f)
  | [] => rfl
  | x :: l => by
    show (datas (l.map fun x => Vl.dat (f x))).map (f x :: ·) = _
    rw [datas_dats l]
    rfl
theorem G_law_graph_eq {dr : MF} {Fd : Nat → Ob → Prop} (D : DrawSp dr Fd) {j : Nat} {f : Ob} {t : Sto} {q : Int} (hf : Fd j f) (hj : j ≤ 800000) (q1 : 1 ≤ q) (q2 : q ≤ 6) : ∃ bs f', G_law_graph dr [.ref 0, .dat (.int q)] (f :: t) = .ok (.dat (cod2 bs).d) (f' :: t) ∧ Fd (j + 30) f' ∧ GrOk bs ∧ (bs.length : Int) ≤ q := by
  obtain ⟨k, f1, h1, hf1, k0, k1⟩ := D.go0 (t := []) hf (by omega) q1 (show q < 1073741824 by omega)
  obtain ⟨n, hn⟩ : ∃ n : Nat, 1 + k = (n : Int) := ⟨(1 + k).toNat, by omega⟩
  obtain ⟨f', bs, h2, hf2, hl2, hx2⟩ := lp_law_graph_eq D (m := (n : Int)) (by omega) (by omega) (L := Empty) n 0 (j + 1) f1 [] hf1 (by omega) (by show 0 + n ≤ 100; omega)
  refine ⟨bs, f', fr1 (o' := f') (more := [.lst (bs.map fun b => .dat b.d)]) ?_ rfl (D.ok hf) (D.ok hf2), D.mono hf2 (by omega), ⟨by omega, by omega, fun b hb => by rw [hl2]; exact (hx2 b hb).1, fun b hb => (hx2 b hb).2⟩, by omega⟩
  have hseq : phTuple [.ref 1] [f', .lst (bs.map fun b => .dat b.d)] = some (.dat (.tuple (bs.map Blk.d))) := by
    show (datas (bs.map fun b => .dat b.d)).map _ = _
    rw [datas_dats]
    rfl
  simp only [List.nil_append, List.map_nil] at h2
  rw [r_law_graph, runN_ap]
  refine wp_of (Q := fun z => An.fin z = _) ?_
  simp only [n_law_graph]
  refine wp_an (by simp [h1, hn]; first | done | rfl | exact ⟨rfl, rfl⟩) ?_
  refine wp_an (by simp []; first | done | rfl | exact ⟨rfl, rfl⟩) ?_
  refine wp_thn (by simp [rngN1_n (show n ≤ mil by unfold mil; omega), src_ok_none, h2]; first | done | rfl | exact ⟨rfl, rfl⟩) ?_
  simp [Wp, kt_law_graph_1, hseq, cod2, Cod.d, objsD, objD, rtD, blksD]
/-! ### arrows -/
def arrD (bs : List Blk) : PyData := .list (bs.map fun b => .list (b.fin.all.map PyData.int))
theorem ints_of {x2 x3 x4 : Option Vl} {rows : PyData} (e : Endd) (hio : ∀ o x y, e = .iff o x y → o = .v "i") (s : Sto) : mLc (iSeq (mVar 3)) (gmName 4) (mTru (m1 (phIsi isaInt) (mVar 4))) (mVar 4) [4] [none, some (.ref 0), some (.dat rows), some (.dat e.d), none] s = .ok (.dat (.list (e.all.map PyData.int))) s := by
  have key : ∀ ds : List PyData, e.d = .tuple ds → ds.length ≤ 1000 → (ds.filter isaInt) = e.all.map PyData.int → mLc (iSeq (mVar 3)) (gmName 4) (mTru (m1 (phIsi isaInt) (mVar 4))) (mVar 4) [4] [none, some (.ref 0), some (.dat rows), some (.dat e.d), none] s = .ok (.dat (.list (e.all.map PyData.int))) s := by
    intro ds h1 h2 h3
    rw [h1, ← h3]
    have := lc_data (it := iSeq (mVar 3)) (gm := gmName 4) (t := mTru (m1 (phIsi isaInt) (mVar 4))) (e := mVar 4) (vs := [4]) (ρ := [none, some (.ref 0), some (.dat rows), some (.dat (.tuple ds)), none]) (s := s) (s1 := s) (ds := ds) isaInt (fun d => d) rfl (fun d hd => ⟨_, rfl, rfl, fun _ => rfl⟩) (th_mil h2)
    rw [List.map_id'] at this
    exact this
  cases e with
  | go a => exact key _ rfl (by simp) rfl
  | iff o a b =>
    have := hio o a b rfl
    subst this
    exact key _ rfl (by simp) rfl
  | back => exact key _ rfl (by decide) rfl
theorem lp_law_arrows_eq {L : Type} : ∀ (bs : List Blk) (acc : List Vl), acc.length + bs.length ≤ 1000 → (∀ b ∈ bs, ∀ o x y, b.fin = .iff o x y → o = .v "i") → (lp_law_arrows_1 (L := L) (.ref 0) okT (bs.map fun b => .dat b.d) () [.lst acc]) = .nx () [.lst (acc ++ bs.map fun b => .dat (.list (b.fin.all.map PyData.int)))]
  | [], acc, _, _ => by simp
  | b :: bs, acc, h, hio => by
    have h' : acc.length + (bs.length + 1) ≤ 1000 := h
    have hm : acc.length < mil := by unfold mil; omega
    have ih := lp_law_arrows_eq (L := L) bs (acc ++ [.dat (.list (b.fin.all.map PyData.int))]) (by simp; omega) (fun c hc => hio c (List.mem_cons_of_mem _ hc))
    rw [List.map_cons, lp_law_arrows_1_cons]
    have e := ints_of (x2 := none) (x3 := none) (x4 := none) (rows := rowsD b.rows) b.fin (hio b List.mem_cons_self)
    simp [show b.d = .tuple [rowsD b.rows, b.fin.d] from rfl, nb_law_arrows_1, appN, lstAt, e, hm, tidy_same, ih]
theorem G_law_arrows_eq {bs : List Blk} (h : GrOk bs) (s : Sto) : G_law_arrows [.dat (cod2 bs).d] s = .ok (.dat (arrD bs)) s := by
  have hl := h.few
  have e := lp_law_arrows_eq (L := Empty) bs [] (by simp; omega) (fun b hb => (h.nor b hb).2)
  refine fr0l (m := 0) (s2 := [.lst (bs.map fun b => .dat (.list (b.fin.all.map PyData.int)))]) ?_ (by simp) 
  simp [r_law_arrows, runN_ap, n_law_arrows, cod2, Cod.d, rtD, blksD, src_ok_none, Function.comp_def, e, kt_law_arrows_1]
end Pm
set_option maxRecDepth 100000
set_option maxHeartbeats 4000000
namespace Pm
open PySem PySem.Spec PyProof.Rows L2 Sw

/-! ### bends -/
theorem sIx_at (n d k : Nat) (h : k ≤ n) : HT.sIx n d (some (k : Int)) = k := by rw [HT.sIx_nat]; omega
theorem cut_to {α : Type} (ds : List α) {k : Nat} (h : k ≤ ds.length) : cut ds none (some (k : Int)) = ds.take k := by
  unfold cut
  rw [sIx_at _ _ _ h]
  show (ds.drop 0).take (k - 0) = _
  simp
theorem cut_from {α : Type} (ds : List α) {k : Nat} (h : k ≤ ds.length) : cut ds (some (k : Int)) none = ds.drop k := by
  unfold cut
  rw [sIx_at _ _ _ h]
  show (ds.drop k).take (ds.length - k) = _
  rw [List.take_of_length_le (by rw [List.length_drop]; omega)]
theorem cut_from1 {α : Type} (ds : List α) {q : Nat} (hq : q ≤ ds.length) : cut ds (some ((q : Int) + 1)) none = ds.drop (q + 1) := by
  by_cases h : q + 1 ≤ ds.length
  · exact cut_from ds h
  · have : q = ds.length := by omega
    subst this
    unfold cut
    rw [show ((ds.length : Int) + 1) = ((ds.length + 1 : Nat) : Int) by simp, HT.sIx_nat]
    rw [show min (ds.length + 1) ds.length = ds.length by omega]
    simp
section
variable {M l m B : Nat} {ds es : List PyData}
theorem fitT (h : Fit M l m B (.tuple ds)) (hm : ∀ x ∈ es, x ∈ ds ∨ (leaf (M + 1) x = true ∧ lens (2 * l + 2) x = true ∧ x.depth ≤ m + 1)) (hl : es.length ≤ 2 * l + 2) (hw : wtAll es + 5 ≤ 2 * B + 1100) : Fit (M + 1) (2 * l + 2) (m + 2) (2 * B + 1100) (.tuple es) := by
  obtain ⟨h1, h2, h3, h4⟩ := h.inTup
  refine Fit.tup hl (fun x hx => ?_) hw
  rcases hm x hx with z | z
  · have := (h4 x z).mono (show M ≤ M + 1 by omega) (show l ≤ 2 * l + 2 by omega) (show m - 1 ≤ m + 1 by omega) (Nat.le_refl _)
    exact ⟨this.lf, this.ln, this.dp⟩
  · exact z
theorem wt_cut (k : Nat) (x : PyData) (h : ds[k]? = some x) : wtAll (ds.take k) + (wt x + 2) + wtAll (ds.drop (k + 1)) = wtAll ds := by
  obtain ⟨hk, hx⟩ := List.getElem?_eq_some_iff.mp h
  have e : ds = ds.take k ++ x :: ds.drop (k + 1) := by
    rw [← hx, ← List.drop_eq_getElem_cons hk, List.take_append_drop]
  have : wtAll ds = wtAll (ds.take k ++ x :: ds.drop (k + 1)) := by rw [← e]
  rw [this, wtAll_append]
  simp only [wtAll]
  omega
end
/-- odd things -/
structure OddOk (O : List PyData) : Prop where
  pos : 0 < O.length
  few : O.length ≤ 1000
  fit : ∀ o ∈ O, Fit (10 ^ 199) 2 2 520 o
theorem OddOk.any {O : List PyData} (h : OddOk O) {M l m B : Nat} (hM : 10 ^ 199 ≤ M) {o : PyData} (ho : o ∈ O) : Fit (M + 1) (2 * l + 2) (m + 2) (2 * B + 1100) o := (h.fit o ho).mono (Nat.le_trans hM (Nat.le_succ _)) (by omega) (by omega) (by omega)
/-- one of a list, drawn -/
theorem pickD {dr : MF} {Fd : Nat → Ob → Prop} (D : DrawSp dr Fd) {j : Nat} {f : Ob} {t : Sto} {O : List PyData} (h0 : 0 < O.length) (h1 : O.length ≤ 1000) (hf : Fd j f) (hj : j ≤ 999999) : ∃ (k : Int) (f' : Ob) (o : PyData), dr [.ref 0, .dat (.int (O.length : Int))] (f :: t) = .ok (.dat (.int k)) (f' :: t) ∧ Fd (j + 1) f' ∧ atI O k = some o ∧ o ∈ O := by
  obtain ⟨k, f', h, hf', k0, k1⟩ := D.go0 (t := t) (m := O.length) hf (by omega) (by omega) (by omega)
  obtain ⟨q, rfl⟩ : ∃ q : Nat, k = q := ⟨k.toNat, by omega⟩
  have hq : q < O.length := by omega
  exact ⟨_, f', O[q], h, hf', by rw [atI_nat', List.getElem?_eq_getElem hq], List.getElem_mem hq⟩
noncomputable def n_law_bend_k13 (dr : MF) (rec : MF) (w_feed_here : Vl) (w_thing : Vl) (w_odd_here : Vl) : Sto → An Unit Empty := fun s =>
  (((R.of (phIsi isaTup w_thing s) s).bind fun x1 s2 => R.of (tru x1 s2) s2).bind fun c3 s4 => if c3 = true then (((R.of (tupN []) s4).bind fun x5 s6 => R.of (phNe w_thing x5 s6) s6).bind fun x7 s8 => R.of (bool? x7) s8).bind fun c9 s10 => if c9 = true then ((callN 2 dr [w_feed_here, (Vl.dat (.int 4))] s10).bind fun x11 s12 => R.of (phGt x11 (Vl.dat (.int 0)) s12) s12).bind fun x13 s14 => R.of (bool? x13) s14 else R.ok false s10 else R.ok false s4).an fun c15 s16 => if c15 = true then
    (((((R.of (phLen [w_thing] s16) s16).bind fun x18 s19 => R.ok [x18] s19).bind fun l20 s21 => R.ok (w_feed_here :: l20) s21).bind fun l22 s23 => callN 2 dr l22 s23).an fun w_at s17 =>
      ((((R.of ((int? w_at).map some) s17).bind fun o24 s25 => R.of (phSl w_thing none o24 s25) s25).bind fun x26 s27 => ((((((R.of (phIx w_thing w_at s27) s27).bind fun x28 s29 => R.ok [x28, w_odd_here] s29).bind fun l30 s31 => R.ok (w_feed_here :: l30) s31).bind fun l32 s33 => callN 3 rec l32 s33).bind fun x34 s35 => R.ok [x34] s35).bind fun l36 s37 => R.of (tupN l36) s37).bind fun x38 s39 => R.of (phAdd x26 x38 s39) s39).bind fun x40 s41 => (((R.of (phAdd w_at (Vl.dat (.int 1)) s41) s41).bind fun x44 s45 => R.of ((int? x44).map some) s45).bind fun o42 s43 => R.of (phSl w_thing o42 none s43) s43).bind fun x46 s47 => R.of (phAdd x40 x46 s47) s47).an fun x48 s49 => .rt x48 s49 : An Empty _).up
    else
    (callN 2 dr [w_feed_here, (Vl.dat (.int 6))] s16).an fun w_way_here s50 =>
    (((R.of (phIsi isaTup w_thing s50) s50).bind fun x51 s52 => R.of (tru x51 s52) s52).bind fun c53 s54 => if c53 = true then (R.of (phLt w_way_here (Vl.dat (.int 4)) s54) s54).bind fun x55 s56 => R.of (bool? x55) s56 else R.ok false s54).an fun c57 s58 => if c57 = true then
    ((((((R.of (phLen [w_thing] s58) s58).bind fun x60 s61 => R.of (phAdd x60 (Vl.dat (.int 1)) s61) s61).bind fun x62 s63 => R.ok [x62] s63).bind fun l64 s65 => R.ok (w_feed_here :: l64) s65).bind fun l66 s67 => callN 2 dr l66 s67).an fun w_at s59 =>
      ((R.of (phEq w_way_here (Vl.dat (.int 0)) s59) s59).bind fun x68 s69 => R.of (bool? x68) s69).an fun c70 s71 => if c70 = true then
      (((((R.of ((int? w_at).map some) s71).bind fun o72 s73 => R.of (phSl w_thing none o72 s73) s73).bind fun x74 s75 => (((((((R.of (phLen [w_odd_here] s75) s75).bind fun x76 s77 => R.ok [x76] s77).bind fun l78 s79 => R.ok (w_feed_here :: l78) s79).bind fun l80 s81 => callN 2 dr l80 s81).bind fun x82 s83 => R.of (phIx w_odd_here x82 s83) s83).bind fun x84 s85 => R.ok [x84] s85).bind fun l86 s87 => R.of (tupN l86) s87).bind fun x88 s89 => R.of (phAdd x74 x88 s89) s89).bind fun x90 s91 => ((R.of ((int? w_at).map some) s91).bind fun o92 s93 => R.of (phSl w_thing o92 none s93) s93).bind fun x94 s95 => R.of (phAdd x90 x94 s95) s95).an fun x96 s97 => .rt x96 s97 : An Empty _).up
      else
      (((R.of (phEq w_way_here (Vl.dat (.int 1)) s71) s71).bind fun x98 s99 => R.of (bool? x98) s99).bind fun c100 s101 => if c100 = true then ((R.of ((int? w_at).map some) s101).bind fun o102 s103 => R.of (phSl w_thing none o102 s103) s103).bind fun x104 s105 => (((R.of (phAdd w_at (Vl.dat (.int 1)) s105) s105).bind fun x108 s109 => R.of ((int? x108).map some) s109).bind fun o106 s107 => R.of (phSl w_thing o106 none s107) s107).bind fun x110 s111 => R.of (phAdd x104 x110 s111) s111 else ((R.of (phEq w_way_here (Vl.dat (.int 2)) s101) s101).bind fun x112 s113 => R.of (bool? x112) s113).bind fun c114 s115 => if c114 = true then R.of (phList [w_thing] s115) s115 else ((R.of ((int? w_at).map some) s115).bind fun o116 s117 => R.of (phSl w_thing none o116 s117) s117).bind fun x118 s119 => R.of (phAdd w_thing x118 s119) s119).an fun x120 s121 => .rt x120 s121 : An Empty _).up
    else
    (((R.of (phIsi isaInt w_thing s58) s58).bind fun x122 s123 => R.of (tru x122 s123) s123).bind fun c124 s125 => if c124 = true then (R.of (phLt w_way_here (Vl.dat (.int 4)) s125) s125).bind fun x126 s127 => R.of (bool? x126) s127 else R.ok false s125).an fun c128 s129 => if c128 = true then
    (((((R.of (phAdd w_thing (Vl.dat (.int 1)) s129) s129).bind fun x130 s131 => ((R.of (phSub w_thing (Vl.dat (.int 1)) s131) s131).bind fun x132 s133 => ((R.of (phNeg w_thing s133) s133).bind fun x134 s135 => ((R.of (tupN [w_thing]) s135).bind fun x136 s137 => R.ok [x136] s137).bind fun l138 s139 => R.ok (x134 :: l138) s139).bind fun l140 s141 => R.ok (x132 :: l140) s141).bind fun l142 s143 => R.ok (x130 :: l142) s143).bind fun l144 s145 => R.of (tupN l144) s145).bind fun x146 s147 => R.of (phIx x146 w_way_here s147) s147).an fun x148 s149 => .rt x148 s149 : An Empty _).up
    else
    (((R.of (phIsi isaStr w_thing s129) s129).bind fun x150 s151 => R.of (tru x150 s151) s151).bind fun c152 s153 => if c152 = true then (R.of (phLt w_way_here (Vl.dat (.int 3)) s153) s153).bind fun x154 s155 => R.of (bool? x154) s155 else R.ok false s153).an fun c156 s157 => if c156 = true then
    (((((R.of (phAdd w_thing (Vl.dat (.str "a")) s157) s157).bind fun x158 s159 => (((R.of ((int? (Vl.dat (.int 1))).map some) s159).bind fun o160 s161 => R.of (phSl w_thing o160 none s161) s161).bind fun x162 s163 => ((R.of (lstN [w_thing]) s163).bind fun x164 s165 => R.ok [x164] s165).bind fun l166 s167 => R.ok (x162 :: l166) s167).bind fun l168 s169 => R.ok (x158 :: l168) s169).bind fun l170 s171 => R.of (tupN l170) s171).bind fun x172 s173 => R.of (phIx x172 w_way_here s173) s173).an fun x174 s175 => .rt x174 s175 : An Empty _).up
    else
    (((((R.of (phLen [w_odd_here] s157) s157).bind fun x176 s177 => R.ok [x176] s177).bind fun l178 s179 => R.ok (w_feed_here :: l178) s179).bind fun l180 s181 => callN 2 dr l180 s181).bind fun x182 s183 => R.of (phIx w_odd_here x182 s183) s183).an fun x184 s185 => .rt x184 s185
noncomputable def r_law_bend_k13 (dr : MF) (rec : MF) : MF := runN fun xs => match xs with
  | [w_feed_here, w_thing, w_odd_here] => n_law_bend_k13 dr rec w_feed_here w_thing w_odd_here
  | _ => fun _ => .bad
noncomputable def G_law_bend_k13 (dr : MF) : Nat → MF
  | 0 => fun _ _ => .bad
  | n + 1 => frameG (r_law_bend_k13 dr (G_law_bend_k13 dr n))

def BendQ (Fd : Nat → Ob → Prop) (j M l m B : Nat) (z : An Unit Empty) : Prop := ∃ d' f', z.fin = .ok (.dat d') [f'] ∧ Fd j f' ∧ Fit (M + 1) (2 * l + 2) (m + 2) (2 * B + 1100) d'
theorem G_law_bend_k13_eq {dr : MF} {Fd : Nat → Ob → Prop} (D : DrawSp dr Fd) {O : List PyData} (hO : OddOk O) : ∀ (m : Nat) {N M l B j : Nat} {d : PyData} {f : Ob} {t : Sto}, m ≤ N → m ≤ 60 → Fit M l m B d → 10 ^ 199 ≤ M → l ≤ 100 → B ≤ 100000 → Fd j f → j + 10 * m + 10 ≤ 900000 →
    ∃ d' f', G_law_bend_k13 dr (N + 1) [.ref 0, .dat d, .dat (.tuple O)] (f :: t) = .ok (.dat d') (f' :: t) ∧ Fd (j + 10 * m + 10) f' ∧ Fit (M + 1) (2 * l + 2) (m + 2) (2 * B + 1100) d' := by
  intro m
  induction m using Nat.strongRecOn with
  | _ m ih =>
  intro N M l B j d f t hN h60 hd hM hl hB hf hj
  have key : BendQ Fd (j + 10 * m + 10) M l m B (n_law_bend_k13 dr (G_law_bend_k13 dr N) (.ref 0) (.dat d) (.dat (.tuple O)) [f]) := by
    refine wp_of ?_
    simp only [n_law_bend_k13]
    refine wp_ex (fun c s => ∃ f1, s = [f1] ∧ Fd (j + 1) f1 ∧ (c = true → ∃ x r, d = .tuple (x :: r))) ?_ ?_
    · cases d with
      | tuple ds =>
        have hdp : (PyData.tuple ds).depth ≤ 64 := by have := hd.dp; omega
        have qn := fun s => phNe_d (s := s) hd.lf (show leaf M (.tuple []) = true from rfl) hdp (by show (PyData.tuple []).depth ≤ 64; decide)
        cases ds with
        | nil => exact ⟨false, [f], by simp [isaTup, qn, PyData.eqv, PyData.eqvAll], f, rfl, D.mono hf (by omega), fun z => by cases z⟩
        | cons x r =>
          obtain ⟨k, f1, h1, hf1, k0, k1⟩ := D.go0 (t := []) (m := 4) hf (by omega) (by decide) (by decide)
          exact ⟨decide (0 < k), [f1], by simp [isaTup, qn, PyData.eqv, PyData.eqvAll, h1], f1, rfl, hf1, fun _ => ⟨x, r, rfl⟩⟩
      | _ => exact ⟨false, [f], by simp [isaTup], f, rfl, D.mono hf (by omega), fun z => by cases z⟩
    rintro c _ ⟨f1, rfl, hf1, hc⟩
    cases c with
    | true =>
      obtain ⟨x0, xs0, rfl⟩ := hc rfl
      obtain ⟨d1, d2, d3, d4⟩ := hd.inTup
      generalize hds : x0 :: xs0 = ds at *
      have hpos : 0 < ds.length := by rw [← hds]; simp
      rw [if_pos rfl]
      refine wp_up ?_
      obtain ⟨a, fa, ha, hfa, a0, a1⟩ := D.go0 (t := []) (m := (ds.length : Int)) hf1 (by omega) (by omega) (by omega)
      obtain ⟨q, rfl⟩ : ∃ q : Nat, a = q := ⟨a.toNat, by omega⟩
      have hq : q < ds.length := by omega
      have eq : ds[q]? = some ds[q] := List.getElem?_eq_getElem hq
      have fx := d4 ds[q] (List.getElem_mem hq)
      have fx2 : Fit M l (m - 1) (wt ds[q]) ds[q] := ⟨fx.lf, fx.ln, fx.dp, Nat.le_refl _⟩
      have wq := wt_cut q _ eq
      obtain ⟨N, rfl⟩ : ∃ N', N = N' + 1 := ⟨N - 1, by omega⟩
      obtain ⟨e, f2, he, hf2, fe⟩ := ih (m - 1) (by omega) (N := N) (t := []) (by omega) (by omega) fx2 hM hl (by omega) hfa (by omega)
      have c2 := cut_to ds (show q ≤ ds.length by omega)
      have c3 := cut_from1 ds (show q ≤ ds.length by omega)
      have ea : atI ds (q : Int) = some ds[q] := by rw [atI_nat', eq]
      have k1 : ∀ s, phAdd (.dat (.tuple (ds.take q))) (.dat (.tuple [e])) s = some (.dat (.tuple (ds.take q ++ [e]))) := fun s => if_pos (by rw [List.length_take]; simp; unfold mil; omega)
      have k2 : ∀ s, phAdd (.dat (.tuple (ds.take q ++ [e]))) (.dat (.tuple (ds.drop (q + 1)))) s = some (.dat (.tuple (ds.take q ++ [e] ++ ds.drop (q + 1)))) := fun s => if_pos (by rw [List.length_append, List.length_take, List.length_drop]; simp; unfold mil; omega)
      refine wp_an (by simp [ha]; first | done | rfl | exact ⟨rfl, rfl⟩) ?_
      refine ⟨.tuple (ds.take q ++ [e] ++ ds.drop (q + 1)), f2, ?_, D.mono hf2 (by omega), fitT hd (fun x hx => ?_) ?_ ?_⟩
      · simp [-phAdd_t, ea, he, c2, c3, k1, k2, -List.append_assoc]
      · simp only [List.mem_append, List.mem_singleton] at hx
        rcases hx with (z | z) | z
        · exact .inl (List.mem_of_mem_take z)
        · right
          rw [z]
          exact ⟨fe.lf, fe.ln, by have := fe.dp; omega⟩
        · exact .inl (List.mem_of_mem_drop z)
      · simp only [List.length_append, List.length_take, List.length_drop, List.length_singleton]; omega
      · have := fe.wg
        simp only [wtAll_append, wtAll]
        omega
    | false =>
      rw [if_neg (by simp)]
      obtain ⟨w, f2, h1, hf2, w0, w1⟩ := D.go0 (t := []) (m := 6) hf1 (by omega) (by decide) (by decide)
      refine wp_an (by simp [h1]; first | done | rfl | exact ⟨rfl, rfl⟩) ?_
      obtain ⟨k, f3, o, ho, hf3, eo, om⟩ := pickD D (t := []) hO.pos hO.few hf2 (by omega)
      have fo := hO.any (l := l) (m := m) (B := B) hM om
      cases d with
      | none => exact ⟨o, f3, by simp [isaTup, isaInt, isaStr, ho, eo], D.mono hf3 (by omega), fo⟩
      | dict _ => have := hd.lf; simp [leaf] at this
      | list _ => exact ⟨o, f3, by simp [isaTup, isaInt, isaStr, ho, eo], D.mono hf3 (by omega), fo⟩
      | bool b =>
        by_cases hw : w < 4
        · have : w = 0 ∨ w = 1 ∨ w = 2 ∨ w = 3 := by omega
          have hb : (b2 b).natAbs ≤ 1 := by cases b <;> decide
          have M1 : 1 ≤ M := Nat.le_trans (Nat.pow_pos (by decide)) hM
          rcases this with rfl | rfl | rfl | rfl
          · exact ⟨.int (b2 b + 1), f2, by simp [isaTup, isaInt, phAdd, phSub, phNeg], D.mono hf2 (by omega), Fit.int (by omega) (by omega)⟩
          · exact ⟨.int (b2 b - 1), f2, by simp [isaTup, isaInt, phAdd, phSub, phNeg], D.mono hf2 (by omega), Fit.int (by omega) (by omega)⟩
          · exact ⟨.int (-(b2 b)), f2, by simp [isaTup, isaInt, phAdd, phSub, phNeg], D.mono hf2 (by omega), Fit.int (by omega) (by omega)⟩
          · exact ⟨.tuple [.bool b], f2, by simp [isaTup, isaInt, phAdd, phSub, phNeg], D.mono hf2 (by omega), Fit.tup (n := m + 1) (by simp) (fun x hx => by
              have : x = .bool b := by simpa using hx
              subst this
              exact ⟨rfl, rfl, Nat.zero_le _⟩) (by simp [wtAll, wt])⟩
        · exact ⟨o, f3, by simp [isaTup, isaInt, isaStr, ho, eo, hw], D.mono hf3 (by omega), fo⟩
      | int i =>
        have hi : i.natAbs ≤ M := by simpa [leaf] using hd.lf
        have hB2 : 250 ≤ B := by simpa [wt] using hd.wg
        by_cases hw : w < 4
        · have : w = 0 ∨ w = 1 ∨ w = 2 ∨ w = 3 := by omega
          rcases this with rfl | rfl | rfl | rfl
          · exact ⟨.int (i + 1), f2, by simp [isaTup, isaInt], D.mono hf2 (by omega), Fit.int (by omega) (by omega)⟩
          · exact ⟨.int (i - 1), f2, by simp [isaTup, isaInt], D.mono hf2 (by omega), Fit.int (by omega) (by omega)⟩
          · exact ⟨.int (-i), f2, by simp [isaTup, isaInt], D.mono hf2 (by omega), Fit.int (by omega) (by omega)⟩
          · exact ⟨.tuple [.int i], f2, by simp [isaTup, isaInt], D.mono hf2 (by omega), Fit.tup (n := m + 1) (by simp) (fun x hx => by
              have : x = .int i := by simpa using hx
              subst this
              exact ⟨by simp only [leaf, decide_eq_true_eq]; omega, rfl, Nat.zero_le _⟩) (by simp [wtAll, wt]; try omega)⟩
        · exact ⟨o, f3, by simp [isaTup, isaInt, isaStr, ho, eo, hw], D.mono hf3 (by omega), fo⟩
      | str x =>
        have hx := leaf_str.mp hd.lf
        have hB2 : 10 * x.length + 5 ≤ B := by simpa [wt] using hd.wg
        by_cases hw : w < 3
        · have : w = 0 ∨ w = 1 ∨ w = 2 := by omega
          have ha : ∀ s, phAdd (.dat (.str x)) (.dat (.str "a")) s = some (.dat (.str (x ++ "a"))) := fun s => by
            simp only [phAdd]
            rw [if_pos (show x.length + (("a" : Str)).length ≤ mil by have : (("a" : Str)).length = 1 := rfl; unfold mil; omega)]
          have hs : ∀ s, phSl (.dat (.str x)) (some 1) none s = some (.dat (.str (cutS x (some 1) none))) := fun s => rfl
          rcases this with rfl | rfl | rfl
          · refine ⟨.str (x ++ "a"), f2, by simp [isaTup, isaInt, isaStr, ha, hs], D.mono hf2 (by omega), Fit.str (fun c hc => ?_) ?_⟩
            · have hc : c ∈ (x.cps ++ ("a" : Str).cps).toList := hc
              rw [Array.toList_append] at hc
              rcases List.mem_append.mp hc with z | z
              · exact hx c z
              · have z' : c ∈ [97] := z
                have : c = 97 := by simpa using z'
                omega
            · rw [str_cat_len]
              have : (("a" : Str)).length = 1 := rfl
              omega
          · refine ⟨.str (cutS x (some 1) none), f2, by simp [isaTup, isaInt, isaStr, ha, hs], D.mono hf2 (by omega), Fit.str (fun c hc => ?_) ?_⟩
            · have hc : c ∈ (((x.cps.toList.drop _).take _).toArray).toList := hc
              rw [List.toList_toArray] at hc
              exact hx c (List.mem_of_mem_drop (List.mem_of_mem_take hc))
            · have := cutS_len x (some 1) none
              omega
          · exact ⟨.list [.str x], f2, by simp [isaTup, isaInt, isaStr, ha, hs], D.mono hf2 (by omega), Fit.lst (n := m + 1) (by simp) (fun y hy => by
              have : y = .str x := by simpa using hy
              subst this
              exact ⟨leaf_str.mpr hx, rfl, Nat.zero_le _⟩) (by simp [wtAll, wt]; omega)⟩
        · exact ⟨o, f3, by simp [isaTup, isaInt, isaStr, ho, eo, hw], D.mono hf3 (by omega), fo⟩
      | tuple ds =>
        obtain ⟨d1, d2, d3, d4⟩ := hd.inTup
        by_cases hw : w < 4
        rotate_left
        · exact ⟨o, f3, by simp [isaTup, isaInt, isaStr, ho, eo, hw], D.mono hf3 (by omega), fo⟩
        obtain ⟨a, fa, ha, hfa, a0, a1⟩ := D.go0 (t := []) (m := (ds.length : Int) + 1) hf2 (by omega) (by omega) (by omega)
        obtain ⟨q, rfl⟩ : ∃ q : Nat, a = q := ⟨a.toNat, by omega⟩
        have hq : q ≤ ds.length := by omega
        have c1 := cut_to ds hq
        have c2 := cut_from ds hq
        have c3 := cut_from1 ds hq
        have wt1 := wtAll_take ds q
        have wt2 := wtAll_drop ds q
        have wt3 := wtAll_drop ds (q + 1)
        have wt4 : wtAll (ds.take q) + wtAll (ds.drop q) = wtAll ds := by rw [← wtAll_append, List.take_append_drop]
        have l1 : (ds.take q).length ≤ ds.length := by rw [List.length_take]; omega
        have sub : ∀ {es : List PyData}, (∀ x ∈ es, x ∈ ds) → es.length ≤ 2 * l + 2 → wtAll es + 5 ≤ 2 * B + 1100 → Fit (M + 1) (2 * l + 2) (m + 2) (2 * B + 1100) (.tuple es) := fun h1 h2 h3 => fitT hd (fun x hx => .inl (h1 x hx)) h2 h3
        refine wp_if (b := true) (s := [f2]) (by simp [isaTup, hw]) ?_
        rw [if_pos rfl]
        refine wp_up ?_
        refine wp_an (by simp [ha]; first | done | rfl | exact ⟨rfl, rfl⟩) ?_
        have : w = 0 ∨ w = 1 ∨ w = 2 ∨ w = 3 := by omega
        rcases this with rfl | rfl | rfl | rfl
        · obtain ⟨k, f3, o, ho, hf3, eo, om⟩ := pickD D (t := []) hO.pos hO.few hfa (by omega)
          have hlen : (ds.take q).length + 1 + (ds.drop q).length ≤ mil := by rw [List.length_take, List.length_drop]; unfold mil; omega
          have hlen2 : (ds.take q).length + 1 ≤ mil := by unfold mil; omega
          refine ⟨.tuple (ds.take q ++ [o] ++ ds.drop q), f3, ?_, D.mono hf3 (by omega), fitT hd (fun x hx => ?_) ?_ ?_⟩
          · have k1 : ∀ s, phAdd (.dat (.tuple (ds.take q))) (.dat (.tuple [o])) s = some (.dat (.tuple (ds.take q ++ [o]))) := fun s => if_pos hlen2
            have k2 : ∀ s, phAdd (.dat (.tuple (ds.take q ++ [o]))) (.dat (.tuple (ds.drop q))) s = some (.dat (.tuple (ds.take q ++ [o] ++ ds.drop q))) := fun s => if_pos (by rw [List.length_append]; exact hlen)
            simp [-phAdd_t, c1, c2, ho, eo, k1, k2, -List.append_assoc]
          · simp only [List.mem_append, List.mem_singleton] at hx
            rcases hx with (z | z) | z
            · exact .inl (List.mem_of_mem_take z)
            · right
              rw [z]
              have := hO.any (l := l) (m := m) (B := B) hM om
              have h2 := (hO.fit o om).dp
              exact ⟨this.lf, this.ln, by omega⟩
            · exact .inl (List.mem_of_mem_drop z)
          · simp only [List.length_append, List.length_take, List.length_drop, List.length_singleton]; omega
          · have := (hO.fit o om).wg
            simp only [wtAll_append, wtAll]
            omega
        · refine ⟨.tuple (ds.take q ++ ds.drop (q + 1)), fa, ?_, D.mono hfa (by omega), sub (fun x hx => ?_) ?_ ?_⟩
          · have k1 : ∀ s, phAdd (.dat (.tuple (ds.take q))) (.dat (.tuple (ds.drop (q + 1)))) s = some (.dat (.tuple (ds.take q ++ ds.drop (q + 1)))) := fun s => if_pos (by rw [List.length_take, List.length_drop]; unfold mil; omega)
            simp [-phAdd_t, c1, c3, k1]
          · rcases List.mem_append.mp hx with z | z
            · exact List.mem_of_mem_take z
            · exact List.mem_of_mem_drop z
          · rw [List.length_append, List.length_take, List.length_drop]; omega
          · rw [wtAll_append]
            have : wtAll (ds.drop (q + 1)) ≤ wtAll (ds.drop q) := by
              rw [show ds.drop (q + 1) = (ds.drop q).drop 1 by rw [List.drop_drop]]
              exact wtAll_drop _ _
            omega
        · exact ⟨.list ds, fa, by simp, D.mono hfa (by omega), Fit.lst (n := m + 1) (by omega) (fun x hx => by
            have := (d4 x hx).mono (show M ≤ M + 1 by omega) (show l ≤ 2 * l + 2 by omega) (show m - 1 ≤ m + 1 by omega) (Nat.le_refl _)
            exact ⟨this.lf, this.ln, this.dp⟩) (by omega)⟩
        · refine ⟨.tuple (ds ++ ds.take q), fa, ?_, D.mono hfa (by omega), sub (fun x hx => ?_) ?_ ?_⟩
          · have k1 : ∀ s, phAdd (.dat (.tuple ds)) (.dat (.tuple (ds.take q))) s = some (.dat (.tuple (ds ++ ds.take q))) := fun s => if_pos (by rw [List.length_take]; unfold mil; omega)
            simp [-phAdd_t, c1, k1]
          · rcases List.mem_append.mp hx with z | z
            · exact z
            · exact List.mem_of_mem_take z
          · rw [List.length_append, List.length_take]; omega
          · rw [wtAll_append]; omega
  obtain ⟨d', f', e, h1, h2⟩ := key
  exact ⟨d', f', fr1 (g := r_law_bend_k13 dr (G_law_bend_k13 dr N)) (more := []) e rfl (D.ok hf) (D.ok h1), h1, h2⟩
end Pm
set_option maxRecDepth 100000
set_option maxHeartbeats 4000000
namespace Pm
open PySem PySem.Spec PyProof.Rows L2 Sw

/-! ### ways around -/
theorem atI_in {α : Type} {l : List α} {b : Int} (h0 : 0 ≤ b) (h1 : b < (l.length : Int)) : ∃ x, atI l b = some x ∧ x ∈ l := by
  obtain ⟨n, rfl⟩ : ∃ n : Nat, b = n := ⟨b.toNat, by omega⟩
  have hn : n < l.length := by omega
  exact ⟨l[n], by rw [atI_nat', List.getElem?_eq_getElem hn], List.getElem_mem hn⟩
theorem atI_last {α : Type} (l : List α) : atI l (-1) = l.getLast? := by
  unfold atI ixN
  rw [if_neg (by omega), List.getLast?_eq_getElem?]
  by_cases h : l.length = 0
  · rw [if_neg (by omega), List.getElem?_eq_none (by omega)]
    rfl
  · rw [if_pos (by omega)]
    show l[(-1 + (l.length : Int)).toNat]? = _
    rw [show (-1 + (l.length : Int)).toNat = l.length - 1 by omega]
/-- all goals of a block as they stand -/
def allB (bs : List Blk) (b : Int) : List Int := match atI bs b with
  | some k => k.fin.all
  | none => []
theorem mem_goalsB {bs : List Blk} {b k : Int} : k ∈ goalsB bs b ↔ k ∈ allB bs b := by
  unfold goalsB allB
  cases atI bs b with
  | none => exact Iff.rfl
  | some x => exact mem_risI
/-- how numbers are judged as a way around, from the goals of the one ahead on -/
def arN (g : Int → List Int) (o : Int) : List Int → Nat → List Int → Option (Str × Int)
  | _, _, [] => none
  | gs, k, b :: r => if b ∉ gs then some ("next", (k : Int)) else if b = o then some ("over", (k : Int)) else arN g o (g b) (k + 1) r
def arL (g : Int → List Int) (o u : Int) (ns : List Int) : Option (Str × Int) := match arN g o [0] 0 ns with
  | some p => some p
  | none => if ns.getLast? = some u then none else some ("last", -1)
def arJ (g : Int → List Int) (o u : Int) (d : PyData) : Option (Str × Int) := match d with
  | .tuple ds => (match nums ds with
    | some [] => some ("shape", -1)
    | some ns => arL g o u ns
    | none => some ("shape", -1))
  | _ => some ("shape", -1)
def papE (w : Str) (y : Int) : Exn := ("NoPaper", [("at", .int y), ("word", .str w)])
theorem nums_all : ∀ {ds : List PyData}, ds.all dNum = (nums ds).isSome
  | [] => rfl
  | d :: ds => by
    rw [List.all_cons, nums_all]
    cases d with
    | int i =>
      show (true && (nums ds).isSome) = ((nums ds).map (i :: ·)).isSome
      cases nums ds <;> rfl
    | _ => rfl
def mk_lets_around_1 (v_code : Vl) (v_name : Vl) (v_over : Vl) (v_under : Vl) (v_thing : Vl) : (Vl) → Loc := fun a => [some v_code, some v_name, some v_over, some v_under, some v_thing, some a, none, none]
noncomputable def nb_lets_around_1 (v_code : Vl) (v_name : Vl) (v_over : Vl) (v_under : Vl) (v_thing : Vl) (v_k : Vl) (v_block : Vl) (v_goals : Vl) : Sto → An (Vl) (Vl) := fun s =>
  ((R.of ((phIn true) v_block v_goals s) s).bind fun x18 s19 => R.of (bool? x18) s19).an fun c20 s21 => if c20 = true then
    ((R.ok [(Vl.dat (.str "next")), v_k] s21).an fun x22 s23 => raise2N "NoPaper" "word" "at" x22 s23 : An Empty _).up
    else
    ((R.of (phEq v_block v_over s21) s21).bind fun x24 s25 => R.of (bool? x24) s25).an fun c26 s27 => if c26 = true then
    ((R.ok [(Vl.dat (.str "over")), v_k] s27).an fun x28 s29 => raise2N "NoPaper" "word" "at" x28 s29 : An Empty _).up
    else
    (callN 3 G_nexts [v_code, v_name, v_block] s27).an fun v_goals s30 =>
    .nx v_goals s30
noncomputable def lp_lets_around_1 {L : Type} (v_code : Vl) (v_name : Vl) (v_over : Vl) (v_under : Vl) (v_thing : Vl) (ck : Sto → Prop) : List Vl → (Vl) → Sto → An (Vl) L := forN ck (mk_lets_around_1 v_code v_name v_over v_under v_thing) (fun v a s => patN ((pT2 pV pV) v) fun p => nb_lets_around_1 v_code v_name v_over v_under v_thing p.1 p.2 a s)
@[simp] theorem lp_lets_around_1_nil {L : Type} (v_code : Vl) (v_name : Vl) (v_over : Vl) (v_under : Vl) (v_thing : Vl) {a : (Vl)} {s : Sto} : (lp_lets_around_1 (L := L) v_code v_name v_over v_under v_thing okT [] a s) = .nx a s := forN_nil
theorem lp_lets_around_1_cons {L : Type} (v_code : Vl) (v_name : Vl) (v_over : Vl) (v_under : Vl) (v_thing : Vl) {v : Vl} {r : List Vl} {a : (Vl)} {s : Sto} : (lp_lets_around_1 (L := L) v_code v_name v_over v_under v_thing okT (v :: r) a s) = (patN ((pT2 pV pV) v) fun p => nb_lets_around_1 v_code v_name v_over v_under v_thing p.1 p.2 a s).lp (mk_lets_around_1 v_code v_name v_over v_under v_thing) s.length (lp_lets_around_1 v_code v_name v_over v_under v_thing okT r) := forN_cons
noncomputable def kt_lets_around_1 (v_code : Vl) (v_name : Vl) (v_over : Vl) (v_under : Vl) (v_thing : Vl) (v_goals : Vl) : Sto → An Unit Empty := fun s =>
  ((((R.of (phNeg (Vl.dat (.int 1)) s) s).bind fun x35 s36 => R.of (phIx v_thing x35 s36) s36).bind fun x37 s38 => R.of (phNe x37 v_under s38) s38).bind fun x39 s40 => R.of (bool? x39) s40).an fun c41 s42 => if c41 = true then
    ((((R.of (phNeg (Vl.dat (.int 1)) s42) s42).bind fun x43 s44 => R.ok [x43] s44).bind fun l45 s46 => R.ok ((Vl.dat (.str "last")) :: l45) s46).an fun x47 s48 => raise2N "NoPaper" "word" "at" x47 s48 : An Empty _).up
    else
    (R.ok (Vl.dat (.bool true)) s42).an fun x49 s50 => .rt x49 s50
noncomputable def n_lets_around (v_code : Vl) (v_name : Vl) (v_over : Vl) (v_under : Vl) (v_thing : Vl) : Sto → An Unit Empty := fun s =>
  ((((callN 1 G_is_numbers [v_thing] s).bind fun x1 s2 => R.of (tru x1 s2) s2).bind fun c3 s4 => R.ok (!c3) s4).bind fun c5 s6 => if c5 = true then R.ok true s6 else (R.of (tru v_thing s6) s6).bind fun c7 s8 => R.ok (!c7) s8).an fun c9 s10 => if c9 = true then
    ((((R.of (phNeg (Vl.dat (.int 1)) s10) s10).bind fun x11 s12 => R.ok [x11] s12).bind fun l13 s14 => R.ok ((Vl.dat (.str "shape")) :: l13) s14).an fun x15 s16 => raise2N "NoPaper" "word" "at" x15 s16 : An Empty _).up
    else
    (R.of (tupN [(Vl.dat (.int 0))]) s10).an fun v_goals s17 =>
    ((enN [v_thing] s17).an fun c31 s32 => lp_lets_around_1 v_code v_name v_over v_under v_thing c31.ok c31.items v_goals s32).thn fun j33 s34 => kt_lets_around_1 v_code v_name v_over v_under v_thing j33 s34
noncomputable def r_lets_around : MF := runN fun xs => match xs with
  | [v_code, v_name, v_over, v_under, v_thing] => n_lets_around v_code v_name v_over v_under v_thing
  | _ => fun _ => .bad
noncomputable def G_lets_around : MF := frameG (r_lets_around)

/-- blocks whose goals are blocks -/
def GoIn (bs : List Blk) : Prop := 0 < bs.length ∧ ∀ b ∈ bs, ∀ x ∈ b.fin.all, 0 ≤ x ∧ x < (bs.length : Int)
theorem GoIn.all {bs : List Blk} (h : GoIn bs) {b x : Int} (hx : x ∈ allB bs b) : 0 ≤ x ∧ x < (bs.length : Int) := by
  unfold allB at hx
  cases e : atI bs b with
  | none => rw [e] at hx; cases hx
  | some k =>
    rw [e] at hx
    refine h.2 k ?_ x hx
    unfold atI at e
    cases hi : ixN bs.length b with
    | none => rw [hi] at e; cases e
    | some j => rw [hi] at e; exact List.mem_of_getElem? e
theorem lp_lets_around_eq {c : Cod} {nm : Str} {bs : List Blk} (hc : c.rts.lookup nm = some bs) (ok : GoIn bs) {o u : Int} {th : Vl} {L : Type} (s : Sto) : ∀ (ns : List Int) (k : Nat) (gs : List Int), (∀ g ∈ gs, 0 ≤ g ∧ g < (bs.length : Int)) →
    ∃ v, (lp_lets_around_1 (L := L) (.dat c.d) (.dat (.str nm)) (.dat (.int o)) (.dat (.int u)) th okT (pairs (ns.map PyData.int) k) (.dat (intsD gs)) s) = (match arN (goalsB bs) o gs k ns with
      | some (w, y) => .ex (papE w y) s
      | none => .nx v s)
  | [], k, gs, _ => ⟨_, by
    show lp_lets_around_1 (L := L) _ _ _ _ _ okT [] _ _ = _
    rw [lp_lets_around_1_nil]
    rfl⟩
  | b :: r, k, gs, hg => by
    show ∃ v, lp_lets_around_1 (L := L) _ _ _ _ _ okT (.dat (.tuple [.int (k : Nat), .int b]) :: pairs (r.map PyData.int) (k + 1)) _ _ = _
    rw [lp_lets_around_1_cons]
    by_cases hm : b ∈ gs
    · by_cases ho : b = o
      · refine ⟨.dat .none, ?_⟩
        rw [arN, if_neg (not_not_intro hm), if_pos ho]
        subst ho
        simp [nb_lets_around_1, intsD, phIn_t, hm, papE]
      · obtain ⟨b0, b1⟩ := hg b hm
        obtain ⟨x, hx, _⟩ := atI_in b0 b1
        obtain ⟨v, hv⟩ := lp_lets_around_eq hc ok (o := o) (u := u) (th := th) (L := L) s r (k + 1) (goalsB bs b) (fun g hg => ok.all (mem_goalsB.mp hg))
        refine ⟨v, ?_⟩
        have eg : goalsB bs b = x.fin.goals := by unfold goalsB; rw [hx]
        rw [arN, if_neg (not_not_intro hm), if_neg ho, ← hv, eg]
        simp [nb_lets_around_1, intsD, phIn_t, hm, ho, G_nexts_eq hc hx, tidy_same]
    · refine ⟨.dat .none, ?_⟩
      rw [arN, if_pos hm]
      simp [nb_lets_around_1, intsD, phIn_t, hm, papE]
def saidR (j : Option (Str × Int)) (s : Sto) : R Vl := match j with
  | some (w, y) => .ex (papE w y) s
  | none => .ok (.dat (.bool true)) s
theorem G_lets_around_eq {c : Cod} {nm : Str} {bs : List Blk} (hc : c.rts.lookup nm = some bs) (ok : GoIn bs) {o u : Int} {d : PyData} (hd : ∀ ds, d = .tuple ds → ds.length ≤ 1000) (s : Sto) : G_lets_around [.dat c.d, .dat (.str nm), .dat (.int o), .dat (.int u), .dat d] s = saidR (arJ (goalsB bs) o u d) s := by
  have key : ∀ s, r_lets_around [.dat c.d, .dat (.str nm), .dat (.int o), .dat (.int u), .dat d] s = saidR (arJ (goalsB bs) o u d) s := fun s => by
    rw [r_lets_around, runN_ap]
    have e1 := fun s => G_is_numbers_eq d s fun ds h => th_mil (hd ds h)
    have sh : dNums d = false → (n_lets_around (.dat c.d) (.dat (.str nm)) (.dat (.int o)) (.dat (.int u)) (.dat d) s).fin = saidR (some ("shape", -1)) s := fun hn => by
      simp [n_lets_around, e1, hn, saidR, papE]
    cases d with
    | tuple ds =>
      cases en : nums ds with
      | none =>
        rw [show arJ (goalsB bs) o u (.tuple ds) = some (("shape" : Str), (-1 : Int)) by simp only [arJ, en]]
        exact sh (by show ds.all dNum = false; rw [nums_all, en]; rfl)
      | some ns =>
        have := nums_eq en
        subst this
        cases ns with
        | nil =>
          have e1' := e1
          simp only [List.map_nil] at e1' ⊢
          simp [arJ, nums, saidR, papE, n_lets_around, e1', dNums]
        | cons n r =>
          have hnn : dNums (.tuple ((n :: r).map PyData.int)) = true := by show List.all _ dNum = true; rw [nums_all, en]; rfl
          obtain ⟨v, h1⟩ := lp_lets_around_eq hc ok (o := o) (u := u) (th := .dat (.tuple ((n :: r).map PyData.int))) (L := Empty) s (n :: r) 0 [0] (fun g hg => by
            have : g = 0 := by simpa using hg
            have := ok.1
            omega)
          have hlast : atI ((n :: r).map PyData.int) (-1) = some (.int ((n :: r).getLast (by simp))) := by
            rw [atI_last, List.getLast?_map, List.getLast?_eq_some_getLast (by simp)]
            rfl
          have ej : arJ (goalsB bs) o u (.tuple ((n :: r).map PyData.int)) = arL (goalsB bs) o u (n :: r) := by
            simp only [arJ, nums_map]
          rw [ej]
          unfold arL
          rw [List.getLast?_eq_some_getLast (by simp)]
          generalize (n :: r).getLast (by simp) = l at hlast ⊢
          simp only [List.map_cons, intsD, List.map_nil] at h1 hnn e1 hlast ⊢
          simp [n_lets_around, e1, hnn, src_ok_none, h1]
          cases ea : arN (goalsB bs) o [0] 0 (n :: r) with
          | some p => simp [saidR]
          | none =>
            by_cases hu : l = u
            · simp [kt_lets_around_1, hlast, hu, saidR]
            · simp [kt_lets_around_1, hlast, hu, saidR, papE]
    | _ => rw [sh rfl]; rfl
  cases ej : arJ (goalsB bs) o u d with
  | none => exact fr0 (s2 := []) ((key []).trans (by rw [ej]; rfl))
  | some p => exact fr0x (s2 := []) ((key []).trans (by rw [ej]; rfl))
end Pm
set_option maxRecDepth 100000
set_option maxHeartbeats 4000000
namespace Pm
open PySem PySem.Spec PyProof.Rows L2 Sw

/-! ### how the law judges ways around -/
noncomputable def n_law_number_k01 (w_thing : Vl) : Sto → An Unit Empty := fun s =>
  ((R.of (phIsi isaInt w_thing s) s).bind fun x1 s2 => andN x1 s2 ((R.of (phIsNot w_thing (Vl.dat (.bool true)) s2) s2).bind fun x3 s4 => andN x3 s4 (R.of (phIsNot w_thing (Vl.dat (.bool false)) s4) s4))).an fun x5 s6 => .rt x5 s6
noncomputable def r_law_number_k01 : MF := runN fun xs => match xs with
  | [w_thing] => n_law_number_k01 w_thing
  | _ => fun _ => .bad
noncomputable def G_law_number_k01 : MF := frameG (r_law_number_k01)
def mk_law_arounded_k13_1 (w_arrows_here : Vl) (w_over : Vl) (w_under : Vl) (w_thing : Vl) : Unit → Loc := fun a => [some w_arrows_here, some w_over, some w_under, some w_thing, none, none]
noncomputable def nb_law_arounded_k13_1 (w_arrows_here : Vl) (w_over : Vl) (w_under : Vl) (w_thing : Vl) (w_k : Vl) : Sto → An Unit Unit := fun s =>
  (((R.of (phIx w_thing w_k s) s).bind fun x39 s40 => (((R.of (phEq w_k (Vl.dat (.int 0)) s40) s40).bind fun x41 s42 => R.of (bool? x41) s42).bind fun c43 s44 => if c43 = true then R.of (lstN [(Vl.dat (.int 0))]) s44 else ((R.of (phSub w_k (Vl.dat (.int 1)) s44) s44).bind fun x45 s46 => R.of (phIx w_thing x45 s46) s46).bind fun x47 s48 => R.of (phIx w_arrows_here x47 s48) s48).bind fun x49 s50 => R.of ((phIn true) x39 x49 s50) s50).bind fun x51 s52 => R.of (bool? x51) s52).an fun c53 s54 => if c53 = true then
    ((R.of (tupN [(Vl.dat (.str "no")), (Vl.dat (.str "next")), w_k]) s54).an fun x55 s56 => .rt x55 s56 : An Empty _).up
    else
    (((R.of (phIx w_thing w_k s54) s54).bind fun x57 s58 => R.of (phEq x57 w_over s58) s58).bind fun x59 s60 => R.of (bool? x59) s60).an fun c61 s62 => if c61 = true then
    (R.of (tupN [(Vl.dat (.str "no")), (Vl.dat (.str "over")), w_k]) s62).an fun x63 s64 => .rt x63 s64
    else
    .nx () s62
noncomputable def lp_law_arounded_k13_1 {L : Type} (w_arrows_here : Vl) (w_over : Vl) (w_under : Vl) (w_thing : Vl) (ck : Sto → Prop) : List Vl → Unit → Sto → An Unit L := forN ck (mk_law_arounded_k13_1 w_arrows_here w_over w_under w_thing) (fun v a s => patN (pV v) fun p => nb_law_arounded_k13_1 w_arrows_here w_over w_under w_thing p s)
@[simp] theorem lp_law_arounded_k13_1_nil {L : Type} (w_arrows_here : Vl) (w_over : Vl) (w_under : Vl) (w_thing : Vl) {a : Unit} {s : Sto} : (lp_law_arounded_k13_1 (L := L) w_arrows_here w_over w_under w_thing okT [] a s) = .nx a s := forN_nil
theorem lp_law_arounded_k13_1_cons {L : Type} (w_arrows_here : Vl) (w_over : Vl) (w_under : Vl) (w_thing : Vl) {v : Vl} {r : List Vl} {a : Unit} {s : Sto} : (lp_law_arounded_k13_1 (L := L) w_arrows_here w_over w_under w_thing okT (v :: r) a s) = (patN (pV v) fun p => nb_law_arounded_k13_1 w_arrows_here w_over w_under w_thing p s).lp (mk_law_arounded_k13_1 w_arrows_here w_over w_under w_thing) s.length (lp_law_arounded_k13_1 w_arrows_here w_over w_under w_thing okT r) := forN_cons
noncomputable def kt_law_arounded_k13_1 (w_arrows_here : Vl) (w_over : Vl) (w_under : Vl) (w_thing : Vl) : Sto → An Unit Empty := fun s =>
  (((((R.of (phNeg (Vl.dat (.int 1)) s) s).bind fun x69 s70 => R.of (phIx w_thing x69 s70) s70).bind fun x71 s72 => R.of (phEq x71 w_under s72) s72).bind fun x73 s74 => R.of (bool? x73) s74).bind fun c75 s76 => if c75 = true then R.of (tupN [(Vl.dat (.str "told")), (Vl.dat (.bool true))]) s76 else ((((R.of (phNeg (Vl.dat (.int 1)) s76) s76).bind fun x77 s78 => R.ok [x77] s78).bind fun l79 s80 => R.ok ((Vl.dat (.str "last")) :: l79) s80).bind fun l81 s82 => R.ok ((Vl.dat (.str "no")) :: l81) s82).bind fun l83 s84 => R.of (tupN l83) s84).an fun x85 s86 => .rt x85 s86
noncomputable def n_law_arounded_k13 (w_arrows_here : Vl) (w_over : Vl) (w_under : Vl) (w_thing : Vl) : Sto → An Unit Empty := fun s =>
  ((((R.of (phIsi isaTup w_thing s) s).bind fun x1 s2 => R.of (tru x1 s2) s2).bind fun c3 s4 => R.ok (!c3) s4).bind fun c5 s6 => if c5 = true then R.ok true s6 else (((R.of (tupN []) s6).bind fun x7 s8 => R.of (phEq w_thing x7 s8) s8).bind fun x9 s10 => R.of (bool? x9) s10).bind fun c11 s12 => if c11 = true then R.ok true s12 else (((mLc (iSeq (mVar 3)) (gmName 5) (tNotM (mTru (mCall 1 G_law_number_k01 (aCons (mVar 5) aNil)))) (mVar 5) [5]) [some w_arrows_here, some w_over, some w_under, some w_thing, none, none] s12).bind fun x17 s18 => (R.of (lstN []) s18).bind fun x19 s20 => R.of (phNe x17 x19 s20) s20).bind fun x21 s22 => R.of (bool? x21) s22).an fun c23 s24 => if c23 = true then
    ((((((R.of (phNeg (Vl.dat (.int 1)) s24) s24).bind fun x25 s26 => R.ok [x25] s26).bind fun l27 s28 => R.ok ((Vl.dat (.str "shape")) :: l27) s28).bind fun l29 s30 => R.ok ((Vl.dat (.str "no")) :: l29) s30).bind fun l31 s32 => R.of (tupN l31) s32).an fun x33 s34 => .rt x33 s34 : An Empty _).up
    else
    ((((R.of (phLen [w_thing] s24) s24).bind fun x35 s36 => R.ok [x35] s36).bind fun l37 s38 => rngN1 l37 s38).an fun c65 s66 => lp_law_arounded_k13_1 w_arrows_here w_over w_under w_thing c65.ok c65.items () s66).thn fun j67 s68 => kt_law_arounded_k13_1 w_arrows_here w_over w_under w_thing  s68
noncomputable def r_law_arounded_k13 : MF := runN fun xs => match xs with
  | [w_arrows_here, w_over, w_under, w_thing] => n_law_arounded_k13 w_arrows_here w_over w_under w_thing
  | _ => fun _ => .bad
noncomputable def G_law_arounded_k13 : MF := frameG (r_law_arounded_k13)
def mk_law_said_k13_1  : Unit → Loc := fun a => [none, none, none, none, none]
noncomputable def kt_law_said_k13_1  : Sto → An Unit Empty := fun s =>
  (R.of (tupN [(Vl.dat (.str "other"))]) s).an fun x40 s41 => .rt x40 s41
noncomputable def n_law_said_k13 (w_code : Vl) (w_over : Vl) (w_under : Vl) (w_thing : Vl) : Sto → An Unit Empty := fun s =>
  (tryN mk_law_said_k13_1 mkE (fun s1 =>
    ((((callN 5 G_lets_around [w_code, (Vl.dat (.str "main")), w_over, w_under, w_thing] s1).bind fun x4 s5 => R.ok [x4] s5).bind fun l6 s7 => R.ok ((Vl.dat (.str "told")) :: l6) s7).bind fun l8 s9 => R.of (tupN l8) s9).an fun x10 s11 => .rt x10 s11) (fun nm => if nm = "NoPaper" then some true else none) (fun e3 s2 =>
    (((R.of (phIsE "NoPaper" true (Vl.exo e3.1 e3.2) s2) s2).bind fun x12 s13 => R.of (tru x12 s13) s13).bind fun c14 s15 => if c14 = true then ((R.of (phIsE "NoPaper" true (Vl.exo e3.1 e3.2) s15) s15).bind fun x16 s17 => R.of (tru x16 s17) s17).bind fun c18 s19 => if c18 = true then ((R.of (phIsE "NoPaper" false (Vl.exo e3.1 e3.2) s19) s19).bind fun x20 s21 => R.of (tru x20 s21) s21).bind fun c22 s23 => R.ok (!c22) s23 else R.ok false s19 else R.ok false s15).an fun c24 s25 => if c24 = true then
      ((((R.of (phFld "NoPaper" "word" (Vl.exo e3.1 e3.2) s25) s25).bind fun x26 s27 => ((R.of (phFld "NoPaper" "at" (Vl.exo e3.1 e3.2) s27) s27).bind fun x28 s29 => R.ok [x28] s29).bind fun l30 s31 => R.ok (x26 :: l30) s31).bind fun l32 s33 => R.ok ((Vl.dat (.str "no")) :: l32) s33).bind fun l34 s35 => R.of (tupN l34) s35).an fun x36 s37 => .rt x36 s37
      else
      .nx () s25) s).thn fun j38 s39 => kt_law_said_k13_1  s39
noncomputable def r_law_said_k13 : MF := runN fun xs => match xs with
  | [w_code, w_over, w_under, w_thing] => n_law_said_k13 w_code w_over w_under w_thing
  | _ => fun _ => .bad
noncomputable def G_law_said_k13 : MF := frameG (r_law_said_k13)

theorem G_law_number_k01_eq (d : PyData) (s : Sto) : G_law_number_k01 [.dat d] s = .ok (.dat (.bool (dNum d))) s := by
  refine fr0 (s2 := []) ?_
  cases d with
  | bool b => cases b <;> simp [r_law_number_k01, runN_ap, n_law_number_k01, isaInt, dNum, phIsNot, isD]
  | _ => simp [r_law_number_k01, runN_ap, n_law_number_k01, isaInt, dNum, phIsNot, isD]
def saidD : Option (Str × Int) → PyData
  | none => .tuple [.str "told", .bool true]
  | some (x, y) => .tuple [.str "no", .str x, .int y]
def gsP (g : Int → List Int) (pre : List Int) : List Int := match pre.getLast? with
  | none => [0]
  | some p => g p
theorem atI_mid {pre r : List Int} {b : Int} : atI ((pre ++ b :: r).map PyData.int) (pre.length : Int) = some (.int b) := by
  rw [atI_nat', List.getElem?_map, List.getElem?_append_right (Nat.le_refl _), Nat.sub_self]
  rfl
theorem atI_prev {pre r : List Int} {p : Int} : atI ((pre ++ [p] ++ r).map PyData.int) (((pre ++ [p]).length : Int) - 1) = some (.int p) := by
  rw [show (((pre ++ [p]).length : Int) - 1) = ((pre.length : Nat) : Int) by simp, atI_nat', List.getElem?_map, List.append_assoc, List.getElem?_append_right (Nat.le_refl _), Nat.sub_self]
  rfl
theorem atI_arr {bs : List Blk} {b : Int} (h0 : 0 ≤ b) (h1 : b < (bs.length : Int)) : atI (bs.map fun b => PyData.list (b.fin.all.map PyData.int)) b = some (.list ((allB bs b).map PyData.int)) := by
  obtain ⟨x, hx, _⟩ := atI_in h0 h1
  unfold allB
  rw [atI_map (f := fun b : Blk => PyData.list (b.fin.all.map PyData.int)), hx]
  rfl
theorem arN_congr {g g' : Int → List Int} (h : ∀ b k, k ∈ g b ↔ k ∈ g' b) (o : Int) : ∀ (ns : List Int) (k : Nat) (gs gs' : List Int), (∀ x, x ∈ gs ↔ x ∈ gs') → arN g o gs k ns = arN g' o gs' k ns
  | [], _, _, _, _ => rfl
  | b :: r, k, gs, gs', e => by
    rw [arN, arN, arN_congr h o r (k + 1) (g b) (g' b) (h b)]
    by_cases hb : b ∈ gs
    · rw [if_neg (not_not_intro hb), if_neg (not_not_intro ((e b).mp hb))]
    · rw [if_pos hb, if_pos fun z => hb ((e b).mpr z)]
theorem arJ_congr {g g' : Int → List Int} (h : ∀ b k, k ∈ g b ↔ k ∈ g' b) (o u : Int) (d : PyData) : arJ g o u d = arJ g' o u d := by
  unfold arJ arL
  simp only [arN_congr h o _ 0 [0] [0] fun x => Iff.rfl]
theorem lp_law_arounded_eq {bs : List Blk} (ok : GoIn bs) {o u : Int} {ns : List Int} {L : Type} (s : Sto) : ∀ (r pre : List Int), ns = pre ++ r → (∀ p, pre.getLast? = some p → 0 ≤ p ∧ p < (bs.length : Int)) →
    (lp_law_arounded_k13_1 (L := L) (.dat (arrD bs)) (.dat (.int o)) (.dat (.int u)) (.dat (.tuple (ns.map PyData.int))) okT (rgs (pre.length : Int) r.length) () s) = (match arN (allB bs) o (gsP (allB bs) pre) pre.length r with
      | some p => .rt (.dat (saidD (some p))) s
      | none => .nx () s)
  | [], pre, _, _ => by
    rw [List.length_nil, rgs_zero, lp_law_arounded_k13_1_nil]
    rfl
  | b :: r, pre, hn, hp => by
    have e0 : atI (ns.map PyData.int) (pre.length : Int) = some (.int b) := by rw [hn]; exact atI_mid
    have eg : ((pre.length : Int) = 0 ∧ gsP (allB bs) pre = [0]) ∨ (¬ (pre.length : Int) = 0 ∧ ∃ p, atI (ns.map PyData.int) ((pre.length : Int) - 1) = some (.int p) ∧ atI (bs.map fun b => PyData.list (b.fin.all.map PyData.int)) p = some (.list ((gsP (allB bs) pre).map PyData.int))) := by
      rcases List.eq_nil_or_concat pre with z | ⟨q, p, z⟩
      · subst z
        exact .inl ⟨rfl, rfl⟩
      · subst z
        rw [List.concat_eq_append] at hn hp ⊢
        obtain ⟨p0, p1⟩ := hp p (by simp)
        have e1 : atI (ns.map PyData.int) (((q ++ [p]).length : Int) - 1) = some (.int p) := by rw [hn]; exact atI_prev
        refine .inr ⟨by simp; omega, p, e1, ?_⟩
        rw [atI_arr p0 p1]
        simp [gsP]
    have hb : b ∈ gsP (allB bs) pre → 0 ≤ b ∧ b < (bs.length : Int) := fun hm => by
      unfold gsP at hm
      cases hl : pre.getLast? with
      | none => rw [hl] at hm; have : b = 0 := by simpa using hm
                have := ok.1; omega
      | some p => rw [hl] at hm; exact ok.all hm
    have ih := fun hm => lp_law_arounded_eq ok (o := o) (u := u) (ns := ns) (L := L) s r (pre ++ [b]) (by rw [hn]; simp) (fun p hpp => by
      have : b = p := by simpa using hpp
      rw [← this]; exact hb hm)
    have eG : gsP (allB bs) (pre ++ [b]) = allB bs b := by simp [gsP]
    rw [eG, List.length_append] at ih
    rw [List.length_cons, rgs_succ, lp_law_arounded_k13_1_cons, arN]
    generalize gsP (allB bs) pre = gs at *
    have e2 : ((pre.length + [b].length : Nat) : Int) = (pre.length : Int) + 1 := by simp
    rw [e2] at ih
    rw [show pre.length + 1 = pre.length + [b].length from rfl]
    generalize (pre.length : Int) = z at *
    refine wp_of (Q := fun y => An.lp y _ _ _ = _) ?_
    simp only [patN_some, pV_ap, nb_law_arounded_k13_1]
    refine wp_if (b := !decide (b ∈ gs)) (s := s) ?_ ?_
    · rcases eg with ⟨z0, g0⟩ | ⟨z0, p, h1, h2⟩
      · subst z0 g0
        have e3 := fun s => phIn_l (neg := true) (z := b) (zs := [0]) (s := s)
        simp only [List.map_cons, List.map_nil] at e3
        simp [e0, e3]
      · simp [e0, z0, h1, h2, arrD, phIn_l]
    by_cases hm : b ∈ gs
    · rw [if_neg (not_not_intro hm)]
      by_cases ho : b = o
      · subst ho
        simp [Wp, e0, hm, saidD]
      · rw [if_neg ho, ← ih hm]
        simp [Wp, e0, hm, ho, tidy_same]
    · rw [if_pos hm]
      simp [Wp, hm, saidD]
theorem cmp_nil {M : Nat} {ds : List PyData} (hf : leaf M (.tuple ds) = true) (hdp : (PyData.tuple ds).depth ≤ 60) (s' : Sto) : phEq (.dat (.tuple ds)) (.dat (.tuple [])) s' = some (.dat (.bool ds.isEmpty)) := by
  rw [phEq_d hf (show leaf M (.tuple []) = true from rfl) (by omega) (by show (PyData.tuple []).depth ≤ 64; decide)]
  cases ds <;> rfl
theorem cmp_fil {M : Nat} {ds : List PyData} {p : PyData → Bool} (hf : leaf M (.tuple ds) = true) (hdp : (PyData.tuple ds).depth ≤ 60) (s' : Sto) : phNe (.dat (.list (ds.filter p))) (.dat (.list [])) s' = some (.dat (.bool (!(ds.filter p).isEmpty))) := by
  have hlf : leaf M (.list (ds.filter p)) = true := by
    show leafAll M _ = true
    rw [leafAll_iff]
    intro x hx
    exact leafAll_iff.mp (show leafAll M ds = true from hf) x (List.mem_filter.mp hx).1
  have hdf : (PyData.list (ds.filter p)).depth ≤ 64 := by
    have h1 : (PyData.tuple ds).depth ≤ 60 + 1 := by omega
    have h2 := depth_tuple.mp h1
    have : (PyData.list (ds.filter p)).depth ≤ 60 + 1 := depth_list.mpr fun x hx => h2 x (List.mem_filter.mp hx).1
    omega
  rw [phNe_d hlf (show leaf M (.list []) = true from rfl) hdf (by show (PyData.list []).depth ≤ 64; decide)]
  cases (ds.filter p) <;> rfl
theorem ar_fil {a o u : Vl} {ds : List PyData} (hlen : ds.length ≤ 1000) (s : Sto) : mLc (iSeq (mVar 3)) (gmName 5) (tNotM (mTru (mCall 1 G_law_number_k01 (aCons (mVar 5) aNil)))) (mVar 5) [5] [some a, some o, some u, some (.dat (.tuple ds)), none, none] s = .ok (.dat (.list (ds.filter fun d => !dNum d))) s := by
  have e := lc_data (it := iSeq (mVar 3)) (gm := gmName 5) (t := tNotM (mTru (mCall 1 G_law_number_k01 (aCons (mVar 5) aNil)))) (e := mVar 5) (vs := [5]) (ρ := [some a, some o, some u, some (.dat (.tuple ds)), none, none]) (s := s) (s1 := s) (ds := ds) (fun d => !dNum d) (fun d => d) rfl (fun d hd => ⟨_, rfl, by simp [G_law_number_k01_eq], fun _ => rfl⟩) (th_mil hlen)
  rw [List.map_id'] at e
  exact e
section
variable {bs : List Blk} {o u : Int} {ds : List PyData} {s : Sto}
theorem ar_shape (he : ds.isEmpty = true ∨ (ds.filter fun d => !dNum d).isEmpty = false) (q0 : ∀ s, phEq (.dat (.tuple ds)) (.dat (.tuple [])) s = some (.dat (.bool ds.isEmpty))) (q1 : ∀ s, phNe (.dat (.list (ds.filter fun d => !dNum d))) (.dat (.list [])) s = some (.dat (.bool (!(ds.filter fun d => !dNum d).isEmpty))))
    (e : ∀ s, mLc (iSeq (mVar 3)) (gmName 5) (tNotM (mTru (mCall 1 G_law_number_k01 (aCons (mVar 5) aNil)))) (mVar 5) [5] [some (.dat (arrD bs)), some (.dat (.int o)), some (.dat (.int u)), some (.dat (.tuple ds)), none, none] s = .ok (.dat (.list (ds.filter fun d => !dNum d))) s) :
    (n_law_arounded_k13 (.dat (arrD bs)) (.dat (.int o)) (.dat (.int u)) (.dat (.tuple ds)) s).fin = .ok (.dat (saidD (some ("shape", -1)))) s := by
  refine wp_of (Q := fun z => An.fin z = _) ?_
  simp only [n_law_arounded_k13]
  refine wp_if (b := true) (s := s) ?_ ?_
  · cases h : ds.isEmpty with
    | true => simp [isaTup, q0, h]
    | false =>
      have := he.resolve_left (by simp [h])
      simp [isaTup, q0, h, e]
      rw [q1, this]
      rfl
  simp [Wp, saidD]
theorem ar_go (h1 : ds.isEmpty = false) (h2 : (ds.filter fun d => !dNum d).isEmpty = true) (hl : ds.length ≤ 1000) (q0 : ∀ s, phEq (.dat (.tuple ds)) (.dat (.tuple [])) s = some (.dat (.bool ds.isEmpty))) (q1 : ∀ s, phNe (.dat (.list (ds.filter fun d => !dNum d))) (.dat (.list [])) s = some (.dat (.bool (!(ds.filter fun d => !dNum d).isEmpty))))
    (e : ∀ s, mLc (iSeq (mVar 3)) (gmName 5) (tNotM (mTru (mCall 1 G_law_number_k01 (aCons (mVar 5) aNil)))) (mVar 5) [5] [some (.dat (arrD bs)), some (.dat (.int o)), some (.dat (.int u)), some (.dat (.tuple ds)), none, none] s = .ok (.dat (.list (ds.filter fun d => !dNum d))) s) :
    n_law_arounded_k13 (.dat (arrD bs)) (.dat (.int o)) (.dat (.int u)) (.dat (.tuple ds)) s = (lp_law_arounded_k13_1 (.dat (arrD bs)) (.dat (.int o)) (.dat (.int u)) (.dat (.tuple ds)) okT (rgs 0 ds.length) () s).thn fun j67 s68 => kt_law_arounded_k13_1 (.dat (arrD bs)) (.dat (.int o)) (.dat (.int u)) (.dat (.tuple ds)) s68 := by
  refine wp_of (Q := fun z => z = _) ?_
  simp only [n_law_arounded_k13]
  refine wp_if (b := false) (s := s) ?_ ?_
  · simp [isaTup, q0, h1, e]
    rw [q1, h2]
    rfl
  have er := fun s => rngN1_n (n := ds.length) (s := s) (th_mil hl)
  simp [Wp, er, src_ok_none]
end
theorem G_law_arounded_k13_eq {M : Nat} {bs : List Blk} (ok : GoIn bs) {o u : Int} {d : PyData} (hd : ∀ ds, d = .tuple ds → ds.length ≤ 1000) (hf : leaf M d = true) (hdp : d.depth ≤ 60) (s : Sto) : G_law_arounded_k13 [.dat (arrD bs), .dat (.int o), .dat (.int u), .dat d] s = .ok (.dat (saidD (arJ (allB bs) o u d))) s := by
  refine fr0 (s2 := []) ?_
  rw [r_law_arounded_k13, runN_ap]
  cases d with
  | tuple ds =>
    have hlen := hd ds rfl
    have q0 := fun s => cmp_nil hf hdp s
    have q1 := fun s => cmp_fil (p := fun d => !dNum d) hf hdp s
    have e := fun s => ar_fil (a := .dat (arrD bs)) (o := .dat (.int o)) (u := .dat (.int u)) hlen s
    cases en : nums ds with
    | none =>
      have hne : (ds.filter fun d => !dNum d).isEmpty = false := by
        have hall : ds.all dNum = false := by rw [nums_all, en]; rfl
        cases hh : (ds.filter fun d => !dNum d) with
        | nil =>
          rw [List.filter_eq_nil_iff] at hh
          have : ds.all dNum = true := List.all_eq_true.mpr fun x hx => by simpa using hh x hx
          rw [this] at hall; cases hall
        | cons _ _ => rfl
      simp only [arJ, en]
      exact ar_shape (.inr hne) q0 q1 e
    | some ns =>
      have := nums_eq en
      subst this
      by_cases hns : ns = []
      · subst hns
        exact ar_shape (.inl rfl) q0 q1 e
      · have hne : ((ns.map PyData.int).filter fun d => !dNum d).isEmpty = true := by
          rw [List.isEmpty_iff, List.filter_eq_nil_iff]
          intro x hx
          obtain ⟨i, _, rfl⟩ := List.mem_map.mp hx
          simp [dNum]
        have hie : (ns.map PyData.int).isEmpty = false := by cases ns with
          | nil => exact absurd rfl hns
          | cons _ _ => rfl
        have h1 := lp_law_arounded_eq ok (o := o) (u := u) (ns := ns) (L := Empty) [] ns [] rfl (fun p hp => by simp at hp)
        have eG0 : gsP (allB bs) [] = [0] := rfl
        rw [eG0] at h1
        have hlast : atI (ns.map PyData.int) (-1) = some (.int (ns.getLast hns)) := by
          rw [atI_last, List.getLast?_map, List.getLast?_eq_some_getLast hns]
          rfl
        have ej : arJ (allB bs) o u (.tuple (ns.map PyData.int)) = arL (allB bs) o u ns := by
          unfold arJ
          simp only [en]
        rw [ej]
        show (n_law_arounded_k13 _ _ _ _ _).fin = _
        rw [ar_go hie hne hlen q0 q1 e, List.length_map]
        unfold arL
        rw [List.getLast?_eq_some_getLast hns]
        generalize ns.getLast hns = lst at hlast ⊢
        simp only [List.length_nil, Int.natCast_zero] at h1
        rw [h1]
        cases ea : arN (allB bs) o [0] 0 ns with
        | some p => simp [saidD]
        | none =>
          by_cases hu : lst = u
          · simp [kt_law_arounded_k13_1, hlast, hu, saidD]
          · simp [kt_law_arounded_k13_1, hlast, hu, saidD]
  | _ => simp [n_law_arounded_k13, isaTup, arJ, saidD]
theorem G_law_said_k13_eq {c : Cod} {bs : List Blk} (hc : c.rts.lookup ("main" : Str) = some bs) (ok : GoIn bs) {o u : Int} {d : PyData} (hd : ∀ ds, d = .tuple ds → ds.length ≤ 1000) (s : Sto) : G_law_said_k13 [.dat c.d, .dat (.int o), .dat (.int u), .dat d] s = .ok (.dat (saidD (arJ (allB bs) o u d))) s := by
  refine fr0 (s2 := []) ?_
  rw [r_law_said_k13, runN_ap]
  have e := G_lets_around_eq (o := o) (u := u) hc ok hd []
  rw [arJ_congr fun b k => mem_goalsB] at e
  cases ej : arJ (allB bs) o u d with
  | none =>
    rw [ej] at e
    simp [n_law_said_k13, tryN, e, saidR, saidD]
  | some p =>
    obtain ⟨w, y⟩ := p
    rw [ej] at e
    simp [n_law_said_k13, tryN, e, saidR, saidD, papE, phIsE, phFld, List.lookup, show (("word" : Str) == "at") = false by decide]
end Pm
set_option maxRecDepth 100000
set_option maxHeartbeats 4000000
namespace Pm
open PySem PySem.Spec PyProof.Rows L2 Sw

/-! ### odd things -/
noncomputable def n_law_odd_k01  : Sto → An Unit Empty := fun s =>
  (((((((((((((R.of (phNeg (Vl.dat (.int 1)) s) s).bind fun x2 s3 => ((R.of (tupN []) s3).bind fun x4 s5 => ((R.of (lstN []) s5).bind fun x6 s7 => ((((R.of (lstN [(Vl.dat (.int 1))]) s7).bind fun x8 s9 => R.ok [x8, (Vl.dat (.str "a"))] s9).bind fun l10 s11 => R.of (tupN l10) s11).bind fun x12 s13 => ((R.of (tupN [(Vl.dat (.str "a")), (Vl.dat (.int 1))]) s13).bind fun x14 s15 => ((R.of (tupN [(Vl.dat (.str "a"))]) s15).bind fun x16 s17 => R.ok [x16] s17).bind fun l18 s19 => R.ok (x14 :: l18) s19).bind fun l20 s21 => R.ok (x12 :: l20) s21).bind fun l22 s23 => R.ok (x6 :: l22) s23).bind fun l24 s25 => R.ok (x4 :: l24) s25).bind fun l26 s27 => R.ok (x2 :: l26) s27).bind fun l28 s29 => R.ok ((Vl.dat (.int 4)) :: l28) s29).bind fun l30 s31 => R.ok ((Vl.dat (.int 2)) :: l30) s31).bind fun l32 s33 => R.ok ((Vl.dat (.int 1)) :: l32) s33).bind fun l34 s35 => R.ok ((Vl.dat (.int 0)) :: l34) s35).bind fun l36 s37 => R.ok ((Vl.dat (.str "A")) :: l36) s37).bind fun l38 s39 => R.ok ((Vl.dat (.str "a")) :: l38) s39).bind fun l40 s41 => R.ok ((Vl.dat (.str "")) :: l40) s41).bind fun l42 s43 => R.ok ((Vl.dat (.bool false)) :: l42) s43).bind fun l44 s45 => R.ok ((Vl.dat (.bool true)) :: l44) s45).bind fun l46 s47 => R.ok ((Vl.dat .none) :: l46) s47).bind fun l48 s49 => R.of (tupN l48) s49).an fun w_small s1 =>
    (((((((R.of (phPow (Vl.dat (.int 10)) (Vl.dat (.int 64)) s1) s1).bind fun x50 s51 => (R.of (phPow (Vl.dat (.int 10)) (Vl.dat (.int 64)) s51) s51).bind fun x52 s53 => R.of (phMul x50 x52 s53) s53).bind fun x54 s55 => (R.of (phPow (Vl.dat (.int 10)) (Vl.dat (.int 64)) s55) s55).bind fun x56 s57 => R.of (phMul x54 x56 s57) s57).bind fun x58 s59 => (R.of (phPow (Vl.dat (.int 10)) (Vl.dat (.int 7)) s59) s59).bind fun x60 s61 => R.of (phMul x58 x60 s61) s61).bind fun x62 s63 => (((((R.of (tupN [(Vl.dat (.int 0))]) s63).bind fun x64 s65 => ((R.of (tupN [(Vl.dat (.int 1)), (Vl.dat (.int 1))]) s65).bind fun x66 s67 => R.ok [x66] s67).bind fun l68 s69 => R.ok (x64 :: l68) s69).bind fun l70 s71 => R.ok ((Vl.dat (.str "a b")) :: l70) s71).bind fun l72 s73 => R.ok ((Vl.dat (.str "abcdefghi")) :: l72) s73).bind fun l74 s75 => R.ok ((Vl.dat (.str "abcdefgh")) :: l74) s75).bind fun l76 s77 => R.ok (x62 :: l76) s77).bind fun l78 s79 => R.of (tupN l78) s79).bind fun x80 s81 => R.of (phAdd w_small x80 s81) s81).an fun x82 s83 => .rt x82 s83
noncomputable def r_law_odd_k01 : MF := runN fun xs => match xs with
  | [] => n_law_odd_k01 
  | _ => fun _ => .bad
noncomputable def G_law_odd_k01 : MF := frameG (r_law_odd_k01)

def oddL : List PyData := [.none, .bool true, .bool false, .str "", .str "a", .str "A", .int 0, .int 1, .int 2, .int 4, .int (-1), .tuple [], .list [], .tuple [.list [.int 1], .str "a"], .tuple [.str "a", .int 1], .tuple [.str "a"],
  .int (10 ^ 64 * 10 ^ 64 * 10 ^ 64 * 10 ^ 7), .str "abcdefgh", .str "abcdefghi", .str "a b", .tuple [.int 0], .tuple [.int 1, .int 1]]

theorem G_law_odd_k01_eq (s : Sto) : G_law_odd_k01 [] s = .ok (.dat (.tuple oddL)) s := by
  refine fr0 (s2 := []) ?_
  have p64 : ∀ s, phPow (.dat (.int 10)) (.dat (.int 64)) s = some (.dat (.int (10 ^ 64))) := fun s => phPow_c (by decide)
  have p7 : ∀ s, phPow (.dat (.int 10)) (.dat (.int 7)) s = some (.dat (.int (10 ^ 7))) := fun s => phPow_c (by decide)
  have w1 : ∀ s, phMul (.dat (.int (10 ^ 64))) (.dat (.int (10 ^ 64))) s = some (.dat (.int (10 ^ 64 * 10 ^ 64))) := fun s => phMul_w (by unfold CMulW; decide +kernel)
  have w2 : ∀ s, phMul (.dat (.int (10 ^ 64 * 10 ^ 64))) (.dat (.int (10 ^ 64))) s = some (.dat (.int (10 ^ 64 * 10 ^ 64 * 10 ^ 64))) := fun s => phMul_w (by unfold CMulW; decide +kernel)
  have w3 : ∀ s, phMul (.dat (.int (10 ^ 64 * 10 ^ 64 * 10 ^ 64))) (.dat (.int (10 ^ 7))) s = some (.dat (.int (10 ^ 64 * 10 ^ 64 * 10 ^ 64 * 10 ^ 7))) := fun s => phMul_w (by unfold CMulW; decide +kernel)
  rw [r_law_odd_k01, runN_ap]
  unfold oddL
  generalize (10 ^ 64 : Int) = t64 at p64 w1 w2 w3 ⊢
  generalize (10 ^ 7 : Int) = t7 at p7 w3 ⊢
  have hm : 16 + 6 ≤ mil := by unfold mil; omega
  refine wp_of (Q := fun z => An.fin z = _) ?_
  simp only [n_law_odd_k01]
  refine wp_an (by simp []; first | done | rfl | exact ⟨rfl, rfl⟩) ?_
  simp [Wp, p64, p7, w1, w2, w3, hm]
theorem odd_len : oddL.length = 22 := rfl
theorem odd_fit : ∀ o ∈ oddL, Fit (10 ^ 199) 2 2 520 o := by
  have h : (oddL.all fun o => leaf (10 ^ 199) o && lens 2 o && decide (o.depth ≤ 2) && decide (wt o ≤ 520)) = true := by decide +kernel
  intro o ho
  have := List.all_eq_true.mp h o ho
  simp only [Bool.and_eq_true, decide_eq_true_eq] at this
  exact ⟨this.1.1.1, this.1.1.2, this.1.2, this.2⟩

theorem odd_ok : OddOk oddL := ⟨by decide, by decide, odd_fit⟩
/-! ### ways -/
def mk_law_way_k13_1 (w_feed_here : Vl) (w_arrows_here : Vl) : (Vl) → Loc := fun a => [some w_feed_here, some w_arrows_here, some a, none, none]
noncomputable def nb_law_way_k13_1 (dr : MF) (w_feed_here : Vl) (w_arrows_here : Vl) (w_k : Vl) (w_way_here : Vl) : Sto → An (Vl) (Vl) := fun s =>
  (((R.of (phNeg (Vl.dat (.int 1)) s) s).bind fun x7 s8 => R.of (phIx w_way_here x7 s8) s8).bind fun x9 s10 => R.of (phIx w_arrows_here x9 s10) s10).an fun w_some s6 =>
    (((R.of (lstN []) s6).bind fun x11 s12 => R.of (phNe w_some x11 s12) s12).bind fun x13 s14 => R.of (bool? x13) s14).an fun c15 s16 => if c15 = true then
    ((((((((R.of (phLen [w_some] s16) s16).bind fun x18 s19 => R.ok [x18] s19).bind fun l20 s21 => R.ok (w_feed_here :: l20) s21).bind fun l22 s23 => callN 2 dr l22 s23).bind fun x24 s25 => R.of (phIx w_some x24 s25) s25).bind fun x26 s27 => R.ok [x26] s27).bind fun l28 s29 => R.of (tupN l28) s29).bind fun x30 s31 => R.of (phAdd w_way_here x30 s31) s31).an fun w_way_here s17 =>
      .nx w_way_here s17
    else
    .nx w_way_here s16
noncomputable def lp_law_way_k13_1 {L : Type} (dr : MF) (w_feed_here : Vl) (w_arrows_here : Vl) (ck : Sto → Prop) : List Vl → (Vl) → Sto → An (Vl) L := forN ck (mk_law_way_k13_1 w_feed_here w_arrows_here) (fun v a s => patN (pV v) fun p => nb_law_way_k13_1 dr w_feed_here w_arrows_here p a s)
@[simp] theorem lp_law_way_k13_1_nil {L : Type} (dr : MF) (w_feed_here : Vl) (w_arrows_here : Vl) {a : (Vl)} {s : Sto} : (lp_law_way_k13_1 (L := L) dr w_feed_here w_arrows_here okT [] a s) = .nx a s := forN_nil
theorem lp_law_way_k13_1_cons {L : Type} (dr : MF) (w_feed_here : Vl) (w_arrows_here : Vl) {v : Vl} {r : List Vl} {a : (Vl)} {s : Sto} : (lp_law_way_k13_1 (L := L) dr w_feed_here w_arrows_here okT (v :: r) a s) = (patN (pV v) fun p => nb_law_way_k13_1 dr w_feed_here w_arrows_here p a s).lp (mk_law_way_k13_1 w_feed_here w_arrows_here) s.length (lp_law_way_k13_1 dr w_feed_here w_arrows_here okT r) := forN_cons
noncomputable def kt_law_way_k13_1 (dr : MF) (w_feed_here : Vl) (w_arrows_here : Vl) (w_way_here : Vl) : Sto → An Unit Empty := fun s =>
  (R.ok w_way_here s).an fun x36 s37 => .rt x36 s37
noncomputable def n_law_way_k13 (dr : MF) (w_feed_here : Vl) (w_arrows_here : Vl) : Sto → An Unit Empty := fun s =>
  (R.of (tupN [(Vl.dat (.int 0))]) s).an fun w_way_here s1 =>
    ((((callN 2 dr [w_feed_here, (Vl.dat (.int 9))] s1).bind fun x2 s3 => R.ok [x2] s3).bind fun l4 s5 => rngN1 l4 s5).an fun c32 s33 => lp_law_way_k13_1 dr w_feed_here w_arrows_here c32.ok c32.items w_way_here s33).thn fun j34 s35 => kt_law_way_k13_1 dr w_feed_here w_arrows_here j34 s35
noncomputable def r_law_way_k13 (dr : MF) : MF := runN fun xs => match xs with
  | [w_feed_here, w_arrows_here] => n_law_way_k13 dr w_feed_here w_arrows_here
  | _ => fun _ => .bad
noncomputable def G_law_way_k13 (dr : MF) : MF := frameG (r_law_way_k13 dr)
def mk_law_things_k13_1 (w_feed_here : Vl) (w_arrows_here : Vl) (w_found : Vl) : Unit → Loc := fun a => [some w_feed_here, some w_arrows_here, some w_found, none, none, none, none, none]
noncomputable def nb_law_things_k13_1 (dr : MF) (w_feed_here : Vl) (w_arrows_here : Vl) (w_found : Vl) (w_k : Vl) : Sto → An Unit Unit := fun s =>
  (callN 2 (G_law_way_k13 dr) [w_feed_here, w_arrows_here] s).an fun w_way_here s108 =>
    (((((R.of (phLen [w_way_here] s108) s108).bind fun x109 s110 => R.ok [x109] s110).bind fun l111 s112 => R.ok (w_feed_here :: l111) s112).bind fun l113 s114 => callN 2 dr l113 s114).bind fun x115 s116 => (((((R.of (phLen [w_way_here] s116) s116).bind fun x117 s118 => R.ok [x117] s118).bind fun l119 s120 => R.ok (w_feed_here :: l119) s120).bind fun l121 s122 => callN 2 dr l121 s122).bind fun x123 s124 => R.ok [x123] s124).bind fun l125 s126 => R.ok (x115 :: l125) s126).an fun l128 s127 => par2N l128 fun w_at w_to =>
    (((((callN 0 G_law_odd_k01 [] s127).bind fun x130 s131 => R.ok [x130] s131).bind fun l132 s133 => R.ok (w_way_here :: l132) s133).bind fun l134 s135 => R.ok (w_feed_here :: l134) s135).bind fun l136 s137 => callN 3 (G_law_bend_k13 dr 6) l136 s137).an fun w_bent s129 =>
    (extN w_found s129 (fun s138 => ((((((R.of ((int? w_at).map some) s138).bind fun o139 s140 => R.of (phSl w_way_here none o139 s140) s140).bind fun x141 s142 => (((R.of (phAdd w_at (Vl.dat (.int 1)) s142) s142).bind fun x145 s146 => R.of ((int? x145).map some) s146).bind fun o143 s144 => R.of (phSl w_way_here o143 none s144) s144).bind fun x147 s148 => R.of (phAdd x141 x147 s148) s148).bind fun x149 s150 => (((((R.of ((int? w_at).map some) s150).bind fun o151 s152 => R.of (phSl w_way_here none o151 s152) s152).bind fun x153 s154 => ((R.of ((int? w_to).map some) s154).bind fun o155 s156 => ((R.of (phAdd w_to (Vl.dat (.int 1)) s156) s156).bind fun x159 s160 => R.of ((int? x159).map some) s160).bind fun o157 s158 => R.of (phSl w_way_here o155 o157 s158) s158).bind fun x161 s162 => R.of (phAdd x153 x161 s162) s162).bind fun x163 s164 => ((R.of ((int? w_at).map some) s164).bind fun o165 s166 => R.of (phSl w_way_here o165 none s166) s166).bind fun x167 s168 => R.of (phAdd x163 x167 s168) s168).bind fun x169 s170 => ((R.of (phList [w_way_here] s170) s170).bind fun x171 s172 => R.ok [x171, w_bent] s172).bind fun l173 s174 => R.ok (x169 :: l173) s174).bind fun l175 s176 => R.ok (x149 :: l175) s176).bind fun l177 s178 => R.ok (w_way_here :: l177) s178).bind fun l179 s180 => R.of (lstN l179) s180).bind fun x181 s182 => R.ok [x181] s182)).an fun _ s183 =>
    (appN w_found s183 (fun s184 => (R.of (phAdd w_way_here w_way_here s184) s184).bind fun x185 s186 => R.ok [x185] s186)).an fun _ s187 =>
    (extN w_found s187 (fun s188 => (((((((callN 0 G_law_odd_k01 [] s188).bind fun x189 s190 => R.ok [x189] s190).bind fun l191 s192 => R.ok (w_bent :: l191) s192).bind fun l193 s194 => R.ok (w_feed_here :: l193) s194).bind fun l195 s196 => callN 3 (G_law_bend_k13 dr 6) l195 s196).bind fun x197 s198 => (((((R.of ((int? w_at).map some) s198).bind fun o199 s200 => R.of (phSl w_way_here none o199 s200) s200).bind fun x201 s202 => (((callN 2 dr [w_feed_here, (Vl.dat (.int 7))] s202).bind fun x203 s204 => R.ok [x203] s204).bind fun l205 s206 => R.of (tupN l205) s206).bind fun x207 s208 => R.of (phAdd x201 x207 s208) s208).bind fun x209 s210 => (((R.of (phAdd w_at (Vl.dat (.int 1)) s210) s210).bind fun x213 s214 => R.of ((int? x213).map some) s214).bind fun o211 s212 => R.of (phSl w_way_here o211 none s212) s212).bind fun x215 s216 => R.of (phAdd x209 x215 s216) s216).bind fun x217 s218 => R.ok [x217] s218).bind fun l219 s220 => R.ok (x197 :: l219) s220).bind fun l221 s222 => R.of (lstN l221) s222).bind fun x223 s224 => R.ok [x223] s224)).an fun _ s225 =>
    (appN w_found s225 (fun s226 => (((R.of (phAdd w_at (Vl.dat (.int 1)) s226) s226).bind fun x229 s230 => R.of ((int? x229).map some) s230).bind fun o227 s228 => R.of (phSl w_way_here none o227 s228) s228).bind fun x231 s232 => R.ok [x231] s232)).an fun _ s233 =>
    .nx () s233
noncomputable def lp_law_things_k13_1 {L : Type} (dr : MF) (w_feed_here : Vl) (w_arrows_here : Vl) (w_found : Vl) (ck : Sto → Prop) : List Vl → Unit → Sto → An Unit L := forN ck (mk_law_things_k13_1 w_feed_here w_arrows_here w_found) (fun v a s => patN (pV v) fun p => nb_law_things_k13_1 dr w_feed_here w_arrows_here w_found p s)
@[simp] theorem lp_law_things_k13_1_nil {L : Type} (dr : MF) (w_feed_here : Vl) (w_arrows_here : Vl) (w_found : Vl) {a : Unit} {s : Sto} : (lp_law_things_k13_1 (L := L) dr w_feed_here w_arrows_here w_found okT [] a s) = .nx a s := forN_nil
theorem lp_law_things_k13_1_cons {L : Type} (dr : MF) (w_feed_here : Vl) (w_arrows_here : Vl) (w_found : Vl) {v : Vl} {r : List Vl} {a : Unit} {s : Sto} : (lp_law_things_k13_1 (L := L) dr w_feed_here w_arrows_here w_found okT (v :: r) a s) = (patN (pV v) fun p => nb_law_things_k13_1 dr w_feed_here w_arrows_here w_found p s).lp (mk_law_things_k13_1 w_feed_here w_arrows_here w_found) s.length (lp_law_things_k13_1 dr w_feed_here w_arrows_here w_found okT r) := forN_cons
noncomputable def kt_law_things_k13_1 (dr : MF) (w_feed_here : Vl) (w_arrows_here : Vl) (w_found : Vl) : Sto → An Unit Empty := fun s =>
  (R.ok w_found s).an fun x238 s239 => .rt x238 s239
noncomputable def n_law_things_k13 (dr : MF) (w_feed_here : Vl) (w_arrows_here : Vl) : Sto → An Unit Empty := fun s =>
  (((R.of (tupN []) s).bind fun x2 s3 => (((((R.of (lstN []) s3).bind fun x4 s5 => ((R.of (lstN [(Vl.dat (.int 0))]) s5).bind fun x6 s7 => ((R.of (tupN [(Vl.dat (.int 0))]) s7).bind fun x8 s9 => ((R.of (tupN [(Vl.dat (.bool true))]) s9).bind fun x10 s11 => ((R.of (tupN [(Vl.dat (.bool false))]) s11).bind fun x12 s13 => ((R.of (tupN [(Vl.dat (.int 1))]) s13).bind fun x14 s15 => ((((R.of (phNeg (Vl.dat (.int 1)) s15) s15).bind fun x16 s17 => R.ok [x16] s17).bind fun l18 s19 => R.of (tupN l18) s19).bind fun x20 s21 => ((R.of (tupN [(Vl.dat (.int 0)), (Vl.dat .none)]) s21).bind fun x22 s23 => ((R.of (tupN [(Vl.dat (.int 0)), (Vl.dat (.str "1"))]) s23).bind fun x24 s25 => (((((R.of (tupN [(Vl.dat (.int 1))]) s25).bind fun x26 s27 => R.ok [x26] s27).bind fun l28 s29 => R.ok ((Vl.dat (.int 0)) :: l28) s29).bind fun l30 s31 => R.of (tupN l30) s31).bind fun x32 s33 => ((R.of (tupN [(Vl.dat (.int 99))]) s33).bind fun x34 s35 => R.ok [x34] s35).bind fun l36 s37 => R.ok (x32 :: l36) s37).bind fun l38 s39 => R.ok (x24 :: l38) s39).bind fun l40 s41 => R.ok (x22 :: l40) s41).bind fun l42 s43 => R.ok (x20 :: l42) s43).bind fun l44 s45 => R.ok (x14 :: l44) s45).bind fun l46 s47 => R.ok (x12 :: l46) s47).bind fun l48 s49 => R.ok (x10 :: l48) s49).bind fun l50 s51 => R.ok (x8 :: l50) s51).bind fun l52 s53 => R.ok (x6 :: l52) s53).bind fun l54 s55 => R.ok (x4 :: l54) s55).bind fun l56 s57 => R.ok ((Vl.dat (.str "")) :: l56) s57).bind fun l58 s59 => R.ok ((Vl.dat (.int 0)) :: l58) s59).bind fun l60 s61 => R.ok ((Vl.dat .none) :: l60) s61).bind fun l62 s63 => R.ok (x2 :: l62) s63).bind fun l64 s65 => newN l64 s65).an fun w_found s1 =>
    (appN w_found s1 (fun s66 => (R.of (tupN [(Vl.dat (.int 0)), (Vl.dat (.int 99))]) s66).bind fun x67 s68 => R.ok [x67] s68)).an fun _ s69 =>
    (extN w_found s69 (fun s70 => (((R.of (tupN [(Vl.dat (.int 0)), (Vl.dat (.bool true))]) s70).bind fun x71 s72 => (((((R.of (phPow (Vl.dat (.int 10)) (Vl.dat (.int 60)) s72) s72).bind fun x73 s74 => R.ok [x73] s74).bind fun l75 s76 => R.ok ((Vl.dat (.int 0)) :: l75) s76).bind fun l77 s78 => R.of (tupN l77) s78).bind fun x79 s80 => ((((R.of (tupN [(Vl.dat (.int 0))]) s80).bind fun x81 s82 => R.ok [x81] s82).bind fun l83 s84 => R.of (tupN l83) s84).bind fun x85 s86 => ((R.of (tupN [(Vl.dat (.int 0)), (Vl.dat (.int 0))]) s86).bind fun x87 s88 => ((R.of (tupN [(Vl.dat (.int 0)), (Vl.dat (.int 1))]) s88).bind fun x89 s90 => ((R.of (tupN [(Vl.dat (.int 0)), (Vl.dat (.int 1)), (Vl.dat (.int 2))]) s90).bind fun x91 s92 => R.ok [x91] s92).bind fun l93 s94 => R.ok (x89 :: l93) s94).bind fun l95 s96 => R.ok (x87 :: l95) s96).bind fun l97 s98 => R.ok (x85 :: l97) s98).bind fun l99 s100 => R.ok (x79 :: l99) s100).bind fun l101 s102 => R.ok (x71 :: l101) s102).bind fun l103 s104 => R.of (lstN l103) s104).bind fun x105 s106 => R.ok [x105] s106)).an fun _ s107 =>
    ((rngN1 [(Vl.dat (.int 5))] s107).an fun c234 s235 => lp_law_things_k13_1 dr w_feed_here w_arrows_here w_found c234.ok c234.items () s235).thn fun j236 s237 => kt_law_things_k13_1 dr w_feed_here w_arrows_here w_found  s237
noncomputable def r_law_things_k13 (dr : MF) : MF := runN fun xs => match xs with
  | [w_feed_here, w_arrows_here] => n_law_things_k13 dr w_feed_here w_arrows_here
  | _ => fun _ => .bad
noncomputable def G_law_things_k13 (dr : MF) : MF := frameG (r_law_things_k13 dr)

structure WayI (bs : List Blk) (w : List Int) : Prop where
  ne : w ≠ []
  rng : ∀ x ∈ w, 0 ≤ x ∧ x < (bs.length : Int)
theorem all_len (e : Endd) : e.all.length ≤ 2 := by cases e <;> simp [Endd.all]
theorem allB_len (bs : List Blk) (b : Int) : (allB bs b).length ≤ 2 := by
  unfold allB
  cases atI bs b with
  | none => simp
  | some k => exact all_len _
theorem GrOk.goIn {bs : List Blk} (h : GrOk bs) : GoIn bs := ⟨h.pos, h.rng⟩
theorem way_turn {dr : MF} {Fd : Nat → Ob → Prop} (D : DrawSp dr Fd) {bs : List Blk} (ok : GoIn bs) {j : Nat} {f : Ob} {t : Sto} {w : List Int} {k : Vl} (hw : WayI bs w) (hl : w.length ≤ 100) (hf : Fd j f) (hj : j ≤ 900000) :
    ∃ w' f', nb_law_way_k13_1 dr (.ref 0) (.dat (arrD bs)) k (.dat (intsD w)) (f :: t) = .nx (.dat (intsD w')) (f' :: t) ∧ Fd (j + 1) f' ∧ WayI bs w' ∧ w'.length ≤ w.length + 1 := by
  obtain ⟨b, hb⟩ : ∃ b, w.getLast? = some b := by
    cases e : w.getLast? with
    | none => exact absurd (List.getLast?_eq_none_iff.mp e) hw.ne
    | some b => exact ⟨b, rfl⟩
  have hbm := hw.rng b (List.mem_of_getLast? hb)
  have e1 : atI (w.map PyData.int) (-1) = some (.int b) := by rw [atI_last, List.getLast?_map, hb]; rfl
  have e2 := atI_arr hbm.1 hbm.2
  have hr := fun x (hx : x ∈ allB bs b) => ok.all hx
  have hL := allB_len bs b
  generalize allB bs b = L at e2 hr hL
  refine wp_of (Q := fun z : An Vl Vl => ∃ w' f', z = .nx (.dat (intsD w')) (f' :: t) ∧ Fd (j + 1) f' ∧ WayI bs w' ∧ w'.length ≤ w.length + 1) ?_
  simp only [nb_law_way_k13_1]
  refine wp_an (by simp [intsD, e1, arrD, e2]; first | done | rfl | exact ⟨rfl, rfl⟩) ?_
  have hn := fun s => phNe_ints (ns := L) (s := s)
  cases hz : L.isEmpty with
  | true =>
    rw [hz] at hn
    refine wp_if (b := false) (s := f :: t) (by simp [hn]) ?_
    exact ⟨w, f, rfl, D.mono hf (by omega), hw, by omega⟩
  | false =>
    rw [hz] at hn
    have h1 : 0 < L.length := by cases L with
      | nil => simp at hz
      | cons _ _ => simp
    refine wp_if (b := true) (s := f :: t) (by simp [hn]) ?_
    obtain ⟨k, f', h2, hf', k0, k1⟩ := D.go0 (t := t) (m := (L.length : Int)) hf (by omega) (by omega) (by omega)
    obtain ⟨q, rfl⟩ : ∃ q : Nat, k = q := ⟨k.toNat, by omega⟩
    have hq : q < L.length := by omega
    have e3 : atI (L.map PyData.int) (q : Int) = some (.int L[q]) := by rw [atI_nat', List.getElem?_map, List.getElem?_eq_getElem hq]; rfl
    have ka : ∀ s, phAdd (.dat (.tuple (w.map PyData.int))) (.dat (.tuple [.int L[q]])) s = some (.dat (.tuple ((w ++ [L[q]]).map PyData.int))) := fun s => by
      rw [phAdd_t, if_pos (by simp; unfold mil; omega), List.map_append]
      rfl
    refine ⟨w ++ [L[q]], f', ?_, hf', ⟨by simp, fun x hx => ?_⟩, by simp⟩
    · have hg := hr L[q] (List.getElem_mem hq)
      generalize L[q] = y at *
      rw [if_pos rfl]
      simp [-phAdd_t, h2, e3, ka, intsD, -List.map_append]
    · rcases List.mem_append.mp hx with h | h
      · exact hw.rng x h
      · have : x = L[q] := by simpa using h
        rw [this]; exact hr _ (List.getElem_mem hq)
theorem lp_law_way_eq {dr : MF} {Fd : Nat → Ob → Prop} (D : DrawSp dr Fd) {bs : List Blk} (ok : GoIn bs) {t : Sto} {L : Type} : ∀ (k : Nat) (i : Int) (j : Nat) (f : Ob) (w : List Int), WayI bs w → w.length + k ≤ 100 → Fd j f → j + k ≤ 900000 →
    ∃ w' f', (lp_law_way_k13_1 (L := L) dr (.ref 0) (.dat (arrD bs)) okT (rgs i k) (.dat (intsD w)) (f :: t)) = .nx (.dat (intsD w')) (f' :: t) ∧ Fd (j + k) f' ∧ WayI bs w' ∧ w'.length ≤ w.length + k
  | 0, i, j, f, w, hw, hl, hf, hj => ⟨w, f, by rw [rgs_zero, lp_law_way_k13_1_nil], hf, hw, Nat.le_refl _⟩
  | k + 1, i, j, f, w, hw, hl, hf, hj => by
    rw [rgs_succ, lp_law_way_k13_1_cons]
    obtain ⟨w1, f1, h1, hf1, hw1, hl1⟩ := way_turn D ok (t := t) (k := .dat (.int i)) hw (by omega) hf (by omega)
    obtain ⟨w', f', h2, hf2, hw2, hl2⟩ := lp_law_way_eq D ok (t := t) (L := L) k (i + 1) (j + 1) f1 w1 hw1 (by omega) hf1 (by omega)
    refine ⟨w', f', ?_, D.mono hf2 (by omega), hw2, by omega⟩
    rw [pV_ap, patN_some, h1, lp_nx, tidy_same (by simp), h2]
theorem G_law_way_k13_eq {dr : MF} {Fd : Nat → Ob → Prop} (D : DrawSp dr Fd) {bs : List Blk} (ok : GoIn bs) {j : Nat} {f : Ob} {t : Sto} (hf : Fd j f) (hj : j ≤ 800000) :
    ∃ w f', G_law_way_k13 dr [.ref 0, .dat (arrD bs)] (f :: t) = .ok (.dat (intsD w)) (f' :: t) ∧ Fd (j + 10) f' ∧ WayI bs w ∧ w.length ≤ 9 := by
  obtain ⟨k, f1, h1, hf1, k0, k1⟩ := D.go0 (t := []) (m := 9) hf (by omega) (by decide) (by decide)
  obtain ⟨n, rfl⟩ : ∃ n : Nat, k = n := ⟨k.toNat, by omega⟩
  obtain ⟨w, f', h2, hf2, hw, hl⟩ := lp_law_way_eq D ok (t := []) (L := Empty) n 0 (j + 1) f1 [0] ⟨by simp, fun x hx => by
    have : x = 0 := by simpa using hx
    have := ok.1
    omega⟩ (by simp; omega) hf1 (by omega)
  refine ⟨w, f', fr1 (o' := f') (more := []) ?_ rfl (D.ok hf) (D.ok hf2), D.mono hf2 (by omega), hw, by simp at hl; omega⟩
  rw [r_law_way_k13, runN_ap]
  refine wp_of (Q := fun z => An.fin z = _) ?_
  simp only [n_law_way_k13]
  refine wp_an (by simp []; first | done | rfl | exact ⟨rfl, rfl⟩) ?_
  simp only [intsD, List.map_cons, List.map_nil] at h2
  refine wp_thn (by simp [h1, rngN1_n (show n ≤ mil by unfold mil; omega), src_ok_none, h2]; first | done | rfl | exact ⟨rfl, rfl⟩) ?_
  simp [Wp, kt_law_way_k13_1, intsD]
/-! ### things -/
theorem cut_map {α γ : Type} (g : α → γ) (xs : List α) (l h : Option Int) : cut (xs.map g) l h = (cut xs l h).map g := by
  unfold cut
  rw [List.length_map, List.map_take, List.map_drop]
/-- what is handed in is added to the list at 1 -/
theorem ext_n {r : Sto → R (List Vl)} {f f' : Ob} {ds es : List PyData} (h : r [f, .lst (ds.map Vl.dat)] = .ok [.dat (.list es)] [f', .lst (ds.map Vl.dat)]) (hl : ds.length + es.length ≤ 1000) : extN (.ref 1) [f, .lst (ds.map Vl.dat)] r = .ok (.dat .none) [f', .lst ((ds ++ es).map Vl.dat)] := by
  have h2 : ds.length + es.length ≤ mil := th_mil hl
  simp [extN, lstAt, h, h2]
theorem app_n {r : Sto → R (List Vl)} {f f' : Ob} {ds : List PyData} {p : PyData} (h : r [f, .lst (ds.map Vl.dat)] = .ok [.dat p] [f', .lst (ds.map Vl.dat)]) (hl : ds.length ≤ 999) : appN (.ref 1) [f, .lst (ds.map Vl.dat)] r = .ok (.dat .none) [f', .lst ((ds ++ [p]).map Vl.dat)] := by
  have h2 : ds.length < mil := Nat.lt_of_lt_of_le (Nat.lt_succ_of_le hl) (th_mil (Nat.le_refl 1000))
  simp [appN, lstAt, h, h2]
/-- how large the things are -/
abbrev ThF (d : PyData) : Prop := Fit (10 ^ 199 + 2) 42 5 12392 d
theorem wtAll_ints : ∀ zs : List Int, wtAll (zs.map PyData.int) = 252 * zs.length
  | [] => rfl
  | z :: zs => by
    simp only [List.map_cons, wtAll, wt, List.length_cons, wtAll_ints zs]
    omega
theorem big_le {n : Nat} (h : n ≤ 100) : n ≤ 10 ^ 199 := Nat.le_trans h (Nat.le_trans (show 100 ≤ 10 ^ 2 by decide) (Nat.pow_le_pow_right (by decide) (by decide)))
theorem ints_tup {M : Nat} {zs : List Int} (h : ∀ z ∈ zs, 0 ≤ z ∧ z ≤ 100) (hl : zs.length ≤ l) : Fit (10 ^ 199 + M) l 1 (252 * l + 5) (.tuple (zs.map PyData.int)) :=
  Fit.tup (n := 0) (by rw [List.length_map]; exact hl) (fun x hx => by
    obtain ⟨z, hz, rfl⟩ := List.mem_map.mp hx
    have := h z hz
    have := big_le (n := z.natAbs) (by omega)
    exact ⟨by simp only [leaf, decide_eq_true_eq]; omega, rfl, Nat.zero_le _⟩) (by rw [wtAll_ints]; omega)
theorem ints_lst {M : Nat} {zs : List Int} (h : ∀ z ∈ zs, 0 ≤ z ∧ z ≤ 100) (hl : zs.length ≤ l) : Fit (10 ^ 199 + M) l 1 (252 * l + 5) (.list (zs.map PyData.int)) :=
  Fit.lst (n := 0) (by rw [List.length_map]; exact hl) (fun x hx => by
    obtain ⟨z, hz, rfl⟩ := List.mem_map.mp hx
    have := h z hz
    have := big_le (n := z.natAbs) (by omega)
    exact ⟨by simp only [leaf, decide_eq_true_eq]; omega, rfl, Nat.zero_le _⟩) (by rw [wtAll_ints]; omega)
theorem thT {zs : List Int} (h : ∀ z ∈ zs, 0 ≤ z ∧ z ≤ 100) (hl : zs.length ≤ 20) : ThF (.tuple (zs.map PyData.int)) := (ints_tup (M := 2) h hl).mono (Nat.le_refl _) (by decide) (by decide) (by decide)
theorem thL {zs : List Int} (h : ∀ z ∈ zs, 0 ≤ z ∧ z ≤ 100) (hl : zs.length ≤ 20) : ThF (.list (zs.map PyData.int)) := (ints_lst (M := 2) h hl).mono (Nat.le_refl _) (by decide) (by decide) (by decide)
section
variable {x y : List Int} {s : Sto} {a b : Nat}
theorem addI (h : x.length + y.length ≤ 100) : phAdd (.dat (.tuple (x.map PyData.int))) (.dat (.tuple (y.map PyData.int))) s = some (.dat (.tuple ((x ++ y).map PyData.int))) := by
  rw [phAdd_t, if_pos (by rw [List.length_map, List.length_map]; exact th_mil (by omega)), List.map_append]
theorem slTo (h : a ≤ x.length) : phSl (.dat (.tuple (x.map PyData.int))) none (some (a : Int)) s = some (.dat (.tuple ((x.take a).map PyData.int))) := by
  rw [phSl_t, cut_map, cut_to x h]
theorem slTo1 (h : a + 1 ≤ x.length) : phSl (.dat (.tuple (x.map PyData.int))) none (some ((a : Int) + 1)) s = some (.dat (.tuple ((x.take (a + 1)).map PyData.int))) := slTo (a := a + 1) h
theorem slFrom (h : a ≤ x.length) : phSl (.dat (.tuple (x.map PyData.int))) (some (a : Int)) none s = some (.dat (.tuple ((x.drop a).map PyData.int))) := by
  rw [phSl_t, cut_map, cut_from x h]
theorem slFrom1 (h : a + 1 ≤ x.length) : phSl (.dat (.tuple (x.map PyData.int))) (some ((a : Int) + 1)) none s = some (.dat (.tuple ((x.drop (a + 1)).map PyData.int))) := slFrom (a := a + 1) h
theorem slMid (h : a + 1 ≤ x.length) : phSl (.dat (.tuple (x.map PyData.int))) (some (a : Int)) (some ((a : Int) + 1)) s = some (.dat (.tuple (((x.drop a).take 1).map PyData.int))) := by
  have e : cut x (some (a : Int)) (some ((a : Int) + 1)) = (x.drop a).take 1 := by
    have e1 : cut x (some (a : Int)) (some ((a + 1 : Nat) : Int)) = (x.drop a).take (a + 1 - a) := by
      unfold cut
      rw [sIx_at _ _ _ (show a ≤ x.length by omega), sIx_at _ _ _ h]
    rw [show a + 1 - a = 1 by omega] at e1
    exact e1
  rw [phSl_t, cut_map, e]
end
def th0 : List PyData := [.tuple [], .none, .int 0, .str "", .list [], .list [.int 0], .tuple [.int 0], .tuple [.bool true], .tuple [.bool false], .tuple [.int 1], .tuple [.int (-1)], .tuple [.int 0, .none], .tuple [.int 0, .str "1"], .tuple [.int 0, .tuple [.int 1]], .tuple [.int 99]]
def th1 : List PyData := [.tuple [.int 0, .bool true], .tuple [.int 0, .int (10 ^ 60)], .tuple [.tuple [.int 0]], .tuple [.int 0, .int 0], .tuple [.int 0, .int 1], .tuple [.int 0, .int 1, .int 2]]
theorem th_fit : ∀ d ∈ th0 ++ [PyData.tuple [.int 0, .int 99]] ++ th1, ThF d := by
  have h : ((th0 ++ [PyData.tuple [.int 0, .int 99]] ++ th1).all fun o => leaf (10 ^ 199 + 2) o && lens 42 o && decide (o.depth ≤ 5) && decide (wt o ≤ 12392)) = true := by decide +kernel
  intro o ho
  have := List.all_eq_true.mp h o ho
  simp only [Bool.and_eq_true, decide_eq_true_eq] at this
  exact ⟨this.1.1.1, this.1.1.2, this.1.2, this.2⟩
theorem things_turn {dr : MF} {Fd : Nat → Ob → Prop} (D : DrawSp dr Fd) {bs : List Blk} (ok : GoIn bs) (few : bs.length ≤ 100) {j : Nat} {f : Ob} {ds : List PyData} {k : Vl} (hd : ∀ d ∈ ds, ThF d) (hl : ds.length ≤ 900) (hf : Fd j f) (hj : j ≤ 700000) :
    ∃ (ds' : List PyData) (f' : Ob), nb_law_things_k13_1 dr (.ref 0) (.dat (arrD bs)) (.ref 1) k [f, .lst (ds.map Vl.dat)] = .nx () [f', .lst (ds'.map Vl.dat)] ∧ Fd (j + 100) f' ∧ (∀ d ∈ ds', ThF d) ∧ ds'.length ≤ ds.length + 9 := by
  obtain ⟨w, f1, h1, hf1, hw, hw9⟩ := G_law_way_k13_eq D ok (t := [.lst (ds.map Vl.dat)]) hf (by omega)
  have hn1 : 1 ≤ w.length := by cases w with | nil => exact absurd rfl hw.ne | cons _ _ => simp
  have hwr : ∀ z ∈ w, 0 ≤ z ∧ z ≤ 100 := fun z hz => by have := hw.rng z hz; omega
  obtain ⟨a, f2, h2, hf2, a0, a1⟩ := D.go0 (t := [.lst (ds.map Vl.dat)]) (m := (w.length : Int)) hf1 (by omega) (by omega) (by omega)
  obtain ⟨b, f3, h3, hf3, b0, b1⟩ := D.go0 (t := [.lst (ds.map Vl.dat)]) (m := (w.length : Int)) hf2 (by omega) (by omega) (by omega)
  obtain ⟨a, rfl⟩ : ∃ n : Nat, a = n := ⟨a.toNat, by omega⟩
  obtain ⟨b, rfl⟩ : ∃ n : Nat, b = n := ⟨b.toNat, by omega⟩
  have fw : Fit (10 ^ 199) 9 1 2273 (.tuple (w.map PyData.int)) := ints_tup (M := 0) hwr hw9
  obtain ⟨bd, f4, h4, hf4, fb⟩ := G_law_bend_k13_eq D odd_ok 1 (N := 5) (t := [.lst (ds.map Vl.dat)]) (by decide) (by decide) fw (Nat.le_refl _) (by decide) (by decide) hf3 (by omega)
  have la : a + 1 ≤ w.length := by omega
  have lb : b + 1 ≤ w.length := by omega
  have cTo := fun s => slTo (x := w) (s := s) (a := a) (by omega)
  have cTo1 := fun s => slTo1 (x := w) (s := s) la
  have cFr := fun s => slFrom (x := w) (s := s) (a := a) (by omega)
  have cFr1 := fun s => slFrom1 (x := w) (s := s) la
  have cMd := fun s => slMid (x := w) (s := s) lb
  have n1 : (w.take a).length ≤ 9 := by rw [List.length_take]; omega
  have n2 : (w.drop (a + 1)).length ≤ 9 := by rw [List.length_drop]; omega
  have n3 : ((w.drop b).take 1).length ≤ 1 := by rw [List.length_take]; omega
  have n4 : (w.drop a).length ≤ 9 := by rw [List.length_drop]; omega
  have p1 := fun s => addI (x := w.take a) (y := w.drop (a + 1)) (s := s) (by omega)
  have p2 := fun s => addI (x := w.take a) (y := (w.drop b).take 1) (s := s) (by omega)
  have p3 := fun s => addI (x := w.take a ++ (w.drop b).take 1) (y := w.drop a) (s := s) (by rw [List.length_append]; omega)
  have p0 := fun s => addI (x := w) (y := w) (s := s) (by omega)
  have hwl : ∀ s, phLen [.dat (.tuple (w.map PyData.int))] s = some (.dat (.int (w.length : Int))) := fun s => by rw [phLen_t, List.length_map]
  refine wp_of (Q := fun z : An Unit Unit => ∃ (ds' : List PyData) (f' : Ob), z = .nx () [f', .lst (ds'.map Vl.dat)] ∧ Fd (j + 100) f' ∧ (∀ d ∈ ds', ThF d) ∧ ds'.length ≤ ds.length + 9) ?_
  simp only [nb_law_things_k13_1]
  refine wp_an (by simp [h1, intsD]; first | done | rfl | exact ⟨rfl, rfl⟩) ?_
  refine wp_an (a := [.dat (.int a), .dat (.int b)]) (s := [f3, .lst (ds.map Vl.dat)]) (by simp [intsD, hwl, h2, h3, -phLen_t]) ?_
  rw [par2N_ap]
  refine wp_an (a := .dat bd) (s := [f4, .lst (ds.map Vl.dat)]) (by simp [intsD, G_law_odd_k01_eq, h4]) ?_
  refine wp_an (ext_n (f' := f4) (es := [.tuple (w.map PyData.int), .tuple ((w.take a ++ w.drop (a + 1)).map PyData.int), .tuple ((w.take a ++ (w.drop b).take 1 ++ w.drop a).map PyData.int), .list (w.map PyData.int), bd])
    (by simp only [intsD, R.bind_ok, int?_i, Option.map_some, R.of_some, phAdd_i, cTo, cFr, cFr1, cMd, p1, p2, p3, phList_t, lstN_ap, datas_cons, datas_nil, Option.bind_some, List.length_cons, List.length_nil]; rfl) (by simp; omega)) ?_
  refine wp_an (app_n (p := .tuple ((w ++ w).map PyData.int)) (f' := f4) (by simp only [intsD, R.bind_ok, p0, R.of_some]) (by simp; omega)) ?_
  generalize hL2 : (ds ++ [PyData.tuple (w.map PyData.int), .tuple ((w.take a ++ w.drop (a + 1)).map PyData.int), .tuple ((w.take a ++ (w.drop b).take 1 ++ w.drop a).map PyData.int), .list (w.map PyData.int), bd]) ++ [PyData.tuple ((w ++ w).map PyData.int)] = L2
  have lL2 : L2.length = ds.length + 6 := by rw [← hL2]; simp
  obtain ⟨bd2, f5, h5, hf5, fb2⟩ := G_law_bend_k13_eq D odd_ok 3 (N := 5) (t := [.lst (L2.map Vl.dat)]) (by decide) (by decide) fb (by omega) (by decide) (by decide) hf4 (by omega)
  obtain ⟨c, f6, h6, hf6, c0, c1⟩ := D.go0 (t := [.lst (L2.map Vl.dat)]) (m := 7) hf5 (by omega) (by decide) (by decide)
  have p4 : ∀ s, phAdd (.dat (.tuple ((w.take a).map PyData.int))) (.dat (.tuple [.int c])) s = some (.dat (.tuple ((w.take a ++ [c]).map PyData.int))) := fun s => addI (x := w.take a) (y := [c]) (s := s) (by simp; omega)
  have p5 := fun s => addI (x := w.take a ++ [c]) (y := w.drop (a + 1)) (s := s) (by simp only [List.length_append, List.length_singleton]; omega)
  have k1 : callN 0 G_law_odd_k01 [] [f4, .lst (L2.map Vl.dat)] = .ok (.dat (.tuple oddL)) [f4, .lst (L2.map Vl.dat)] := G_law_odd_k01_eq _
  have k2 : callN 3 (G_law_bend_k13 dr 6) [.ref 0, .dat bd, .dat (.tuple oddL)] [f4, .lst (L2.map Vl.dat)] = .ok (.dat bd2) [f5, .lst (L2.map Vl.dat)] := h5
  have k3 : callN 2 dr [.ref 0, .dat (.int 7)] [f5, .lst (L2.map Vl.dat)] = .ok (.dat (.int c)) [f6, .lst (L2.map Vl.dat)] := h6
  have k4 : tupN [.dat (.int c)] = some (.dat (.tuple [.int c])) := rfl
  refine wp_an (ext_n (f' := f6) (es := [bd2, .tuple ((w.take a ++ [c] ++ w.drop (a + 1)).map PyData.int)])
    (by
      simp only [intsD, k1, k2, R.bind_ok, int?_i, Option.map_some, R.of_some, cTo]
      rw [k3]
      simp only [R.bind_ok, int?_i, k4, Option.map_some, R.of_some, phAdd_i, cFr1, p4, p5, lstN_ap, datas_cons, datas_nil, Option.bind_some, List.length_cons, List.length_nil]
      rfl) (by simp; omega)) ?_
  generalize hL3 : L2 ++ [bd2, .tuple ((w.take a ++ [c] ++ w.drop (a + 1)).map PyData.int)] = L3
  have lL3 : L3.length = ds.length + 8 := by rw [← hL3]; simp; omega
  refine wp_an (app_n (p := .tuple ((w.take (a + 1)).map PyData.int)) (f' := f6) (by simp only [intsD, R.bind_ok, int?_i, Option.map_some, R.of_some, phAdd_i, cTo1]) (by omega)) ?_
  refine ⟨L3 ++ [.tuple ((w.take (a + 1)).map PyData.int)], f6, rfl, D.mono hf6 (by omega), fun d hd' => ?_, by simp; omega⟩
  have mt : ∀ {k : Nat} {z : Int}, z ∈ w.take k → 0 ≤ z ∧ z ≤ 100 := fun h => hwr _ (List.mem_of_mem_take h)
  have md : ∀ {k : Nat} {z : Int}, z ∈ w.drop k → 0 ≤ z ∧ z ≤ 100 := fun h => hwr _ (List.mem_of_mem_drop h)
  rw [← hL3, ← hL2] at hd'
  simp only [List.mem_append, List.mem_cons, List.not_mem_nil, or_false] at hd'
  rcases hd' with (((h | h | h | h | h | h) | h) | h | h) | h
  · exact hd d h
  · rw [h]; exact thT hwr (by omega)
  · rw [h]
    refine thT (fun z hz => ?_) (by rw [List.length_append]; omega)
    rcases List.mem_append.mp hz with y | y
    · exact mt y
    · exact md y
  · rw [h]
    refine thT (fun z hz => ?_) (by rw [List.length_append, List.length_append]; omega)
    rcases List.mem_append.mp hz with y | y
    · rcases List.mem_append.mp y with y | y
      · exact mt y
      · exact md (List.mem_of_mem_take y)
    · exact md y
  · rw [h]; exact thL hwr (by omega)
  · rw [h]; exact fb.mono (by omega) (by decide) (by decide) (by decide)
  · rw [h]
    refine thT (fun z hz => ?_) (by rw [List.length_append]; omega)
    rcases List.mem_append.mp hz with y | y <;> exact hwr z y
  · rw [h]; exact fb2.mono (by omega) (by decide) (by decide) (by decide)
  · rw [h]
    refine thT (fun z hz => ?_) (by rw [List.length_append, List.length_append, List.length_singleton]; omega)
    rcases List.mem_append.mp hz with y | y
    · rcases List.mem_append.mp y with y | y
      · exact mt y
      · have : z = c := by simpa using y
        omega
    · exact md y
  · rw [h]
    exact thT (fun z hz => mt hz) (by rw [List.length_take]; omega)
theorem lp_law_things_eq {dr : MF} {Fd : Nat → Ob → Prop} (D : DrawSp dr Fd) {bs : List Blk} (ok : GoIn bs) (few : bs.length ≤ 100) {L : Type} : ∀ (k : Nat) (i : Int) (j : Nat) (f : Ob) (ds : List PyData), (∀ d ∈ ds, ThF d) → ds.length + 9 * k ≤ 900 → Fd j f → j + 100 * k ≤ 700000 →
    ∃ (ds' : List PyData) (f' : Ob), (lp_law_things_k13_1 (L := L) dr (.ref 0) (.dat (arrD bs)) (.ref 1) okT (rgs i k) () [f, .lst (ds.map Vl.dat)]) = .nx () [f', .lst (ds'.map Vl.dat)] ∧ Fd (j + 100 * k) f' ∧ (∀ d ∈ ds', ThF d) ∧ ds'.length ≤ ds.length + 9 * k
  | 0, i, j, f, ds, hd, hl, hf, hj => ⟨ds, f, by rw [rgs_zero, lp_law_things_k13_1_nil], hf, hd, by omega⟩
  | k + 1, i, j, f, ds, hd, hl, hf, hj => by
    rw [rgs_succ, lp_law_things_k13_1_cons]
    obtain ⟨ds1, f1, h1, hf1, hd1, hl1⟩ := things_turn D ok few (k := .dat (.int i)) hd (by omega) hf (by omega)
    obtain ⟨ds2, f2, h2, hf2, hd2, hl2⟩ := lp_law_things_eq D ok few (L := L) k (i + 1) (j + 100) f1 ds1 hd1 (by omega) hf1 (by omega)
    refine ⟨ds2, f2, ?_, D.mono hf2 (by omega), hd2, by omega⟩
    rw [pV_ap, patN_some, h1, lp_nx, tidy_same (by simp), h2]
theorem G_law_things_k13_eq {dr : MF} {Fd : Nat → Ob → Prop} (D : DrawSp dr Fd) {bs : List Blk} (ok : GoIn bs) (few : bs.length ≤ 100) {j : Nat} {f : Ob} {t : Sto} (hf : Fd j f) (hj : j ≤ 600000) :
    ∃ (ds : List PyData) (f' : Ob), G_law_things_k13 dr [.ref 0, .dat (arrD bs)] (f :: t) = .ok (.dat (.list ds)) (f' :: t) ∧ Fd (j + 500) f' ∧ (∀ d ∈ ds, ThF d) ∧ ds.length ≤ 67 := by
  obtain ⟨ds, f', h1, hf1, hd1, hl1⟩ := lp_law_things_eq D ok few (L := Empty) 5 0 j f (th0 ++ [PyData.tuple [.int 0, .int 99]] ++ th1) th_fit (by decide) hf (by omega)
  refine ⟨ds, f', fr1l (m := 1) (o' := f') (more := [.lst (ds.map Vl.dat)]) ?_ rfl (by decide) rfl (D.ok hf) (D.ok hf1), hf1, hd1, Nat.le_trans hl1 (by decide)⟩
  rw [r_law_things_k13, runN_ap]
  refine wp_of (Q := fun z => An.fin z = _) ?_
  simp only [n_law_things_k13]
  refine wp_an (a := .ref 1) (s := [f, .lst (th0.map Vl.dat)]) (by simp [th0]) ?_
  refine wp_an (app_n (p := .tuple [.int 0, .int 99]) (f' := f) (by simp) (by decide)) ?_
  have p60 : ∀ s, phPow (.dat (.int 10)) (.dat (.int 60)) s = some (.dat (.int (10 ^ 60))) := fun s => phPow_c (by decide)
  refine wp_an (ext_n (es := th1) (f' := f) (by
    unfold th1
    generalize (10 ^ 60 : Int) = t60 at p60 ⊢
    simp [p60]) (by decide)) ?_
  have er := fun s => rngN1_n (n := 5) (s := s) (by unfold mil; omega)
  simp only [show ((5 : Nat) : Int) = 5 from rfl] at er
  refine wp_thn (by rw [er, R.an_ok, src_ok_none]; exact h1) ?_
  simp [Wp, kt_law_things_k13_1]
end Pm
set_option maxRecDepth 100000
set_option maxHeartbeats 4000000
namespace Pm
open PySem PySem.Spec PyProof.Rows L2 Sw

/-! ### loops whose turns change nothing, texts of data -/
theorem forN_same {S L : Type} {mk : S → Loc} {nb : Vl → S → Sto → An S S} {a : S} {s : Sto} : ∀ {items : List Vl}, (∀ v ∈ items, nb v a s = .nx a s) → (forN okT mk nb items a s : An S L) = .nx a s
  | [], _ => forN_nil
  | v :: r, h => by
    rw [forN_cons, h v List.mem_cons_self, lp_nx, tidy_same rfl]
    exact forN_same fun w hw => h w (List.mem_cons_of_mem _ hw)
/-- data whose text is at hand -/
structure Rpr (d : PyData) : Prop where
  sh : d.showable = true
  nd : d.hasDict = false
  dp : d.depth ≤ 60
  ln : d.shown.length ≤ sizeLine
theorem Rpr.of {M l n B : Nat} {d : PyData} (h : Fit M l n B d) (hM : M < 10 ^ 240) (hn : n ≤ 60) (hB : B ≤ 1000000) : Rpr d :=
  ⟨leaf_shows (Nat.lt_trans hM (by decide)) d h.lf, leaf_noDict d h.lf, Nat.le_trans h.dp hn, Nat.le_trans (shown_wt hM d h.lf) (mil_le (Nat.le_trans h.wg hB))⟩
theorem repr_t {ds : List PyData} {s : Sto} (h : Rpr (.tuple ds)) : phRepr [.dat (.tuple ds)] s = some (.dat (.str (PyData.tuple ds).shown)) := if_pos ⟨h.sh, h.nd, h.dp, h.ln⟩
theorem repr_l {ds : List PyData} {s : Sto} (h : Rpr (.list ds)) : phRepr [.dat (.list ds)] s = some (.dat (.str (PyData.list ds).shown)) := if_pos ⟨h.sh, h.nd, h.dp, h.ln⟩
theorem rgs_mem {lo : Int} {n : Nat} {v : Vl} (h : v ∈ rgs lo n) : ∃ i : Int, v = .dat (.int i) ∧ lo ≤ i ∧ i < lo + n := by
  unfold rgs at h
  obtain ⟨k, hk, rfl⟩ := List.mem_map.mp h
  have := List.mem_range.mp hk
  exact ⟨lo + k, rfl, by omega, by omega⟩
/-! ### feeds -/
theorem cut_le {α : Type} (xs : List α) (n : Nat) : cut xs none (some (n : Int)) = xs.take n := by
  unfold cut
  rw [HT.sIx_nat]
  show (xs.drop 0).take (min n xs.length - 0) = _
  rw [List.drop_zero, Nat.sub_zero, ← List.take_eq_take_min]
theorem n_law_feed_k01_eq {ns : List Int} (hl : ns.length ≤ 63) (s : Sto) : (n_law_feed_k01 (.scr ns) s).fin = .ok (.ref s.length) (s ++ [fdL ns 0 0 0]) := by
  have e : ∀ s, phSl (.scr ns) none (some 63) s = some (.dat (.list (ns.map PyData.int))) := fun s => by
    simp only [phSl]
    rw [if_pos (show ns.length ≤ mil from Nat.le_trans hl (by unfold mil; omega)), cut_map, show (63 : Int) = ((63 : Nat) : Int) from rfl, cut_le, List.take_of_length_le hl]
  simp [n_law_feed_k01, e, fdL]
theorem fdl0 {ns : List Int} (hl : ns.length ≤ 63) : FdL 0 (fdL ns 0 0 0) := ⟨ns, 0, 0, 0, rfl, hl, Int.le_refl _, Int.le_refl _, Int.le_refl _⟩
end Pm
set_option maxRecDepth 100000
set_option maxHeartbeats 4000000
namespace Pm
open PySem PySem.Spec PyProof.Rows L2 Sw

noncomputable def n_law_beside (w_code : Vl) : Sto → An Unit Empty := fun s =>
  (((R.of (phIx w_code (Vl.dat (.int 0)) s) s).bind fun x1 s2 => (((((((((((R.of (tupN []) s2).bind fun x3 s4 => ((R.of (tupN [(Vl.dat (.str "back"))]) s4).bind fun x5 s6 => R.ok [x5] s6).bind fun l7 s8 => R.ok (x3 :: l7) s8).bind fun l9 s10 => R.of (tupN l9) s10).bind fun x11 s12 => R.ok [x11] s12).bind fun l13 s14 => R.of (tupN l13) s14).bind fun x15 s16 => R.ok [x15] s16).bind fun l17 s18 => R.ok ((Vl.dat (.str "main")) :: l17) s18).bind fun l19 s20 => R.of (tupN l19) s20).bind fun x21 s22 => (((((((R.of (phIx w_code (Vl.dat (.int 1)) s22) s22).bind fun x23 s24 => R.of (phIx x23 (Vl.dat (.int 0)) s24) s24).bind fun x25 s26 => R.of (phIx x25 (Vl.dat (.int 1)) s26) s26).bind fun x27 s28 => R.ok [x27] s28).bind fun l29 s30 => R.ok ((Vl.dat (.str "sub")) :: l29) s30).bind fun l31 s32 => R.of (tupN l31) s32).bind fun x33 s34 => R.ok [x33] s34).bind fun l35 s36 => R.ok (x21 :: l35) s36).bind fun l37 s38 => R.of (tupN l37) s38).bind fun x39 s40 => R.ok [x39] s40).bind fun l41 s42 => R.ok (x1 :: l41) s42).bind fun l43 s44 => R.of (tupN l43) s44).an fun x45 s46 => .rt x45 s46
noncomputable def r_law_beside : MF := runN fun xs => match xs with
  | [w_code] => n_law_beside w_code
  | _ => fun _ => .bad
noncomputable def G_law_beside : MF := frameG (r_law_beside)
def mk_law_other_right_k13_1 (w_code : Vl) : Unit → Loc := fun a => [none, some w_code, none, none, none, none]
def mk_law_other_right_k13_2 (w_code : Vl) (w_thing : Vl) : (Vl) → Loc := fun a => [none, some w_code, some w_thing, some a, none, none]
noncomputable def kt_law_other_right_k13_1 (w_code : Vl) (w_thing : Vl) (w_told : Vl) : Sto → An Unit Unit := fun s =>
  (((R.of (phRepr [w_told] s) s).bind fun x112 s113 => (((((callN 1 G_law_arrows [w_code] s113).bind fun x114 s115 => R.ok [x114, (Vl.dat (.int 1)), (Vl.dat (.int 3)), w_thing] s115).bind fun l116 s117 => callN 4 G_law_arounded_k13 l116 s117).bind fun x118 s119 => R.ok [x118] s119).bind fun l120 s121 => R.of (phRepr l120 s121) s121).bind fun x122 s123 => R.of (phNe x112 x122 s123) s123).bind fun x124 s125 => R.of (bool? x124) s125).an fun c126 s127 => if c126 = true then
    (R.ok (Vl.dat (.bool false)) s127).an fun x128 s129 => .rt x128 s129
    else
    .nx () s127
noncomputable def nb_law_other_right_k13_1 (w_code : Vl) (w_thing : Vl) : Sto → An Unit Unit := fun s =>
  (R.of (tupN [(Vl.dat (.str "told")), (Vl.dat (.bool true))]) s).an fun w_told s83 =>
    (tryN (mk_law_other_right_k13_2 w_code w_thing) (mk_law_other_right_k13_1 w_code) (fun s84 =>
    (((((callN 1 G_law_beside [w_code] s84).bind fun x87 s88 => R.ok [x87, (Vl.dat (.str "sub")), (Vl.dat (.int 1)), (Vl.dat (.int 3)), w_thing] s88).bind fun l89 s90 => callN 5 G_lets_around l89 s90).bind fun x91 s92 => R.of (phIsNot x91 (Vl.dat (.bool true)) s92) s92).bind fun x93 s94 => R.of (bool? x93) s94).an fun c95 s96 => if c95 = true then
      (R.ok (Vl.dat (.bool false)) s96).an fun x97 s98 => .rt x97 s98
      else
      .nx w_told s96) (fun nm => if nm = "NoPaper" then some true else none) (fun e86 s85 =>
    ((((R.of (phFld "NoPaper" "word" (Vl.exo e86.1 e86.2) s85) s85).bind fun x100 s101 => ((R.of (phFld "NoPaper" "at" (Vl.exo e86.1 e86.2) s101) s101).bind fun x102 s103 => R.ok [x102] s103).bind fun l104 s105 => R.ok (x100 :: l104) s105).bind fun l106 s107 => R.ok ((Vl.dat (.str "no")) :: l106) s107).bind fun l108 s109 => R.of (tupN l108) s109).an fun w_told s99 =>
      .nx w_told s99) s83).thn fun j110 s111 => kt_law_other_right_k13_1 w_code w_thing j110 s111
noncomputable def lp_law_other_right_k13_1 {L : Type} (w_code : Vl) (ck : Sto → Prop) : List Vl → Unit → Sto → An Unit L := forN ck (mk_law_other_right_k13_1 w_code) (fun v a s => patN (pV v) fun p => nb_law_other_right_k13_1 w_code p s)
@[simp] theorem lp_law_other_right_k13_1_nil {L : Type} (w_code : Vl) {a : Unit} {s : Sto} : (lp_law_other_right_k13_1 (L := L) w_code okT [] a s) = .nx a s := forN_nil
theorem lp_law_other_right_k13_1_cons {L : Type} (w_code : Vl) {v : Vl} {r : List Vl} {a : Unit} {s : Sto} : (lp_law_other_right_k13_1 (L := L) w_code okT (v :: r) a s) = (patN (pV v) fun p => nb_law_other_right_k13_1 w_code p s).lp (mk_law_other_right_k13_1 w_code) s.length (lp_law_other_right_k13_1 w_code okT r) := forN_cons
noncomputable def kt_law_other_right_k13_2 (w_code : Vl) : Sto → An Unit Empty := fun s =>
  (R.ok (Vl.dat (.bool true)) s).an fun x134 s135 => .rt x134 s135
noncomputable def n_law_other_right_k13  : Sto → An Unit Empty := fun s =>
  (((R.of (tupN [(Vl.dat (.str "if")), (Vl.dat (.str "i")), (Vl.dat (.int 1)), (Vl.dat (.int 2))]) s).bind fun x2 s3 => ((R.of (tupN [(Vl.dat (.str "go")), (Vl.dat (.int 3))]) s3).bind fun x4 s5 => ((R.of (tupN [(Vl.dat (.str "go")), (Vl.dat (.int 3))]) s5).bind fun x6 s7 => ((R.of (tupN [(Vl.dat (.str "back"))]) s7).bind fun x8 s9 => R.ok [x8] s9).bind fun l10 s11 => R.ok (x6 :: l10) s11).bind fun l12 s13 => R.ok (x4 :: l12) s13).bind fun l14 s15 => R.ok (x2 :: l14) s15).bind fun l16 s17 => R.of (tupN l16) s17).an fun w_meet s1 =>
    (((((R.of (tupN [(Vl.dat (.str "a")), (Vl.dat (.int 1))]) s1).bind fun x19 s20 => R.ok [x19] s20).bind fun l21 s22 => R.of (tupN l21) s22).bind fun x23 s24 => ((((((((((mLc (iSeq (mVar 0)) (gmName 5) tYesM (mTup (aCons (mTup aNil) (aCons (mVar 5) aNil))) [5]) [some w_meet, none, none, none, none, none] s24).bind fun x29 s30 => R.ok [x29] s30).bind fun l31 s32 => R.of (phTuple l31 s32) s32).bind fun x33 s34 => R.ok [x33] s34).bind fun l35 s36 => R.ok ((Vl.dat (.str "main")) :: l35) s36).bind fun l37 s38 => R.of (tupN l37) s38).bind fun x39 s40 => R.ok [x39] s40).bind fun l41 s42 => R.of (tupN l41) s42).bind fun x43 s44 => R.ok [x43] s44).bind fun l45 s46 => R.ok (x23 :: l45) s46).bind fun l47 s48 => R.of (tupN l47) s48).an fun w_code s18 =>
    (((((R.of (tupN [(Vl.dat (.int 0)), (Vl.dat (.int 2)), (Vl.dat (.int 3))]) s18).bind fun x49 s50 => ((R.of (tupN [(Vl.dat (.int 0)), (Vl.dat (.int 3))]) s50).bind fun x51 s52 => ((R.of (tupN [(Vl.dat (.int 0)), (Vl.dat (.int 1)), (Vl.dat (.int 3))]) s52).bind fun x53 s54 => ((R.of (tupN [(Vl.dat (.int 0)), (Vl.dat (.int 2))]) s54).bind fun x55 s56 => ((R.of (tupN [(Vl.dat (.int 2)), (Vl.dat (.int 3))]) s56).bind fun x57 s58 => ((R.of (tupN []) s58).bind fun x59 s60 => ((R.of (tupN [(Vl.dat (.int 0)), (Vl.dat (.int 2)), (Vl.dat (.int 4))]) s60).bind fun x61 s62 => ((R.of (tupN [(Vl.dat (.int 0)), (Vl.dat (.int 0)), (Vl.dat (.int 2)), (Vl.dat (.int 3))]) s62).bind fun x63 s64 => R.ok [x63] s64).bind fun l65 s66 => R.ok (x61 :: l65) s66).bind fun l67 s68 => R.ok (x59 :: l67) s68).bind fun l69 s70 => R.ok (x57 :: l69) s70).bind fun l71 s72 => R.ok (x55 :: l71) s72).bind fun l73 s74 => R.ok (x53 :: l73) s74).bind fun l75 s76 => R.ok (x51 :: l75) s76).bind fun l77 s78 => R.ok (x49 :: l77) s78).bind fun l79 s80 => R.of (tupN l79) s80).bind fun x81 s82 => R.of (src x81 s82) s82).an fun c130 s131 => lp_law_other_right_k13_1 w_code c130.ok c130.items () s131).thn fun j132 s133 => kt_law_other_right_k13_2 w_code  s133
noncomputable def r_law_other_right_k13 : MF := runN fun xs => match xs with
  | [] => n_law_other_right_k13 
  | _ => fun _ => .bad
noncomputable def G_law_other_right_k13 : MF := frameG (r_law_other_right_k13)
def mk_law_k13_1 (w_feed_here : Vl) : Unit → Loc := fun a => [none, some w_feed_here, none, none, none, none, none, none, none, none]
def mk_law_k13_2 (w_feed_here : Vl) (w_code : Vl) (w_arrows_here : Vl) (w_things_here : Vl) (w_kept : Vl) : Unit → Loc := fun a => [none, some w_feed_here, none, some w_code, some w_arrows_here, some w_things_here, some w_kept, none, none, none]
def mk_law_k13_3 (w_feed_here : Vl) (w_code : Vl) (w_arrows_here : Vl) (w_things_here : Vl) (w_kept : Vl) (w_over : Vl) : Unit → Loc := fun a => [none, some w_feed_here, none, some w_code, some w_arrows_here, some w_things_here, some w_kept, some w_over, none, none]
def mk_law_k13_4 (w_feed_here : Vl) (w_code : Vl) (w_arrows_here : Vl) (w_things_here : Vl) (w_kept : Vl) (w_over : Vl) (w_under : Vl) : Unit → Loc := fun a => [none, some w_feed_here, none, some w_code, some w_arrows_here, some w_things_here, some w_kept, some w_over, some w_under, none]
noncomputable def nb_law_k13_4 (dr : MF) (w_feed_here : Vl) (w_code : Vl) (w_arrows_here : Vl) (w_things_here : Vl) (w_kept : Vl) (w_over : Vl) (w_under : Vl) (w_thing : Vl) : Sto → An Unit Unit := fun s =>
  (((((callN 4 G_law_said_k13 [w_code, w_over, w_under, w_thing] s).bind fun x26 s27 => R.ok [x26] s27).bind fun l28 s29 => R.of (phRepr l28 s29) s29).bind fun x30 s31 => (((callN 4 G_law_arounded_k13 [w_arrows_here, w_over, w_under, w_thing] s31).bind fun x32 s33 => R.ok [x32] s33).bind fun l34 s35 => R.of (phRepr l34 s35) s35).bind fun x36 s37 => R.of (phNe x30 x36 s37) s37).bind fun x38 s39 => R.of (bool? x38) s39).an fun c40 s41 => if c40 = true then
    (R.ok (Vl.dat (.bool false)) s41).an fun x42 s43 => .rt x42 s43
    else
    .nx () s41
noncomputable def lp_law_k13_4 {L : Type} (dr : MF) (w_feed_here : Vl) (w_code : Vl) (w_arrows_here : Vl) (w_things_here : Vl) (w_kept : Vl) (w_over : Vl) (w_under : Vl) (ck : Sto → Prop) : List Vl → Unit → Sto → An Unit L := forN ck (mk_law_k13_4 w_feed_here w_code w_arrows_here w_things_here w_kept w_over w_under) (fun v a s => patN (pV v) fun p => nb_law_k13_4 dr w_feed_here w_code w_arrows_here w_things_here w_kept w_over w_under p s)
@[simp] theorem lp_law_k13_4_nil {L : Type} (dr : MF) (w_feed_here : Vl) (w_code : Vl) (w_arrows_here : Vl) (w_things_here : Vl) (w_kept : Vl) (w_over : Vl) (w_under : Vl) {a : Unit} {s : Sto} : (lp_law_k13_4 (L := L) dr w_feed_here w_code w_arrows_here w_things_here w_kept w_over w_under okT [] a s) = .nx a s := forN_nil
theorem lp_law_k13_4_cons {L : Type} (dr : MF) (w_feed_here : Vl) (w_code : Vl) (w_arrows_here : Vl) (w_things_here : Vl) (w_kept : Vl) (w_over : Vl) (w_under : Vl) {v : Vl} {r : List Vl} {a : Unit} {s : Sto} : (lp_law_k13_4 (L := L) dr w_feed_here w_code w_arrows_here w_things_here w_kept w_over w_under okT (v :: r) a s) = (patN (pV v) fun p => nb_law_k13_4 dr w_feed_here w_code w_arrows_here w_things_here w_kept w_over w_under p s).lp (mk_law_k13_4 w_feed_here w_code w_arrows_here w_things_here w_kept w_over w_under) s.length (lp_law_k13_4 dr w_feed_here w_code w_arrows_here w_things_here w_kept w_over w_under okT r) := forN_cons
noncomputable def kt_law_k13_1 (dr : MF) (w_feed_here : Vl) (w_code : Vl) (w_arrows_here : Vl) (w_things_here : Vl) (w_kept : Vl) (w_over : Vl) (w_under : Vl) : Sto → An Unit Unit := fun s =>
  .nx () s
noncomputable def nb_law_k13_3 (dr : MF) (w_feed_here : Vl) (w_code : Vl) (w_arrows_here : Vl) (w_things_here : Vl) (w_kept : Vl) (w_over : Vl) (w_under : Vl) : Sto → An Unit Unit := fun s =>
  ((R.of (src w_things_here s) s).an fun c44 s45 => lp_law_k13_4 dr w_feed_here w_code w_arrows_here w_things_here w_kept w_over w_under c44.ok c44.items () s45).thn fun j46 s47 => kt_law_k13_1 dr w_feed_here w_code w_arrows_here w_things_here w_kept w_over w_under  s47
noncomputable def lp_law_k13_3 {L : Type} (dr : MF) (w_feed_here : Vl) (w_code : Vl) (w_arrows_here : Vl) (w_things_here : Vl) (w_kept : Vl) (w_over : Vl) (ck : Sto → Prop) : List Vl → Unit → Sto → An Unit L := forN ck (mk_law_k13_3 w_feed_here w_code w_arrows_here w_things_here w_kept w_over) (fun v a s => patN (pV v) fun p => nb_law_k13_3 dr w_feed_here w_code w_arrows_here w_things_here w_kept w_over p s)
@[simp] theorem lp_law_k13_3_nil {L : Type} (dr : MF) (w_feed_here : Vl) (w_code : Vl) (w_arrows_here : Vl) (w_things_here : Vl) (w_kept : Vl) (w_over : Vl) {a : Unit} {s : Sto} : (lp_law_k13_3 (L := L) dr w_feed_here w_code w_arrows_here w_things_here w_kept w_over okT [] a s) = .nx a s := forN_nil
theorem lp_law_k13_3_cons {L : Type} (dr : MF) (w_feed_here : Vl) (w_code : Vl) (w_arrows_here : Vl) (w_things_here : Vl) (w_kept : Vl) (w_over : Vl) {v : Vl} {r : List Vl} {a : Unit} {s : Sto} : (lp_law_k13_3 (L := L) dr w_feed_here w_code w_arrows_here w_things_here w_kept w_over okT (v :: r) a s) = (patN (pV v) fun p => nb_law_k13_3 dr w_feed_here w_code w_arrows_here w_things_here w_kept w_over p s).lp (mk_law_k13_3 w_feed_here w_code w_arrows_here w_things_here w_kept w_over) s.length (lp_law_k13_3 dr w_feed_here w_code w_arrows_here w_things_here w_kept w_over okT r) := forN_cons
noncomputable def kt_law_k13_2 (dr : MF) (w_feed_here : Vl) (w_code : Vl) (w_arrows_here : Vl) (w_things_here : Vl) (w_kept : Vl) (w_over : Vl) : Sto → An Unit Unit := fun s =>
  .nx () s
noncomputable def nb_law_k13_2 (dr : MF) (w_feed_here : Vl) (w_code : Vl) (w_arrows_here : Vl) (w_things_here : Vl) (w_kept : Vl) (w_over : Vl) : Sto → An Unit Unit := fun s =>
  ((((R.of (phLen [w_arrows_here] s) s).bind fun x22 s23 => R.ok [x22] s23).bind fun l24 s25 => rngN1 l24 s25).an fun c48 s49 => lp_law_k13_3 dr w_feed_here w_code w_arrows_here w_things_here w_kept w_over c48.ok c48.items () s49).thn fun j50 s51 => kt_law_k13_2 dr w_feed_here w_code w_arrows_here w_things_here w_kept w_over  s51
noncomputable def lp_law_k13_2 {L : Type} (dr : MF) (w_feed_here : Vl) (w_code : Vl) (w_arrows_here : Vl) (w_things_here : Vl) (w_kept : Vl) (ck : Sto → Prop) : List Vl → Unit → Sto → An Unit L := forN ck (mk_law_k13_2 w_feed_here w_code w_arrows_here w_things_here w_kept) (fun v a s => patN (pV v) fun p => nb_law_k13_2 dr w_feed_here w_code w_arrows_here w_things_here w_kept p s)
@[simp] theorem lp_law_k13_2_nil {L : Type} (dr : MF) (w_feed_here : Vl) (w_code : Vl) (w_arrows_here : Vl) (w_things_here : Vl) (w_kept : Vl) {a : Unit} {s : Sto} : (lp_law_k13_2 (L := L) dr w_feed_here w_code w_arrows_here w_things_here w_kept okT [] a s) = .nx a s := forN_nil
theorem lp_law_k13_2_cons {L : Type} (dr : MF) (w_feed_here : Vl) (w_code : Vl) (w_arrows_here : Vl) (w_things_here : Vl) (w_kept : Vl) {v : Vl} {r : List Vl} {a : Unit} {s : Sto} : (lp_law_k13_2 (L := L) dr w_feed_here w_code w_arrows_here w_things_here w_kept okT (v :: r) a s) = (patN (pV v) fun p => nb_law_k13_2 dr w_feed_here w_code w_arrows_here w_things_here w_kept p s).lp (mk_law_k13_2 w_feed_here w_code w_arrows_here w_things_here w_kept) s.length (lp_law_k13_2 dr w_feed_here w_code w_arrows_here w_things_here w_kept okT r) := forN_cons
noncomputable def kt_law_k13_3 (dr : MF) (w_feed_here : Vl) (w_code : Vl) (w_arrows_here : Vl) (w_things_here : Vl) (w_kept : Vl) : Sto → An Unit Unit := fun s =>
  (((((R.of (tupN [w_code, w_things_here]) s).bind fun x56 s57 => R.ok [x56] s57).bind fun l58 s59 => R.of (phRepr l58 s59) s59).bind fun x60 s61 => R.of (phNe x60 w_kept s61) s61).bind fun x62 s63 => R.of (bool? x62) s63).an fun c64 s65 => if c64 = true then
    (R.ok (Vl.dat (.bool false)) s65).an fun x66 s67 => .rt x66 s67
    else
    .nx () s65
noncomputable def nb_law_k13_1 (dr : MF) (w_feed_here : Vl) (w_turn : Vl) : Sto → An Unit Unit := fun s =>
  (callN 2 (G_law_graph dr) [w_feed_here, (Vl.dat (.int 6))] s).an fun w_code s10 =>
    (callN 1 G_law_arrows [w_code] s10).an fun w_arrows_here s11 =>
    (callN 2 (G_law_things_k13 dr) [w_feed_here, w_arrows_here] s11).an fun w_things_here s12 =>
    (((R.of (tupN [w_code, w_things_here]) s12).bind fun x14 s15 => R.ok [x14] s15).bind fun l16 s17 => R.of (phRepr l16 s17) s17).an fun w_kept s13 =>
    ((((R.of (phLen [w_arrows_here] s13) s13).bind fun x18 s19 => R.ok [x18] s19).bind fun l20 s21 => rngN1 l20 s21).an fun c52 s53 => lp_law_k13_2 dr w_feed_here w_code w_arrows_here w_things_here w_kept c52.ok c52.items () s53).thn fun j54 s55 => kt_law_k13_3 dr w_feed_here w_code w_arrows_here w_things_here w_kept  s55
noncomputable def lp_law_k13_1 {L : Type} (dr : MF) (w_feed_here : Vl) (ck : Sto → Prop) : List Vl → Unit → Sto → An Unit L := forN ck (mk_law_k13_1 w_feed_here) (fun v a s => patN (pV v) fun p => nb_law_k13_1 dr w_feed_here p s)
@[simp] theorem lp_law_k13_1_nil {L : Type} (dr : MF) (w_feed_here : Vl) {a : Unit} {s : Sto} : (lp_law_k13_1 (L := L) dr w_feed_here okT [] a s) = .nx a s := forN_nil
theorem lp_law_k13_1_cons {L : Type} (dr : MF) (w_feed_here : Vl) {v : Vl} {r : List Vl} {a : Unit} {s : Sto} : (lp_law_k13_1 (L := L) dr w_feed_here okT (v :: r) a s) = (patN (pV v) fun p => nb_law_k13_1 dr w_feed_here p s).lp (mk_law_k13_1 w_feed_here) s.length (lp_law_k13_1 dr w_feed_here okT r) := forN_cons
noncomputable def kt_law_k13_4 (dr : MF) (w_feed_here : Vl) : Sto → An Unit Empty := fun s =>
  (R.ok (Vl.dat (.bool true)) s).an fun x72 s73 => .rt x72 s73
noncomputable def n_law_k13 (dr : MF) (w_script : Vl) : Sto → An Unit Empty := fun s =>
  (callN 1 G_law_feed_k01 [w_script] s).an fun w_feed_here s1 =>
    (((callN 0 G_law_other_right_k13 [] s1).bind fun x2 s3 => R.of (tru x2 s3) s3).bind fun c4 s5 => R.ok (!c4) s5).an fun c6 s7 => if c6 = true then
    ((R.ok (Vl.dat (.bool false)) s7).an fun x8 s9 => .rt x8 s9 : An Empty _).up
    else
    ((rngN1 [(Vl.dat (.int 3))] s7).an fun c68 s69 => lp_law_k13_1 dr w_feed_here c68.ok c68.items () s69).thn fun j70 s71 => kt_law_k13_4 dr w_feed_here  s71
noncomputable def r_law_k13 (dr : MF) : MF := runN fun xs => match xs with
  | [w_script] => n_law_k13 dr w_script
  | _ => fun _ => .bad
noncomputable def G_law_k13 (dr : MF) : MF := frameG (r_law_k13 dr)

theorem ar_word {g : Int → List Int} {o : Int} : ∀ {ns : List Int} {k : Nat} {gs : List Int} {p : Str × Int}, arN g o gs k ns = some p → Gs p.1 ∧ p.1.length ≤ 10 ∧ 0 ≤ p.2 ∧ p.2 ≤ ((k + ns.length : Nat) : Int)
  | [], _, _, _, h => by cases h
  | b :: r, k, gs, p, h => by
    rw [arN] at h
    by_cases hb : b ∈ gs
    · rw [if_neg (not_not_intro hb)] at h
      by_cases ho : b = o
      · rw [if_pos ho] at h
        cases h
        exact ⟨show Gs "over" by decide, show ("over" : Str).length ≤ 10 by decide, by dsimp only; omega, by rw [List.length_cons]; dsimp only; omega⟩
      · rw [if_neg ho] at h
        have := ar_word h
        rw [List.length_cons]
        exact ⟨this.1, this.2.1, this.2.2.1, by omega⟩
    · rw [if_pos hb] at h
      cases h
      exact ⟨show Gs "next" by decide, show ("next" : Str).length ≤ 10 by decide, by dsimp only; omega, by rw [List.length_cons]; dsimp only; omega⟩
theorem said_rpr {g : Int → List Int} {o u : Int} {d : PyData} (hd : ∀ ds, d = .tuple ds → ds.length ≤ 1000) : Rpr (saidD (arJ g o u d)) := by
  have key : ∀ p : Str × Int, Gs p.1 ∧ p.1.length ≤ 10 ∧ -1 ≤ p.2 ∧ p.2 ≤ 1000 → Rpr (saidD (some p)) := fun p h => by
    obtain ⟨h1, h2, h3, h4⟩ := h
    refine Rpr.of (M := 1000) (l := 3) (n := 1) (B := 1000) (Fit.tup (n := 0) (by simp) (fun x hx => ?_) ?_) (by decide) (by decide) (by decide)
    · rcases List.mem_cons.mp hx with rfl | hx
      · exact ⟨by decide, rfl, Nat.le_refl _⟩
      · rcases List.mem_cons.mp hx with rfl | hx
        · exact ⟨leaf_str.mpr h1, rfl, Nat.le_refl _⟩
        · rcases List.mem_cons.mp hx with rfl | hx
          · exact ⟨by simp only [leaf, decide_eq_true_eq]; omega, rfl, Nat.le_refl _⟩
          · cases hx
    · simp only [wtAll, wt, show ("no" : Str).length = 2 from by decide]
      omega
  have k0 : Rpr (saidD none) := by
    refine Rpr.of (M := 1000) (l := 3) (n := 1) (B := 1000) (Fit.tup (n := 0) (by simp) (fun x hx => ?_) (by decide)) (by decide) (by decide) (by decide)
    rcases List.mem_cons.mp hx with rfl | hx
    · exact ⟨by decide, rfl, Nat.le_refl _⟩
    · rcases List.mem_cons.mp hx with rfl | hx
      · exact ⟨rfl, rfl, Nat.le_refl _⟩
      · cases hx
  have ks : Rpr (saidD (some ("shape", -1))) := key _ ⟨by decide, by decide, by decide, by decide⟩
  unfold arJ
  split
  · rename_i ds
    have hl := hd ds rfl
    split
    · exact ks
    · rename_i ns _ en
      have : ds.length = ns.length := by rw [nums_eq en, List.length_map]
      unfold arL
      cases e : arN g o [0] 0 ns with
      | some p =>
        have := ar_word e
        exact key p ⟨this.1, this.2.1, by omega, by omega⟩
      | none =>
        dsimp only
        split
        · exact k0
        · exact key _ ⟨by decide, by decide, by decide, by decide⟩
    · exact ks
  · exact ks
theorem saidD_tup (j : Option (Str × Int)) : ∃ ds, saidD j = .tuple ds := by
  cases j with
  | none => exact ⟨_, rfl⟩
  | some p => exact ⟨_, rfl⟩
theorem said_repr {g : Int → List Int} {o u : Int} {d : PyData} (hd : ∀ ds, d = .tuple ds → ds.length ≤ 1000) (s : Sto) : phRepr [.dat (saidD (arJ g o u d))] s = some (.dat (.str (saidD (arJ g o u d)).shown)) := by
  have h := said_rpr (g := g) (o := o) (u := u) hd
  obtain ⟨ds, e⟩ := saidD_tup (arJ g o u d)
  rw [e] at h ⊢
  exact repr_t h
/-! ### the code at hand -/
def meetB : List Blk := [⟨[], .iff (.v "i") 1 2⟩, ⟨[], .go 3⟩, ⟨[], .go 3⟩, ⟨[], .back⟩]
theorem meet_ok : GrOk meetB := ⟨by decide, by decide, by
  intro b hb x hx
  simp only [meetB, List.mem_cons, List.not_mem_nil, or_false] at hb
  rcases hb with rfl | rfl | rfl | rfl <;> simp [Endd.all] at hx <;> (try rcases hx with rfl | rfl) <;> (try subst hx) <;> simp [meetB], by
  intro b hb
  simp only [meetB, List.mem_cons, List.not_mem_nil, or_false] at hb
  rcases hb with rfl | rfl | rfl | rfl <;> refine ⟨rfl, fun o x y h => ?_⟩ <;> cases h
  rfl⟩
def besC (bs : List Blk) : Cod := ⟨[("a", 1)], [("main", [⟨[], .back⟩]), ("sub", bs)]⟩
theorem G_law_beside_eq {bs : List Blk} (s : Sto) : G_law_beside [.dat (cod2 bs).d] s = .ok (.dat (besC bs).d) s := by
  refine fr0 (s2 := []) ?_
  simp [r_law_beside, runN_ap, n_law_beside, cod2, besC, Cod.d, rtD, blksD, Blk.d, rowsD, Endd.d]
theorem other_turn {d : PyData} (hd : ∀ ds, d = .tuple ds → ds.length ≤ 1000) (hf : leaf 1000 d = true) (hdp : d.depth ≤ 60) (s : Sto) : nb_law_other_right_k13_1 (.dat (cod2 meetB).d) (.dat d) s = .nx () s := by
  have e1 := G_lets_around_eq (c := besC meetB) (nm := "sub") (bs := meetB) rfl meet_ok.goIn (o := 1) (u := 3) hd s
  rw [arJ_congr fun b k => mem_goalsB] at e1
  have e2 := G_law_arounded_k13_eq meet_ok.goIn (o := 1) (u := 3) hd hf hdp s
  have er := said_repr (g := allB meetB) (o := 1) (u := 3) hd s
  have ea := G_law_arrows_eq meet_ok s
  have last : kt_law_other_right_k13_1 (.dat (cod2 meetB).d) (.dat d) (.dat (saidD (arJ (allB meetB) 1 3 d))) s = .nx () s := by
    refine wp_of (Q := fun z : An Unit Unit => z = _) ?_
    simp only [kt_law_other_right_k13_1]
    refine wp_if (b := false) (s := s) ?_ rfl
    simp [er, ea, e2]
  refine wp_of (Q := fun z : An Unit Unit => z = _) ?_
  simp only [nb_law_other_right_k13_1]
  refine wp_an (a := .dat (saidD none)) (s := s) rfl ?_
  refine wp_thn (a := .dat (saidD (arJ (allB meetB) 1 3 d))) (s := s) ?_ last
  cases ej : arJ (allB meetB) 1 3 d with
  | none =>
    rw [ej] at e1
    simp [tryN, G_law_beside_eq, e1, saidR, phIsNot, isD]
  | some p =>
    obtain ⟨w, y⟩ := p
    rw [ej] at e1
    simp [tryN, G_law_beside_eq, e1, saidR, saidD, papE, phFld, List.lookup, mk_law_other_right_k13_1, mk_law_other_right_k13_2, okX, show (("word" : Str) == "at") = false by decide]
theorem G_law_other_right_k13_eq (s : Sto) : G_law_other_right_k13 [] s = .ok (.dat (.bool true)) s := by
  refine fr0 (s2 := []) ?_
  rw [r_law_other_right_k13, runN_ap]
  refine wp_of (Q := fun z => An.fin z = _) ?_
  simp only [n_law_other_right_k13]
  refine wp_an (a := .dat (.tuple (meetB.map fun b => b.fin.d))) (s := []) (by simp [meetB, Endd.d, Opd.d]) ?_
  have el := fun s => lc_data (it := iSeq (mVar 0)) (gm := gmName 5) (t := tYesM) (e := mTup (aCons (mTup aNil) (aCons (mVar 5) aNil))) (vs := [5]) (ρ := [some (.dat (.tuple (meetB.map fun b => b.fin.d))), none, none, none, none, none]) (s := s) (s1 := s) (ds := meetB.map fun b => b.fin.d) (fun _ => true) (fun d => .tuple [.tuple [], d]) rfl (fun d hd => ⟨_, rfl, rfl, fun _ => by simp⟩) (th_mil (by decide))
  simp only [filter_true] at el
  refine wp_an (a := .dat (cod2 meetB).d) (s := []) (by simp [el]; rfl) ?_
  refine wp_thn (a := ()) (s := []) ?_ rfl
  have items : ∀ v ∈ ([.tuple [.int 0, .int 2, .int 3], .tuple [.int 0, .int 3], .tuple [.int 0, .int 1, .int 3], .tuple [.int 0, .int 2], .tuple [.int 2, .int 3], .tuple [], .tuple [.int 0, .int 2, .int 4], .tuple [.int 0, .int 0, .int 2, .int 3]] : List PyData).map Vl.dat, (patN (pV v) fun p => nb_law_other_right_k13_1 (.dat (cod2 meetB).d) p []) = .nx () [] := by
    intro v hv
    obtain ⟨d, hd, rfl⟩ := List.mem_map.mp hv
    have hall : ([.tuple [.int 0, .int 2, .int 3], .tuple [.int 0, .int 3], .tuple [.int 0, .int 1, .int 3], .tuple [.int 0, .int 2], .tuple [.int 2, .int 3], .tuple [], .tuple [.int 0, .int 2, .int 4], .tuple [.int 0, .int 0, .int 2, .int 3]] : List PyData).all (fun d => leaf 1000 d && lens 1000 d && decide (d.depth ≤ 60)) = true := by decide +kernel
    have := List.all_eq_true.mp hall d hd
    simp only [Bool.and_eq_true, decide_eq_true_eq] at this
    rw [pV_ap, patN_some]
    refine other_turn (fun ds e => ?_) this.1.1 this.2 []
    have h2 := this.1.2
    rw [e] at h2
    simp only [lens, Bool.and_eq_true, decide_eq_true_eq] at h2
    exact h2.1
  have hs := forN_same (L := Empty) (mk := mk_law_other_right_k13_1 (.dat (cod2 meetB).d)) (nb := fun v a s => patN (pV v) fun p => nb_law_other_right_k13_1 (.dat (cod2 meetB).d) p s) (a := ()) items
  simp only [R.of_some, R.bind_ok, tupN_ap, datas_cons, datas_nil, Option.map_some, Option.bind_some, List.length_cons, List.length_nil]
  simp [src_ok_none]
  exact hs
/-! ### the law -/
theorem wtAll_le {c : Nat} : ∀ {xs : List PyData}, (∀ x ∈ xs, wt x ≤ c) → wtAll xs ≤ (c + 2) * xs.length
  | [], _ => Nat.zero_le _
  | x :: xs, h => by
    have h1 := h x List.mem_cons_self
    have h2 := wtAll_le fun y hy => h y (List.mem_cons_of_mem _ hy)
    simp only [wtAll, List.length_cons, Nat.mul_succ]
    omega
theorem blk_fit {bs : List Blk} (h : GrOk bs) {b : Blk} (hb : b ∈ bs) : leaf (10 ^ 199 + 2) b.d = true ∧ b.d.depth ≤ 2 ∧ wt b.d ≤ 1000 := by
  have h1 := h.nor b hb
  have h2 := h.rng b hb
  have h3 := h.few
  obtain ⟨rows, e⟩ := b
  cases h1.1
  have big : ∀ x ∈ e.all, leaf (10 ^ 199 + 2) (.int x) = true := fun x hx => by
    have := h2 x hx
    have := big_le (n := x.natAbs) (by omega)
    simp only [leaf, decide_eq_true_eq]
    omega
  cases e with
  | go a =>
    have := big a (by simp [Endd.all])
    refine ⟨?_, by simp [Blk.d, rowsD, Endd.d, Opd.d, PyData.depth, PyData.depthAll], ?_⟩
    · simp only [Blk.d, rowsD, Endd.d, leaf, leafAll, List.map_nil, Bool.and_true, Bool.true_and] at this ⊢
      rw [this]; decide
    · show wt (.tuple [.tuple [], .tuple [.str "go", .int a]]) ≤ 1000
      simp only [wt, wtAll, show ("go" : Str).length = 2 by decide]
      omega
  | iff o a c =>
    have ho := h1.2 o a c rfl
    subst ho
    have h4 := big a (by simp [Endd.all])
    have h5 := big c (by simp [Endd.all])
    refine ⟨?_, by simp [Blk.d, rowsD, Endd.d, Opd.d, PyData.depth, PyData.depthAll], ?_⟩
    · simp only [Blk.d, rowsD, Endd.d, Opd.d, leaf, leafAll, List.map_nil, Bool.and_true, Bool.true_and] at h4 h5 ⊢
      rw [h4, h5]; decide
    · show wt (.tuple [.tuple [], .tuple [.str "if", .str "i", .int a, .int c]]) ≤ 1000
      simp only [wt, wtAll, show ("if" : Str).length = 2 by decide, show ("i" : Str).length = 1 by decide]
      omega
  | back => exact ⟨by decide, by decide, by decide⟩
theorem kept_rpr {bs : List Blk} (h : GrOk bs) {ds : List PyData} (hd : ∀ d ∈ ds, ThF d) (hl : ds.length ≤ 67) : Rpr (.tuple [(cod2 bs).d, .list ds]) := by
  have hw : wtAll (bs.map Blk.d) ≤ 1002 * bs.length := by
    have := wtAll_le (c := 1000) (xs := bs.map Blk.d) fun x hx => by
      obtain ⟨b, hb, rfl⟩ := List.mem_map.mp hx
      exact (blk_fit h hb).2.2
    rwa [List.length_map] at this
  have hw2 := wtAll_le (c := 12392) (xs := ds) fun x hx => (hd x hx).wg
  have hf := h.few
  have lb : leafAll (10 ^ 199 + 2) (bs.map Blk.d) = true := leafAll_iff.mpr fun x hx => by
    obtain ⟨b, hb, rfl⟩ := List.mem_map.mp hx
    exact (blk_fit h hb).1
  have ld : leafAll (10 ^ 199 + 2) ds = true := leafAll_iff.mpr fun x hx => (hd x hx).lf
  have d1 : (PyData.tuple (bs.map Blk.d)).depth ≤ 3 := depth_tuple.mpr fun x hx => by
    obtain ⟨b, hb, rfl⟩ := List.mem_map.mp hx
    exact (blk_fit h hb).2.1
  have d2 : (PyData.list ds).depth ≤ 6 := depth_list.mpr fun x hx => (hd x hx).dp
  have lf : leaf (10 ^ 199 + 2) (.tuple [(cod2 bs).d, .list ds]) = true := by
    simp only [cod2, Cod.d, objsD, objD, rtD, blksD, leaf, leafAll, List.map_cons, List.map_nil, lb, ld, Bool.and_true, Bool.true_and]
    decide +kernel
  have dp : (PyData.tuple [(cod2 bs).d, .list ds]).depth ≤ 10 := by
    refine depth_tuple.mpr fun x hx => ?_
    rcases List.mem_cons.mp hx with rfl | hx
    · refine Nat.le_trans (m := 6) (depth_tuple.mpr fun x hx => ?_) (by decide)
      rcases List.mem_cons.mp hx with rfl | hx
      · exact Nat.le_trans (m := 2) (show (PyData.tuple [.tuple [.str "a", .int 1]]).depth ≤ 2 by decide) (by decide)
      · rcases List.mem_cons.mp hx with rfl | hx
        · refine depth_tuple.mpr fun x hx => ?_
          rcases List.mem_cons.mp hx with rfl | hx
          · refine depth_tuple.mpr fun x hx => ?_
            rcases List.mem_cons.mp hx with rfl | hx
            · exact Nat.zero_le _
            · rcases List.mem_cons.mp hx with rfl | hx
              · exact d1
              · cases hx
          · cases hx
        · cases hx
    · rcases List.mem_cons.mp hx with rfl | hx
      · omega
      · cases hx
  have hwt : wt (.tuple [(cod2 bs).d, .list ds]) ≤ 900000 := by
    simp only [cod2, Cod.d, objsD, objD, rtD, blksD, List.map_cons, List.map_nil, wt, wtAll, show ("a" : Str).length = 1 by decide, show ("main" : Str).length = 4 by decide]
    omega
  have h240 : 10 ^ 199 + 2 < 10 ^ 240 := by decide +kernel
  exact ⟨leaf_shows (Nat.lt_trans h240 (by decide +kernel)) _ lf, leaf_noDict _ lf, by omega, Nat.le_trans (shown_wt h240 _ lf) (mil_le (Nat.le_trans hwt (by decide)))⟩
theorem thf_len {d : PyData} (h : ThF d) : ∀ ds, d = .tuple ds → ds.length ≤ 1000 := fun ds e => by
  have := h.ln
  rw [e] at this
  simp only [lens, Bool.and_eq_true, decide_eq_true_eq] at this
  omega
theorem law_turn {dr : MF} {Fd : Nat → Ob → Prop} (D : DrawSp dr Fd) {j : Nat} {f : Ob} {k : Vl} (hf : Fd j f) (hj : j ≤ 500000) : ∃ f', nb_law_k13_1 dr (.ref 0) k [f] = .nx () [f'] ∧ Fd (j + 530) f' := by
  obtain ⟨bs, f1, h1, hf1, ok, _⟩ := G_law_graph_eq D (t := []) (q := 6) hf (by omega) (by decide) (by decide)
  have h2 := fun s => G_law_arrows_eq ok s
  obtain ⟨ds, f2, h3, hf2, hd, hl⟩ := G_law_things_k13_eq D ok.goIn (Nat.le_trans ok.few (by decide)) (t := []) hf1 (by omega)
  have hr := kept_rpr ok hd hl
  have h4 := fun s => repr_t (s := s) hr
  have hlen : ∀ s, phLen [.dat (arrD bs)] s = some (.dat (.int (bs.length : Int))) := fun s => by rw [arrD, phLen_l, List.length_map]
  have er := fun s => rngN1_n (n := bs.length) (s := s) (th_mil (Nat.le_trans ok.few (by decide)))
  have in4 : ∀ (o u : Int) (L : Type), (lp_law_k13_4 (L := L) dr (.ref 0) (.dat (cod2 bs).d) (.dat (arrD bs)) (.dat (.list ds)) (.dat (.str (PyData.tuple [(cod2 bs).d, .list ds]).shown)) (.dat (.int o)) (.dat (.int u)) okT (ds.map Vl.dat) () [f2]) = .nx () [f2] := fun o u L => by
    refine forN_same fun v hv => ?_
    obtain ⟨d, hd', rfl⟩ := List.mem_map.mp hv
    have ht := hd d hd'
    have e1 := G_law_said_k13_eq (c := cod2 bs) (bs := bs) rfl ok.goIn (o := o) (u := u) (thf_len ht) [f2]
    have e2 := G_law_arounded_k13_eq ok.goIn (o := o) (u := u) (thf_len ht) ht.lf (Nat.le_trans ht.dp (by decide)) [f2]
    have er := said_repr (g := allB bs) (o := o) (u := u) (thf_len ht) [f2]
    rw [pV_ap, patN_some]
    refine wp_of (Q := fun z : An Unit Unit => z = _) ?_
    simp only [nb_law_k13_4]
    refine wp_if (b := false) (s := [f2]) ?_ rfl
    simp [e1, e2, er]
  have in3 : ∀ (o : Int) (L : Type), (lp_law_k13_3 (L := L) dr (.ref 0) (.dat (cod2 bs).d) (.dat (arrD bs)) (.dat (.list ds)) (.dat (.str (PyData.tuple [(cod2 bs).d, .list ds]).shown)) (.dat (.int o)) okT (rgs 0 bs.length) () [f2]) = .nx () [f2] := fun o L => by
    refine forN_same fun v hv => ?_
    obtain ⟨u, rfl, _⟩ := rgs_mem hv
    rw [pV_ap, patN_some]
    refine wp_of (Q := fun z : An Unit Unit => z = _) ?_
    simp only [nb_law_k13_3]
    refine wp_thn (a := ()) (s := [f2]) ?_ rfl
    rw [src_l, R.of_some, R.an_ok, src_ok_none]
    exact in4 o u _
  have in2 : ∀ (L : Type), (lp_law_k13_2 (L := L) dr (.ref 0) (.dat (cod2 bs).d) (.dat (arrD bs)) (.dat (.list ds)) (.dat (.str (PyData.tuple [(cod2 bs).d, .list ds]).shown)) okT (rgs 0 bs.length) () [f2]) = .nx () [f2] := fun L => by
    refine forN_same fun v hv => ?_
    obtain ⟨o, rfl, _⟩ := rgs_mem hv
    rw [pV_ap, patN_some]
    refine wp_of (Q := fun z : An Unit Unit => z = _) ?_
    simp only [nb_law_k13_2]
    refine wp_thn (a := ()) (s := [f2]) ?_ rfl
    rw [hlen, R.of_some, R.bind_ok, R.bind_ok, er, R.an_ok, src_ok_none]
    exact in3 o _
  refine ⟨f2, ?_, D.mono hf2 (by omega)⟩
  refine wp_of (Q := fun z : An Unit Unit => z = _) ?_
  simp only [nb_law_k13_1]
  refine wp_an (by simp [h1]; first | done | rfl | exact ⟨rfl, rfl⟩) ?_
  refine wp_an (by simp [h2]; first | done | rfl | exact ⟨rfl, rfl⟩) ?_
  refine wp_an (by simp [h3]; first | done | rfl | exact ⟨rfl, rfl⟩) ?_
  refine wp_an (a := .dat (.str (PyData.tuple [(cod2 bs).d, .list ds]).shown)) (s := [f2]) (by simp [h4]) ?_
  refine wp_thn (a := ()) (s := [f2]) ?_ ?_
  · rw [hlen, R.of_some, R.bind_ok, R.bind_ok, er, R.an_ok, src_ok_none]
    exact in2 _
  · simp only [kt_law_k13_3]
    refine wp_if (b := false) (s := [f2]) ?_ rfl
    simp [h4]
theorem law_turns {dr : MF} {Fd : Nat → Ob → Prop} (D : DrawSp dr Fd) {L : Type} : ∀ (n : Nat) (i : Int) (j : Nat) (f : Ob), Fd j f → j + 530 * n ≤ 500000 → ∃ f', (lp_law_k13_1 (L := L) dr (.ref 0) okT (rgs i n) () [f]) = .nx () [f'] ∧ Fd (j + 530 * n) f'
  | 0, i, j, f, hf, hj => ⟨f, by rw [rgs_zero, lp_law_k13_1_nil], hf⟩
  | n + 1, i, j, f, hf, hj => by
    obtain ⟨f1, h1, hf1⟩ := law_turn D (k := .dat (.int i)) hf (by omega)
    obtain ⟨f2, h2, hf2⟩ := law_turns D (L := L) n (i + 1) (j + 530) f1 hf1 (by omega)
    refine ⟨f2, ?_, D.mono hf2 (by omega)⟩
    rw [rgs_succ, lp_law_k13_1_cons, pV_ap, patN_some, h1, lp_nx, tidy_same (by simp), h2]
theorem law_k13_true : ∀ ns : List Int, ns.length ≤ 63 → (∀ z ∈ ns, PySem.Builtin.Int.intBits z ≤ 1048576) → ∃ s1, (G_law_k13 G_law_draw_k01) [.scr ns] [] = .ok (.dat (.bool true)) s1 := by
  intro ns hl _
  obtain ⟨f', h1, hf1⟩ := law_turns draw_k01 (L := Empty) 3 0 0 (fdL ns 0 0 0) (fdl0 hl) (by omega)
  refine ⟨[], fr0 (s2 := [f']) ?_⟩
  rw [r_law_k13, runN_ap]
  refine wp_of (Q := fun z => An.fin z = _) ?_
  simp only [n_law_k13]
  have e0 : callN 1 G_law_feed_k01 [.scr ns] [] = .ok (.ref 0) [fdL ns 0 0 0] := n_law_feed_k01_eq hl []
  refine wp_an e0 ?_
  refine wp_if (b := false) (s := [fdL ns 0 0 0]) (by simp [G_law_other_right_k13_eq]) ?_
  have er := fun s => rngN1_n (n := 3) (s := s) (by unfold mil; omega)
  simp only [show ((3 : Nat) : Int) = 3 from rfl] at er
  rw [if_neg (by decide)]
  refine wp_thn (a := ()) (s := [f']) (by rw [er, R.an_ok, src_ok_none]; exact h1) ?_
  rfl
end Pm
set_option maxRecDepth 100000
set_option maxHeartbeats 4000000
namespace Pm
open PySem PySem.Spec PyProof.Rows L2 Sw
def topS (i : Nat) : Stmt := PySem.Challenge.pw_storeways_k13_arounds_judged.main.body.getD i (.Pass ⟨0, 0, 0, 0⟩)
def mthS (i j : Nat) : Stmt := (clsB (topS i)).getD j (.Pass ⟨0, 0, 0, 0⟩)
structure Bn (mg : Str → Option Value) : Prop where
  b_ValueError : mg "ValueError" = none
  b_all : mg "all" = none
  b_bool : mg "bool" = none
  b_enumerate : mg "enumerate" = none
  b_int : mg "int" = none
  b_isinstance : mg "isinstance" = none
  b_len : mg "len" = none
  b_list : mg "list" = none
  b_range : mg "range" = none
  b_repr : mg "repr" = none
  b_set : mg "set" = none
  b_sorted : mg "sorted" = none
  b_str : mg "str" = none
  b_tuple : mg "tuple" = none
/-- what the text says of NoPaper where it is caught -/
structure PapX (K : PySem.W.Frag) (mg : Str → Option Value) (C CW CL CN CT : Addr) : Prop where
  gC : mg "NoPaper" = some (.ref C)
  g_NoPaper : mg "NoPaper" = some (.ref C)
  g_WayError : mg "WayError" = some (.ref CW)
  g_LostError : mg "LostError" = some (.ref CL)
  g_NoCode : mg "NoCode" = some (.ref CN)
  g_NoTurning : mg "NoTurning" = some (.ref CT)
  t_WayError : ∀ nm D b, mg nm = some (.ref D) → (if nm = "NoPaper" then some true else none) = some b → PySem.W.exmOne K (.ref D) (.ref CW) = some b
  t_NoPaper : ∀ nm D b, mg nm = some (.ref D) → (if nm = "NoPaper" then some true else none) = some b → PySem.W.exmOne K (.ref D) (.ref C) = some b
  k1 : PySem.W.kitOne K (.ref C) (.ref C) = some true
  k2 : PySem.W.kitOne K (.ref C) (.type "ValueError") = some true
  k3 : PySem.W.kitAny K (.ref C) ([CL, CN, CT].map Value.ref) = some false
  xf : XfC K C
  xi : XisC K C
  no_word : PySem.W.findIn K (.ref C) "word" = some none
  no_at : PySem.W.findIn K (.ref C) "at" = some none
section
variable {P : Program} {w : World} {K : PySem.W.Frag} {mg : Str → Option Value} {base : Heap}
abbrev N_is_number : List Str := ["thing"]
theorem sc_is_number : FnScope N_is_number ["thing"] (defScope (topS 8)) := ⟨rfl, rfl, rfl, by decide +kernel, rfl, by decide +kernel, by decide +kernel⟩
theorem ok_is_number {f : Addr} {fd : FuncData} {k : Nat} (D : Df K mg "is_number" (topS 8) ["thing"] f fd) (B : Bn mg) :
    FnD P w K mg base (k + 1) f fd ["thing"] (frameG (r_is_number)) := by
  refine FnD.frame (fnN_of D.fn sc_is_number (fun cdv A outer s H E hg hr xs hx => ?_))
  have nd := sc_is_number.nd
  have hu := hr.units
  have hG : (A.deeper (envOfC "is_number" (defScope (topS 8)) s.heap.objs.size f cdv)).guards = some [] := hg
  have tk : Takes (cxOf (L2.CX P w) P w K mg base N_is_number "is_number" (defScope (topS 8)) f cdv A outer s H E) (fun c d _ H => E c d H) := takes_of rfl rfl rfl rfl
  match xs, hx with
  | [v_thing], _ =>
  exact (nss_at (mkS := mkU 1) (mkL := mkE) (ρ := [some v_thing]) (n := n_is_number v_thing)
  (nss_ret (de_and (de_isi isa_int (by rfl) B.b_isinstance (de_var (i := 0) rfl (by first | exact Or.inl rfl | exact Or.inr (Or.inl rfl) | exact Or.inr (Or.inr rfl))) (by rfl) B.b_int (by decide +kernel)) (de_one (de_not (de_isi isa_bool (by rfl) B.b_isinstance (de_var (i := 0) rfl (by first | exact Or.inl rfl | exact Or.inr (Or.inl rfl) | exact Or.inr (Or.inr rfl))) (by rfl) B.b_bool (by decide +kernel))))) ox0))
abbrev N_blocks_of : List Str := ["code", "name", "word", "blocks"]
theorem sc_blocks_of : FnScope N_blocks_of ["code", "name"] (defScope (topS 10)) := ⟨rfl, rfl, rfl, by decide +kernel, rfl, by decide +kernel, by decide +kernel⟩
theorem ok_blocks_of {f : Addr} {fd : FuncData} {k : Nat} (D : Df K mg "blocks_of" (topS 10) ["code", "name"] f fd) (B : Bn mg) :
    FnD P w K mg base (k + 1) f fd ["code", "name"] (frameG (r_blocks_of)) := by
  refine FnD.frame (fnN_of D.fn sc_blocks_of (fun cdv A outer s H E hg hr xs hx => ?_))
  have nd := sc_blocks_of.nd
  have hu := hr.units
  have hG : (A.deeper (envOfC "blocks_of" (defScope (topS 10)) s.heap.objs.size f cdv)).guards = some [] := hg
  have tk : Takes (cxOf (L2.CX P w) P w K mg base N_blocks_of "blocks_of" (defScope (topS 10)) f cdv A outer s H E) (fun c d _ H => E c d H) := takes_of rfl rfl rfl rfl
  match xs, hx with
  | [v_code, v_name], _ =>
  exact (nss_at (mkS := mkU 4) (mkL := mkE) (ρ := [some v_code, some v_name, none, none]) (n := n_blocks_of v_code v_name)
  (nss_cons (mk1 := (mk_blocks_of_1 v_name)) (ns_forP (mk1 := (mk_blocks_of_1 v_name)) (ρb := fun p a => [none, some v_name, some p.1, some p.2]) (a0 := ()) PassesOwn.leaving rfl (di_seq (de_ix mx_ix (de_var (i := 0) rfl (by first | exact Or.inl rfl | exact Or.inr (Or.inl rfl) | exact Or.inr (Or.inr rfl))) de_int (fun _ _ => rfl))) (dg_tup rfl (dgs_cons (dg_name (i := 2) nd rfl (by first | exact Or.inl rfl | exact Or.inr rfl)) (dgs_cons (dg_name (i := 3) nd rfl (by first | exact Or.inl rfl | exact Or.inr rfl)) dgs_nil))) (tgp_2 tgp_n tgp_n) (fun p a =>
  (let v_word : Vl := p.1; (let v_blocks : Vl := p.2; (nss_at (mkS := (mk_blocks_of_1 v_name)) (mkL := (mk_blocks_of_1 v_name)) (ρ := [none, some v_name, some v_word, some v_blocks]) (n := nb_blocks_of_1 v_name v_word v_blocks)
  (nss_if1 (dt_cmp (mo_eq hu) (de_var (i := 2) rfl (by first | exact Or.inl rfl | exact Or.inr (Or.inl rfl) | exact Or.inr (Or.inr rfl))) (de_var (i := 1) rfl (by first | exact Or.inl rfl | exact Or.inr (Or.inl rfl) | exact Or.inr (Or.inr rfl))) (nomark _))
  (nss_ret (de_var (i := 3) rfl (by first | exact Or.inl rfl | exact Or.inr (Or.inl rfl) | exact Or.inr (Or.inr rfl))) ox0)
  (nss_nil (a := ()) (.non (.som (.non (.non .nil))))) ox0))))) (.non (.som (.non (.non .nil)))) ox0) (fun j11 =>
  (nss_at (mkS := (mkU 4)) (mkL := mkE) (ρ := [none, some v_name, none, none]) (n := kt_blocks_of_1 v_name)
  nss_never))))
abbrev N_goals : List Str := ["end"]
theorem sc_goals : FnScope N_goals ["end"] (defScope (topS 12)) := ⟨rfl, rfl, rfl, by decide +kernel, rfl, by decide +kernel, by decide +kernel⟩
theorem ok_goals {f : Addr} {fd : FuncData} {k : Nat} (D : Df K mg "goals" (topS 12) ["end"] f fd) (B : Bn mg) :
    FnD P w K mg base (k + 1) f fd ["end"] (frameG (r_goals)) := by
  refine FnD.frame (fnN_of D.fn sc_goals (fun cdv A outer s H E hg hr xs hx => ?_))
  have nd := sc_goals.nd
  have hu := hr.units
  have hG : (A.deeper (envOfC "goals" (defScope (topS 12)) s.heap.objs.size f cdv)).guards = some [] := hg
  have tk : Takes (cxOf (L2.CX P w) P w K mg base N_goals "goals" (defScope (topS 12)) f cdv A outer s H E) (fun c d _ H => E c d H) := takes_of rfl rfl rfl rfl
  match xs, hx with
  | [v_end], _ =>
  exact (nss_at (mkS := mkU 1) (mkL := mkE) (ρ := [some v_end]) (n := n_goals v_end)
  (nss_ifx (mk0 := mkE) (dt_cmp (mo_eq hu) (de_ix mx_ix (de_var (i := 0) rfl (by first | exact Or.inl rfl | exact Or.inr (Or.inl rfl) | exact Or.inr (Or.inr rfl))) de_int (fun _ _ => rfl)) de_str (nomark _))
  (nss_ret (de_tup (da_cons (de_ix mx_ix (de_var (i := 0) rfl (by first | exact Or.inl rfl | exact Or.inr (Or.inl rfl) | exact Or.inr (Or.inr rfl))) de_int (fun _ _ => rfl)) da_nil)) ox0)
  (nss_ifx (mk0 := mkE) (dt_cmp (mo_eq hu) (de_ix mx_ix (de_var (i := 0) rfl (by first | exact Or.inl rfl | exact Or.inr (Or.inl rfl) | exact Or.inr (Or.inr rfl))) de_int (fun _ _ => rfl)) de_str (nomark _))
  (nss_ret (de_callTy mc_tuple (by rfl) B.b_tuple (by decide +kernel) (da_cons (de_ss rfl (by rfl) B.b_sorted (by rfl) B.b_set (da_cons (de_slice (de_var (i := 0) rfl (by first | exact Or.inl rfl | exact Or.inr (Or.inl rfl) | exact Or.inr (Or.inr rfl))) (do_some de_int) do_none) da_nil)) da_nil)) ox0)
  (nss_ret (de_tup da_nil) ox0) ox0) ox0))
abbrev N_nexts : List Str := ["code", "name", "block", "rows", "end"]
theorem sc_nexts : FnScope N_nexts ["code", "name", "block"] (defScope (topS 13)) := ⟨rfl, rfl, rfl, by decide +kernel, rfl, by decide +kernel, by decide +kernel⟩
theorem ok_nexts {f f1 f2 : Addr} {fd fd1 fd2 : FuncData} {k k1 k2 : Nat} (D : Df K mg "nexts" (topS 13) ["code", "name", "block"] f fd)
    (D1 : Df K mg "blocks_of" (topS 10) ["code", "name"] f1 fd1) (G1 : FnD P w K mg base k1 f1 fd1 ["code", "name"] G_blocks_of) (h1 : k1 ≤ k)
    (D2 : Df K mg "goals" (topS 12) ["end"] f2 fd2) (G2 : FnD P w K mg base k2 f2 fd2 ["end"] G_goals) (h2 : k2 ≤ k) (B : Bn mg) :
    FnD P w K mg base (k + 1) f fd ["code", "name", "block"] (frameG (r_nexts)) := by
  refine FnD.frame (fnN_of D.fn sc_nexts (fun cdv A outer s H E hg hr xs hx => ?_))
  have nd := sc_nexts.nd
  have hu := hr.units
  have hG : (A.deeper (envOfC "nexts" (defScope (topS 13)) s.heap.objs.size f cdv)).guards = some [] := hg
  have tk : Takes (cxOf (L2.CX P w) P w K mg base N_nexts "nexts" (defScope (topS 13)) f cdv A outer s H E) (fun c d _ H => E c d H) := takes_of rfl rfl rfl rfl
  match xs, hx with
  | [v_code, v_name, v_block], _ =>
  exact (nss_at (mkS := mkU 5) (mkL := mkE) (ρ := [some v_code, some v_name, some v_block, none, none]) (n := n_nexts v_code v_name v_block)
  (nss_asgT (ρ' := fun p3 => [some v_code, some v_name, some v_block, some p3.1, some p3.2]) (de_ix mx_ix (de_call hG G1 (hr.mono h1) D1.bd tk (by rfl) D1.gl D1.fn.kp (da_cons (de_var (i := 0) rfl (by first | exact Or.inl rfl | exact Or.inr (Or.inl rfl) | exact Or.inr (Or.inr rfl))) (da_cons (de_var (i := 1) rfl (by first | exact Or.inl rfl | exact Or.inr (Or.inl rfl) | exact Or.inr (Or.inr rfl))) da_nil))) (de_var (i := 2) rfl (by first | exact Or.inl rfl | exact Or.inr (Or.inl rfl) | exact Or.inr (Or.inr rfl))) (fun _ _ => rfl)) (dg_tup rfl (dgs_cons (dg_name (i := 3) nd rfl (by first | exact Or.inl rfl | exact Or.inr rfl)) (dgs_cons (dg_name (i := 4) nd rfl (by first | exact Or.inl rfl | exact Or.inr rfl)) dgs_nil))) (tgp_2 tgp_n tgp_n) (fun p3 =>
  (nss_ret (de_call hG G2 (hr.mono h2) D2.bd tk (by rfl) D2.gl D2.fn.kp (da_cons (de_var (i := 4) rfl (by first | exact Or.inl rfl | exact Or.inr (Or.inl rfl) | exact Or.inr (Or.inr rfl))) da_nil)) ox0)) ox0))
abbrev N_is_numbers : List Str := ["thing", "part"]
theorem sc_is_numbers : FnScope N_is_numbers ["thing"] (defScope (topS 15)) := ⟨rfl, rfl, rfl, by decide +kernel, rfl, by decide +kernel, by decide +kernel⟩
theorem ok_is_numbers {f f1 : Addr} {fd fd1 : FuncData} {k k1 : Nat} (D : Df K mg "is_numbers" (topS 15) ["thing"] f fd)
    (D1 : Df K mg "is_number" (topS 8) ["thing"] f1 fd1) (G1 : FnD P w K mg base k1 f1 fd1 ["thing"] G_is_number) (h1 : k1 ≤ k) (B : Bn mg) :
    FnD P w K mg base (k + 1) f fd ["thing"] (frameG (r_is_numbers)) := by
  refine FnD.frame (fnN_of D.fn sc_is_numbers (fun cdv A outer s H E hg hr xs hx => ?_))
  have nd := sc_is_numbers.nd
  have hu := hr.units
  have hG : (A.deeper (envOfC "is_numbers" (defScope (topS 15)) s.heap.objs.size f cdv)).guards = some [] := hg
  have tk : Takes (cxOf (L2.CX P w) P w K mg base N_is_numbers "is_numbers" (defScope (topS 15)) f cdv A outer s H E) (fun c d _ H => E c d H) := takes_of rfl rfl rfl rfl
  match xs, hx with
  | [v_thing], _ =>
  exact (nss_at (mkS := mkU 2) (mkL := mkE) (ρ := [some v_thing, none]) (n := n_is_numbers v_thing)
  (nss_ret (de_and (de_isi isa_tup (by rfl) B.b_isinstance (de_var (i := 0) rfl (by first | exact Or.inl rfl | exact Or.inr (Or.inl rfl) | exact Or.inr (Or.inr rfl))) (by rfl) B.b_tuple (by decide +kernel)) (de_one (de_callB (mc_all rfl) (by rfl) B.b_all (by decide +kernel) (da_cons (de_lc (own := [("part", 1)]) (g := (gName 1)) (gm := (gmName 1)) (t := tYesM) (e := (mCall 1 G_is_number (aCons (mVar 1) aNil))) rfl nd (di_seq (de_var (i := 0) rfl (by first | exact Or.inl rfl | exact Or.inr (Or.inl rfl) | exact Or.inr (Or.inr rfl)))) (blkOk_by (N := N_is_numbers) (sc := defScope (topS 15)) (by decide +kernel)) (gok_name (by decide)) (fun _ _ _ _ _ => (pg_name (i := 1) nd rfl (by first | exact Or.inl rfl | exact Or.inr rfl))) (fun _ _ _ _ _ => dts_nil) (fun _ _ _ _ _ => (de_call hG G1 (hr.mono h1) D1.bd takes0 (by rfl) D1.gl D1.fn.kp (da_cons (de_var (i := 1) rfl (by first | exact Or.inl rfl | exact Or.inr (Or.inl rfl) | exact Or.inr (Or.inr rfl))) da_nil)))) da_nil)))) ox0))
abbrev N_lets_around : List Str := ["code", "name", "over", "under", "thing", "goals", "k", "block"]
theorem sc_lets_around : FnScope N_lets_around ["code", "name", "over", "under", "thing"] (defScope (topS 16)) := ⟨rfl, rfl, rfl, by decide +kernel, rfl, by decide +kernel, by decide +kernel⟩
theorem ok_lets_around {f f1 f2 : Addr} {fd fd1 fd2 : FuncData} {k k1 k2 : Nat} {C_NoPaper fI_NoPaper : Addr} {fdI_NoPaper : FuncData} (D : Df K mg "lets_around" (topS 16) ["code", "name", "over", "under", "thing"] f fd)
    (D1 : Df K mg "is_numbers" (topS 15) ["thing"] f1 fd1) (G1 : FnD P w K mg base k1 f1 fd1 ["thing"] G_is_numbers) (h1 : k1 ≤ k)
    (D2 : Df K mg "nexts" (topS 13) ["code", "name", "block"] f2 fd2) (G2 : FnD P w K mg base k2 f2 fd2 ["code", "name", "block"] G_nexts) (h2 : k2 ≤ k) (B : Bn mg)
    (M_NoPaper : Mk2 K mg "NoPaper" "word" "at" C_NoPaper fI_NoPaper) (I_NoPaper : FnOk P w K mg base CX0 1 fI_NoPaper fdI_NoPaper ["self", "word", "at"] (spIn2 C_NoPaper "word" "at")) (bI_NoPaper : Binds K fdI_NoPaper ["self", "word", "at"] []) (hI : 2 ≤ k) :
    FnD P w K mg base (k + 1) f fd ["code", "name", "over", "under", "thing"] (frameG (r_lets_around)) := by
  refine FnD.frame (fnN_of D.fn sc_lets_around (fun cdv A outer s H E hg hr xs hx => ?_))
  have nd := sc_lets_around.nd
  have hu := hr.units
  have hG : (A.deeper (envOfC "lets_around" (defScope (topS 16)) s.heap.objs.size f cdv)).guards = some [] := hg
  have tk : Takes (cxOf (L2.CX P w) P w K mg base N_lets_around "lets_around" (defScope (topS 16)) f cdv A outer s H E) (fun c d _ H => E c d H) := takes_of rfl rfl rfl rfl
  match xs, hx with
  | [v_code, v_name, v_over, v_under, v_thing], _ =>
  exact (nss_at (mkS := mkU 8) (mkL := mkE) (ρ := [some v_code, some v_name, some v_over, some v_under, some v_thing, none, none, none]) (n := n_lets_around v_code v_name v_over v_under v_thing)
  (nss_ifx (mk0 := mkE) (dt_w (dw_or (dt_not (dt_tru (de_call hG G1 (hr.mono h1) D1.bd tk (by rfl) D1.gl D1.fn.kp (da_cons (de_var (i := 4) rfl (by first | exact Or.inl rfl | exact Or.inr (Or.inl rfl) | exact Or.inr (Or.inr rfl))) da_nil)))) (dw_or1 (dt_not (dt_tru (de_var (i := 4) rfl (by first | exact Or.inl rfl | exact Or.inr (Or.inl rfl) | exact Or.inr (Or.inr rfl))))))))
  (nss_raise2 (ds_raise2 rfl tk M_NoPaper I_NoPaper (hr.mono hI) bI_NoPaper (by rfl) (da_cons de_str (da_cons (de_un mu_neg de_int) da_nil))) ox0)
  (nss_set (i := 5) (ρ' := fun v_goals => [some v_code, some v_name, some v_over, some v_under, some v_thing, some v_goals, none, none]) nd rfl (by first | exact Or.inl rfl | exact Or.inr rfl) (de_tup (da_cons de_int da_nil)) (fun v_goals =>
  (nss_cons (mk1 := (mk_lets_around_1 v_code v_name v_over v_under v_thing)) (ns_forP (mk1 := (mk_lets_around_1 v_code v_name v_over v_under v_thing)) (ρb := fun p a => [some v_code, some v_name, some v_over, some v_under, some v_thing, some a, some p.1, some p.2]) (a0 := v_goals) PassesOwn.leaving rfl (di_enT (by rfl) B.b_enumerate (da_cons (de_var (i := 4) rfl (by first | exact Or.inl rfl | exact Or.inr (Or.inl rfl) | exact Or.inr (Or.inr rfl))) da_nil)) (dg_tup rfl (dgs_cons (dg_name (i := 6) nd rfl (by first | exact Or.inl rfl | exact Or.inr rfl)) (dgs_cons (dg_name (i := 7) nd rfl (by first | exact Or.inl rfl | exact Or.inr rfl)) dgs_nil))) (tgp_2 tgp_n tgp_n) (fun p a =>
  (let v_k : Vl := p.1; (let v_block : Vl := p.2; (let v_goals : Vl := a; (nss_at (mkS := (mk_lets_around_1 v_code v_name v_over v_under v_thing)) (mkL := (mk_lets_around_1 v_code v_name v_over v_under v_thing)) (ρ := [some v_code, some v_name, some v_over, some v_under, some v_thing, some v_goals, some v_k, some v_block]) (n := nb_lets_around_1 v_code v_name v_over v_under v_thing v_k v_block v_goals)
  (nss_ifx (mk0 := mkE) (dt_cmp mo_notIn (de_var (i := 7) rfl (by first | exact Or.inl rfl | exact Or.inr (Or.inl rfl) | exact Or.inr (Or.inr rfl))) (de_var (i := 5) rfl (by first | exact Or.inl rfl | exact Or.inr (Or.inl rfl) | exact Or.inr (Or.inr rfl))) (by with_unfolding_all rfl))
  (nss_raise2 (ds_raise2 rfl tk M_NoPaper I_NoPaper (hr.mono hI) bI_NoPaper (by rfl) (da_cons de_str (da_cons (de_var (i := 6) rfl (by first | exact Or.inl rfl | exact Or.inr (Or.inl rfl) | exact Or.inr (Or.inr rfl))) da_nil))) ox0)
  (nss_ifx (mk0 := mkE) (dt_cmp (mo_eq hu) (de_var (i := 7) rfl (by first | exact Or.inl rfl | exact Or.inr (Or.inl rfl) | exact Or.inr (Or.inr rfl))) (de_var (i := 2) rfl (by first | exact Or.inl rfl | exact Or.inr (Or.inl rfl) | exact Or.inr (Or.inr rfl))) (nomark _))
  (nss_raise2 (ds_raise2 rfl tk M_NoPaper I_NoPaper (hr.mono hI) bI_NoPaper (by rfl) (da_cons de_str (da_cons (de_var (i := 6) rfl (by first | exact Or.inl rfl | exact Or.inr (Or.inl rfl) | exact Or.inr (Or.inr rfl))) da_nil))) ox0)
  (nss_set (i := 5) (ρ' := fun v_goals => [some v_code, some v_name, some v_over, some v_under, some v_thing, some v_goals, some v_k, some v_block]) nd rfl (by first | exact Or.inl rfl | exact Or.inr rfl) (de_call hG G2 (hr.mono h2) D2.bd tk (by rfl) D2.gl D2.fn.kp (da_cons (de_var (i := 0) rfl (by first | exact Or.inl rfl | exact Or.inr (Or.inl rfl) | exact Or.inr (Or.inr rfl))) (da_cons (de_var (i := 1) rfl (by first | exact Or.inl rfl | exact Or.inr (Or.inl rfl) | exact Or.inr (Or.inr rfl))) (da_cons (de_var (i := 7) rfl (by first | exact Or.inl rfl | exact Or.inr (Or.inl rfl) | exact Or.inr (Or.inr rfl))) da_nil)))) (fun v_goals =>
  (nss_nil (a := v_goals) (.som (.som (.som (.som (.som (.som (.non (.non .nil)))))))))) ox0) ox0) ox0)))))) (.som (.som (.som (.som (.som (.som (.non (.non .nil)))))))) ox0) (fun j33 =>
  (let v_goals : Vl := j33; (nss_at (mkS := (mkU 8)) (mkL := mkE) (ρ := [some v_code, some v_name, some v_over, some v_under, some v_thing, some v_goals, none, none]) (n := kt_lets_around_1 v_code v_name v_over v_under v_thing v_goals)
  (nss_ifx (mk0 := mkE) (dt_cmp (mo_ne hu) (de_ix mx_ix (de_var (i := 4) rfl (by first | exact Or.inl rfl | exact Or.inr (Or.inl rfl) | exact Or.inr (Or.inr rfl))) (de_un mu_neg de_int) (fun _ _ => rfl)) (de_var (i := 3) rfl (by first | exact Or.inl rfl | exact Or.inr (Or.inl rfl) | exact Or.inr (Or.inr rfl))) (nomark _))
  (nss_raise2 (ds_raise2 rfl tk M_NoPaper I_NoPaper (hr.mono hI) bI_NoPaper (by rfl) (da_cons de_str (da_cons (de_un mu_neg de_int) da_nil))) ox0)
  (nss_ret de_bl ox0) ox0)))))) ox0) ox0))
abbrev N_law_feed_k01 : List Str := ["_law_script"]
theorem sc_law_feed_k01 : FnScope N_law_feed_k01 ["_law_script"] (defScope (topS 18)) := ⟨rfl, rfl, rfl, by decide +kernel, rfl, by decide +kernel, by decide +kernel⟩
theorem ok_law_feed_k01 {f : Addr} {fd : FuncData} {k : Nat} (D : Df K mg "_law_feed" (topS 18) ["_law_script"] f fd) (B : Bn mg) :
    FnD P w K mg base (k + 1) f fd ["_law_script"] (r_law_feed_k01) := by
  refine (fnN_of D.fn sc_law_feed_k01 (fun cdv A outer s H E hg hr xs hx => ?_))
  have nd := sc_law_feed_k01.nd
  have hu := hr.units
  have hG : (A.deeper (envOfC "_law_feed" (defScope (topS 18)) s.heap.objs.size f cdv)).guards = some [] := hg
  have tk : Takes (cxOf (L2.CX P w) P w K mg base N_law_feed_k01 "_law_feed" (defScope (topS 18)) f cdv A outer s H E) (fun c d _ H => E c d H) := takes_of rfl rfl rfl rfl
  match xs, hx with
  | [w_script], _ =>
  exact (nss_at (mkS := mkU 1) (mkL := mkE) (ρ := [some w_script]) (n := n_law_feed_k01 w_script)
  (nss_ret (de_new (da_cons (de_slice (de_var (i := 0) rfl (by first | exact Or.inl rfl | exact Or.inr (Or.inl rfl) | exact Or.inr (Or.inr rfl))) do_none (do_some de_int)) (da_cons de_int (da_cons de_int (da_cons de_int da_nil))))) ox0))
abbrev N_law_draw_k01 : List Str := ["_law_feed_here", "_law_many", "_law_cell", "_law_turn", "_law_mixed", "_law_told"]
theorem sc_law_draw_k01 : FnScope N_law_draw_k01 ["_law_feed_here", "_law_many"] (defScope (topS 19)) := ⟨rfl, rfl, rfl, by decide +kernel, rfl, by decide +kernel, by decide +kernel⟩
theorem ok_law_draw_k01 {f : Addr} {fd : FuncData} {k : Nat} (D : Df K mg "_law_draw" (topS 19) ["_law_feed_here", "_law_many"] f fd) (B : Bn mg) :
    FnD P w K mg base (k + 1) f fd ["_law_feed_here", "_law_many"] (frameG (r_law_draw_k01)) := by
  refine FnD.frame (fnN_of D.fn sc_law_draw_k01 (fun cdv A outer s H E hg hr xs hx => ?_))
  have nd := sc_law_draw_k01.nd
  have hu := hr.units
  have hG : (A.deeper (envOfC "_law_draw" (defScope (topS 19)) s.heap.objs.size f cdv)).guards = some [] := hg
  have tk : Takes (cxOf (L2.CX P w) P w K mg base N_law_draw_k01 "_law_draw" (defScope (topS 19)) f cdv A outer s H E) (fun c d _ H => E c d H) := takes_of rfl rfl rfl rfl
  match xs, hx with
  | [w_feed_here, w_many], _ =>
  exact (nss_at (mkS := mkU 6) (mkL := mkE) (ρ := [some w_feed_here, some w_many, none, none, none, none]) (n := n_law_draw_k01 w_feed_here w_many)
  (nss_augS (de_var (i := 0) rfl (by first | exact Or.inl rfl | exact Or.inr (Or.inl rfl) | exact Or.inr (Or.inr rfl))) de_int de_int
  (nss_ifx (mk0 := mkE) (dt_cmp mo_gt (de_ix mx_ix (de_var (i := 0) rfl (by first | exact Or.inl rfl | exact Or.inr (Or.inl rfl) | exact Or.inr (Or.inr rfl))) de_int (fun _ _ => rfl)) de_int (nomark _))
  (nss_set (i := 5) (ρ' := fun w_told => [some w_feed_here, some w_many, none, none, none, some w_told]) nd rfl (by first | exact Or.inl rfl | exact Or.inr rfl) (de_op mo_mod (de_ix mx_ix (de_var (i := 0) rfl (by first | exact Or.inl rfl | exact Or.inr (Or.inl rfl) | exact Or.inr (Or.inr rfl))) de_int (fun _ _ => rfl)) (de_var (i := 1) rfl (by first | exact Or.inl rfl | exact Or.inr (Or.inl rfl) | exact Or.inr (Or.inr rfl)))) (fun w_told =>
  (nss_asgS (de_op mo_div (de_ix mx_ix (de_var (i := 0) rfl (by first | exact Or.inl rfl | exact Or.inr (Or.inl rfl) | exact Or.inr (Or.inr rfl))) de_int (fun _ _ => rfl)) (de_var (i := 1) rfl (by first | exact Or.inl rfl | exact Or.inr (Or.inl rfl) | exact Or.inr (Or.inr rfl)))) (dg_sub (de_var (i := 0) rfl (by first | exact Or.inl rfl | exact Or.inr (Or.inl rfl) | exact Or.inr (Or.inr rfl))) de_int) (tgs_sub (fo := fun s21 => R.ok w_feed_here s21) (fi := fun z => R.ok (Vl.dat (.int 2)) z))
  (nss_ret (de_var (i := 5) rfl (by first | exact Or.inl rfl | exact Or.inr (Or.inl rfl) | exact Or.inr (Or.inr rfl))) ox0) ox0)) ox0)
  (nss_set (i := 2) (ρ' := fun w_cell => [some w_feed_here, some w_many, some w_cell, none, none, none]) nd rfl (by first | exact Or.inl rfl | exact Or.inr rfl) (de_if (dt_cmp (mo_eq hu) (de_ix mx_ix (de_var (i := 0) rfl (by first | exact Or.inl rfl | exact Or.inr (Or.inl rfl) | exact Or.inr (Or.inr rfl))) de_int (fun _ _ => rfl)) (de_lst da_nil) (nomark _)) de_int (de_ix mx_ix (de_ix mx_ix (de_var (i := 0) rfl (by first | exact Or.inl rfl | exact Or.inr (Or.inl rfl) | exact Or.inr (Or.inr rfl))) de_int (fun _ _ => rfl)) (de_op mo_mod (de_ix mx_ix (de_var (i := 0) rfl (by first | exact Or.inl rfl | exact Or.inr (Or.inl rfl) | exact Or.inr (Or.inr rfl))) de_int (fun _ _ => rfl)) (de_callB mc_len (by rfl) B.b_len PySem.boot_len (da_cons (de_ix mx_ix (de_var (i := 0) rfl (by first | exact Or.inl rfl | exact Or.inr (Or.inl rfl) | exact Or.inr (Or.inr rfl))) de_int (fun _ _ => rfl)) da_nil))) (fun _ _ => rfl))) (fun w_cell =>
  (nss_augS (de_var (i := 0) rfl (by first | exact Or.inl rfl | exact Or.inr (Or.inl rfl) | exact Or.inr (Or.inr rfl))) de_int de_int
  (nss_ifx (mk0 := mkE) (dt_w (dw_and (dt_cmp mo_ge (de_var (i := 2) rfl (by first | exact Or.inl rfl | exact Or.inr (Or.inl rfl) | exact Or.inr (Or.inr rfl))) (de_op mo_pow de_int de_int) (nomark _)) (dw_and1 (dt_cmp mo_le (de_ix mx_ix (de_var (i := 0) rfl (by first | exact Or.inl rfl | exact Or.inr (Or.inl rfl) | exact Or.inr (Or.inr rfl))) de_int (fun _ _ => rfl)) (de_callB mc_len (by rfl) B.b_len PySem.boot_len (da_cons (de_ix mx_ix (de_var (i := 0) rfl (by first | exact Or.inl rfl | exact Or.inr (Or.inl rfl) | exact Or.inr (Or.inr rfl))) de_int (fun _ _ => rfl)) da_nil)) (nomark _)))))
  (nss_asgS (de_op mo_div (de_var (i := 2) rfl (by first | exact Or.inl rfl | exact Or.inr (Or.inl rfl) | exact Or.inr (Or.inr rfl))) (de_var (i := 1) rfl (by first | exact Or.inl rfl | exact Or.inr (Or.inl rfl) | exact Or.inr (Or.inr rfl)))) (dg_sub (de_var (i := 0) rfl (by first | exact Or.inl rfl | exact Or.inr (Or.inl rfl) | exact Or.inr (Or.inr rfl))) de_int) (tgs_sub (fo := fun s73 => R.ok w_feed_here s73) (fi := fun z => R.ok (Vl.dat (.int 2)) z))
  (nss_ret (de_op mo_mod (de_var (i := 2) rfl (by first | exact Or.inl rfl | exact Or.inr (Or.inl rfl) | exact Or.inr (Or.inr rfl))) (de_var (i := 1) rfl (by first | exact Or.inl rfl | exact Or.inr (Or.inl rfl) | exact Or.inr (Or.inr rfl)))) ox0) ox0)
  (nss_set (i := 3) (ρ' := fun w_turn => [some w_feed_here, some w_many, some w_cell, some w_turn, none, none]) nd rfl (by first | exact Or.inl rfl | exact Or.inr rfl) (de_ix mx_ix (de_var (i := 0) rfl (by first | exact Or.inl rfl | exact Or.inr (Or.inl rfl) | exact Or.inr (Or.inr rfl))) de_int (fun _ _ => rfl)) (fun w_turn =>
  (nss_set (i := 4) (ρ' := fun w_mixed => [some w_feed_here, some w_many, some w_cell, some w_turn, some w_mixed, none]) nd rfl (by first | exact Or.inl rfl | exact Or.inr rfl) (de_op mo_mod (de_op mo_add (de_op mo_add (de_op mo_mod (de_var (i := 2) rfl (by first | exact Or.inl rfl | exact Or.inr (Or.inl rfl) | exact Or.inr (Or.inr rfl))) de_int) (de_op mo_mul (de_op mo_mul de_int (de_var (i := 3) rfl (by first | exact Or.inl rfl | exact Or.inr (Or.inl rfl) | exact Or.inr (Or.inr rfl)))) (de_var (i := 3) rfl (by first | exact Or.inl rfl | exact Or.inr (Or.inl rfl) | exact Or.inr (Or.inr rfl))))) (de_op mo_mul de_int (de_var (i := 3) rfl (by first | exact Or.inl rfl | exact Or.inr (Or.inl rfl) | exact Or.inr (Or.inr rfl))))) de_int) (fun w_mixed =>
  (nss_set (i := 4) (ρ' := fun w_mixed => [some w_feed_here, some w_many, some w_cell, some w_turn, some w_mixed, none]) nd rfl (by first | exact Or.inl rfl | exact Or.inr rfl) (de_op mo_mod (de_op mo_add (de_op mo_mul (de_var (i := 4) rfl (by first | exact Or.inl rfl | exact Or.inr (Or.inl rfl) | exact Or.inr (Or.inr rfl))) (de_var (i := 4) rfl (by first | exact Or.inl rfl | exact Or.inr (Or.inl rfl) | exact Or.inr (Or.inr rfl)))) (de_op mo_mul de_int (de_var (i := 3) rfl (by first | exact Or.inl rfl | exact Or.inr (Or.inl rfl) | exact Or.inr (Or.inr rfl))))) de_int) (fun w_mixed =>
  (nss_set (i := 4) (ρ' := fun w_mixed => [some w_feed_here, some w_many, some w_cell, some w_turn, some w_mixed, none]) nd rfl (by first | exact Or.inl rfl | exact Or.inr rfl) (de_op mo_mod (de_op mo_add (de_op mo_mul (de_var (i := 4) rfl (by first | exact Or.inl rfl | exact Or.inr (Or.inl rfl) | exact Or.inr (Or.inr rfl))) (de_var (i := 4) rfl (by first | exact Or.inl rfl | exact Or.inr (Or.inl rfl) | exact Or.inr (Or.inr rfl)))) (de_op mo_mul de_int (de_var (i := 3) rfl (by first | exact Or.inl rfl | exact Or.inr (Or.inl rfl) | exact Or.inr (Or.inr rfl))))) de_int) (fun w_mixed =>
  (nss_ret (de_op mo_mod (de_op mo_div (de_op mo_mod (de_op mo_add (de_op mo_mul (de_var (i := 4) rfl (by first | exact Or.inl rfl | exact Or.inr (Or.inl rfl) | exact Or.inr (Or.inr rfl))) (de_var (i := 4) rfl (by first | exact Or.inl rfl | exact Or.inr (Or.inl rfl) | exact Or.inr (Or.inr rfl)))) (de_var (i := 3) rfl (by first | exact Or.inl rfl | exact Or.inr (Or.inl rfl) | exact Or.inr (Or.inr rfl)))) de_int) de_int) (de_var (i := 1) rfl (by first | exact Or.inl rfl | exact Or.inr (Or.inl rfl) | exact Or.inr (Or.inr rfl)))) ox0)) ox0)) ox0)) ox0)) ox0) ox0) ox0)) ox0) ox0) ox0))
abbrev N_law_bend_k13 : List Str := ["_law_feed_here", "_law_thing", "_law_odd_here", "_law_way_here", "_law_at"]
theorem sc_law_bend_k13 : FnScope N_law_bend_k13 ["_law_feed_here", "_law_thing", "_law_odd_here"] (defScope (topS 20)) := ⟨rfl, rfl, rfl, by decide +kernel, rfl, by decide +kernel, by decide +kernel⟩
theorem ok_law_bend_k13 {f f1 f2 : Addr} {fd fd1 fd2 : FuncData} {k k1 k2 : Nat} {dr : MF} {rec : MF} (D : Df K mg "_law_bend" (topS 20) ["_law_feed_here", "_law_thing", "_law_odd_here"] f fd)
    (D1 : Df K mg "_law_draw" (topS 19) ["_law_feed_here", "_law_many"] f1 fd1) (G1 : FnD P w K mg base k1 f1 fd1 ["_law_feed_here", "_law_many"] dr) (h1 : k1 ≤ k)
    (D2 : Df K mg "_law_bend" (topS 20) ["_law_feed_here", "_law_thing", "_law_odd_here"] f2 fd2) (G2 : FnD P w K mg base k2 f2 fd2 ["_law_feed_here", "_law_thing", "_law_odd_here"] rec) (h2 : k2 ≤ k) (B : Bn mg) :
    FnD P w K mg base (k + 1) f fd ["_law_feed_here", "_law_thing", "_law_odd_here"] (frameG (r_law_bend_k13 dr rec)) := by
  refine FnD.frame (fnN_of D.fn sc_law_bend_k13 (fun cdv A outer s H E hg hr xs hx => ?_))
  have nd := sc_law_bend_k13.nd
  have hu := hr.units
  have hG : (A.deeper (envOfC "_law_bend" (defScope (topS 20)) s.heap.objs.size f cdv)).guards = some [] := hg
  have tk : Takes (cxOf (L2.CX P w) P w K mg base N_law_bend_k13 "_law_bend" (defScope (topS 20)) f cdv A outer s H E) (fun c d _ H => E c d H) := takes_of rfl rfl rfl rfl
  match xs, hx with
  | [w_feed_here, w_thing, w_odd_here], _ =>
  exact (nss_at (mkS := mkU 5) (mkL := mkE) (ρ := [some w_feed_here, some w_thing, some w_odd_here, none, none]) (n := n_law_bend_k13 dr rec w_feed_here w_thing w_odd_here)
  (nss_ifx (mk0 := mkE) (dt_w (dw_and (dt_tru (de_isi isa_tup (by rfl) B.b_isinstance (de_var (i := 1) rfl (by first | exact Or.inl rfl | exact Or.inr (Or.inl rfl) | exact Or.inr (Or.inr rfl))) (by rfl) B.b_tuple (by decide +kernel))) (dw_and (dt_cmp (mo_ne hu) (de_var (i := 1) rfl (by first | exact Or.inl rfl | exact Or.inr (Or.inl rfl) | exact Or.inr (Or.inr rfl))) (de_tup da_nil) (nomark _)) (dw_and1 (dt_cmp mo_gt (de_call hG G1 (hr.mono h1) D1.bd tk (by rfl) D1.gl D1.fn.kp (da_cons (de_var (i := 0) rfl (by first | exact Or.inl rfl | exact Or.inr (Or.inl rfl) | exact Or.inr (Or.inr rfl))) (da_cons de_int da_nil))) de_int (nomark _))))))
  (nss_set (i := 4) (ρ' := fun w_at => [some w_feed_here, some w_thing, some w_odd_here, none, some w_at]) nd rfl (by first | exact Or.inl rfl | exact Or.inr rfl) (de_call hG G1 (hr.mono h1) D1.bd tk (by rfl) D1.gl D1.fn.kp (da_cons (de_var (i := 0) rfl (by first | exact Or.inl rfl | exact Or.inr (Or.inl rfl) | exact Or.inr (Or.inr rfl))) (da_cons (de_callB mc_len (by rfl) B.b_len PySem.boot_len (da_cons (de_var (i := 1) rfl (by first | exact Or.inl rfl | exact Or.inr (Or.inl rfl) | exact Or.inr (Or.inr rfl))) da_nil)) da_nil))) (fun w_at =>
  (nss_ret (de_op mo_add (de_op mo_add (de_slice (de_var (i := 1) rfl (by first | exact Or.inl rfl | exact Or.inr (Or.inl rfl) | exact Or.inr (Or.inr rfl))) do_none (do_some (de_var (i := 4) rfl (by first | exact Or.inl rfl | exact Or.inr (Or.inl rfl) | exact Or.inr (Or.inr rfl))))) (de_tup (da_cons (de_call hG G2 (hr.mono h2) D2.bd tk (by rfl) D2.gl D2.fn.kp (da_cons (de_var (i := 0) rfl (by first | exact Or.inl rfl | exact Or.inr (Or.inl rfl) | exact Or.inr (Or.inr rfl))) (da_cons (de_ix mx_ix (de_var (i := 1) rfl (by first | exact Or.inl rfl | exact Or.inr (Or.inl rfl) | exact Or.inr (Or.inr rfl))) (de_var (i := 4) rfl (by first | exact Or.inl rfl | exact Or.inr (Or.inl rfl) | exact Or.inr (Or.inr rfl))) (fun _ _ => rfl)) (da_cons (de_var (i := 2) rfl (by first | exact Or.inl rfl | exact Or.inr (Or.inl rfl) | exact Or.inr (Or.inr rfl))) da_nil)))) da_nil))) (de_slice (de_var (i := 1) rfl (by first | exact Or.inl rfl | exact Or.inr (Or.inl rfl) | exact Or.inr (Or.inr rfl))) (do_some (de_op mo_add (de_var (i := 4) rfl (by first | exact Or.inl rfl | exact Or.inr (Or.inl rfl) | exact Or.inr (Or.inr rfl))) de_int)) do_none)) ox0)) ox0)
  (nss_set (i := 3) (ρ' := fun w_way_here => [some w_feed_here, some w_thing, some w_odd_here, some w_way_here, none]) nd rfl (by first | exact Or.inl rfl | exact Or.inr rfl) (de_call hG G1 (hr.mono h1) D1.bd tk (by rfl) D1.gl D1.fn.kp (da_cons (de_var (i := 0) rfl (by first | exact Or.inl rfl | exact Or.inr (Or.inl rfl) | exact Or.inr (Or.inr rfl))) (da_cons de_int da_nil))) (fun w_way_here =>
  (nss_ifx (mk0 := mkE) (dt_w (dw_and (dt_tru (de_isi isa_tup (by rfl) B.b_isinstance (de_var (i := 1) rfl (by first | exact Or.inl rfl | exact Or.inr (Or.inl rfl) | exact Or.inr (Or.inr rfl))) (by rfl) B.b_tuple (by decide +kernel))) (dw_and1 (dt_cmp mo_lt (de_var (i := 3) rfl (by first | exact Or.inl rfl | exact Or.inr (Or.inl rfl) | exact Or.inr (Or.inr rfl))) de_int (nomark _)))))
  (nss_set (i := 4) (ρ' := fun w_at => [some w_feed_here, some w_thing, some w_odd_here, some w_way_here, some w_at]) nd rfl (by first | exact Or.inl rfl | exact Or.inr rfl) (de_call hG G1 (hr.mono h1) D1.bd tk (by rfl) D1.gl D1.fn.kp (da_cons (de_var (i := 0) rfl (by first | exact Or.inl rfl | exact Or.inr (Or.inl rfl) | exact Or.inr (Or.inr rfl))) (da_cons (de_op mo_add (de_callB mc_len (by rfl) B.b_len PySem.boot_len (da_cons (de_var (i := 1) rfl (by first | exact Or.inl rfl | exact Or.inr (Or.inl rfl) | exact Or.inr (Or.inr rfl))) da_nil)) de_int) da_nil))) (fun w_at =>
  (nss_ifx (mk0 := mkE) (dt_cmp (mo_eq hu) (de_var (i := 3) rfl (by first | exact Or.inl rfl | exact Or.inr (Or.inl rfl) | exact Or.inr (Or.inr rfl))) de_int (nomark _))
  (nss_ret (de_op mo_add (de_op mo_add (de_slice (de_var (i := 1) rfl (by first | exact Or.inl rfl | exact Or.inr (Or.inl rfl) | exact Or.inr (Or.inr rfl))) do_none (do_some (de_var (i := 4) rfl (by first | exact Or.inl rfl | exact Or.inr (Or.inl rfl) | exact Or.inr (Or.inr rfl))))) (de_tup (da_cons (de_ix mx_ix (de_var (i := 2) rfl (by first | exact Or.inl rfl | exact Or.inr (Or.inl rfl) | exact Or.inr (Or.inr rfl))) (de_call hG G1 (hr.mono h1) D1.bd tk (by rfl) D1.gl D1.fn.kp (da_cons (de_var (i := 0) rfl (by first | exact Or.inl rfl | exact Or.inr (Or.inl rfl) | exact Or.inr (Or.inr rfl))) (da_cons (de_callB mc_len (by rfl) B.b_len PySem.boot_len (da_cons (de_var (i := 2) rfl (by first | exact Or.inl rfl | exact Or.inr (Or.inl rfl) | exact Or.inr (Or.inr rfl))) da_nil)) da_nil))) (fun _ _ => rfl)) da_nil))) (de_slice (de_var (i := 1) rfl (by first | exact Or.inl rfl | exact Or.inr (Or.inl rfl) | exact Or.inr (Or.inr rfl))) (do_some (de_var (i := 4) rfl (by first | exact Or.inl rfl | exact Or.inr (Or.inl rfl) | exact Or.inr (Or.inr rfl)))) do_none)) ox0)
  (nss_ret (de_if (dt_cmp (mo_eq hu) (de_var (i := 3) rfl (by first | exact Or.inl rfl | exact Or.inr (Or.inl rfl) | exact Or.inr (Or.inr rfl))) de_int (nomark _)) (de_op mo_add (de_slice (de_var (i := 1) rfl (by first | exact Or.inl rfl | exact Or.inr (Or.inl rfl) | exact Or.inr (Or.inr rfl))) do_none (do_some (de_var (i := 4) rfl (by first | exact Or.inl rfl | exact Or.inr (Or.inl rfl) | exact Or.inr (Or.inr rfl))))) (de_slice (de_var (i := 1) rfl (by first | exact Or.inl rfl | exact Or.inr (Or.inl rfl) | exact Or.inr (Or.inr rfl))) (do_some (de_op mo_add (de_var (i := 4) rfl (by first | exact Or.inl rfl | exact Or.inr (Or.inl rfl) | exact Or.inr (Or.inr rfl))) de_int)) do_none)) (de_if (dt_cmp (mo_eq hu) (de_var (i := 3) rfl (by first | exact Or.inl rfl | exact Or.inr (Or.inl rfl) | exact Or.inr (Or.inr rfl))) de_int (nomark _)) (de_callTy mc_list (by rfl) B.b_list (by decide +kernel) (da_cons (de_var (i := 1) rfl (by first | exact Or.inl rfl | exact Or.inr (Or.inl rfl) | exact Or.inr (Or.inr rfl))) da_nil)) (de_op mo_add (de_var (i := 1) rfl (by first | exact Or.inl rfl | exact Or.inr (Or.inl rfl) | exact Or.inr (Or.inr rfl))) (de_slice (de_var (i := 1) rfl (by first | exact Or.inl rfl | exact Or.inr (Or.inl rfl) | exact Or.inr (Or.inr rfl))) do_none (do_some (de_var (i := 4) rfl (by first | exact Or.inl rfl | exact Or.inr (Or.inl rfl) | exact Or.inr (Or.inr rfl)))))))) ox0) ox0)) ox0)
  (nss_ifx (mk0 := mkE) (dt_w (dw_and (dt_tru (de_isi isa_int (by rfl) B.b_isinstance (de_var (i := 1) rfl (by first | exact Or.inl rfl | exact Or.inr (Or.inl rfl) | exact Or.inr (Or.inr rfl))) (by rfl) B.b_int (by decide +kernel))) (dw_and1 (dt_cmp mo_lt (de_var (i := 3) rfl (by first | exact Or.inl rfl | exact Or.inr (Or.inl rfl) | exact Or.inr (Or.inr rfl))) de_int (nomark _)))))
  (nss_ret (de_ix mx_ix (de_tup (da_cons (de_op mo_add (de_var (i := 1) rfl (by first | exact Or.inl rfl | exact Or.inr (Or.inl rfl) | exact Or.inr (Or.inr rfl))) de_int) (da_cons (de_op mo_sub (de_var (i := 1) rfl (by first | exact Or.inl rfl | exact Or.inr (Or.inl rfl) | exact Or.inr (Or.inr rfl))) de_int) (da_cons (de_un mu_neg (de_var (i := 1) rfl (by first | exact Or.inl rfl | exact Or.inr (Or.inl rfl) | exact Or.inr (Or.inr rfl)))) (da_cons (de_tup (da_cons (de_var (i := 1) rfl (by first | exact Or.inl rfl | exact Or.inr (Or.inl rfl) | exact Or.inr (Or.inr rfl))) da_nil)) da_nil))))) (de_var (i := 3) rfl (by first | exact Or.inl rfl | exact Or.inr (Or.inl rfl) | exact Or.inr (Or.inr rfl))) (fun _ _ => rfl)) ox0)
  (nss_ifx (mk0 := mkE) (dt_w (dw_and (dt_tru (de_isi isa_str (by rfl) B.b_isinstance (de_var (i := 1) rfl (by first | exact Or.inl rfl | exact Or.inr (Or.inl rfl) | exact Or.inr (Or.inr rfl))) (by rfl) B.b_str (by decide +kernel))) (dw_and1 (dt_cmp mo_lt (de_var (i := 3) rfl (by first | exact Or.inl rfl | exact Or.inr (Or.inl rfl) | exact Or.inr (Or.inr rfl))) de_int (nomark _)))))
  (nss_ret (de_ix mx_ix (de_tup (da_cons (de_op mo_add (de_var (i := 1) rfl (by first | exact Or.inl rfl | exact Or.inr (Or.inl rfl) | exact Or.inr (Or.inr rfl))) de_str) (da_cons (de_slice (de_var (i := 1) rfl (by first | exact Or.inl rfl | exact Or.inr (Or.inl rfl) | exact Or.inr (Or.inr rfl))) (do_some de_int) do_none) (da_cons (de_lst (da_cons (de_var (i := 1) rfl (by first | exact Or.inl rfl | exact Or.inr (Or.inl rfl) | exact Or.inr (Or.inr rfl))) da_nil)) da_nil)))) (de_var (i := 3) rfl (by first | exact Or.inl rfl | exact Or.inr (Or.inl rfl) | exact Or.inr (Or.inr rfl))) (fun _ _ => rfl)) ox0)
  (nss_ret (de_ix mx_ix (de_var (i := 2) rfl (by first | exact Or.inl rfl | exact Or.inr (Or.inl rfl) | exact Or.inr (Or.inr rfl))) (de_call hG G1 (hr.mono h1) D1.bd tk (by rfl) D1.gl D1.fn.kp (da_cons (de_var (i := 0) rfl (by first | exact Or.inl rfl | exact Or.inr (Or.inl rfl) | exact Or.inr (Or.inr rfl))) (da_cons (de_callB mc_len (by rfl) B.b_len PySem.boot_len (da_cons (de_var (i := 2) rfl (by first | exact Or.inl rfl | exact Or.inr (Or.inl rfl) | exact Or.inr (Or.inr rfl))) da_nil)) da_nil))) (fun _ _ => rfl)) ox0) ox0) ox0) ox0)) ox0) ox0))
abbrev N_law_odd_k01 : List Str := ["_law_small"]
theorem sc_law_odd_k01 : FnScope N_law_odd_k01 [] (defScope (topS 21)) := ⟨rfl, rfl, rfl, by decide +kernel, rfl, by decide +kernel, by decide +kernel⟩
theorem ok_law_odd_k01 {f : Addr} {fd : FuncData} {k : Nat} (D : Df K mg "_law_odd" (topS 21) [] f fd) (B : Bn mg) :
    FnD P w K mg base (k + 1) f fd [] (frameG (r_law_odd_k01)) := by
  refine FnD.frame (fnN_of D.fn sc_law_odd_k01 (fun cdv A outer s H E hg hr xs hx => ?_))
  have nd := sc_law_odd_k01.nd
  have hu := hr.units
  have hG : (A.deeper (envOfC "_law_odd" (defScope (topS 21)) s.heap.objs.size f cdv)).guards = some [] := hg
  have tk : Takes (cxOf (L2.CX P w) P w K mg base N_law_odd_k01 "_law_odd" (defScope (topS 21)) f cdv A outer s H E) (fun c d _ H => E c d H) := takes_of rfl rfl rfl rfl
  match xs, hx with
  | [], _ =>
  exact (nss_at (mkS := mkU 1) (mkL := mkE) (ρ := [none]) (n := n_law_odd_k01 )
  (nss_set (i := 0) (ρ' := fun w_small => [some w_small]) nd rfl (by first | exact Or.inl rfl | exact Or.inr rfl) (de_tup (da_cons de_non (da_cons de_bl (da_cons de_bl (da_cons de_str (da_cons de_str (da_cons de_str (da_cons de_int (da_cons de_int (da_cons de_int (da_cons de_int (da_cons (de_un mu_neg de_int) (da_cons (de_tup da_nil) (da_cons (de_lst da_nil) (da_cons (de_tup (da_cons (de_lst (da_cons de_int da_nil)) (da_cons de_str da_nil))) (da_cons (de_tup (da_cons de_str (da_cons de_int da_nil))) (da_cons (de_tup (da_cons de_str da_nil)) da_nil))))))))))))))))) (fun w_small =>
  (nss_ret (de_op mo_add (de_var (i := 0) rfl (by first | exact Or.inl rfl | exact Or.inr (Or.inl rfl) | exact Or.inr (Or.inr rfl))) (de_tup (da_cons (de_op mo_mul (de_op mo_mul (de_op mo_mul (de_op mo_pow de_int de_int) (de_op mo_pow de_int de_int)) (de_op mo_pow de_int de_int)) (de_op mo_pow de_int de_int)) (da_cons de_str (da_cons de_str (da_cons de_str (da_cons (de_tup (da_cons de_int da_nil)) (da_cons (de_tup (da_cons de_int (da_cons de_int da_nil))) da_nil)))))))) ox0)) ox0))
abbrev N_law_number_k01 : List Str := ["_law_thing"]
theorem sc_law_number_k01 : FnScope N_law_number_k01 ["_law_thing"] (defScope (topS 22)) := ⟨rfl, rfl, rfl, by decide +kernel, rfl, by decide +kernel, by decide +kernel⟩
theorem ok_law_number_k01 {f : Addr} {fd : FuncData} {k : Nat} (D : Df K mg "_law_number" (topS 22) ["_law_thing"] f fd) (B : Bn mg) :
    FnD P w K mg base (k + 1) f fd ["_law_thing"] (frameG (r_law_number_k01)) := by
  refine FnD.frame (fnN_of D.fn sc_law_number_k01 (fun cdv A outer s H E hg hr xs hx => ?_))
  have nd := sc_law_number_k01.nd
  have hu := hr.units
  have hG : (A.deeper (envOfC "_law_number" (defScope (topS 22)) s.heap.objs.size f cdv)).guards = some [] := hg
  have tk : Takes (cxOf (L2.CX P w) P w K mg base N_law_number_k01 "_law_number" (defScope (topS 22)) f cdv A outer s H E) (fun c d _ H => E c d H) := takes_of rfl rfl rfl rfl
  match xs, hx with
  | [w_thing], _ =>
  exact (nss_at (mkS := mkU 1) (mkL := mkE) (ρ := [some w_thing]) (n := n_law_number_k01 w_thing)
  (nss_ret (de_and (de_isi isa_int (by rfl) B.b_isinstance (de_var (i := 0) rfl (by first | exact Or.inl rfl | exact Or.inr (Or.inl rfl) | exact Or.inr (Or.inr rfl))) (by rfl) B.b_int (by decide +kernel)) (de_and (de_cmp mo_isNot (de_var (i := 0) rfl (by first | exact Or.inl rfl | exact Or.inr (Or.inl rfl) | exact Or.inr (Or.inr rfl))) de_bl (nomark _)) (de_one (de_cmp mo_isNot (de_var (i := 0) rfl (by first | exact Or.inl rfl | exact Or.inr (Or.inl rfl) | exact Or.inr (Or.inr rfl))) de_bl (nomark _))))) ox0))
abbrev N_law_graph : List Str := ["_law_feed_here", "_law_most", "_law_many", "_law_blocks", "_law_block", "_law_ends", "_law_first", "_law_second", "_law_near"]
theorem sc_law_graph : FnScope N_law_graph ["_law_feed_here", "_law_most"] (defScope (topS 23)) := ⟨rfl, rfl, rfl, by decide +kernel, rfl, by decide +kernel, by decide +kernel⟩
theorem ok_law_graph {f f1 : Addr} {fd fd1 : FuncData} {k k1 : Nat} {dr : MF} (D : Df K mg "_law_graph" (topS 23) ["_law_feed_here", "_law_most"] f fd)
    (D1 : Df K mg "_law_draw" (topS 19) ["_law_feed_here", "_law_many"] f1 fd1) (G1 : FnD P w K mg base k1 f1 fd1 ["_law_feed_here", "_law_many"] dr) (h1 : k1 ≤ k) (B : Bn mg) :
    FnD P w K mg base (k + 1) f fd ["_law_feed_here", "_law_most"] (frameG (r_law_graph dr)) := by
  refine FnD.frame (fnN_of D.fn sc_law_graph (fun cdv A outer s H E hg hr xs hx => ?_))
  have nd := sc_law_graph.nd
  have hu := hr.units
  have hG : (A.deeper (envOfC "_law_graph" (defScope (topS 23)) s.heap.objs.size f cdv)).guards = some [] := hg
  have tk : Takes (cxOf (L2.CX P w) P w K mg base N_law_graph "_law_graph" (defScope (topS 23)) f cdv A outer s H E) (fun c d _ H => E c d H) := takes_of rfl rfl rfl rfl
  match xs, hx with
  | [w_feed_here, w_most], _ =>
  exact (nss_at (mkS := mkU 9) (mkL := mkE) (ρ := [some w_feed_here, some w_most, none, none, none, none, none, none, none]) (n := n_law_graph dr w_feed_here w_most)
  (nss_set (i := 2) (ρ' := fun w_many => [some w_feed_here, some w_most, some w_many, none, none, none, none, none, none]) nd rfl (by first | exact Or.inl rfl | exact Or.inr rfl) (de_op mo_add de_int (de_call hG G1 (hr.mono h1) D1.bd tk (by rfl) D1.gl D1.fn.kp (da_cons (de_var (i := 0) rfl (by first | exact Or.inl rfl | exact Or.inr (Or.inl rfl) | exact Or.inr (Or.inr rfl))) (da_cons (de_var (i := 1) rfl (by first | exact Or.inl rfl | exact Or.inr (Or.inl rfl) | exact Or.inr (Or.inr rfl))) da_nil)))) (fun w_many =>
  (nss_set (i := 3) (ρ' := fun w_blocks => [some w_feed_here, some w_most, some w_many, some w_blocks, none, none, none, none, none]) nd rfl (by first | exact Or.inl rfl | exact Or.inr rfl) (de_new da_nil) (fun w_blocks =>
  (nss_cons (mk1 := (mk_law_graph_1 w_feed_here w_many w_blocks)) (ns_forP (mk1 := (mk_law_graph_1 w_feed_here w_many w_blocks)) (ρb := fun p a => [some w_feed_here, none, some w_many, some w_blocks, some p, none, none, none, none]) (a0 := ()) PassesOwn.leaving rfl (di_range1 (by rfl) B.b_range (da_cons (de_var (i := 2) rfl (by first | exact Or.inl rfl | exact Or.inr (Or.inl rfl) | exact Or.inr (Or.inr rfl))) da_nil)) (dg_name (i := 4) nd rfl (by first | exact Or.inl rfl | exact Or.inr rfl)) tgp_n (fun p a =>
  (let w_block : Vl := p; (nss_at (mkS := (mk_law_graph_1 w_feed_here w_many w_blocks)) (mkL := (mk_law_graph_1 w_feed_here w_many w_blocks)) (ρ := [some w_feed_here, none, some w_many, some w_blocks, some w_block, none, none, none, none]) (n := nb_law_graph_1 dr w_feed_here w_many w_blocks w_block)
  (nss_par3N (i := 6) (j := 7) (l := 8) (ρ' := fun w_first w_second w_near => [some w_feed_here, none, some w_many, some w_blocks, some w_block, none, some w_first, some w_second, some w_near]) rfl nd rfl rfl rfl (by decide) (by decide) (by decide) rfl rfl rfl (da_cons (de_call hG G1 (hr.mono h1) D1.bd tk (by rfl) D1.gl D1.fn.kp (da_cons (de_var (i := 0) rfl (by first | exact Or.inl rfl | exact Or.inr (Or.inl rfl) | exact Or.inr (Or.inr rfl))) (da_cons (de_var (i := 2) rfl (by first | exact Or.inl rfl | exact Or.inr (Or.inl rfl) | exact Or.inr (Or.inr rfl))) da_nil))) (da_cons (de_call hG G1 (hr.mono h1) D1.bd tk (by rfl) D1.gl D1.fn.kp (da_cons (de_var (i := 0) rfl (by first | exact Or.inl rfl | exact Or.inr (Or.inl rfl) | exact Or.inr (Or.inr rfl))) (da_cons (de_var (i := 2) rfl (by first | exact Or.inl rfl | exact Or.inr (Or.inl rfl) | exact Or.inr (Or.inr rfl))) da_nil))) (da_cons (de_op mo_mod (de_op mo_add (de_var (i := 4) rfl (by first | exact Or.inl rfl | exact Or.inr (Or.inl rfl) | exact Or.inr (Or.inr rfl))) de_int) (de_var (i := 2) rfl (by first | exact Or.inl rfl | exact Or.inr (Or.inl rfl) | exact Or.inr (Or.inr rfl)))) da_nil))) (fun w_first w_second w_near =>
  (nss_set (i := 5) (ρ' := fun w_ends => [some w_feed_here, none, some w_many, some w_blocks, some w_block, some w_ends, some w_first, some w_second, some w_near]) nd rfl (by first | exact Or.inl rfl | exact Or.inr rfl) (de_lst (da_cons (de_tup (da_cons de_str (da_cons (de_var (i := 6) rfl (by first | exact Or.inl rfl | exact Or.inr (Or.inl rfl) | exact Or.inr (Or.inr rfl))) da_nil))) (da_cons (de_tup (da_cons de_str (da_cons (de_var (i := 8) rfl (by first | exact Or.inl rfl | exact Or.inr (Or.inl rfl) | exact Or.inr (Or.inr rfl))) da_nil))) (da_cons (de_tup (da_cons de_str (da_cons de_str (da_cons (de_var (i := 6) rfl (by first | exact Or.inl rfl | exact Or.inr (Or.inl rfl) | exact Or.inr (Or.inr rfl))) (da_cons (de_var (i := 7) rfl (by first | exact Or.inl rfl | exact Or.inr (Or.inl rfl) | exact Or.inr (Or.inr rfl))) da_nil))))) (da_cons (de_tup (da_cons de_str (da_cons de_str (da_cons (de_var (i := 8) rfl (by first | exact Or.inl rfl | exact Or.inr (Or.inl rfl) | exact Or.inr (Or.inr rfl))) (da_cons (de_var (i := 6) rfl (by first | exact Or.inl rfl | exact Or.inr (Or.inl rfl) | exact Or.inr (Or.inr rfl))) da_nil))))) (da_cons (de_tup (da_cons de_str da_nil)) da_nil)))))) (fun w_ends =>
  (nss_expr (de_append (de_var (i := 3) rfl (by first | exact Or.inl rfl | exact Or.inr (Or.inl rfl) | exact Or.inr (Or.inr rfl))) (da_cons (de_tup (da_cons (de_tup da_nil) (da_cons (de_ix mx_ix (de_var (i := 5) rfl (by first | exact Or.inl rfl | exact Or.inr (Or.inl rfl) | exact Or.inr (Or.inr rfl))) (de_call hG G1 (hr.mono h1) D1.bd tk (by rfl) D1.gl D1.fn.kp (da_cons (de_var (i := 0) rfl (by first | exact Or.inl rfl | exact Or.inr (Or.inl rfl) | exact Or.inr (Or.inr rfl))) (da_cons de_int da_nil))) (fun _ _ => rfl)) da_nil))) da_nil))
  (nss_nil (a := ()) (.som (.non (.som (.som (.non (.non (.non (.non (.non .nil)))))))))) ox0)) ox0)) ox0)))) (.som (.non (.som (.som (.non (.non (.non (.non (.non .nil))))))))) ox0) (fun j56 =>
  (nss_at (mkS := (mkU 9)) (mkL := mkE) (ρ := [some w_feed_here, none, some w_many, some w_blocks, none, none, none, none, none]) (n := kt_law_graph_1 dr w_feed_here w_many w_blocks)
  (nss_ret (de_tup (da_cons (de_tup (da_cons (de_tup (da_cons de_str (da_cons de_int da_nil))) da_nil)) (da_cons (de_tup (da_cons (de_tup (da_cons de_str (da_cons (de_callTy mc_tuple (by rfl) B.b_tuple (by decide +kernel) (da_cons (de_var (i := 3) rfl (by first | exact Or.inl rfl | exact Or.inr (Or.inl rfl) | exact Or.inr (Or.inr rfl))) da_nil)) da_nil))) da_nil)) da_nil))) ox0))))) ox0)) ox0))
abbrev N_law_arrows : List Str := ["_law_code", "_law_found", "_law_rows", "_law_end", "_law_block"]
theorem sc_law_arrows : FnScope N_law_arrows ["_law_code"] (defScope (topS 24)) := ⟨rfl, rfl, rfl, by decide +kernel, rfl, by decide +kernel, by decide +kernel⟩
theorem ok_law_arrows {f : Addr} {fd : FuncData} {k : Nat} (D : Df K mg "_law_arrows" (topS 24) ["_law_code"] f fd) (B : Bn mg) :
    FnD P w K mg base (k + 1) f fd ["_law_code"] (frameG (r_law_arrows)) := by
  refine FnD.frame (fnN_of D.fn sc_law_arrows (fun cdv A outer s H E hg hr xs hx => ?_))
  have nd := sc_law_arrows.nd
  have hu := hr.units
  have hG : (A.deeper (envOfC "_law_arrows" (defScope (topS 24)) s.heap.objs.size f cdv)).guards = some [] := hg
  have tk : Takes (cxOf (L2.CX P w) P w K mg base N_law_arrows "_law_arrows" (defScope (topS 24)) f cdv A outer s H E) (fun c d _ H => E c d H) := takes_of rfl rfl rfl rfl
  match xs, hx with
  | [w_code], _ =>
  exact (nss_at (mkS := mkU 5) (mkL := mkE) (ρ := [some w_code, none, none, none, none]) (n := n_law_arrows w_code)
  (nss_set (i := 1) (ρ' := fun w_found => [some w_code, some w_found, none, none, none]) nd rfl (by first | exact Or.inl rfl | exact Or.inr rfl) (de_new da_nil) (fun w_found =>
  (nss_cons (mk1 := (mk_law_arrows_1 w_found)) (ns_forP (mk1 := (mk_law_arrows_1 w_found)) (ρb := fun p a => [none, some w_found, some p.1, some p.2, none]) (a0 := ()) PassesOwn.leaving rfl (di_seq (de_ix mx_ix (de_ix mx_ix (de_ix mx_ix (de_var (i := 0) rfl (by first | exact Or.inl rfl | exact Or.inr (Or.inl rfl) | exact Or.inr (Or.inr rfl))) de_int (fun _ _ => rfl)) de_int (fun _ _ => rfl)) de_int (fun _ _ => rfl))) (dg_tup rfl (dgs_cons (dg_name (i := 2) nd rfl (by first | exact Or.inl rfl | exact Or.inr rfl)) (dgs_cons (dg_name (i := 3) nd rfl (by first | exact Or.inl rfl | exact Or.inr rfl)) dgs_nil))) (tgp_2 tgp_n tgp_n) (fun p a =>
  (let w_rows : Vl := p.1; (let w_end : Vl := p.2; (nss_at (mkS := (mk_law_arrows_1 w_found)) (mkL := (mk_law_arrows_1 w_found)) (ρ := [none, some w_found, some w_rows, some w_end, none]) (n := nb_law_arrows_1 w_found w_rows w_end)
  (nss_expr (de_append (de_var (i := 1) rfl (by first | exact Or.inl rfl | exact Or.inr (Or.inl rfl) | exact Or.inr (Or.inr rfl))) (da_cons (de_lc (own := [("_law_block", 4)]) (g := (gName 4)) (gm := (gmName 4)) (t := (mTru (m1 (phIsi isaInt) (mVar 4)))) (e := (mVar 4)) rfl nd (di_seq (de_var (i := 3) rfl (by first | exact Or.inl rfl | exact Or.inr (Or.inl rfl) | exact Or.inr (Or.inr rfl)))) (blkOk_by (N := N_law_arrows) (sc := defScope (topS 24)) (by decide +kernel)) (gok_name (by decide)) (fun _ _ _ _ _ => (pg_name (i := 4) nd rfl (by first | exact Or.inl rfl | exact Or.inr rfl))) (fun _ _ _ _ _ => (dts_one (dt_tru (de_isi isa_int (by rfl) B.b_isinstance (de_var (i := 4) rfl (by first | exact Or.inl rfl | exact Or.inr (Or.inl rfl) | exact Or.inr (Or.inr rfl))) (by rfl) B.b_int (by decide +kernel))))) (fun _ _ _ _ _ => (de_var (i := 4) rfl (by first | exact Or.inl rfl | exact Or.inr (Or.inl rfl) | exact Or.inr (Or.inr rfl))))) da_nil))
  (nss_nil (a := ()) (.non (.som (.non (.non (.non .nil)))))) ox0))))) (.non (.som (.non (.non (.non .nil))))) ox0) (fun j16 =>
  (nss_at (mkS := (mkU 5)) (mkL := mkE) (ρ := [none, some w_found, none, none, none]) (n := kt_law_arrows_1 w_found)
  (nss_ret (de_var (i := 1) rfl (by first | exact Or.inl rfl | exact Or.inr (Or.inl rfl) | exact Or.inr (Or.inr rfl))) ox0))))) ox0))
abbrev N_law_arounded_k13 : List Str := ["_law_arrows_here", "_law_over", "_law_under", "_law_thing", "_law_k", "_law_one"]
theorem sc_law_arounded_k13 : FnScope N_law_arounded_k13 ["_law_arrows_here", "_law_over", "_law_under", "_law_thing"] (defScope (topS 25)) := ⟨rfl, rfl, rfl, by decide +kernel, rfl, by decide +kernel, by decide +kernel⟩
theorem ok_law_arounded_k13 {f f1 : Addr} {fd fd1 : FuncData} {k k1 : Nat} (D : Df K mg "_law_arounded" (topS 25) ["_law_arrows_here", "_law_over", "_law_under", "_law_thing"] f fd)
    (D1 : Df K mg "_law_number" (topS 22) ["_law_thing"] f1 fd1) (G1 : FnD P w K mg base k1 f1 fd1 ["_law_thing"] G_law_number_k01) (h1 : k1 ≤ k) (B : Bn mg) :
    FnD P w K mg base (k + 1) f fd ["_law_arrows_here", "_law_over", "_law_under", "_law_thing"] (frameG (r_law_arounded_k13)) := by
  refine FnD.frame (fnN_of D.fn sc_law_arounded_k13 (fun cdv A outer s H E hg hr xs hx => ?_))
  have nd := sc_law_arounded_k13.nd
  have hu := hr.units
  have hG : (A.deeper (envOfC "_law_arounded" (defScope (topS 25)) s.heap.objs.size f cdv)).guards = some [] := hg
  have tk : Takes (cxOf (L2.CX P w) P w K mg base N_law_arounded_k13 "_law_arounded" (defScope (topS 25)) f cdv A outer s H E) (fun c d _ H => E c d H) := takes_of rfl rfl rfl rfl
  match xs, hx with
  | [w_arrows_here, w_over, w_under, w_thing], _ =>
  exact (nss_at (mkS := mkU 6) (mkL := mkE) (ρ := [some w_arrows_here, some w_over, some w_under, some w_thing, none, none]) (n := n_law_arounded_k13 w_arrows_here w_over w_under w_thing)
  (nss_ifx (mk0 := mkE) (dt_w (dw_or (dt_not (dt_tru (de_isi isa_tup (by rfl) B.b_isinstance (de_var (i := 3) rfl (by first | exact Or.inl rfl | exact Or.inr (Or.inl rfl) | exact Or.inr (Or.inr rfl))) (by rfl) B.b_tuple (by decide +kernel)))) (dw_or (dt_cmp (mo_eq hu) (de_var (i := 3) rfl (by first | exact Or.inl rfl | exact Or.inr (Or.inl rfl) | exact Or.inr (Or.inr rfl))) (de_tup da_nil) (nomark _)) (dw_or1 (dt_cmp (mo_ne hu) (de_lc (own := [("_law_one", 5)]) (g := (gName 5)) (gm := (gmName 5)) (t := (tNotM (mTru (mCall 1 G_law_number_k01 (aCons (mVar 5) aNil))))) (e := (mVar 5)) rfl nd (di_seq (de_var (i := 3) rfl (by first | exact Or.inl rfl | exact Or.inr (Or.inl rfl) | exact Or.inr (Or.inr rfl)))) (blkOk_by (N := N_law_arounded_k13) (sc := defScope (topS 25)) (by decide +kernel)) (gok_name (by decide)) (fun _ _ _ _ _ => (pg_name (i := 5) nd rfl (by first | exact Or.inl rfl | exact Or.inr rfl))) (fun _ _ _ _ _ => (dts_one (dt_not (dt_tru (de_call hG G1 (hr.mono h1) D1.bd takes0 (by rfl) D1.gl D1.fn.kp (da_cons (de_var (i := 5) rfl (by first | exact Or.inl rfl | exact Or.inr (Or.inl rfl) | exact Or.inr (Or.inr rfl))) da_nil)))))) (fun _ _ _ _ _ => (de_var (i := 5) rfl (by first | exact Or.inl rfl | exact Or.inr (Or.inl rfl) | exact Or.inr (Or.inr rfl))))) (de_lst da_nil) (nomark _))))))
  (nss_ret (de_tup (da_cons de_str (da_cons de_str (da_cons (de_un mu_neg de_int) da_nil)))) ox0)
  (nss_cons (mk1 := (mk_law_arounded_k13_1 w_arrows_here w_over w_under w_thing)) (ns_forP (mk1 := (mk_law_arounded_k13_1 w_arrows_here w_over w_under w_thing)) (ρb := fun p a => [some w_arrows_here, some w_over, some w_under, some w_thing, some p, none]) (a0 := ()) PassesOwn.leaving rfl (di_range1 (by rfl) B.b_range (da_cons (de_callB mc_len (by rfl) B.b_len PySem.boot_len (da_cons (de_var (i := 3) rfl (by first | exact Or.inl rfl | exact Or.inr (Or.inl rfl) | exact Or.inr (Or.inr rfl))) da_nil)) da_nil)) (dg_name (i := 4) nd rfl (by first | exact Or.inl rfl | exact Or.inr rfl)) tgp_n (fun p a =>
  (let w_k : Vl := p; (nss_at (mkS := (mk_law_arounded_k13_1 w_arrows_here w_over w_under w_thing)) (mkL := (mk_law_arounded_k13_1 w_arrows_here w_over w_under w_thing)) (ρ := [some w_arrows_here, some w_over, some w_under, some w_thing, some w_k, none]) (n := nb_law_arounded_k13_1 w_arrows_here w_over w_under w_thing w_k)
  (nss_ifx (mk0 := mkE) (dt_cmp mo_notIn (de_ix mx_ix (de_var (i := 3) rfl (by first | exact Or.inl rfl | exact Or.inr (Or.inl rfl) | exact Or.inr (Or.inr rfl))) (de_var (i := 4) rfl (by first | exact Or.inl rfl | exact Or.inr (Or.inl rfl) | exact Or.inr (Or.inr rfl))) (fun _ _ => rfl)) (de_if (dt_cmp (mo_eq hu) (de_var (i := 4) rfl (by first | exact Or.inl rfl | exact Or.inr (Or.inl rfl) | exact Or.inr (Or.inr rfl))) de_int (nomark _)) (de_lst (da_cons de_int da_nil)) (de_ix mx_ix (de_var (i := 0) rfl (by first | exact Or.inl rfl | exact Or.inr (Or.inl rfl) | exact Or.inr (Or.inr rfl))) (de_ix mx_ix (de_var (i := 3) rfl (by first | exact Or.inl rfl | exact Or.inr (Or.inl rfl) | exact Or.inr (Or.inr rfl))) (de_op mo_sub (de_var (i := 4) rfl (by first | exact Or.inl rfl | exact Or.inr (Or.inl rfl) | exact Or.inr (Or.inr rfl))) de_int) (fun _ _ => rfl)) (fun _ _ => rfl))) (by with_unfolding_all rfl))
  (nss_ret (de_tup (da_cons de_str (da_cons de_str (da_cons (de_var (i := 4) rfl (by first | exact Or.inl rfl | exact Or.inr (Or.inl rfl) | exact Or.inr (Or.inr rfl))) da_nil)))) ox0)
  (nss_if1 (dt_cmp (mo_eq hu) (de_ix mx_ix (de_var (i := 3) rfl (by first | exact Or.inl rfl | exact Or.inr (Or.inl rfl) | exact Or.inr (Or.inr rfl))) (de_var (i := 4) rfl (by first | exact Or.inl rfl | exact Or.inr (Or.inl rfl) | exact Or.inr (Or.inr rfl))) (fun _ _ => rfl)) (de_var (i := 1) rfl (by first | exact Or.inl rfl | exact Or.inr (Or.inl rfl) | exact Or.inr (Or.inr rfl))) (nomark _))
  (nss_ret (de_tup (da_cons de_str (da_cons de_str (da_cons (de_var (i := 4) rfl (by first | exact Or.inl rfl | exact Or.inr (Or.inl rfl) | exact Or.inr (Or.inr rfl))) da_nil)))) ox0)
  (nss_nil (a := ()) (.som (.som (.som (.som (.non (.non .nil))))))) ox0) ox0)))) (.som (.som (.som (.som (.non (.non .nil)))))) ox0) (fun j67 =>
  (nss_at (mkS := (mkU 6)) (mkL := mkE) (ρ := [some w_arrows_here, some w_over, some w_under, some w_thing, none, none]) (n := kt_law_arounded_k13_1 w_arrows_here w_over w_under w_thing)
  (nss_ret (de_if (dt_cmp (mo_eq hu) (de_ix mx_ix (de_var (i := 3) rfl (by first | exact Or.inl rfl | exact Or.inr (Or.inl rfl) | exact Or.inr (Or.inr rfl))) (de_un mu_neg de_int) (fun _ _ => rfl)) (de_var (i := 2) rfl (by first | exact Or.inl rfl | exact Or.inr (Or.inl rfl) | exact Or.inr (Or.inr rfl))) (nomark _)) (de_tup (da_cons de_str (da_cons de_bl da_nil))) (de_tup (da_cons de_str (da_cons de_str (da_cons (de_un mu_neg de_int) da_nil))))) ox0)))) ox0))
abbrev N_law_said_k13 : List Str := ["_law_code", "_law_over", "_law_under", "_law_thing", "e"]
theorem sc_law_said_k13 : FnScope N_law_said_k13 ["_law_code", "_law_over", "_law_under", "_law_thing"] (defScope (topS 26)) := ⟨rfl, rfl, rfl, by decide +kernel, rfl, by decide +kernel, by decide +kernel⟩
theorem ok_law_said_k13 {f f1 : Addr} {fd fd1 : FuncData} {k k1 : Nat} {C CW CL CN CT : Addr} (D : Df K mg "_law_said" (topS 26) ["_law_code", "_law_over", "_law_under", "_law_thing"] f fd)
    (D1 : Df K mg "lets_around" (topS 16) ["code", "name", "over", "under", "thing"] f1 fd1) (G1 : FnD P w K mg base k1 f1 fd1 ["code", "name", "over", "under", "thing"] G_lets_around) (h1 : k1 ≤ k) (B : Bn mg)
    (T : PapX K mg C CW CL CN CT) :
    FnD P w K mg base (k + 1) f fd ["_law_code", "_law_over", "_law_under", "_law_thing"] (frameG (r_law_said_k13)) := by
  refine FnD.frame (fnN_of D.fn sc_law_said_k13 (fun cdv A outer s H E hg hr xs hx => ?_))
  have nd := sc_law_said_k13.nd
  have hu := hr.units
  have hG : (A.deeper (envOfC "_law_said" (defScope (topS 26)) s.heap.objs.size f cdv)).guards = some [] := hg
  have tk : Takes (cxOf (L2.CX P w) P w K mg base N_law_said_k13 "_law_said" (defScope (topS 26)) f cdv A outer s H E) (fun c d _ H => E c d H) := takes_of rfl rfl rfl rfl
  match xs, hx with
  | [w_code, w_over, w_under, w_thing], _ =>
  exact (nss_at (mkS := mkU 5) (mkL := mkE) (ρ := [some w_code, some w_over, some w_under, some w_thing, none]) (n := n_law_said_k13 w_code w_over w_under w_thing)
  (nss_cons (mk1 := mk_law_said_k13_1) (ns_try_as (i := 4) (ρx := [some w_code, some w_over, some w_under, some w_thing, none]) rfl rfl nd rfl rfl ⟨rfl, by decide, Or.inl T.g_WayError⟩ tk T.t_WayError (fun W2 pn2 xe2 tk2 po2 =>
  (nss_ret (de_tup (da_cons de_str (da_cons (de_call hG G1 (hr.mono h1) D1.bd tk2 (by rfl) D1.gl D1.fn.kp (da_cons (de_var (i := 0) rfl (by first | exact Or.inl rfl | exact Or.inr (Or.inl rfl) | exact Or.inr (Or.inr rfl))) (da_cons de_str (da_cons (de_var (i := 1) rfl (by first | exact Or.inl rfl | exact Or.inr (Or.inl rfl) | exact Or.inr (Or.inr rfl))) (da_cons (de_var (i := 2) rfl (by first | exact Or.inl rfl | exact Or.inr (Or.inl rfl) | exact Or.inr (Or.inr rfl))) (da_cons (de_var (i := 3) rfl (by first | exact Or.inl rfl | exact Or.inr (Or.inl rfl) | exact Or.inr (Or.inr rfl))) da_nil)))))) da_nil))) (show OxLe (some _) _ from (.som (.som (.som (.som (.non .nil)))))))) (fun a oe cls d pn hz hf e3 =>
  (nss_if1 (dt_w (dw_and (dt_tru (de_isC T.xi T.gC T.k1 hz hf (by rfl) B.b_isinstance (de_var (i := 4) rfl (by first | exact Or.inl rfl | exact Or.inr (Or.inl rfl) | exact Or.inr (Or.inr rfl))) (pe_glob (v := .ref C) rfl T.g_NoPaper rfl) (fun _ h => h))) (dw_and (dt_tru (de_isC T.xi T.gC T.k2 hz hf (by rfl) B.b_isinstance (de_var (i := 4) rfl (by first | exact Or.inl rfl | exact Or.inr (Or.inl rfl) | exact Or.inr (Or.inr rfl))) (pe_bltn (v := .ty "ValueError") (by rfl) B.b_ValueError (by decide +kernel) rfl) (fun _ h => h))) (dw_and1 (dt_not (dt_tru (de_isT (as := [CL, CN, CT]) T.xi T.gC T.k3 hz hf (by rfl) B.b_isinstance (de_var (i := 4) rfl (by first | exact Or.inl rfl | exact Or.inr (Or.inl rfl) | exact Or.inr (Or.inr rfl))) (pa_cons (pe_glob (v := .ref CL) rfl T.g_LostError rfl) (pa_cons (pe_glob (v := .ref CN) rfl T.g_NoCode rfl) (pa_cons (pe_glob (v := .ref CT) rfl T.g_NoTurning rfl) pa_nil))) (fun _ _ _ q => q) (by show 3 ≤ 1000; decide))))))))
  (nss_ret (de_tup (da_cons de_str (da_cons (de_xf T.xf T.no_word T.gC hz hf (de_var (i := 4) rfl (by first | exact Or.inl rfl | exact Or.inr (Or.inl rfl) | exact Or.inr (Or.inr rfl)))) (da_cons (de_xf T.xf T.no_at T.gC hz hf (de_var (i := 4) rfl (by first | exact Or.inl rfl | exact Or.inr (Or.inl rfl) | exact Or.inr (Or.inr rfl)))) da_nil)))) ox0)
  (nss_nil (a := ()) (.non (.non (.non (.non (.non .nil)))))) ox0)) (by intro _; rfl) (by intro a; first | rfl | exact a.elim) ox0) (fun j38 =>
  (nss_at (mkS := (mkU 5)) (mkL := mkE) (ρ := [none, none, none, none, none]) (n := kt_law_said_k13_1 )
  (nss_ret (de_tup (da_cons de_str da_nil)) ox0)))))
abbrev N_law_way_k13 : List Str := ["_law_feed_here", "_law_arrows_here", "_law_way_here", "_law_k", "_law_some"]
theorem sc_law_way_k13 : FnScope N_law_way_k13 ["_law_feed_here", "_law_arrows_here"] (defScope (topS 27)) := ⟨rfl, rfl, rfl, by decide +kernel, rfl, by decide +kernel, by decide +kernel⟩
theorem ok_law_way_k13 {f f1 : Addr} {fd fd1 : FuncData} {k k1 : Nat} {dr : MF} (D : Df K mg "_law_way" (topS 27) ["_law_feed_here", "_law_arrows_here"] f fd)
    (D1 : Df K mg "_law_draw" (topS 19) ["_law_feed_here", "_law_many"] f1 fd1) (G1 : FnD P w K mg base k1 f1 fd1 ["_law_feed_here", "_law_many"] dr) (h1 : k1 ≤ k) (B : Bn mg) :
    FnD P w K mg base (k + 1) f fd ["_law_feed_here", "_law_arrows_here"] (frameG (r_law_way_k13 dr)) := by
  refine FnD.frame (fnN_of D.fn sc_law_way_k13 (fun cdv A outer s H E hg hr xs hx => ?_))
  have nd := sc_law_way_k13.nd
  have hu := hr.units
  have hG : (A.deeper (envOfC "_law_way" (defScope (topS 27)) s.heap.objs.size f cdv)).guards = some [] := hg
  have tk : Takes (cxOf (L2.CX P w) P w K mg base N_law_way_k13 "_law_way" (defScope (topS 27)) f cdv A outer s H E) (fun c d _ H => E c d H) := takes_of rfl rfl rfl rfl
  match xs, hx with
  | [w_feed_here, w_arrows_here], _ =>
  exact (nss_at (mkS := mkU 5) (mkL := mkE) (ρ := [some w_feed_here, some w_arrows_here, none, none, none]) (n := n_law_way_k13 dr w_feed_here w_arrows_here)
  (nss_set (i := 2) (ρ' := fun w_way_here => [some w_feed_here, some w_arrows_here, some w_way_here, none, none]) nd rfl (by first | exact Or.inl rfl | exact Or.inr rfl) (de_tup (da_cons de_int da_nil)) (fun w_way_here =>
  (nss_cons (mk1 := (mk_law_way_k13_1 w_feed_here w_arrows_here)) (ns_forP (mk1 := (mk_law_way_k13_1 w_feed_here w_arrows_here)) (ρb := fun p a => [some w_feed_here, some w_arrows_here, some a, some p, none]) (a0 := w_way_here) PassesOwn.leaving rfl (di_range1 (by rfl) B.b_range (da_cons (de_call hG G1 (hr.mono h1) D1.bd tk (by rfl) D1.gl D1.fn.kp (da_cons (de_var (i := 0) rfl (by first | exact Or.inl rfl | exact Or.inr (Or.inl rfl) | exact Or.inr (Or.inr rfl))) (da_cons de_int da_nil))) da_nil)) (dg_name (i := 3) nd rfl (by first | exact Or.inl rfl | exact Or.inr rfl)) tgp_n (fun p a =>
  (let w_k : Vl := p; (let w_way_here : Vl := a; (nss_at (mkS := (mk_law_way_k13_1 w_feed_here w_arrows_here)) (mkL := (mk_law_way_k13_1 w_feed_here w_arrows_here)) (ρ := [some w_feed_here, some w_arrows_here, some w_way_here, some w_k, none]) (n := nb_law_way_k13_1 dr w_feed_here w_arrows_here w_k w_way_here)
  (nss_set (i := 4) (ρ' := fun w_some => [some w_feed_here, some w_arrows_here, some w_way_here, some w_k, some w_some]) nd rfl (by first | exact Or.inl rfl | exact Or.inr rfl) (de_ix mx_ix (de_var (i := 1) rfl (by first | exact Or.inl rfl | exact Or.inr (Or.inl rfl) | exact Or.inr (Or.inr rfl))) (de_ix mx_ix (de_var (i := 2) rfl (by first | exact Or.inl rfl | exact Or.inr (Or.inl rfl) | exact Or.inr (Or.inr rfl))) (de_un mu_neg de_int) (fun _ _ => rfl)) (fun _ _ => rfl)) (fun w_some =>
  (nss_if1 (dt_cmp (mo_ne hu) (de_var (i := 4) rfl (by first | exact Or.inl rfl | exact Or.inr (Or.inl rfl) | exact Or.inr (Or.inr rfl))) (de_lst da_nil) (nomark _))
  (nss_set (i := 2) (ρ' := fun w_way_here => [some w_feed_here, some w_arrows_here, some w_way_here, some w_k, some w_some]) nd rfl (by first | exact Or.inl rfl | exact Or.inr rfl) (de_op mo_add (de_var (i := 2) rfl (by first | exact Or.inl rfl | exact Or.inr (Or.inl rfl) | exact Or.inr (Or.inr rfl))) (de_tup (da_cons (de_ix mx_ix (de_var (i := 4) rfl (by first | exact Or.inl rfl | exact Or.inr (Or.inl rfl) | exact Or.inr (Or.inr rfl))) (de_call hG G1 (hr.mono h1) D1.bd tk (by rfl) D1.gl D1.fn.kp (da_cons (de_var (i := 0) rfl (by first | exact Or.inl rfl | exact Or.inr (Or.inl rfl) | exact Or.inr (Or.inr rfl))) (da_cons (de_callB mc_len (by rfl) B.b_len PySem.boot_len (da_cons (de_var (i := 4) rfl (by first | exact Or.inl rfl | exact Or.inr (Or.inl rfl) | exact Or.inr (Or.inr rfl))) da_nil)) da_nil))) (fun _ _ => rfl)) da_nil))) (fun w_way_here =>
  (nss_nil (a := w_way_here) (.som (.som (.som (.non (.non .nil))))))) ox0)
  (nss_nil (a := w_way_here) (.som (.som (.som (.non (.non .nil)))))) ox0)) ox0))))) (.som (.som (.som (.non (.non .nil))))) ox0) (fun j34 =>
  (let w_way_here : Vl := j34; (nss_at (mkS := (mkU 5)) (mkL := mkE) (ρ := [some w_feed_here, some w_arrows_here, some w_way_here, none, none]) (n := kt_law_way_k13_1 dr w_feed_here w_arrows_here w_way_here)
  (nss_ret (de_var (i := 2) rfl (by first | exact Or.inl rfl | exact Or.inr (Or.inl rfl) | exact Or.inr (Or.inr rfl))) ox0)))))) ox0))
abbrev N_law_things_k13 : List Str := ["_law_feed_here", "_law_arrows_here", "_law_found", "_law_k", "_law_way_here", "_law_bent", "_law_at", "_law_to"]
theorem sc_law_things_k13 : FnScope N_law_things_k13 ["_law_feed_here", "_law_arrows_here"] (defScope (topS 28)) := ⟨rfl, rfl, rfl, by decide +kernel, rfl, by decide +kernel, by decide +kernel⟩
theorem ok_law_things_k13 {f f1 f2 f3 f4 : Addr} {fd fd1 fd2 fd3 fd4 : FuncData} {k k1 k2 k3 k4 : Nat} {dr : MF} (D : Df K mg "_law_things" (topS 28) ["_law_feed_here", "_law_arrows_here"] f fd)
    (D1 : Df K mg "_law_way" (topS 27) ["_law_feed_here", "_law_arrows_here"] f1 fd1) (G1 : FnD P w K mg base k1 f1 fd1 ["_law_feed_here", "_law_arrows_here"] (G_law_way_k13 dr)) (h1 : k1 ≤ k)
    (D2 : Df K mg "_law_draw" (topS 19) ["_law_feed_here", "_law_many"] f2 fd2) (G2 : FnD P w K mg base k2 f2 fd2 ["_law_feed_here", "_law_many"] dr) (h2 : k2 ≤ k)
    (D3 : Df K mg "_law_bend" (topS 20) ["_law_feed_here", "_law_thing", "_law_odd_here"] f3 fd3) (G3 : FnD P w K mg base k3 f3 fd3 ["_law_feed_here", "_law_thing", "_law_odd_here"] (G_law_bend_k13 dr 6)) (h3 : k3 ≤ k)
    (D4 : Df K mg "_law_odd" (topS 21) [] f4 fd4) (G4 : FnD P w K mg base k4 f4 fd4 [] G_law_odd_k01) (h4 : k4 ≤ k) (B : Bn mg) :
    FnD P w K mg base (k + 1) f fd ["_law_feed_here", "_law_arrows_here"] (frameG (r_law_things_k13 dr)) := by
  refine FnD.frame (fnN_of D.fn sc_law_things_k13 (fun cdv A outer s H E hg hr xs hx => ?_))
  have nd := sc_law_things_k13.nd
  have hu := hr.units
  have hG : (A.deeper (envOfC "_law_things" (defScope (topS 28)) s.heap.objs.size f cdv)).guards = some [] := hg
  have tk : Takes (cxOf (L2.CX P w) P w K mg base N_law_things_k13 "_law_things" (defScope (topS 28)) f cdv A outer s H E) (fun c d _ H => E c d H) := takes_of rfl rfl rfl rfl
  match xs, hx with
  | [w_feed_here, w_arrows_here], _ =>
  exact (nss_at (mkS := mkU 8) (mkL := mkE) (ρ := [some w_feed_here, some w_arrows_here, none, none, none, none, none, none]) (n := n_law_things_k13 dr w_feed_here w_arrows_here)
  (nss_set (i := 2) (ρ' := fun w_found => [some w_feed_here, some w_arrows_here, some w_found, none, none, none, none, none]) nd rfl (by first | exact Or.inl rfl | exact Or.inr rfl) (de_new (da_cons (de_tup da_nil) (da_cons de_non (da_cons de_int (da_cons de_str (da_cons (de_lst da_nil) (da_cons (de_lst (da_cons de_int da_nil)) (da_cons (de_tup (da_cons de_int da_nil)) (da_cons (de_tup (da_cons de_bl da_nil)) (da_cons (de_tup (da_cons de_bl da_nil)) (da_cons (de_tup (da_cons de_int da_nil)) (da_cons (de_tup (da_cons (de_un mu_neg de_int) da_nil)) (da_cons (de_tup (da_cons de_int (da_cons de_non da_nil))) (da_cons (de_tup (da_cons de_int (da_cons de_str da_nil))) (da_cons (de_tup (da_cons de_int (da_cons (de_tup (da_cons de_int da_nil)) da_nil))) (da_cons (de_tup (da_cons de_int da_nil)) da_nil)))))))))))))))) (fun w_found =>
  (nss_expr (de_append (de_var (i := 2) rfl (by first | exact Or.inl rfl | exact Or.inr (Or.inl rfl) | exact Or.inr (Or.inr rfl))) (da_cons (de_tup (da_cons de_int (da_cons de_int da_nil))) da_nil))
  (nss_expr (de_extend (de_var (i := 2) rfl (by first | exact Or.inl rfl | exact Or.inr (Or.inl rfl) | exact Or.inr (Or.inr rfl))) (da_cons (de_lst (da_cons (de_tup (da_cons de_int (da_cons de_bl da_nil))) (da_cons (de_tup (da_cons de_int (da_cons (de_op mo_pow de_int de_int) da_nil))) (da_cons (de_tup (da_cons (de_tup (da_cons de_int da_nil)) da_nil)) (da_cons (de_tup (da_cons de_int (da_cons de_int da_nil))) (da_cons (de_tup (da_cons de_int (da_cons de_int da_nil))) (da_cons (de_tup (da_cons de_int (da_cons de_int (da_cons de_int da_nil)))) da_nil))))))) da_nil))
  (nss_cons (mk1 := (mk_law_things_k13_1 w_feed_here w_arrows_here w_found)) (ns_forP (mk1 := (mk_law_things_k13_1 w_feed_here w_arrows_here w_found)) (ρb := fun p a => [some w_feed_here, some w_arrows_here, some w_found, some p, none, none, none, none]) (a0 := ()) PassesOwn.leaving rfl (di_range1 (by rfl) B.b_range (da_cons de_int da_nil)) (dg_name (i := 3) nd rfl (by first | exact Or.inl rfl | exact Or.inr rfl)) tgp_n (fun p a =>
  (let w_k : Vl := p; (nss_at (mkS := (mk_law_things_k13_1 w_feed_here w_arrows_here w_found)) (mkL := (mk_law_things_k13_1 w_feed_here w_arrows_here w_found)) (ρ := [some w_feed_here, some w_arrows_here, some w_found, some w_k, none, none, none, none]) (n := nb_law_things_k13_1 dr w_feed_here w_arrows_here w_found w_k)
  (nss_set (i := 4) (ρ' := fun w_way_here => [some w_feed_here, some w_arrows_here, some w_found, some w_k, some w_way_here, none, none, none]) nd rfl (by first | exact Or.inl rfl | exact Or.inr rfl) (de_call hG G1 (hr.mono h1) D1.bd tk (by rfl) D1.gl D1.fn.kp (da_cons (de_var (i := 0) rfl (by first | exact Or.inl rfl | exact Or.inr (Or.inl rfl) | exact Or.inr (Or.inr rfl))) (da_cons (de_var (i := 1) rfl (by first | exact Or.inl rfl | exact Or.inr (Or.inl rfl) | exact Or.inr (Or.inr rfl))) da_nil))) (fun w_way_here =>
  (nss_par2 (i := 6) (j := 7) (ρ' := fun w_at w_to => [some w_feed_here, some w_arrows_here, some w_found, some w_k, some w_way_here, none, some w_at, some w_to]) rfl nd rfl rfl (by decide) rfl rfl (da_cons (de_call hG G2 (hr.mono h2) D2.bd tk (by rfl) D2.gl D2.fn.kp (da_cons (de_var (i := 0) rfl (by first | exact Or.inl rfl | exact Or.inr (Or.inl rfl) | exact Or.inr (Or.inr rfl))) (da_cons (de_callB mc_len (by rfl) B.b_len PySem.boot_len (da_cons (de_var (i := 4) rfl (by first | exact Or.inl rfl | exact Or.inr (Or.inl rfl) | exact Or.inr (Or.inr rfl))) da_nil)) da_nil))) (da_cons (de_call hG G2 (hr.mono h2) D2.bd tk (by rfl) D2.gl D2.fn.kp (da_cons (de_var (i := 0) rfl (by first | exact Or.inl rfl | exact Or.inr (Or.inl rfl) | exact Or.inr (Or.inr rfl))) (da_cons (de_callB mc_len (by rfl) B.b_len PySem.boot_len (da_cons (de_var (i := 4) rfl (by first | exact Or.inl rfl | exact Or.inr (Or.inl rfl) | exact Or.inr (Or.inr rfl))) da_nil)) da_nil))) da_nil)) (fun w_at w_to =>
  (nss_set (i := 5) (ρ' := fun w_bent => [some w_feed_here, some w_arrows_here, some w_found, some w_k, some w_way_here, some w_bent, some w_at, some w_to]) nd rfl (by first | exact Or.inl rfl | exact Or.inr rfl) (de_call hG G3 (hr.mono h3) D3.bd tk (by rfl) D3.gl D3.fn.kp (da_cons (de_var (i := 0) rfl (by first | exact Or.inl rfl | exact Or.inr (Or.inl rfl) | exact Or.inr (Or.inr rfl))) (da_cons (de_var (i := 4) rfl (by first | exact Or.inl rfl | exact Or.inr (Or.inl rfl) | exact Or.inr (Or.inr rfl))) (da_cons (de_call0 (F0 := ()) hG G4 (hr.mono h4) D4.bd tk (by rfl) D4.gl D4.fn.kp) da_nil)))) (fun w_bent =>
  (nss_expr (de_extend (de_var (i := 2) rfl (by first | exact Or.inl rfl | exact Or.inr (Or.inl rfl) | exact Or.inr (Or.inr rfl))) (da_cons (de_lst (da_cons (de_var (i := 4) rfl (by first | exact Or.inl rfl | exact Or.inr (Or.inl rfl) | exact Or.inr (Or.inr rfl))) (da_cons (de_op mo_add (de_slice (de_var (i := 4) rfl (by first | exact Or.inl rfl | exact Or.inr (Or.inl rfl) | exact Or.inr (Or.inr rfl))) do_none (do_some (de_var (i := 6) rfl (by first | exact Or.inl rfl | exact Or.inr (Or.inl rfl) | exact Or.inr (Or.inr rfl))))) (de_slice (de_var (i := 4) rfl (by first | exact Or.inl rfl | exact Or.inr (Or.inl rfl) | exact Or.inr (Or.inr rfl))) (do_some (de_op mo_add (de_var (i := 6) rfl (by first | exact Or.inl rfl | exact Or.inr (Or.inl rfl) | exact Or.inr (Or.inr rfl))) de_int)) do_none)) (da_cons (de_op mo_add (de_op mo_add (de_slice (de_var (i := 4) rfl (by first | exact Or.inl rfl | exact Or.inr (Or.inl rfl) | exact Or.inr (Or.inr rfl))) do_none (do_some (de_var (i := 6) rfl (by first | exact Or.inl rfl | exact Or.inr (Or.inl rfl) | exact Or.inr (Or.inr rfl))))) (de_slice (de_var (i := 4) rfl (by first | exact Or.inl rfl | exact Or.inr (Or.inl rfl) | exact Or.inr (Or.inr rfl))) (do_some (de_var (i := 7) rfl (by first | exact Or.inl rfl | exact Or.inr (Or.inl rfl) | exact Or.inr (Or.inr rfl)))) (do_some (de_op mo_add (de_var (i := 7) rfl (by first | exact Or.inl rfl | exact Or.inr (Or.inl rfl) | exact Or.inr (Or.inr rfl))) de_int)))) (de_slice (de_var (i := 4) rfl (by first | exact Or.inl rfl | exact Or.inr (Or.inl rfl) | exact Or.inr (Or.inr rfl))) (do_some (de_var (i := 6) rfl (by first | exact Or.inl rfl | exact Or.inr (Or.inl rfl) | exact Or.inr (Or.inr rfl)))) do_none)) (da_cons (de_callTy mc_list (by rfl) B.b_list (by decide +kernel) (da_cons (de_var (i := 4) rfl (by first | exact Or.inl rfl | exact Or.inr (Or.inl rfl) | exact Or.inr (Or.inr rfl))) da_nil)) (da_cons (de_var (i := 5) rfl (by first | exact Or.inl rfl | exact Or.inr (Or.inl rfl) | exact Or.inr (Or.inr rfl))) da_nil)))))) da_nil))
  (nss_expr (de_append (de_var (i := 2) rfl (by first | exact Or.inl rfl | exact Or.inr (Or.inl rfl) | exact Or.inr (Or.inr rfl))) (da_cons (de_op mo_add (de_var (i := 4) rfl (by first | exact Or.inl rfl | exact Or.inr (Or.inl rfl) | exact Or.inr (Or.inr rfl))) (de_var (i := 4) rfl (by first | exact Or.inl rfl | exact Or.inr (Or.inl rfl) | exact Or.inr (Or.inr rfl)))) da_nil))
  (nss_expr (de_extend (de_var (i := 2) rfl (by first | exact Or.inl rfl | exact Or.inr (Or.inl rfl) | exact Or.inr (Or.inr rfl))) (da_cons (de_lst (da_cons (de_call hG G3 (hr.mono h3) D3.bd tk (by rfl) D3.gl D3.fn.kp (da_cons (de_var (i := 0) rfl (by first | exact Or.inl rfl | exact Or.inr (Or.inl rfl) | exact Or.inr (Or.inr rfl))) (da_cons (de_var (i := 5) rfl (by first | exact Or.inl rfl | exact Or.inr (Or.inl rfl) | exact Or.inr (Or.inr rfl))) (da_cons (de_call0 (F0 := ()) hG G4 (hr.mono h4) D4.bd tk (by rfl) D4.gl D4.fn.kp) da_nil)))) (da_cons (de_op mo_add (de_op mo_add (de_slice (de_var (i := 4) rfl (by first | exact Or.inl rfl | exact Or.inr (Or.inl rfl) | exact Or.inr (Or.inr rfl))) do_none (do_some (de_var (i := 6) rfl (by first | exact Or.inl rfl | exact Or.inr (Or.inl rfl) | exact Or.inr (Or.inr rfl))))) (de_tup (da_cons (de_call hG G2 (hr.mono h2) D2.bd tk (by rfl) D2.gl D2.fn.kp (da_cons (de_var (i := 0) rfl (by first | exact Or.inl rfl | exact Or.inr (Or.inl rfl) | exact Or.inr (Or.inr rfl))) (da_cons de_int da_nil))) da_nil))) (de_slice (de_var (i := 4) rfl (by first | exact Or.inl rfl | exact Or.inr (Or.inl rfl) | exact Or.inr (Or.inr rfl))) (do_some (de_op mo_add (de_var (i := 6) rfl (by first | exact Or.inl rfl | exact Or.inr (Or.inl rfl) | exact Or.inr (Or.inr rfl))) de_int)) do_none)) da_nil))) da_nil))
  (nss_expr (de_append (de_var (i := 2) rfl (by first | exact Or.inl rfl | exact Or.inr (Or.inl rfl) | exact Or.inr (Or.inr rfl))) (da_cons (de_slice (de_var (i := 4) rfl (by first | exact Or.inl rfl | exact Or.inr (Or.inl rfl) | exact Or.inr (Or.inr rfl))) do_none (do_some (de_op mo_add (de_var (i := 6) rfl (by first | exact Or.inl rfl | exact Or.inr (Or.inl rfl) | exact Or.inr (Or.inr rfl))) de_int))) da_nil))
  (nss_nil (a := ()) (.som (.som (.som (.non (.non (.non (.non (.non .nil))))))))) ox0) ox0) ox0) ox0)) ox0)) ox0)) ox0)))) (.som (.som (.som (.non (.non (.non (.non (.non .nil)))))))) ox0) (fun j236 =>
  (nss_at (mkS := (mkU 8)) (mkL := mkE) (ρ := [some w_feed_here, some w_arrows_here, some w_found, none, none, none, none, none]) (n := kt_law_things_k13_1 dr w_feed_here w_arrows_here w_found)
  (nss_ret (de_var (i := 2) rfl (by first | exact Or.inl rfl | exact Or.inr (Or.inl rfl) | exact Or.inr (Or.inr rfl))) ox0)))) ox0) ox0)) ox0))
abbrev N_law_beside : List Str := ["_law_code"]
theorem sc_law_beside : FnScope N_law_beside ["_law_code"] (defScope (topS 29)) := ⟨rfl, rfl, rfl, by decide +kernel, rfl, by decide +kernel, by decide +kernel⟩
theorem ok_law_beside {f : Addr} {fd : FuncData} {k : Nat} (D : Df K mg "_law_beside" (topS 29) ["_law_code"] f fd) (B : Bn mg) :
    FnD P w K mg base (k + 1) f fd ["_law_code"] (frameG (r_law_beside)) := by
  refine FnD.frame (fnN_of D.fn sc_law_beside (fun cdv A outer s H E hg hr xs hx => ?_))
  have nd := sc_law_beside.nd
  have hu := hr.units
  have hG : (A.deeper (envOfC "_law_beside" (defScope (topS 29)) s.heap.objs.size f cdv)).guards = some [] := hg
  have tk : Takes (cxOf (L2.CX P w) P w K mg base N_law_beside "_law_beside" (defScope (topS 29)) f cdv A outer s H E) (fun c d _ H => E c d H) := takes_of rfl rfl rfl rfl
  match xs, hx with
  | [w_code], _ =>
  exact (nss_at (mkS := mkU 1) (mkL := mkE) (ρ := [some w_code]) (n := n_law_beside w_code)
  (nss_ret (de_tup (da_cons (de_ix mx_ix (de_var (i := 0) rfl (by first | exact Or.inl rfl | exact Or.inr (Or.inl rfl) | exact Or.inr (Or.inr rfl))) de_int (fun _ _ => rfl)) (da_cons (de_tup (da_cons (de_tup (da_cons de_str (da_cons (de_tup (da_cons (de_tup (da_cons (de_tup da_nil) (da_cons (de_tup (da_cons de_str da_nil)) da_nil))) da_nil)) da_nil))) (da_cons (de_tup (da_cons de_str (da_cons (de_ix mx_ix (de_ix mx_ix (de_ix mx_ix (de_var (i := 0) rfl (by first | exact Or.inl rfl | exact Or.inr (Or.inl rfl) | exact Or.inr (Or.inr rfl))) de_int (fun _ _ => rfl)) de_int (fun _ _ => rfl)) de_int (fun _ _ => rfl)) da_nil))) da_nil))) da_nil))) ox0))
abbrev N_law_other_right_k13 : List Str := ["_law_meet", "_law_code", "_law_thing", "_law_told", "e", "_law_end"]
theorem sc_law_other_right_k13 : FnScope N_law_other_right_k13 [] (defScope (topS 30)) := ⟨rfl, rfl, rfl, by decide +kernel, rfl, by decide +kernel, by decide +kernel⟩
theorem ok_law_other_right_k13 {f f1 f2 f3 f4 : Addr} {fd fd1 fd2 fd3 fd4 : FuncData} {k k1 k2 k3 k4 : Nat} {C CW CL CN CT : Addr} (D : Df K mg "_law_other_right" (topS 30) [] f fd)
    (D1 : Df K mg "lets_around" (topS 16) ["code", "name", "over", "under", "thing"] f1 fd1) (G1 : FnD P w K mg base k1 f1 fd1 ["code", "name", "over", "under", "thing"] G_lets_around) (h1 : k1 ≤ k)
    (D2 : Df K mg "_law_beside" (topS 29) ["_law_code"] f2 fd2) (G2 : FnD P w K mg base k2 f2 fd2 ["_law_code"] G_law_beside) (h2 : k2 ≤ k)
    (D3 : Df K mg "_law_arounded" (topS 25) ["_law_arrows_here", "_law_over", "_law_under", "_law_thing"] f3 fd3) (G3 : FnD P w K mg base k3 f3 fd3 ["_law_arrows_here", "_law_over", "_law_under", "_law_thing"] G_law_arounded_k13) (h3 : k3 ≤ k)
    (D4 : Df K mg "_law_arrows" (topS 24) ["_law_code"] f4 fd4) (G4 : FnD P w K mg base k4 f4 fd4 ["_law_code"] G_law_arrows) (h4 : k4 ≤ k) (B : Bn mg)
    (T : PapX K mg C CW CL CN CT) :
    FnD P w K mg base (k + 1) f fd [] (frameG (r_law_other_right_k13)) := by
  refine FnD.frame (fnN_of D.fn sc_law_other_right_k13 (fun cdv A outer s H E hg hr xs hx => ?_))
  have nd := sc_law_other_right_k13.nd
  have hu := hr.units
  have hG : (A.deeper (envOfC "_law_other_right" (defScope (topS 30)) s.heap.objs.size f cdv)).guards = some [] := hg
  have tk : Takes (cxOf (L2.CX P w) P w K mg base N_law_other_right_k13 "_law_other_right" (defScope (topS 30)) f cdv A outer s H E) (fun c d _ H => E c d H) := takes_of rfl rfl rfl rfl
  match xs, hx with
  | [], _ =>
  exact (nss_at (mkS := mkU 6) (mkL := mkE) (ρ := [none, none, none, none, none, none]) (n := n_law_other_right_k13 )
  (nss_set (i := 0) (ρ' := fun w_meet => [some w_meet, none, none, none, none, none]) nd rfl (by first | exact Or.inl rfl | exact Or.inr rfl) (de_tup (da_cons (de_tup (da_cons de_str (da_cons de_str (da_cons de_int (da_cons de_int da_nil))))) (da_cons (de_tup (da_cons de_str (da_cons de_int da_nil))) (da_cons (de_tup (da_cons de_str (da_cons de_int da_nil))) (da_cons (de_tup (da_cons de_str da_nil)) da_nil))))) (fun w_meet =>
  (nss_set (i := 1) (ρ' := fun w_code => [some w_meet, some w_code, none, none, none, none]) nd rfl (by first | exact Or.inl rfl | exact Or.inr rfl) (de_tup (da_cons (de_tup (da_cons (de_tup (da_cons de_str (da_cons de_int da_nil))) da_nil)) (da_cons (de_tup (da_cons (de_tup (da_cons de_str (da_cons (de_callTy mc_tuple (by rfl) B.b_tuple (by decide +kernel) (da_cons (de_lc (own := [("_law_end", 5)]) (g := (gName 5)) (gm := (gmName 5)) (t := tYesM) (e := (mTup (aCons (mTup aNil) (aCons (mVar 5) aNil)))) rfl nd (di_seq (de_var (i := 0) rfl (by first | exact Or.inl rfl | exact Or.inr (Or.inl rfl) | exact Or.inr (Or.inr rfl)))) (blkOk_by (N := N_law_other_right_k13) (sc := defScope (topS 30)) (by decide +kernel)) (gok_name (by decide)) (fun _ _ _ _ _ => (pg_name (i := 5) nd rfl (by first | exact Or.inl rfl | exact Or.inr rfl))) (fun _ _ _ _ _ => dts_nil) (fun _ _ _ _ _ => (de_tup (da_cons (de_tup da_nil) (da_cons (de_var (i := 5) rfl (by first | exact Or.inl rfl | exact Or.inr (Or.inl rfl) | exact Or.inr (Or.inr rfl))) da_nil))))) da_nil)) da_nil))) da_nil)) da_nil))) (fun w_code =>
  (nss_cons (mk1 := (mk_law_other_right_k13_1 w_code)) (ns_forP (mk1 := (mk_law_other_right_k13_1 w_code)) (ρb := fun p a => [none, some w_code, some p, none, none, none]) (a0 := ()) PassesOwn.leaving rfl (di_seq (de_tup (da_cons (de_tup (da_cons de_int (da_cons de_int (da_cons de_int da_nil)))) (da_cons (de_tup (da_cons de_int (da_cons de_int da_nil))) (da_cons (de_tup (da_cons de_int (da_cons de_int (da_cons de_int da_nil)))) (da_cons (de_tup (da_cons de_int (da_cons de_int da_nil))) (da_cons (de_tup (da_cons de_int (da_cons de_int da_nil))) (da_cons (de_tup da_nil) (da_cons (de_tup (da_cons de_int (da_cons de_int (da_cons de_int da_nil)))) (da_cons (de_tup (da_cons de_int (da_cons de_int (da_cons de_int (da_cons de_int da_nil))))) da_nil)))))))))) (dg_name (i := 2) nd rfl (by first | exact Or.inl rfl | exact Or.inr rfl)) tgp_n (fun p a =>
  (let w_thing : Vl := p; (nss_at (mkS := (mk_law_other_right_k13_1 w_code)) (mkL := (mk_law_other_right_k13_1 w_code)) (ρ := [none, some w_code, some w_thing, none, none, none]) (n := nb_law_other_right_k13_1 w_code w_thing)
  (nss_set (i := 3) (ρ' := fun w_told => [none, some w_code, some w_thing, some w_told, none, none]) nd rfl (by first | exact Or.inl rfl | exact Or.inr rfl) (de_tup (da_cons de_str (da_cons de_bl da_nil))) (fun w_told =>
  (nss_cons (mk1 := (mk_law_other_right_k13_2 w_code w_thing)) (ns_try_as (i := 4) (ρx := [none, some w_code, some w_thing, some w_told, none, none]) rfl rfl nd rfl rfl ⟨rfl, by decide, Or.inl T.g_NoPaper⟩ tk T.t_NoPaper (fun W2 pn2 xe2 tk2 po2 =>
  (nss_if1 (dt_cmp mo_isNot (de_call hG G1 (hr.mono h1) D1.bd tk2 (by rfl) D1.gl D1.fn.kp (da_cons (de_call hG G2 (hr.mono h2) D2.bd tk2 (by rfl) D2.gl D2.fn.kp (da_cons (de_var (i := 1) rfl (by first | exact Or.inl rfl | exact Or.inr (Or.inl rfl) | exact Or.inr (Or.inr rfl))) da_nil)) (da_cons de_str (da_cons de_int (da_cons de_int (da_cons (de_var (i := 2) rfl (by first | exact Or.inl rfl | exact Or.inr (Or.inl rfl) | exact Or.inr (Or.inr rfl))) da_nil)))))) de_bl (nomark _))
  (nss_ret de_bl (show OxLe (some _) _ from (.non (.som (.som (.som (.non (.non .nil))))))))
  (nss_nil (a := w_told) (.non (.som (.som (.som (.non (.non .nil))))))) (show OxLe (some _) _ from (.non (.som (.som (.som (.non (.non .nil))))))))) (fun a oe cls d pn hz hf e86 =>
  (nss_set (i := 3) (ρ' := fun w_told => [none, some w_code, some w_thing, some w_told, some (.exo e86.1 e86.2), none]) nd rfl (by first | exact Or.inl rfl | exact Or.inr rfl) (de_tup (da_cons de_str (da_cons (de_xf T.xf T.no_word T.gC hz hf (de_var (i := 4) rfl (by first | exact Or.inl rfl | exact Or.inr (Or.inl rfl) | exact Or.inr (Or.inr rfl)))) (da_cons (de_xf T.xf T.no_at T.gC hz hf (de_var (i := 4) rfl (by first | exact Or.inl rfl | exact Or.inr (Or.inl rfl) | exact Or.inr (Or.inr rfl)))) da_nil)))) (fun w_told =>
  (nss_nil (a := w_told) (.non (.som (.som (.som (.non (.non .nil)))))))) ox0)) (by intro _; rfl) (by intro a; first | rfl | exact a.elim) ox0) (fun j110 =>
  (let w_told : Vl := j110; (nss_at (mkS := (mk_law_other_right_k13_1 w_code)) (mkL := (mk_law_other_right_k13_1 w_code)) (ρ := [none, some w_code, some w_thing, some w_told, none, none]) (n := kt_law_other_right_k13_1 w_code w_thing w_told)
  (nss_if1 (dt_cmp (mo_ne hu) (de_callB (mc_repr hG hu) (by rfl) B.b_repr (by decide +kernel) (da_cons (de_var (i := 3) rfl (by first | exact Or.inl rfl | exact Or.inr (Or.inl rfl) | exact Or.inr (Or.inr rfl))) da_nil)) (de_callB (mc_repr hG hu) (by rfl) B.b_repr (by decide +kernel) (da_cons (de_call hG G3 (hr.mono h3) D3.bd tk (by rfl) D3.gl D3.fn.kp (da_cons (de_call hG G4 (hr.mono h4) D4.bd tk (by rfl) D4.gl D4.fn.kp (da_cons (de_var (i := 1) rfl (by first | exact Or.inl rfl | exact Or.inr (Or.inl rfl) | exact Or.inr (Or.inr rfl))) da_nil)) (da_cons de_int (da_cons de_int (da_cons (de_var (i := 2) rfl (by first | exact Or.inl rfl | exact Or.inr (Or.inl rfl) | exact Or.inr (Or.inr rfl))) da_nil))))) da_nil)) (nomark _))
  (nss_ret de_bl ox0)
  (nss_nil (a := ()) (.non (.som (.non (.non (.non (.non .nil))))))) ox0)))))) ox0)))) (.non (.som (.non (.non (.non (.non .nil)))))) ox0) (fun j132 =>
  (nss_at (mkS := (mkU 6)) (mkL := mkE) (ρ := [none, some w_code, none, none, none, none]) (n := kt_law_other_right_k13_2 w_code)
  (nss_ret de_bl ox0))))) ox0)) ox0))
abbrev N_law_k13 : List Str := ["_law_script", "_law_feed_here", "_law_turn", "_law_code", "_law_arrows_here", "_law_things_here", "_law_kept", "_law_over", "_law_under", "_law_thing"]
theorem sc_law_k13 : FnScope N_law_k13 ["_law_script"] (defScope (topS 31)) := ⟨rfl, rfl, rfl, by decide +kernel, rfl, by decide +kernel, by decide +kernel⟩
theorem ok_law_k13 {f f1 f2 f3 f4 f5 f6 f7 : Addr} {fd fd1 fd2 fd3 fd4 fd5 fd6 fd7 : FuncData} {k k1 k2 k3 k4 k5 k6 k7 : Nat} {dr : MF} (D : Df K mg "law" (topS 31) ["_law_script"] f fd)
    (D1 : Df K mg "_law_feed" (topS 18) ["_law_script"] f1 fd1) (G1 : FnD P w K mg base k1 f1 fd1 ["_law_script"] G_law_feed_k01) (h1 : k1 ≤ k)
    (D2 : Df K mg "_law_other_right" (topS 30) [] f2 fd2) (G2 : FnD P w K mg base k2 f2 fd2 [] G_law_other_right_k13) (h2 : k2 ≤ k)
    (D3 : Df K mg "_law_graph" (topS 23) ["_law_feed_here", "_law_most"] f3 fd3) (G3 : FnD P w K mg base k3 f3 fd3 ["_law_feed_here", "_law_most"] (G_law_graph dr)) (h3 : k3 ≤ k)
    (D4 : Df K mg "_law_arrows" (topS 24) ["_law_code"] f4 fd4) (G4 : FnD P w K mg base k4 f4 fd4 ["_law_code"] G_law_arrows) (h4 : k4 ≤ k)
    (D5 : Df K mg "_law_things" (topS 28) ["_law_feed_here", "_law_arrows_here"] f5 fd5) (G5 : FnD P w K mg base k5 f5 fd5 ["_law_feed_here", "_law_arrows_here"] (G_law_things_k13 dr)) (h5 : k5 ≤ k)
    (D6 : Df K mg "_law_said" (topS 26) ["_law_code", "_law_over", "_law_under", "_law_thing"] f6 fd6) (G6 : FnD P w K mg base k6 f6 fd6 ["_law_code", "_law_over", "_law_under", "_law_thing"] G_law_said_k13) (h6 : k6 ≤ k)
    (D7 : Df K mg "_law_arounded" (topS 25) ["_law_arrows_here", "_law_over", "_law_under", "_law_thing"] f7 fd7) (G7 : FnD P w K mg base k7 f7 fd7 ["_law_arrows_here", "_law_over", "_law_under", "_law_thing"] G_law_arounded_k13) (h7 : k7 ≤ k) (B : Bn mg) :
    FnD P w K mg base (k + 1) f fd ["_law_script"] (frameG (r_law_k13 dr)) := by
  refine FnD.frame (fnN_of D.fn sc_law_k13 (fun cdv A outer s H E hg hr xs hx => ?_))
  have nd := sc_law_k13.nd
  have hu := hr.units
  have hG : (A.deeper (envOfC "law" (defScope (topS 31)) s.heap.objs.size f cdv)).guards = some [] := hg
  have tk : Takes (cxOf (L2.CX P w) P w K mg base N_law_k13 "law" (defScope (topS 31)) f cdv A outer s H E) (fun c d _ H => E c d H) := takes_of rfl rfl rfl rfl
  match xs, hx with
  | [w_script], _ =>
  exact (nss_at (mkS := mkU 10) (mkL := mkE) (ρ := [some w_script, none, none, none, none, none, none, none, none, none]) (n := n_law_k13 dr w_script)
  (nss_set (i := 1) (ρ' := fun w_feed_here => [some w_script, some w_feed_here, none, none, none, none, none, none, none, none]) nd rfl (by first | exact Or.inl rfl | exact Or.inr rfl) (de_call hG G1 (hr.mono h1) D1.bd tk (by rfl) D1.gl D1.fn.kp (da_cons (de_var (i := 0) rfl (by first | exact Or.inl rfl | exact Or.inr (Or.inl rfl) | exact Or.inr (Or.inr rfl))) da_nil)) (fun w_feed_here =>
  (nss_ifx (mk0 := mkE) (dt_not (dt_tru (de_call0 (F0 := ()) hG G2 (hr.mono h2) D2.bd tk (by rfl) D2.gl D2.fn.kp)))
  (nss_ret de_bl ox0)
  (nss_cons (mk1 := (mk_law_k13_1 w_feed_here)) (ns_forP (mk1 := (mk_law_k13_1 w_feed_here)) (ρb := fun p a => [none, some w_feed_here, some p, none, none, none, none, none, none, none]) (a0 := ()) PassesOwn.leaving rfl (di_range1 (by rfl) B.b_range (da_cons de_int da_nil)) (dg_name (i := 2) nd rfl (by first | exact Or.inl rfl | exact Or.inr rfl)) tgp_n (fun p a =>
  (let w_turn : Vl := p; (nss_at (mkS := (mk_law_k13_1 w_feed_here)) (mkL := (mk_law_k13_1 w_feed_here)) (ρ := [none, some w_feed_here, some w_turn, none, none, none, none, none, none, none]) (n := nb_law_k13_1 dr w_feed_here w_turn)
  (nss_set (i := 3) (ρ' := fun w_code => [none, some w_feed_here, some w_turn, some w_code, none, none, none, none, none, none]) nd rfl (by first | exact Or.inl rfl | exact Or.inr rfl) (de_call hG G3 (hr.mono h3) D3.bd tk (by rfl) D3.gl D3.fn.kp (da_cons (de_var (i := 1) rfl (by first | exact Or.inl rfl | exact Or.inr (Or.inl rfl) | exact Or.inr (Or.inr rfl))) (da_cons de_int da_nil))) (fun w_code =>
  (nss_set (i := 4) (ρ' := fun w_arrows_here => [none, some w_feed_here, some w_turn, some w_code, some w_arrows_here, none, none, none, none, none]) nd rfl (by first | exact Or.inl rfl | exact Or.inr rfl) (de_call hG G4 (hr.mono h4) D4.bd tk (by rfl) D4.gl D4.fn.kp (da_cons (de_var (i := 3) rfl (by first | exact Or.inl rfl | exact Or.inr (Or.inl rfl) | exact Or.inr (Or.inr rfl))) da_nil)) (fun w_arrows_here =>
  (nss_set (i := 5) (ρ' := fun w_things_here => [none, some w_feed_here, some w_turn, some w_code, some w_arrows_here, some w_things_here, none, none, none, none]) nd rfl (by first | exact Or.inl rfl | exact Or.inr rfl) (de_call hG G5 (hr.mono h5) D5.bd tk (by rfl) D5.gl D5.fn.kp (da_cons (de_var (i := 1) rfl (by first | exact Or.inl rfl | exact Or.inr (Or.inl rfl) | exact Or.inr (Or.inr rfl))) (da_cons (de_var (i := 4) rfl (by first | exact Or.inl rfl | exact Or.inr (Or.inl rfl) | exact Or.inr (Or.inr rfl))) da_nil))) (fun w_things_here =>
  (nss_set (i := 6) (ρ' := fun w_kept => [none, some w_feed_here, some w_turn, some w_code, some w_arrows_here, some w_things_here, some w_kept, none, none, none]) nd rfl (by first | exact Or.inl rfl | exact Or.inr rfl) (de_callB (mc_repr hG hu) (by rfl) B.b_repr (by decide +kernel) (da_cons (de_tup (da_cons (de_var (i := 3) rfl (by first | exact Or.inl rfl | exact Or.inr (Or.inl rfl) | exact Or.inr (Or.inr rfl))) (da_cons (de_var (i := 5) rfl (by first | exact Or.inl rfl | exact Or.inr (Or.inl rfl) | exact Or.inr (Or.inr rfl))) da_nil))) da_nil)) (fun w_kept =>
  (nss_cons (mk1 := (mk_law_k13_2 w_feed_here w_code w_arrows_here w_things_here w_kept)) (ns_forP (mk1 := (mk_law_k13_2 w_feed_here w_code w_arrows_here w_things_here w_kept)) (ρb := fun p a => [none, some w_feed_here, none, some w_code, some w_arrows_here, some w_things_here, some w_kept, some p, none, none]) (a0 := ()) PassesOwn.leaving rfl (di_range1 (by rfl) B.b_range (da_cons (de_callB mc_len (by rfl) B.b_len PySem.boot_len (da_cons (de_var (i := 4) rfl (by first | exact Or.inl rfl | exact Or.inr (Or.inl rfl) | exact Or.inr (Or.inr rfl))) da_nil)) da_nil)) (dg_name (i := 7) nd rfl (by first | exact Or.inl rfl | exact Or.inr rfl)) tgp_n (fun p a =>
  (let w_over : Vl := p; (nss_at (mkS := (mk_law_k13_2 w_feed_here w_code w_arrows_here w_things_here w_kept)) (mkL := (mk_law_k13_2 w_feed_here w_code w_arrows_here w_things_here w_kept)) (ρ := [none, some w_feed_here, none, some w_code, some w_arrows_here, some w_things_here, some w_kept, some w_over, none, none]) (n := nb_law_k13_2 dr w_feed_here w_code w_arrows_here w_things_here w_kept w_over)
  (nss_cons (mk1 := (mk_law_k13_3 w_feed_here w_code w_arrows_here w_things_here w_kept w_over)) (ns_forP (mk1 := (mk_law_k13_3 w_feed_here w_code w_arrows_here w_things_here w_kept w_over)) (ρb := fun p a => [none, some w_feed_here, none, some w_code, some w_arrows_here, some w_things_here, some w_kept, some w_over, some p, none]) (a0 := ()) PassesOwn.leaving rfl (di_range1 (by rfl) B.b_range (da_cons (de_callB mc_len (by rfl) B.b_len PySem.boot_len (da_cons (de_var (i := 4) rfl (by first | exact Or.inl rfl | exact Or.inr (Or.inl rfl) | exact Or.inr (Or.inr rfl))) da_nil)) da_nil)) (dg_name (i := 8) nd rfl (by first | exact Or.inl rfl | exact Or.inr rfl)) tgp_n (fun p a =>
  (let w_under : Vl := p; (nss_at (mkS := (mk_law_k13_3 w_feed_here w_code w_arrows_here w_things_here w_kept w_over)) (mkL := (mk_law_k13_3 w_feed_here w_code w_arrows_here w_things_here w_kept w_over)) (ρ := [none, some w_feed_here, none, some w_code, some w_arrows_here, some w_things_here, some w_kept, some w_over, some w_under, none]) (n := nb_law_k13_3 dr w_feed_here w_code w_arrows_here w_things_here w_kept w_over w_under)
  (nss_cons (mk1 := (mk_law_k13_4 w_feed_here w_code w_arrows_here w_things_here w_kept w_over w_under)) (ns_forP (mk1 := (mk_law_k13_4 w_feed_here w_code w_arrows_here w_things_here w_kept w_over w_under)) (ρb := fun p a => [none, some w_feed_here, none, some w_code, some w_arrows_here, some w_things_here, some w_kept, some w_over, some w_under, some p]) (a0 := ()) PassesOwn.leaving rfl (di_seq (de_var (i := 5) rfl (by first | exact Or.inl rfl | exact Or.inr (Or.inl rfl) | exact Or.inr (Or.inr rfl)))) (dg_name (i := 9) nd rfl (by first | exact Or.inl rfl | exact Or.inr rfl)) tgp_n (fun p a =>
  (let w_thing : Vl := p; (nss_at (mkS := (mk_law_k13_4 w_feed_here w_code w_arrows_here w_things_here w_kept w_over w_under)) (mkL := (mk_law_k13_4 w_feed_here w_code w_arrows_here w_things_here w_kept w_over w_under)) (ρ := [none, some w_feed_here, none, some w_code, some w_arrows_here, some w_things_here, some w_kept, some w_over, some w_under, some w_thing]) (n := nb_law_k13_4 dr w_feed_here w_code w_arrows_here w_things_here w_kept w_over w_under w_thing)
  (nss_if1 (dt_cmp (mo_ne hu) (de_callB (mc_repr hG hu) (by rfl) B.b_repr (by decide +kernel) (da_cons (de_call hG G6 (hr.mono h6) D6.bd tk (by rfl) D6.gl D6.fn.kp (da_cons (de_var (i := 3) rfl (by first | exact Or.inl rfl | exact Or.inr (Or.inl rfl) | exact Or.inr (Or.inr rfl))) (da_cons (de_var (i := 7) rfl (by first | exact Or.inl rfl | exact Or.inr (Or.inl rfl) | exact Or.inr (Or.inr rfl))) (da_cons (de_var (i := 8) rfl (by first | exact Or.inl rfl | exact Or.inr (Or.inl rfl) | exact Or.inr (Or.inr rfl))) (da_cons (de_var (i := 9) rfl (by first | exact Or.inl rfl | exact Or.inr (Or.inl rfl) | exact Or.inr (Or.inr rfl))) da_nil))))) da_nil)) (de_callB (mc_repr hG hu) (by rfl) B.b_repr (by decide +kernel) (da_cons (de_call hG G7 (hr.mono h7) D7.bd tk (by rfl) D7.gl D7.fn.kp (da_cons (de_var (i := 4) rfl (by first | exact Or.inl rfl | exact Or.inr (Or.inl rfl) | exact Or.inr (Or.inr rfl))) (da_cons (de_var (i := 7) rfl (by first | exact Or.inl rfl | exact Or.inr (Or.inl rfl) | exact Or.inr (Or.inr rfl))) (da_cons (de_var (i := 8) rfl (by first | exact Or.inl rfl | exact Or.inr (Or.inl rfl) | exact Or.inr (Or.inr rfl))) (da_cons (de_var (i := 9) rfl (by first | exact Or.inl rfl | exact Or.inr (Or.inl rfl) | exact Or.inr (Or.inr rfl))) da_nil))))) da_nil)) (nomark _))
  (nss_ret de_bl ox0)
  (nss_nil (a := ()) (.non (.som (.non (.som (.som (.som (.som (.som (.som (.non .nil))))))))))) ox0)))) (.non (.som (.non (.som (.som (.som (.som (.som (.som (.non .nil)))))))))) ox0) (fun j46 =>
  (nss_at (mkS := (mk_law_k13_3 w_feed_here w_code w_arrows_here w_things_here w_kept w_over)) (mkL := (mk_law_k13_3 w_feed_here w_code w_arrows_here w_things_here w_kept w_over)) (ρ := [none, some w_feed_here, none, some w_code, some w_arrows_here, some w_things_here, some w_kept, some w_over, some w_under, none]) (n := kt_law_k13_1 dr w_feed_here w_code w_arrows_here w_things_here w_kept w_over w_under)
  (nss_nil (a := ()) (.non (.som (.non (.som (.som (.som (.som (.som (.non (.non .nil))))))))))))))))) (.non (.som (.non (.som (.som (.som (.som (.som (.non (.non .nil)))))))))) ox0) (fun j50 =>
  (nss_at (mkS := (mk_law_k13_2 w_feed_here w_code w_arrows_here w_things_here w_kept)) (mkL := (mk_law_k13_2 w_feed_here w_code w_arrows_here w_things_here w_kept)) (ρ := [none, some w_feed_here, none, some w_code, some w_arrows_here, some w_things_here, some w_kept, some w_over, none, none]) (n := kt_law_k13_2 dr w_feed_here w_code w_arrows_here w_things_here w_kept w_over)
  (nss_nil (a := ()) (.non (.som (.non (.som (.som (.som (.som (.non (.non (.non .nil))))))))))))))))) (.non (.som (.non (.som (.som (.som (.som (.non (.non (.non .nil)))))))))) ox0) (fun j54 =>
  (nss_at (mkS := (mk_law_k13_1 w_feed_here)) (mkL := (mk_law_k13_1 w_feed_here)) (ρ := [none, some w_feed_here, none, some w_code, some w_arrows_here, some w_things_here, some w_kept, none, none, none]) (n := kt_law_k13_3 dr w_feed_here w_code w_arrows_here w_things_here w_kept)
  (nss_if1 (dt_cmp (mo_ne hu) (de_callB (mc_repr hG hu) (by rfl) B.b_repr (by decide +kernel) (da_cons (de_tup (da_cons (de_var (i := 3) rfl (by first | exact Or.inl rfl | exact Or.inr (Or.inl rfl) | exact Or.inr (Or.inr rfl))) (da_cons (de_var (i := 5) rfl (by first | exact Or.inl rfl | exact Or.inr (Or.inl rfl) | exact Or.inr (Or.inr rfl))) da_nil))) da_nil)) (de_var (i := 6) rfl (by first | exact Or.inl rfl | exact Or.inr (Or.inl rfl) | exact Or.inr (Or.inr rfl))) (nomark _))
  (nss_ret de_bl ox0)
  (nss_nil (a := ()) (.non (.som (.non (.non (.non (.non (.non (.non (.non (.non .nil))))))))))) ox0))))) ox0)) ox0)) ox0)) ox0)))) (.non (.som (.non (.non (.non (.non (.non (.non (.non (.non .nil)))))))))) ox0) (fun j70 =>
  (nss_at (mkS := (mkU 10)) (mkL := mkE) (ρ := [none, some w_feed_here, none, none, none, none, none, none, none, none]) (n := kt_law_k13_4 dr w_feed_here)
  (nss_ret de_bl ox0)))) ox0)) ox0))
end
end Pm
set_option maxRecDepth 100000
set_option maxHeartbeats 4000000
namespace Pm
open PySem PySem.Spec PyProof.Rows L2 Sw
theorem scI_NoPaper : FnScope ["self", "word", "at"] ["self", "word", "at"] (defScope (mthS 3 0)) := ⟨rfl, rfl, rfl, by decide +kernel, rfl, by decide +kernel, by decide +kernel⟩
theorem okI_NoPaper {P : Program} {w : World} {K : PySem.W.Frag} {mg : Str → Option Value} {base : Heap} {C fI : Addr} {fd : FuncData} (T : Mk2 K mg "NoPaper" "word" "at" C fI) (F : Fun K "__init__" "NoPaper.__init__" (mthS 3 0) fI fd) : FnOk P w K mg base CX0 1 fI fd ["self", "word", "at"] (spIn2 C "word" "at") := by
  refine F.ok scI_NoPaper (fun vs H Q E h => ?_) (fun cdv A outer s H vs Q E hr h => ?_)
  · obtain ⟨a, x, y, rfl, _⟩ := h
    rfl
  obtain ⟨a, x, y, rfl, ha, q⟩ := h
  refine ⟨_, pss_cons (ps_ost (pv 0) (pv 1)) (pss_one (ps_ost (pv 0) (pv 2))), ?_⟩
  refine ⟨_, rfl, _, rfl, a, C, rfl, T.oex, T.no1, .inl ⟨ha, fun dx hdx ne => ?_⟩⟩
  refine ⟨_, rfl, _, rfl, a, C, rfl, T.oex, T.no2, .inr ⟨dx, _, upd_same, ?_, (by show 1 ≤ 900; decide), q dx hdx ne⟩⟩
  rw [upd_ne ne]
  exact upd_same
theorem all_mk {l : PySem.W.OpenLaw} {w : World} {K : PySem.W.Frag} {h : Heap} {mg : Str → Option Value} {fa f8 f10 f12 f13 f15 f16 f18 f19 f20 f21 f22 f23 f24 f25 f26 f27 f28 f29 f30 f31 : Addr} (X : K.In h) (G : h.Ns mainGlobals mg) (hfa : mg "law" = some (.ref fa))
    {od8 od10 od12 od13 od15 od16 od18 od19 od20 od21 od22 od23 od24 od25 od26 od27 od28 od29 od30 od31 an8 an10 an12 an13 an15 an16 an18 an19 an20 an21 an22 an23 an24 an25 an26 an27 an28 an29 an30 an31 : Option Addr} {sl8 sl10 sl12 sl13 sl15 sl16 sl18 sl19 sl20 sl21 sl22 sl23 sl24 sl25 sl26 sl27 sl28 sl29 sl30 sl31 : Array (Option Value)} {oc8 oc10 oc12 oc13 oc15 oc16 oc18 oc19 oc20 oc21 oc22 oc23 oc24 oc25 oc26 oc27 oc28 oc29 oc30 oc31 kV8 kV10 kV12 kV13 kV15 kV16 kV18 kV19 kV20 kV21 kV22 kV23 kV24 kV25 kV26 kV27 kV28 kV29 kV30 kV31 dc8 dc10 dc12 dc13 dc15 dc16 dc18 dc19 dc20 dc21 dc22 dc23 dc24 dc25 dc26 dc27 dc28 dc29 dc30 dc31 pm8 pm10 pm12 pm13 pm15 pm16 pm18 pm19 pm20 pm21 pm22 pm23 pm24 pm25 pm26 pm27 pm28 pm29 pm30 pm31 cd8 cd10 cd12 cd13 cd15 cd16 cd18 cd19 cd20 cd21 cd22 cd23 cd24 cd25 cd26 cd27 cd28 cd29 cd30 cd31 ct8 ct10 ct12 ct13 ct15 ct16 ct18 ct19 ct20 ct21 ct22 ct23 ct24 ct25 ct26 ct27 ct28 ct29 ct30 ct31 : Value}
    (a8 : PySem.W.nsIn K mainGlobals "is_number" = some (some (.ref f8))) (l8 : K.lookup f8 = some ⟨oc8, od8, .func (PySem.W.fnOf "is_number" "is_number" (defArgs (topS 8)) (defBody (topS 8)) (defScope (topS 8)) .none kV8 dc8 pm8 an8 cd8 ct8), sl8⟩) (c8 : PySem.W.codeIn K cd8 "is_number" = true) (k8 : PySem.W.keepIn K (.ref f8) = true)
    (a10 : PySem.W.nsIn K mainGlobals "blocks_of" = some (some (.ref f10))) (l10 : K.lookup f10 = some ⟨oc10, od10, .func (PySem.W.fnOf "blocks_of" "blocks_of" (defArgs (topS 10)) (defBody (topS 10)) (defScope (topS 10)) .none kV10 dc10 pm10 an10 cd10 ct10), sl10⟩) (c10 : PySem.W.codeIn K cd10 "blocks_of" = true) (k10 : PySem.W.keepIn K (.ref f10) = true)
    (a12 : PySem.W.nsIn K mainGlobals "goals" = some (some (.ref f12))) (l12 : K.lookup f12 = some ⟨oc12, od12, .func (PySem.W.fnOf "goals" "goals" (defArgs (topS 12)) (defBody (topS 12)) (defScope (topS 12)) .none kV12 dc12 pm12 an12 cd12 ct12), sl12⟩) (c12 : PySem.W.codeIn K cd12 "goals" = true) (k12 : PySem.W.keepIn K (.ref f12) = true)
    (a13 : PySem.W.nsIn K mainGlobals "nexts" = some (some (.ref f13))) (l13 : K.lookup f13 = some ⟨oc13, od13, .func (PySem.W.fnOf "nexts" "nexts" (defArgs (topS 13)) (defBody (topS 13)) (defScope (topS 13)) .none kV13 dc13 pm13 an13 cd13 ct13), sl13⟩) (c13 : PySem.W.codeIn K cd13 "nexts" = true) (k13 : PySem.W.keepIn K (.ref f13) = true)
    (a15 : PySem.W.nsIn K mainGlobals "is_numbers" = some (some (.ref f15))) (l15 : K.lookup f15 = some ⟨oc15, od15, .func (PySem.W.fnOf "is_numbers" "is_numbers" (defArgs (topS 15)) (defBody (topS 15)) (defScope (topS 15)) .none kV15 dc15 pm15 an15 cd15 ct15), sl15⟩) (c15 : PySem.W.codeIn K cd15 "is_numbers" = true) (k15 : PySem.W.keepIn K (.ref f15) = true)
    (a16 : PySem.W.nsIn K mainGlobals "lets_around" = some (some (.ref f16))) (l16 : K.lookup f16 = some ⟨oc16, od16, .func (PySem.W.fnOf "lets_around" "lets_around" (defArgs (topS 16)) (defBody (topS 16)) (defScope (topS 16)) .none kV16 dc16 pm16 an16 cd16 ct16), sl16⟩) (c16 : PySem.W.codeIn K cd16 "lets_around" = true) (k16 : PySem.W.keepIn K (.ref f16) = true)
    (a18 : PySem.W.nsIn K mainGlobals "_law_feed" = some (some (.ref f18))) (l18 : K.lookup f18 = some ⟨oc18, od18, .func (PySem.W.fnOf "_law_feed" "_law_feed" (defArgs (topS 18)) (defBody (topS 18)) (defScope (topS 18)) .none kV18 dc18 pm18 an18 cd18 ct18), sl18⟩) (c18 : PySem.W.codeIn K cd18 "_law_feed" = true) (k18 : PySem.W.keepIn K (.ref f18) = true)
    (a19 : PySem.W.nsIn K mainGlobals "_law_draw" = some (some (.ref f19))) (l19 : K.lookup f19 = some ⟨oc19, od19, .func (PySem.W.fnOf "_law_draw" "_law_draw" (defArgs (topS 19)) (defBody (topS 19)) (defScope (topS 19)) .none kV19 dc19 pm19 an19 cd19 ct19), sl19⟩) (c19 : PySem.W.codeIn K cd19 "_law_draw" = true) (k19 : PySem.W.keepIn K (.ref f19) = true)
    (a20 : PySem.W.nsIn K mainGlobals "_law_bend" = some (some (.ref f20))) (l20 : K.lookup f20 = some ⟨oc20, od20, .func (PySem.W.fnOf "_law_bend" "_law_bend" (defArgs (topS 20)) (defBody (topS 20)) (defScope (topS 20)) .none kV20 dc20 pm20 an20 cd20 ct20), sl20⟩) (c20 : PySem.W.codeIn K cd20 "_law_bend" = true) (k20 : PySem.W.keepIn K (.ref f20) = true)
    (a21 : PySem.W.nsIn K mainGlobals "_law_odd" = some (some (.ref f21))) (l21 : K.lookup f21 = some ⟨oc21, od21, .func (PySem.W.fnOf "_law_odd" "_law_odd" (defArgs (topS 21)) (defBody (topS 21)) (defScope (topS 21)) .none kV21 dc21 pm21 an21 cd21 ct21), sl21⟩) (c21 : PySem.W.codeIn K cd21 "_law_odd" = true) (k21 : PySem.W.keepIn K (.ref f21) = true)
    (a22 : PySem.W.nsIn K mainGlobals "_law_number" = some (some (.ref f22))) (l22 : K.lookup f22 = some ⟨oc22, od22, .func (PySem.W.fnOf "_law_number" "_law_number" (defArgs (topS 22)) (defBody (topS 22)) (defScope (topS 22)) .none kV22 dc22 pm22 an22 cd22 ct22), sl22⟩) (c22 : PySem.W.codeIn K cd22 "_law_number" = true) (k22 : PySem.W.keepIn K (.ref f22) = true)
    (a23 : PySem.W.nsIn K mainGlobals "_law_graph" = some (some (.ref f23))) (l23 : K.lookup f23 = some ⟨oc23, od23, .func (PySem.W.fnOf "_law_graph" "_law_graph" (defArgs (topS 23)) (defBody (topS 23)) (defScope (topS 23)) .none kV23 dc23 pm23 an23 cd23 ct23), sl23⟩) (c23 : PySem.W.codeIn K cd23 "_law_graph" = true) (k23 : PySem.W.keepIn K (.ref f23) = true)
    (a24 : PySem.W.nsIn K mainGlobals "_law_arrows" = some (some (.ref f24))) (l24 : K.lookup f24 = some ⟨oc24, od24, .func (PySem.W.fnOf "_law_arrows" "_law_arrows" (defArgs (topS 24)) (defBody (topS 24)) (defScope (topS 24)) .none kV24 dc24 pm24 an24 cd24 ct24), sl24⟩) (c24 : PySem.W.codeIn K cd24 "_law_arrows" = true) (k24 : PySem.W.keepIn K (.ref f24) = true)
    (a25 : PySem.W.nsIn K mainGlobals "_law_arounded" = some (some (.ref f25))) (l25 : K.lookup f25 = some ⟨oc25, od25, .func (PySem.W.fnOf "_law_arounded" "_law_arounded" (defArgs (topS 25)) (defBody (topS 25)) (defScope (topS 25)) .none kV25 dc25 pm25 an25 cd25 ct25), sl25⟩) (c25 : PySem.W.codeIn K cd25 "_law_arounded" = true) (k25 : PySem.W.keepIn K (.ref f25) = true)
    (a26 : PySem.W.nsIn K mainGlobals "_law_said" = some (some (.ref f26))) (l26 : K.lookup f26 = some ⟨oc26, od26, .func (PySem.W.fnOf "_law_said" "_law_said" (defArgs (topS 26)) (defBody (topS 26)) (defScope (topS 26)) .none kV26 dc26 pm26 an26 cd26 ct26), sl26⟩) (c26 : PySem.W.codeIn K cd26 "_law_said" = true) (k26 : PySem.W.keepIn K (.ref f26) = true)
    (a27 : PySem.W.nsIn K mainGlobals "_law_way" = some (some (.ref f27))) (l27 : K.lookup f27 = some ⟨oc27, od27, .func (PySem.W.fnOf "_law_way" "_law_way" (defArgs (topS 27)) (defBody (topS 27)) (defScope (topS 27)) .none kV27 dc27 pm27 an27 cd27 ct27), sl27⟩) (c27 : PySem.W.codeIn K cd27 "_law_way" = true) (k27 : PySem.W.keepIn K (.ref f27) = true)
    (a28 : PySem.W.nsIn K mainGlobals "_law_things" = some (some (.ref f28))) (l28 : K.lookup f28 = some ⟨oc28, od28, .func (PySem.W.fnOf "_law_things" "_law_things" (defArgs (topS 28)) (defBody (topS 28)) (defScope (topS 28)) .none kV28 dc28 pm28 an28 cd28 ct28), sl28⟩) (c28 : PySem.W.codeIn K cd28 "_law_things" = true) (k28 : PySem.W.keepIn K (.ref f28) = true)
    (a29 : PySem.W.nsIn K mainGlobals "_law_beside" = some (some (.ref f29))) (l29 : K.lookup f29 = some ⟨oc29, od29, .func (PySem.W.fnOf "_law_beside" "_law_beside" (defArgs (topS 29)) (defBody (topS 29)) (defScope (topS 29)) .none kV29 dc29 pm29 an29 cd29 ct29), sl29⟩) (c29 : PySem.W.codeIn K cd29 "_law_beside" = true) (k29 : PySem.W.keepIn K (.ref f29) = true)
    (a30 : PySem.W.nsIn K mainGlobals "_law_other_right" = some (some (.ref f30))) (l30 : K.lookup f30 = some ⟨oc30, od30, .func (PySem.W.fnOf "_law_other_right" "_law_other_right" (defArgs (topS 30)) (defBody (topS 30)) (defScope (topS 30)) .none kV30 dc30 pm30 an30 cd30 ct30), sl30⟩) (c30 : PySem.W.codeIn K cd30 "_law_other_right" = true) (k30 : PySem.W.keepIn K (.ref f30) = true)
    (a31 : PySem.W.nsIn K mainGlobals "law" = some (some (.ref f31))) (l31 : K.lookup f31 = some ⟨oc31, od31, .func (PySem.W.fnOf "law" "law" (defArgs (topS 31)) (defBody (topS 31)) (defScope (topS 31)) .none kV31 dc31 pm31 an31 cd31 ct31), sl31⟩) (c31 : PySem.W.codeIn K cd31 "law" = true) (k31 : PySem.W.keepIn K (.ref f31) = true)
    {C_NoPaper fI_NoPaper N_NoPaper : Addr} {nm_NoPaper q_NoPaper : Str} {bs_NoPaper : List Value} {sn_NoPaper : List Str} {sub_NoPaper : List Value} {ab_NoPaper : Bool} {col_NoPaper : Option Bool} {dd_NoPaper odI_NoPaper anI_NoPaper : Option Addr} {m0_NoPaper m1_NoPaper m2_NoPaper m3_NoPaper m5_NoPaper : Option Value} {slI_NoPaper : Array (Option Value)} {ocI_NoPaper kVI_NoPaper dcI_NoPaper pmI_NoPaper cdI_NoPaper ctI_NoPaper : Value} {C_WayError : Addr} {CL CN CT : Addr}
    (aC_NoPaper : PySem.W.nsIn K mainGlobals "NoPaper" = some (some (.ref C_NoPaper)))
    (xC_NoPaper : K.lookup C_NoPaper = some (excClassObj nm_NoPaper q_NoPaper C_NoPaper N_NoPaper bs_NoPaper [.ref C_WayError, .type "ValueError", .type "Exception", .type "BaseException", .type "object"] true sn_NoPaper sub_NoPaper ab_NoPaper col_NoPaper dd_NoPaper m0_NoPaper m1_NoPaper m2_NoPaper m3_NoPaper m5_NoPaper "ValueError.__new__"))
    (sa_NoPaper : PySem.W.findIn K (.ref C_NoPaper) "__setattr__" = some (some (.builtin "object.__setattr__")))
    (eC_NoPaper : PySem.W.subIn K (.ref C_NoPaper) (.type "BaseException") = some true)
    (tC_NoPaper : PySem.W.typeIn K (.ref C_NoPaper) = some (.type "type"))
    (kC_NoPaper : PySem.W.keepIn K (.ref C_NoPaper) = true)
    (iC_NoPaper : PySem.W.findIn K (.ref C_NoPaper) "__init__" = some (some (.ref fI_NoPaper)))
    (tI_NoPaper : PySem.W.typeIn K (.ref fI_NoPaper) = some (.type "function"))
    (no_NoPaper_word : PySem.W.findIn K (.ref C_NoPaper) "word" = some none)
    (no_NoPaper_at : PySem.W.findIn K (.ref C_NoPaper) "at" = some none)
    (lI_NoPaper : K.lookup fI_NoPaper = some ⟨ocI_NoPaper, odI_NoPaper, .func (PySem.W.fnOf "__init__" "NoPaper.__init__" (defArgs (mthS 3 0)) (defBody (mthS 3 0)) (defScope (mthS 3 0)) .none kVI_NoPaper dcI_NoPaper pmI_NoPaper anI_NoPaper cdI_NoPaper ctI_NoPaper), slI_NoPaper⟩)
    (cI_NoPaper : PySem.W.codeIn K cdI_NoPaper "NoPaper.__init__" = true)
    (kI_NoPaper : PySem.W.keepIn K (.ref fI_NoPaper) = true)
    (aW : PySem.W.nsIn K mainGlobals "WayError" = some (some (.ref C_WayError)))
    (aL : PySem.W.nsIn K mainGlobals "LostError" = some (some (.ref CL)))
    (aN : PySem.W.nsIn K mainGlobals "NoCode" = some (some (.ref CN)))
    (aT : PySem.W.nsIn K mainGlobals "NoTurning" = some (some (.ref CT)))
    (eW : PySem.W.subIn K (.ref C_WayError) (.type "BaseException") = some true)
    (hW : PySem.W.hasDictIn K C_WayError = true)
    (tW : PySem.W.typeIn K (.ref C_WayError) = some (.type "type"))
    (sCW : PySem.W.subIn K (.ref C_NoPaper) (.ref C_WayError) = some true)
    (sCC : PySem.W.subIn K (.ref C_NoPaper) (.ref C_NoPaper) = some true)
    (k2 : PySem.W.kitOne K (.ref C_NoPaper) (.type "ValueError") = some true)
    (k3 : PySem.W.kitAny K (.ref C_NoPaper) [.ref CL, .ref CN, .ref CT] = some false)
    (ga : PySem.W.findIn K (.ref C_NoPaper) "__getattribute__" = some (some (.builtin "BaseException.__getattribute__")))
    (gg : PySem.W.findIn K (.ref C_NoPaper) "__getattr__" = some none)
    (hC : PySem.W.hasDictIn K C_NoPaper = true)
    (clC : PySem.W.isClsIn K C_NoPaper = true)
    (cA : PySem.W.findIn K (.ref C_NoPaper) "__class__" = some (some (.builtin "object.__class__")))
    (sg : PySem.W.specialIn K (.builtin "object.__class__") "__get__" = some (some (.builtin "getset_descriptor.__get__")))
    (tk : PySem.W.takesIn K (.builtin "object.__class__") = some true)
    (mo : PySem.W.mroIn K C_NoPaper (.type "object") = some true)
    (z0 : PySem.W.nsIn K mainGlobals "ValueError" = some none) (z1 : PySem.W.nsIn K mainGlobals "all" = some none) (z2 : PySem.W.nsIn K mainGlobals "bool" = some none) (z3 : PySem.W.nsIn K mainGlobals "enumerate" = some none) (z4 : PySem.W.nsIn K mainGlobals "int" = some none) (z5 : PySem.W.nsIn K mainGlobals "isinstance" = some none) (z6 : PySem.W.nsIn K mainGlobals "len" = some none) (z7 : PySem.W.nsIn K mainGlobals "list" = some none) (z8 : PySem.W.nsIn K mainGlobals "range" = some none) (z9 : PySem.W.nsIn K mainGlobals "repr" = some none) (z10 : PySem.W.nsIn K mainGlobals "set" = some none) (z11 : PySem.W.nsIn K mainGlobals "sorted" = some none) (z12 : PySem.W.nsIn K mainGlobals "str" = some none) (z13 : PySem.W.nsIn K mainGlobals "tuple" = some none) :
    ∃ fd : FuncData, (∀ (s : Shared) (v : Value), BindsTo s fd ⟨[v], []⟩ [("_law_script", v)]) ∧ ∀ base : Heap, K.In base → base.Ns mainGlobals mg → FnD l.prog w K mg base 9 fa fd ["_law_script"] (G_law_k13 G_law_draw_k01) := by
  have e := hfa.symm.trans (PySem.W.mg_of X G a31)
  cases e
  have B : Bn mg := ⟨PySem.W.mg_none_of X G z0, PySem.W.mg_none_of X G z1, PySem.W.mg_none_of X G z2, PySem.W.mg_none_of X G z3, PySem.W.mg_none_of X G z4, PySem.W.mg_none_of X G z5, PySem.W.mg_none_of X G z6, PySem.W.mg_none_of X G z7, PySem.W.mg_none_of X G z8, PySem.W.mg_none_of X G z9, PySem.W.mg_none_of X G z10, PySem.W.mg_none_of X G z11, PySem.W.mg_none_of X G z12, PySem.W.mg_none_of X G z13⟩
  have F8 := fun_mk (st := topS 8) l8 c8 k8
  have D8 : Df K mg "is_number" (topS 8) ["thing"] f8 _ := ⟨F8, F8.binds (ps := ["thing"]) fun _ _ _ _ _ _ us hl => match us, hl with | [_], _ => rfl, PySem.W.mg_of X G a8⟩
  have F10 := fun_mk (st := topS 10) l10 c10 k10
  have D10 : Df K mg "blocks_of" (topS 10) ["code", "name"] f10 _ := ⟨F10, F10.binds (ps := ["code", "name"]) fun _ _ _ _ _ _ us hl => match us, hl with | [_, _], _ => rfl, PySem.W.mg_of X G a10⟩
  have F12 := fun_mk (st := topS 12) l12 c12 k12
  have D12 : Df K mg "goals" (topS 12) ["end"] f12 _ := ⟨F12, F12.binds (ps := ["end"]) fun _ _ _ _ _ _ us hl => match us, hl with | [_], _ => rfl, PySem.W.mg_of X G a12⟩
  have F13 := fun_mk (st := topS 13) l13 c13 k13
  have D13 : Df K mg "nexts" (topS 13) ["code", "name", "block"] f13 _ := ⟨F13, F13.binds (ps := ["code", "name", "block"]) fun _ _ _ _ _ _ us hl => match us, hl with | [_, _, _], _ => rfl, PySem.W.mg_of X G a13⟩
  have F15 := fun_mk (st := topS 15) l15 c15 k15
  have D15 : Df K mg "is_numbers" (topS 15) ["thing"] f15 _ := ⟨F15, F15.binds (ps := ["thing"]) fun _ _ _ _ _ _ us hl => match us, hl with | [_], _ => rfl, PySem.W.mg_of X G a15⟩
  have F16 := fun_mk (st := topS 16) l16 c16 k16
  have D16 : Df K mg "lets_around" (topS 16) ["code", "name", "over", "under", "thing"] f16 _ := ⟨F16, F16.binds (ps := ["code", "name", "over", "under", "thing"]) fun _ _ _ _ _ _ us hl => match us, hl with | [_, _, _, _, _], _ => rfl, PySem.W.mg_of X G a16⟩
  have F18 := fun_mk (st := topS 18) l18 c18 k18
  have D18 : Df K mg "_law_feed" (topS 18) ["_law_script"] f18 _ := ⟨F18, F18.binds (ps := ["_law_script"]) fun _ _ _ _ _ _ us hl => match us, hl with | [_], _ => rfl, PySem.W.mg_of X G a18⟩
  have F19 := fun_mk (st := topS 19) l19 c19 k19
  have D19 : Df K mg "_law_draw" (topS 19) ["_law_feed_here", "_law_many"] f19 _ := ⟨F19, F19.binds (ps := ["_law_feed_here", "_law_many"]) fun _ _ _ _ _ _ us hl => match us, hl with | [_, _], _ => rfl, PySem.W.mg_of X G a19⟩
  have F20 := fun_mk (st := topS 20) l20 c20 k20
  have D20 : Df K mg "_law_bend" (topS 20) ["_law_feed_here", "_law_thing", "_law_odd_here"] f20 _ := ⟨F20, F20.binds (ps := ["_law_feed_here", "_law_thing", "_law_odd_here"]) fun _ _ _ _ _ _ us hl => match us, hl with | [_, _, _], _ => rfl, PySem.W.mg_of X G a20⟩
  have F21 := fun_mk (st := topS 21) l21 c21 k21
  have D21 : Df K mg "_law_odd" (topS 21) [] f21 _ := ⟨F21, F21.binds (ps := []) fun _ _ _ _ _ _ us hl => match us, hl with | [], _ => rfl, PySem.W.mg_of X G a21⟩
  have F22 := fun_mk (st := topS 22) l22 c22 k22
  have D22 : Df K mg "_law_number" (topS 22) ["_law_thing"] f22 _ := ⟨F22, F22.binds (ps := ["_law_thing"]) fun _ _ _ _ _ _ us hl => match us, hl with | [_], _ => rfl, PySem.W.mg_of X G a22⟩
  have F23 := fun_mk (st := topS 23) l23 c23 k23
  have D23 : Df K mg "_law_graph" (topS 23) ["_law_feed_here", "_law_most"] f23 _ := ⟨F23, F23.binds (ps := ["_law_feed_here", "_law_most"]) fun _ _ _ _ _ _ us hl => match us, hl with | [_, _], _ => rfl, PySem.W.mg_of X G a23⟩
  have F24 := fun_mk (st := topS 24) l24 c24 k24
  have D24 : Df K mg "_law_arrows" (topS 24) ["_law_code"] f24 _ := ⟨F24, F24.binds (ps := ["_law_code"]) fun _ _ _ _ _ _ us hl => match us, hl with | [_], _ => rfl, PySem.W.mg_of X G a24⟩
  have F25 := fun_mk (st := topS 25) l25 c25 k25
  have D25 : Df K mg "_law_arounded" (topS 25) ["_law_arrows_here", "_law_over", "_law_under", "_law_thing"] f25 _ := ⟨F25, F25.binds (ps := ["_law_arrows_here", "_law_over", "_law_under", "_law_thing"]) fun _ _ _ _ _ _ us hl => match us, hl with | [_, _, _, _], _ => rfl, PySem.W.mg_of X G a25⟩
  have F26 := fun_mk (st := topS 26) l26 c26 k26
  have D26 : Df K mg "_law_said" (topS 26) ["_law_code", "_law_over", "_law_under", "_law_thing"] f26 _ := ⟨F26, F26.binds (ps := ["_law_code", "_law_over", "_law_under", "_law_thing"]) fun _ _ _ _ _ _ us hl => match us, hl with | [_, _, _, _], _ => rfl, PySem.W.mg_of X G a26⟩
  have F27 := fun_mk (st := topS 27) l27 c27 k27
  have D27 : Df K mg "_law_way" (topS 27) ["_law_feed_here", "_law_arrows_here"] f27 _ := ⟨F27, F27.binds (ps := ["_law_feed_here", "_law_arrows_here"]) fun _ _ _ _ _ _ us hl => match us, hl with | [_, _], _ => rfl, PySem.W.mg_of X G a27⟩
  have F28 := fun_mk (st := topS 28) l28 c28 k28
  have D28 : Df K mg "_law_things" (topS 28) ["_law_feed_here", "_law_arrows_here"] f28 _ := ⟨F28, F28.binds (ps := ["_law_feed_here", "_law_arrows_here"]) fun _ _ _ _ _ _ us hl => match us, hl with | [_, _], _ => rfl, PySem.W.mg_of X G a28⟩
  have F29 := fun_mk (st := topS 29) l29 c29 k29
  have D29 : Df K mg "_law_beside" (topS 29) ["_law_code"] f29 _ := ⟨F29, F29.binds (ps := ["_law_code"]) fun _ _ _ _ _ _ us hl => match us, hl with | [_], _ => rfl, PySem.W.mg_of X G a29⟩
  have F30 := fun_mk (st := topS 30) l30 c30 k30
  have D30 : Df K mg "_law_other_right" (topS 30) [] f30 _ := ⟨F30, F30.binds (ps := []) fun _ _ _ _ _ _ us hl => match us, hl with | [], _ => rfl, PySem.W.mg_of X G a30⟩
  have F31 := fun_mk (st := topS 31) l31 c31 k31
  have D31 : Df K mg "law" (topS 31) ["_law_script"] fa _ := ⟨F31, F31.binds (ps := ["_law_script"]) fun _ _ _ _ _ _ us hl => match us, hl with | [_], _ => rfl, PySem.W.mg_of X G a31⟩
  refine ⟨PySem.W.fnOf "law" "law" (defArgs (topS 31)) (defBody (topS 31)) (defScope (topS 31)) .none kV31 dc31 pm31 an31 cd31 ct31, fun s v => .of_eq rfl, fun base _ _ => ?_⟩
  have FI_NoPaper := fun_mk (st := mthS 3 0) lI_NoPaper cI_NoPaper kI_NoPaper
  have bI_NoPaper := FI_NoPaper.binds (ps := ["self", "word", "at"]) fun _ _ _ _ _ _ us hl => match us, hl with | [_, _, _], _ => rfl
  have M_NoPaper : Mk2 K mg "NoPaper" "word" "at" C_NoPaper fI_NoPaper := ⟨⟨⟨nm_NoPaper, q_NoPaper, N_NoPaper, bs_NoPaper, _, sn_NoPaper, sub_NoPaper, ab_NoPaper, col_NoPaper, dd_NoPaper, m0_NoPaper, m1_NoPaper, m2_NoPaper, m3_NoPaper, m5_NoPaper, xC_NoPaper, by rfl⟩, sa_NoPaper, eC_NoPaper, tC_NoPaper, kC_NoPaper⟩, PySem.W.mg_of X G aC_NoPaper, iC_NoPaper, tI_NoPaper, no_NoPaper_word, no_NoPaper_at⟩
  have I_NoPaper := okI_NoPaper (P := l.prog) (w := w) (base := base) M_NoPaper FI_NoPaper
  have T : PapX K mg C_NoPaper C_WayError CL CN CT := ⟨PySem.W.mg_of X G aC_NoPaper, PySem.W.mg_of X G aC_NoPaper, PySem.W.mg_of X G aW, PySem.W.mg_of X G aL, PySem.W.mg_of X G aN, PySem.W.mg_of X G aT, T_take (PySem.W.mg_of X G aC_NoPaper) (PySem.W.exm_ref eW hW tW sCW), T_take (PySem.W.mg_of X G aC_NoPaper) (PySem.W.exm_ref eC_NoPaper hC tC_NoPaper sCC), by unfold PySem.W.kitOne; rw [if_pos (beq_self_eq_true _)], k2, k3, ⟨ga, gg, eC_NoPaper, hC⟩, ⟨clC, ga, gg, eC_NoPaper, cA, sg, tk, mo⟩, no_NoPaper_word, no_NoPaper_at⟩
  have G8 : FnD l.prog w K mg base 1 f8 _ ["thing"] (G_is_number) := ok_is_number (k := 0) (P := l.prog) (w := w) (base := base) D8 B
  have G10 : FnD l.prog w K mg base 1 f10 _ ["code", "name"] (G_blocks_of) := ok_blocks_of (k := 0) (P := l.prog) (w := w) (base := base) D10 B
  have G12 : FnD l.prog w K mg base 1 f12 _ ["end"] (G_goals) := ok_goals (k := 0) (P := l.prog) (w := w) (base := base) D12 B
  have G13 : FnD l.prog w K mg base 2 f13 _ ["code", "name", "block"] (G_nexts) := ok_nexts (k := 1) (P := l.prog) (w := w) (base := base) D13 D10 G10 (by decide) D12 G12 (by decide) B
  have G15 : FnD l.prog w K mg base 2 f15 _ ["thing"] (G_is_numbers) := ok_is_numbers (k := 1) (P := l.prog) (w := w) (base := base) D15 D8 G8 (by decide) B
  have G16 : FnD l.prog w K mg base 3 f16 _ ["code", "name", "over", "under", "thing"] (G_lets_around) := ok_lets_around (k := 2) (P := l.prog) (w := w) (base := base) D16 D15 G15 (by decide) D13 G13 (by decide) B M_NoPaper I_NoPaper bI_NoPaper (by decide)
  have G18 : FnD l.prog w K mg base 1 f18 _ ["_law_script"] (G_law_feed_k01) := ok_law_feed_k01 (k := 0) (P := l.prog) (w := w) (base := base) D18 B
  have G19 : FnD l.prog w K mg base 1 f19 _ ["_law_feed_here", "_law_many"] (G_law_draw_k01) := ok_law_draw_k01 (k := 0) (P := l.prog) (w := w) (base := base) D19 B
  have G20 : ∀ n, FnD l.prog w K mg base (1 + n) f20 (PySem.W.fnOf "_law_bend" "_law_bend" (defArgs (topS 20)) (defBody (topS 20)) (defScope (topS 20)) .none kV20 dc20 pm20 an20 cd20 ct20) ["_law_feed_here", "_law_thing", "_law_odd_here"] (G_law_bend_k13 G_law_draw_k01 n) := by
    intro n
    induction n with
    | zero => exact FnD.bad
    | succ n ih => exact ok_law_bend_k13 (k := 1 + n) (P := l.prog) (w := w) (base := base) D20 D19 G19 (by omega) D20 ih (Nat.le_refl _) B
  have G21 : FnD l.prog w K mg base 1 f21 _ [] (G_law_odd_k01) := ok_law_odd_k01 (k := 0) (P := l.prog) (w := w) (base := base) D21 B
  have G22 : FnD l.prog w K mg base 1 f22 _ ["_law_thing"] (G_law_number_k01) := ok_law_number_k01 (k := 0) (P := l.prog) (w := w) (base := base) D22 B
  have G23 : FnD l.prog w K mg base 2 f23 _ ["_law_feed_here", "_law_most"] (G_law_graph G_law_draw_k01) := ok_law_graph (k := 1) (P := l.prog) (w := w) (base := base) D23 D19 G19 (by decide) B
  have G24 : FnD l.prog w K mg base 1 f24 _ ["_law_code"] (G_law_arrows) := ok_law_arrows (k := 0) (P := l.prog) (w := w) (base := base) D24 B
  have G25 : FnD l.prog w K mg base 2 f25 _ ["_law_arrows_here", "_law_over", "_law_under", "_law_thing"] (G_law_arounded_k13) := ok_law_arounded_k13 (k := 1) (P := l.prog) (w := w) (base := base) D25 D22 G22 (by decide) B
  have G26 : FnD l.prog w K mg base 4 f26 _ ["_law_code", "_law_over", "_law_under", "_law_thing"] (G_law_said_k13) := ok_law_said_k13 (k := 3) (P := l.prog) (w := w) (base := base) D26 D16 G16 (by decide) B T
  have G27 : FnD l.prog w K mg base 2 f27 _ ["_law_feed_here", "_law_arrows_here"] (G_law_way_k13 G_law_draw_k01) := ok_law_way_k13 (k := 1) (P := l.prog) (w := w) (base := base) D27 D19 G19 (by decide) B
  have G28 : FnD l.prog w K mg base 8 f28 _ ["_law_feed_here", "_law_arrows_here"] (G_law_things_k13 G_law_draw_k01) := ok_law_things_k13 (k := 7) (P := l.prog) (w := w) (base := base) D28 D27 G27 (by decide) D19 G19 (by decide) D20 (G20 6) (by decide) D21 G21 (by decide) B
  have G29 : FnD l.prog w K mg base 1 f29 _ ["_law_code"] (G_law_beside) := ok_law_beside (k := 0) (P := l.prog) (w := w) (base := base) D29 B
  have G30 : FnD l.prog w K mg base 4 f30 _ [] (G_law_other_right_k13) := ok_law_other_right_k13 (k := 3) (P := l.prog) (w := w) (base := base) D30 D16 G16 (by decide) D29 G29 (by decide) D25 G25 (by decide) D24 G24 (by decide) B T
  have G31 : FnD l.prog w K mg base 9 fa _ ["_law_script"] (G_law_k13 G_law_draw_k01) := ok_law_k13 (k := 8) (P := l.prog) (w := w) (base := base) D31 D18 G18 (by decide) D30 G30 (by decide) D23 G23 (by decide) D24 G24 (by decide) D28 G28 (by decide) D26 G26 (by decide) D25 G25 (by decide) B
  exact G31
end Pm
open PySem PySem.W PyProof.Rows
set_option maxRecDepth 100000 in
set_option maxHeartbeats 0 in
theorem PySem.Challenge.cw_storeways_k13_arounds_judged_holds : PySem.Challenge.rw_storeways_k13_arounds_judged.Holds := by
  w_on; o_law; k_head; (case hw => w_witness2)
  k_fill
  refine Pm.walkD (l := PySem.Challenge.rw_storeways_k13_arounds_judged) (n := 63) (k := 9) (x := "_law_script") (g := Pm.G_law_k13 Pm.G_law_draw_k01) rfl (by decide) rfl ⟨rfl, by decide, by decide⟩ (fun w h Y => PySem.W.kIn_of Y) ?F Pm.law_k13_true
  case F =>
    intro w mg fa h KX G hmg
    refine' Pm.all_mk KX G hmg ?a8 ?l8 ?c8 ?k8 ?a10 ?l10 ?c10 ?k10 ?a12 ?l12 ?c12 ?k12 ?a13 ?l13 ?c13 ?k13 ?a15 ?l15 ?c15 ?k15 ?a16 ?l16 ?c16 ?k16 ?a18 ?l18 ?c18 ?k18 ?a19 ?l19 ?c19 ?k19 ?a20 ?l20 ?c20 ?k20 ?a21 ?l21 ?c21 ?k21 ?a22 ?l22 ?c22 ?k22 ?a23 ?l23 ?c23 ?k23 ?a24 ?l24 ?c24 ?k24 ?a25 ?l25 ?c25 ?k25 ?a26 ?l26 ?c26 ?k26 ?a27 ?l27 ?c27 ?k27 ?a28 ?l28 ?c28 ?k28 ?a29 ?l29 ?c29 ?k29 ?a30 ?l30 ?c30 ?k30 ?a31 ?l31 ?c31 ?k31 ?aC_NoPaper ?xC_NoPaper ?sa_NoPaper ?eC_NoPaper ?tC_NoPaper ?kC_NoPaper ?iC_NoPaper ?tI_NoPaper ?no_NoPaper_word ?no_NoPaper_at ?lI_NoPaper ?cI_NoPaper ?kI_NoPaper ?aW ?aL ?aN ?aT ?eW ?hW ?tW ?sCW ?sCC ?k2 ?k3 ?ga ?gg ?hC ?clC ?cA ?sg ?tk ?mo ?z0 ?z1 ?z2 ?z3 ?z4 ?z5 ?z6 ?z7 ?z8 ?z9 ?z10 ?z11 ?z12 ?z13
    (case a8 => first | k_is | rfl | decide +kernel); (case l8 => first | k_is | rfl | decide +kernel); (case c8 => first | k_is | rfl | decide +kernel); (case k8 => first | k_is | rfl | decide +kernel); (case a10 => first | k_is | rfl | decide +kernel); (case l10 => first | k_is | rfl | decide +kernel); (case c10 => first | k_is | rfl | decide +kernel); (case k10 => first | k_is | rfl | decide +kernel)
    (case a12 => first | k_is | rfl | decide +kernel); (case l12 => first | k_is | rfl | decide +kernel); (case c12 => first | k_is | rfl | decide +kernel); (case k12 => first | k_is | rfl | decide +kernel); (case a13 => first | k_is | rfl | decide +kernel); (case l13 => first | k_is | rfl | decide +kernel); (case c13 => first | k_is | rfl | decide +kernel); (case k13 => first | k_is | rfl | decide +kernel)
    (case a15 => first | k_is | rfl | decide +kernel); (case l15 => first | k_is | rfl | decide +kernel); (case c15 => first | k_is | rfl | decide +kernel); (case k15 => first | k_is | rfl | decide +kernel); (case a16 => first | k_is | rfl | decide +kernel); (case l16 => first | k_is | rfl | decide +kernel); (case c16 => first | k_is | rfl | decide +kernel); (case k16 => first | k_is | rfl | decide +kernel)
    (case a18 => first | k_is | rfl | decide +kernel); (case l18 => first | k_is | rfl | decide +kernel); (case c18 => first | k_is | rfl | decide +kernel); (case k18 => first | k_is | rfl | decide +kernel); (case a19 => first | k_is | rfl | decide +kernel); (case l19 => first | k_is | rfl | decide +kernel); (case c19 => first | k_is | rfl | decide +kernel); (case k19 => first | k_is | rfl | decide +kernel)
    (case a20 => first | k_is | rfl | decide +kernel); (case l20 => first | k_is | rfl | decide +kernel); (case c20 => first | k_is | rfl | decide +kernel); (case k20 => first | k_is | rfl | decide +kernel); (case a21 => first | k_is | rfl | decide +kernel); (case l21 => first | k_is | rfl | decide +kernel); (case c21 => first | k_is | rfl | decide +kernel); (case k21 => first | k_is | rfl | decide +kernel)
    (case a22 => first | k_is | rfl | decide +kernel); (case l22 => first | k_is | rfl | decide +kernel); (case c22 => first | k_is | rfl | decide +kernel); (case k22 => first | k_is | rfl | decide +kernel); (case a23 => first | k_is | rfl | decide +kernel); (case l23 => first | k_is | rfl | decide +kernel); (case c23 => first | k_is | rfl | decide +kernel); (case k23 => first | k_is | rfl | decide +kernel)
    (case a24 => first | k_is | rfl | decide +kernel); (case l24 => first | k_is | rfl | decide +kernel); (case c24 => first | k_is | rfl | decide +kernel); (case k24 => first | k_is | rfl | decide +kernel); (case a25 => first | k_is | rfl | decide +kernel); (case l25 => first | k_is | rfl | decide +kernel); (case c25 => first | k_is | rfl | decide +kernel); (case k25 => first | k_is | rfl | decide +kernel)
    (case a26 => first | k_is | rfl | decide +kernel); (case l26 => first | k_is | rfl | decide +kernel); (case c26 => first | k_is | rfl | decide +kernel); (case k26 => first | k_is | rfl | decide +kernel); (case a27 => first | k_is | rfl | decide +kernel); (case l27 => first | k_is | rfl | decide +kernel); (case c27 => first | k_is | rfl | decide +kernel); (case k27 => first | k_is | rfl | decide +kernel)
    (case a28 => first | k_is | rfl | decide +kernel); (case l28 => first | k_is | rfl | decide +kernel); (case c28 => first | k_is | rfl | decide +kernel); (case k28 => first | k_is | rfl | decide +kernel); (case a29 => first | k_is | rfl | decide +kernel); (case l29 => first | k_is | rfl | decide +kernel); (case c29 => first | k_is | rfl | decide +kernel); (case k29 => first | k_is | rfl | decide +kernel)
    (case a30 => first | k_is | rfl | decide +kernel); (case l30 => first | k_is | rfl | decide +kernel); (case c30 => first | k_is | rfl | decide +kernel); (case k30 => first | k_is | rfl | decide +kernel); (case a31 => first | k_is | rfl | decide +kernel); (case l31 => first | k_is | rfl | decide +kernel); (case c31 => first | k_is | rfl | decide +kernel); (case k31 => first | k_is | rfl | decide +kernel)
    (case aC_NoPaper => first | k_is | rfl | decide +kernel); (case xC_NoPaper => first | k_is | rfl | decide +kernel); (case sa_NoPaper => first | k_is | rfl | decide +kernel); (case eC_NoPaper => first | k_is | rfl | decide +kernel); (case tC_NoPaper => first | k_is | rfl | decide +kernel); (case kC_NoPaper => first | k_is | rfl | decide +kernel); (case iC_NoPaper => first | k_is | rfl | decide +kernel); (case tI_NoPaper => first | k_is | rfl | decide +kernel)
    (case no_NoPaper_word => first | k_is | rfl | decide +kernel); (case no_NoPaper_at => first | k_is | rfl | decide +kernel); (case lI_NoPaper => first | k_is | rfl | decide +kernel); (case cI_NoPaper => first | k_is | rfl | decide +kernel); (case kI_NoPaper => first | k_is | rfl | decide +kernel); (case aW => first | k_is | rfl | decide +kernel); (case aL => first | k_is | rfl | decide +kernel); (case aN => first | k_is | rfl | decide +kernel)
    (case aT => first | k_is | rfl | decide +kernel); (case eW => first | k_is | rfl | decide +kernel); (case hW => first | k_is | rfl | decide +kernel); (case tW => first | k_is | rfl | decide +kernel); (case sCW => first | k_is | rfl | decide +kernel); (case sCC => first | k_is | rfl | decide +kernel); (case k2 => first | k_is | rfl | decide +kernel); (case k3 => first | k_is | rfl | decide +kernel)
    (case ga => first | k_is | rfl | decide +kernel); (case gg => first | k_is | rfl | decide +kernel); (case hC => first | k_is | rfl | decide +kernel); (case clC => first | k_is | rfl | decide +kernel); (case cA => first | k_is | rfl | decide +kernel); (case sg => first | k_is | rfl | decide +kernel); (case tk => first | k_is | rfl | decide +kernel); (case mo => first | k_is | rfl | decide +kernel)
    (case z0 => first | k_is | rfl | decide +kernel); (case z1 => first | k_is | rfl | decide +kernel); (case z2 => first | k_is | rfl | decide +kernel); (case z3 => first | k_is | rfl | decide +kernel); (case z4 => first | k_is | rfl | decide +kernel); (case z5 => first | k_is | rfl | decide +kernel); (case z6 => first | k_is | rfl | decide +kernel); (case z7 => first | k_is | rfl | decide +kernel)
    (case z8 => first | k_is | rfl | decide +kernel); (case z9 => first | k_is | rfl | decide +kernel); (case z10 => first | k_is | rfl | decide +kernel); (case z11 => first | k_is | rfl | decide +kernel); (case z12 => first | k_is | rfl | decide +kernel); (case z13 => first | k_is | rfl | decide +kernel)
