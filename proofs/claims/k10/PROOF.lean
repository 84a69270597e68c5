import PyProof.Rows.All
import Wide.All
import OpenK.AllK
import Wide.FinOn
import HandS.ForMost
import HandS.IsInst
import HandS.EndBits
import PyProof.ReprRoads
import HandS.Walk
import HandS.TupAny
import HandS.Style
import HandS.Zip
import HandS.Codes
import HandS.Set
import HandS.SetFor
import PyProof.Rows.SortShellAny
import HandS.Flow
import HandS.More
import HandS.Strs
import HandS.Evl
import PyProof.P3Eq
import HandS.DictComp
import HandS.Iter
import HandS.AnyAll
import HandS.Conv
import PySem.Challenge.RW_storeways_k10_nearest_and_frontiers
set_option Elab.async false
set_option linter.all false
set_option maxRecDepth 100000
set_option maxHeartbeats 4000000
namespace Sw
open PySem PySem.Spec PyProof.Rows L2

/-- repr of data at a place, where no repr is under way -/
def rRepr (K : PySem.W.Frag) : List V → Hp → VK → Prop := fun xs H Q =>
  ∃ (a : Addr) (d : PyData), xs = [.ref a] ∧ Dp K H (.ref a) d ∧ d.showable = true ∧ d.hasDict = false ∧ d.depth ≤ 60 ∧ d.shown.length ≤ sizeLine ∧ Q (.str d.shown) H
theorem call_repr {X : Cx} (hg : X.A.guards = some []) (hu : X.A.units + 64 < cLine) : CallR X (.builtin "repr") (rRepr X.K) := by
  intro pins s σ H xs us Q I r h
  obtain ⟨a, d, rfl, hd, h1, h2, h3, h4, q⟩ := h
  cases r with
  | cons r0 r1 =>
    cases r1
    cases (show _ = Value.ref a from r0)
    obtain ⟨as, rd⟩ := Dp.reads I d _ _ hd rfl
    exact repr_of_reads' rd h1 (PyData.noDict_hsm h2) hg (by omega) (fun b o e => e) (fun h' u tk k => ⟨.str d.shown, H, I.kept k, ⟨u, rfl⟩, q⟩) h4

/-- a promise that is kept where no repr is under way -/
structure FnG (P : Program) (w : World) (K : PySem.W.Frag) (mg : Str → Option Value) (base : Heap) (k : Nat) (f : Addr) (fd : FuncData) (ps : List Str) (sp : Sp) : Prop where
  size : ∀ vs H Q E, sp vs H Q E → vs.length = ps.length
  goes : ∀ (A : Around) (outer : List Env) (s : Shared) (H : Hp) (args : Args) (us : List Value) (vs : List V) (Q : VK) (E : XK), A.guards = some [] →
    Room k A → Env0 P w K mg base A outer s H → BindsTo s fd args (ps.zip us) → Vals vs us → sp vs H Q E → codeAny (model P w) A (.call (.ref f) args) (CR CX0 outer P w H s Q E) s
section
variable {P : Program} {w : World} {K : PySem.W.Frag} {mg : Str → Option Value} {base : Heap}
theorem fun_okG {x qual : Str} {st : Stmt} {f : Addr} {fd : FuncData} {N ps : List Str} {k : Nat} {sp : Sp} (F : Fun K x qual st f fd) (S : FnScope N ps (defScope st))
    (len : ∀ vs H Q E, sp vs H Q E → vs.length = ps.length)
    (hb : ∀ (cdv : Value) (A : Around) (outer : List Env) (s : Shared) (H : Hp) (vs : List V) (Q : VK) (E : XK), A.guards = some [] → Room k (A.deeper (envOfC qual (defScope st) s.heap.objs.size f cdv)) → sp vs H Q E →
      ∃ t, PSs (cxOf CX0 P w K mg base N qual (defScope st) f cdv A outer s H E).nox (defBody st) t ∧
        t { nx := fun _ H' => Q .non H', rt := Q } (start N vs) H) : FnG P w K mg base (k + 1) f fd ps sp := by
  refine ⟨len, fun A outer s H args us vs Q E hg => ?_⟩
  obtain ⟨oc, od, kV, doc, pm, an, cdv, ct, osl, rfl, lk, hcd⟩ := F.ex
  intro hr e0 bd r hsp
  obtain ⟨t, ht0, hq⟩ := hb cdv A outer s H vs Q E hg (hr.deeper _) hsp
  have ht := ht0.nox
  have kin : K.In s.heap := e0.mod.kin.keeps fun b o e => (e0.bs b o e).1
  refine codeAny_call_function hr.depth (kin _ _ lk) rfl S.co S.gen rfl (PySem.W.codeRec_of kin hcd) (bd _ _ _ _ ?_)
  refine wpAny_newFunctionEnv_cells S.kind ?_ fun env he s1 x => ?_
  · rintro ⟨n, v⟩ hy
    rcases S.par n (List.of_mem_zip hy).1 with q | q
    · exact .inl q
    · exact .inr ⟨q, PySem.W.cellsFrom_some _ _ _ (.inl q)⟩
  · subst he
    refine ⟨(e0.mod.nolimit.keeps fun b o e => (e0.bs b o e).1).keeps x.toInCall.keep, codeAny_func ?_⟩
    refine wpAny_mono (ht.run [] s1 (start N vs) H _ (inv_start S hr.hd e0 (len _ _ _ _ hsp) r x) hq) (fun fl s' hs => ?_) fun e s' hs => hs
    cases fl with
    | ret u =>
      obtain ⟨v, σ', H', J, rv, q⟩ := hs
      exact ⟨v, H', J.os, J.bare, J.base, J.hok, rv, q⟩
    | next =>
      obtain ⟨σ', H', J, q⟩ := hs
      exact ⟨V.non, H', J.os, J.bare, J.base, J.hok, rfl, q⟩
    | brk =>
      obtain ⟨_, _, _, q⟩ := hs
      exact q.elim
    | cont =>
      obtain ⟨_, _, _, q⟩ := hs
      exact q.elim
end
/-- the law's own call, from the promise of its def: the script is locked, or it is one of the module's own objects -/
theorem law_goes {P : Program} {w : World} {K : PySem.W.Frag} {mg mb : Str → Option Value} {k : Nat} {fa a : Addr} {fd : FuncData} {x : Str} {sp : Sp} {s : Shared} {vs : List Value} {ns : List Int}
    (kin : K.In s.heap) (g : s.heap.Ns mainGlobals mg) (b : s.heap.Ns builtinsNs mb) (hbb : ∀ y : Str, y ≠ "__name__" → mb y = bootBuiltins y) (nl : s.heap.NoLimit) (gn : s.gens = #[])
    (ha : s.heap.get? a = some { cls := .type "list", data := .seq vs.toArray }) (hi : IntsAre vs ns) (hl : ns.length ≤ sizeLine) (hr : Room k callerA)
    (F : ∀ base : Heap, K.In base → base.Ns mainGlobals mg → FnG P w K mg base k fa fd [x] sp) (bd : ∀ (s : Shared) (u : Value), BindsTo s fd ⟨[u], []⟩ [(x, u)])
    (hsp : ∀ H : Hp, SqL K H a (ns.map V.int) → sp [.ref a] H (fun v _ => v = .bl true) fun _ _ _ => False) :
    codeAny (model P w) callerA (.call (.ref fa) ⟨[.ref a], []⟩) (fun r s' => r = .ok (.ret (.bool true)) ∧ OldK s.heap s'.heap ∧ s'.os = s.os ∧ AllBare s'.gens) s := by
  have rv := vals_ints hi
  have step : ∀ H : Hp, SqL K H a (ns.map V.int) → HOk P w H s.heap → (∀ c u, H c = some u → c = a ∧ u = .frz { cls := .type "list", data := .seq vs.toArray } (.lst (ns.map V.int)) ∧ K.lookup a = none) →
      codeAny (model P w) callerA (.call (.ref fa) ⟨[.ref a], []⟩) (fun r s' => r = .ok (.ret (.bool true)) ∧ OldK s.heap s'.heap ∧ s'.os = s.os ∧ AllBare s'.gens) s := by
    intro H hS hok only
    have dictFree : ∀ {c : Addr} {o : Obj} {es : Array DictEntry} {ep : Nat}, s.heap.get? c = some o → o.data = .dict es ep → H c = none := by
      intro c o es ep e d
      cases q : H c with
      | none => rfl
      | some u =>
        obtain ⟨rfl, _, _⟩ := only c u q
        rw [ha] at e
        cases e
        cases d
    have ns2 : ∀ {c : Addr} {m : Str → Option Value}, s.heap.Ns c m → (hidT s.heap H).Ns c m := by
      rintro c m ⟨o, es, ep, e, d, r⟩
      exact ⟨o, es, ep, hidT_get e (dictFree e d), d, r⟩
    have kb : K.In (hidT s.heap H) := by
      intro c o e
      refine hidT_get (kin c o e) ?_
      cases q : H c with
      | none => rfl
      | some u =>
        obtain ⟨rfl, _, z⟩ := only c u q
        rw [z] at e
        cases e
    have md : Mod K mg (hidT s.heap H) := ⟨kb, ns2 g, ⟨mb, ns2 b, hbb⟩, by
      obtain ⟨mc, h1, h2⟩ := nl
      exact ⟨mc, ns2 h1, h2⟩⟩
    have e0 : Env0 P w K mg (hidT s.heap H) callerA [] s H := ⟨rfl, md, fun c o e => of_hidT e, Nat.le_of_eq (hidT_size _ _), trivial, fun c hc => (nomatch hc), hok, .of_eq gn⟩
    refine codeAny_mono ((F _ kb (ns2 g)).goes callerA [] s H ⟨[.ref a], []⟩ [.ref a] [.ref a] _ _ rfl hr e0 (bd s (.ref a)) (.cons rfl .nil) (hsp H hS)) ?_
    intro r s' h
    cases r with
    | error e => exact h.elim
    | ok fl =>
      cases fl with
      | ret u =>
        obtain ⟨v, H', os, bare, un, hok', r', q⟩ := h
        cases (show v = .bl true from q)
        cases (show u = Value.bool true from r')
        refine ⟨rfl, OldK.of_keep fun c o e => ?_, os, bare⟩
        cases q : H c with
        | none => exact un.keep c o e q (fun z => nomatch z) (fun z => nomatch z)
        | some u =>
          obtain ⟨rfl, rfl, _⟩ := only c u q
          obtain ⟨e2, _⟩ := hok' _ _ (un.frzs _ _ _ q)
          rw [ha] at e
          cases e
          exact e2
      | next => exact False.elim h
      | brk => exact False.elim h
      | cont => exact False.elim h
  cases hk : K.lookup a with
  | some o =>
    have e := kin a o hk
    rw [ha] at e
    cases e
    refine step (fun _ => none) (.inr ⟨_, vs.toArray, _, hk, rfl, rfl, rfl, ?_, by simpa using rv⟩) (fun c u z => nomatch z) (fun c u z => nomatch z)
    rw [List.size_toArray, hi.length]
    exact hl
  | none =>
    refine step (fun c => if c = a then some (.frz { cls := .type "list", data := .seq vs.toArray } (.lst (ns.map V.int))) else none) (.inl (.inr ⟨_, if_pos rfl⟩)) ?_ ?_
    · intro c u z
      by_cases hc : c = a
      · have z' := (if_pos hc).symm.trans z
        cases z'
        subst hc
        exact ⟨ha, by rw [List.length_map]; exact hl, vs, _, rv, ha⟩
      · have z' := (if_neg hc).symm.trans z
        cases z'
    · intro c u z
      by_cases hc : c = a
      · have z' := (if_pos hc).symm.trans z
        exact ⟨hc, (Option.some.inj z').symm, hk⟩
      · have z' := (if_neg hc).symm.trans z
        cases z'
/-- the goal that k_head leaves, from the promise of the law's def -/
theorem walkG {l : PySem.W.OpenLaw} {n k : Nat} {q : Program} {loose : List Str} {XP : (Str → Option Value) → Heap → Prop} {YP : World → Heap → Prop} {d : DefRec} {K : Params → PySem.W.Frag} {sp : PySem.W.Frag → Sp} {x : Str}
    (hn : l.most = some n) (hn2 : n ≤ sizeLine) (hdf : d.params.defaults = []) (hr : Room k callerA) (hY : ∀ (w : World) (h : Heap), YP w h → (K w.params).In h)
    (F : ∀ (w : World) (mg : Str → Option Value) (fa : Addr) (h : Heap), (K w.params).In h → h.Ns mainGlobals mg → mg d.name = some (.ref fa) →
      ∃ fd : FuncData, (∀ (s : Shared) (u : Value), BindsTo s fd ⟨[u], []⟩ [(x, u)]) ∧ ∀ base : Heap, (K w.params).In base → base.Ns mainGlobals mg → FnG l.prog w (K w.params) mg base k fa fd [x] (sp (K w.params)))
    (hsp : ∀ (K : PySem.W.Frag) (H : Hp) (a : Addr) (ns : List Int), ns.length ≤ n → (∀ z ∈ ns, Builtin.Int.intBits z ≤ 1048576) → SqL K H a (ns.map V.int) → sp K [.ref a] H (fun v _ => v = .bl true) fun _ _ _ => False) :
    PySem.W.WalkO q loose XP YP l.row.toRowW d [] (fun f vs => PySem.call f vs) := by
  refine Att.attach_callB hn hdf ?_
  intro w s₀ s₁ mg mb fa o pm cd doc a vs ns G Y ho hd hcd hmg hobj hints hlen hbits hg
  obtain ⟨fd, hb, hF⟩ := F w mg fa _ (hY w _ Y) G.T.g hmg
  exact law_goes (hY w _ Y) G.T.g G.T.b G.T.builtins G.T.nolimit hg hobj hints (Nat.le_trans hlen hn2) hr hF hb fun H hS => hsp _ H a ns hlen hbits hS
end Sw
set_option maxRecDepth 100000
set_option maxHeartbeats 4000000
namespace Sw
open PySem PySem.Spec PyProof.Rows L2

/-! ### heaps -/
theorem same_new {H : Hp} {p : Addr} {o : HO} (h : H p = none) : Same H (upd H p o) := fun b x e => by
  rw [upd_ne (ne_of_none e h)]
  exact e
theorem sameT {K : PySem.W.Frag} {H H' : Hp} {a : Addr} {xs : List V} (e : Same H H') (h : SqT K H a xs) : SqT K H' a xs := by
  rcases h with (h | ⟨o, h⟩) | h
  · exact .inl (.inl (e _ _ h))
  · exact .inl (.inr ⟨o, e _ _ h⟩)
  · exact .inr h
mutual
theorem Dp_same {K : PySem.W.Frag} {H H' : Hp} (e : Same H H') : ∀ {v : V} {d : PyData}, Dp K H v d → Dp K H' v d
  | _, _, .non => .non
  | _, _, .bl b => .bl b
  | _, _, .int i => .int i
  | _, _, .str x => .str x
  | _, _, .lst h r => .lst (e.seq h) (DpAll_same e r)
  | _, _, .tup h r => .tup (sameT e h) (DpAll_same e r)
theorem DpAll_same {K : PySem.W.Frag} {H H' : Hp} (e : Same H H') : ∀ {vs : List V} {ds : List PyData}, DpAll K H vs ds → DpAll K H' vs ds
  | _, _, .nil => .nil
  | _, _, .cons h r => .cons (Dp_same e h) (DpAll_same e r)
end
theorem DpAll_len {K : PySem.W.Frag} {H : Hp} : ∀ {vs : List V} {ds : List PyData}, DpAll K H vs ds → vs.length = ds.length
  | _, _, .nil => rfl
  | _, _, .cons _ r => by rw [List.length_cons, List.length_cons, DpAll_len r]
theorem DpAll_get {K : PySem.W.Frag} {H : Hp} : ∀ {vs : List V} {ds : List PyData} {i : Nat} {v : V}, DpAll K H vs ds → vs[i]? = some v → ∃ d, ds[i]? = some d ∧ Dp K H v d
  | _, _, _, _, .nil, e => by simp at e
  | _, _, 0, _, .cons h _, e => by simp at e; subst e; exact ⟨_, rfl, h⟩
  | _, _, i + 1, v, .cons _ r, e => by
    obtain ⟨d, h1, h2⟩ := DpAll_get (i := i) (v := v) r (by simpa using e)
    exact ⟨d, by simpa using h1, h2⟩
theorem DpAll_get' {K : PySem.W.Frag} {H : Hp} {vs : List V} {ds : List PyData} {i : Nat} {d : PyData} (h : DpAll K H vs ds) (e : ds[i]? = some d) : ∃ v, vs[i]? = some v ∧ Dp K H v d := by
  have hl := DpAll_len h
  obtain ⟨hi, _⟩ := List.getElem?_eq_some_iff.mp e
  have hv : i < vs.length := by omega
  obtain ⟨d', h1, h2⟩ := DpAll_get h (List.getElem?_eq_getElem hv)
  rw [e] at h1
  cases h1
  exact ⟨_, List.getElem?_eq_getElem hv, h2⟩
theorem DpAll_append {K : PySem.W.Frag} {H : Hp} : ∀ {vs us : List V} {ds es : List PyData}, DpAll K H vs ds → DpAll K H us es → DpAll K H (vs ++ us) (ds ++ es)
  | _, _, _, _, .nil, r => r
  | _, _, _, _, .cons h t, r => .cons h (DpAll_append t r)
theorem DpAll_of {K : PySem.W.Frag} {H : Hp} : ∀ {vs : List V} {ds : List PyData}, vs.length = ds.length → (∀ (i : Nat) v d, vs[i]? = some v → ds[i]? = some d → Dp K H v d) → DpAll K H vs ds
  | [], [], _, _ => .nil
  | v :: vs, d :: ds, hl, h => .cons (h 0 v d rfl rfl) (DpAll_of (by simpa using hl) fun i x y e1 e2 => h (i + 1) x y (by simpa using e1) (by simpa using e2))
  | [], _ :: _, hl, _ => by simp at hl
  | _ :: _, [], hl, _ => by simp at hl
theorem DpAll_strs {K : PySem.W.Frag} {H : Hp} : ∀ zs : List Str, DpAll K H (zs.map V.str) (zs.map PyData.str)
  | [] => .nil
  | z :: zs => .cons (.str z) (DpAll_strs zs)

/-! ### comprehensions over what stays: the tests and the items change nothing that stood -/
theorem lc_pure {J : It} {n : Nat} {G : Hp → Prop} {xs : List V} (w : Walk J n G (YAt xs)) {tt : TT} {te : TE} {j : Nat} {σ : L2.St} {H1 : Hp} {D : Addr} {Qd : Hp → Prop} (p : Nat → Bool) (f : Nat → V) (hD : H1 D = none)
    (hG : ∀ H, Same H1 H → G H) (hn : n < sizeLine)
    (ht : ∀ (i : Nat) x H (Q : Bool → Hp → Prop), i < n → xs[i]? = some x → Same H1 H → (∀ H', Same H H' → Q (p i) H') → tt ((wipe σ [j]).set j (some x)) H Q)
    (he : ∀ (i : Nat) x H (Q : VK), i < n → xs[i]? = some x → p i = true → Same H1 H → (∀ H', Same H H' → Q (f i) H') → te ((wipe σ [j]).set j (some x)) H Q)
    (hd : ∀ H', Same H1 H' → H' D = some (.lst (((List.range n).filter p).map f)) → Qd H') :
    ∃ W : Nat → Nat → Hp → Prop, (∃ m, W 0 m (upd H1 D (.lst []))) ∧ ∀ i m H, W i m H → (J.stop i H ∧ Qd H) ∨ (J.go i H ∧ ∃ Nx : Hp → Prop, (∀ H', Nx H' → ∃ m', m' < m ∧ W (i + 1) m' H') ∧
      ∀ x H', J.yld i H x H' → gName j x (wipe σ [j]) H' fun σ2 H2 => wipe σ2 [j] = wipe σ [j] ∧ tt σ2 H2 fun b H3 =>
        if b = true then te σ2 H3 fun y H4 => ∃ acc, H4 D = some (.lst acc) ∧ acc.length < sizeLine ∧ Nx (upd H4 D (.lst (acc ++ [y]))) else Nx H3) := by
  refine lc_it w (fun i H => Same H1 H ∧ H D = some (.lst (((List.range i).filter p).map f))) ⟨same_new hD, by rw [upd_same]; rfl⟩ (fun i H _ h => hG H h.1) ?_ (fun H h => hd H h.1 h.2)
  rintro i x H H' hi ⟨hs, hacc⟩ ⟨rfl, hx⟩
  refine ⟨?_, ?_⟩
  · show ((List.set (List.set σ j none) j (some x)).set j none) = List.set σ j none
    rw [List.set_set, List.set_set]
  have hr : (List.range (i + 1)).filter p = (List.range i).filter p ++ (if p i = true then [i] else []) := by
    rw [List.range_succ, List.filter_append]
    congr 1
    by_cases hp : p i = true <;> simp [hp]
  refine ht i x H' _ hi hx hs fun H2 h2 => ?_
  by_cases hp : p i = true
  · rw [hp]
    refine iteT ?_
    refine he i x H2 _ hi hx hp (hs.trans h2) fun H3 h3 => ?_
    have h3D := h3 _ _ (h2 _ _ hacc)
    refine ⟨_, h3D, ?_, ?_, ?_⟩
    · rw [List.length_map]
      have := List.length_filter_le p (List.range i)
      rw [List.length_range] at this
      omega
    · intro b o e
      rw [upd_ne (ne_of_none e hD)]
      exact h3 _ _ (h2 _ _ (hs _ _ e))
    · rw [upd_same, hr, if_pos hp, List.map_append]
      rfl
  · have hp' : p i = false := by simpa using hp
    rw [hp']
    refine iteF ?_
    refine ⟨hs.trans h2, ?_⟩
    rw [hr, if_neg hp, List.append_nil]
    exact h2 _ _ hacc
theorem range_all {n : Nat} {f : Nat → V} : ((List.range n).filter (fun _ => true)).map f = (List.range n).map f := by
  rw [List.filter_eq_self.mpr (by simp)]
/-- without tests -/
theorem lc_map {J : It} {n : Nat} {G : Hp → Prop} {xs : List V} (w : Walk J n G (YAt xs)) {te : TE} {j : Nat} {σ : L2.St} {H1 : Hp} {D : Addr} {Qd : Hp → Prop} (f : Nat → V) (hD : H1 D = none)
    (hG : ∀ H, Same H1 H → G H) (hn : n < sizeLine)
    (he : ∀ (i : Nat) x H (Q : VK), i < n → xs[i]? = some x → Same H1 H → (∀ H', Same H H' → Q (f i) H') → te ((wipe σ [j]).set j (some x)) H Q)
    (hd : ∀ H', Same H1 H' → H' D = some (.lst ((List.range n).map f)) → Qd H') :
    ∃ W : Nat → Nat → Hp → Prop, (∃ m, W 0 m (upd H1 D (.lst []))) ∧ ∀ i m H, W i m H → (J.stop i H ∧ Qd H) ∨ (J.go i H ∧ ∃ Nx : Hp → Prop, (∀ H', Nx H' → ∃ m', m' < m ∧ W (i + 1) m' H') ∧
      ∀ x H', J.yld i H x H' → gName j x (wipe σ [j]) H' fun σ2 H2 => wipe σ2 [j] = wipe σ [j] ∧ tYes σ2 H2 fun b H3 =>
        if b = true then te σ2 H3 fun y H4 => ∃ acc, H4 D = some (.lst acc) ∧ acc.length < sizeLine ∧ Nx (upd H4 D (.lst (acc ++ [y]))) else Nx H3) :=
  lc_pure w (tt := tYes) (fun _ => true) f hD hG hn (fun i x H Q _ _ _ q => q H (Same.refl H)) (fun i x H Q hi hx _ hs q => he i x H Q hi hx hs q) fun H' hs h => hd H' hs (by rw [h, range_all])
/-- a text's signs as its walk's items -/
theorem walk_signs {z : Str} : Walk (Its z) z.cps.size (fun _ => True) (YAt (z.cps.toList.map fun c => V.str ⟨#[c]⟩)) := by
  refine ⟨walk_str.goes, walk_str.stops, fun i H x H' hi hg y => ?_⟩
  obtain ⟨rfl, c, hc, rfl⟩ := walk_str.yields i H x H' hi hg y
  refine ⟨rfl, ?_⟩
  rw [List.getElem?_map, Array.getElem?_toList, hc]
  rfl
end Sw
set_option maxRecDepth 100000
set_option maxHeartbeats 4000000
namespace Sw
open PySem PySem.Spec PyProof.Rows L2

/-! ### how large data are -/
mutual
/-- leaves: ints at most M, texts of ASCII; no dict -/
def leaf (M : Nat) : PyData → Bool
  | .none | .bool _ => true
  | .int i => decide (i.natAbs ≤ M)
  | .str x => x.cps.toList.all (fun c => decide (c < 128))
  | .list xs | .tuple xs => leafAll M xs
  | .dict _ => false
def leafAll (M : Nat) : List PyData → Bool
  | [] => true
  | x :: xs => leaf M x && leafAll M xs
end
mutual
/-- no list or tuple in it is longer than l -/
def lens (l : Nat) : PyData → Bool
  | .none | .bool _ | .int _ | .str _ => true
  | .list xs | .tuple xs => decide (xs.length ≤ l) && lensAll l xs
  | .dict _ => false
def lensAll (l : Nat) : List PyData → Bool
  | [] => true
  | x :: xs => lens l x && lensAll l xs
end
mutual
/-- at least as much as its text is long -/
def wt : PyData → Nat
  | .none | .bool _ => 5
  | .int _ => 250
  | .str x => 10 * x.length + 5
  | .list xs | .tuple xs => wtAll xs + 5
  | .dict _ => 0
def wtAll : List PyData → Nat
  | [] => 0
  | x :: xs => wt x + 2 + wtAll xs
end
theorem leaf_str {M : Nat} {x : Str} : leaf M (.str x) = true ↔ ∀ c ∈ x.cps.toList, c < 128 := by
  simp only [leaf, List.all_eq_true, decide_eq_true_eq]
theorem leafAll_iff {M : Nat} : ∀ {xs : List PyData}, leafAll M xs = true ↔ ∀ x ∈ xs, leaf M x = true
  | [] => by simp [leafAll]
  | x :: xs => by simp [leafAll, leafAll_iff (xs := xs)]
theorem lensAll_iff {l : Nat} : ∀ {xs : List PyData}, lensAll l xs = true ↔ ∀ x ∈ xs, lens l x = true
  | [] => by simp [lensAll]
  | x :: xs => by simp [lensAll, lensAll_iff (xs := xs)]
theorem wtAll_append : ∀ xs ys : List PyData, wtAll (xs ++ ys) = wtAll xs + wtAll ys
  | [], ys => by simp [wtAll]
  | x :: xs, ys => by simp [wtAll, wtAll_append xs ys]; omega
theorem wt_mem : ∀ {xs : List PyData} {x : PyData}, x ∈ xs → wt x + 2 ≤ wtAll xs
  | y :: xs, x, h => by
    rcases List.mem_cons.mp h with rfl | h
    · simp [wtAll]
    · have := wt_mem h
      simp [wtAll]; omega
theorem wtAll_take (xs : List PyData) (k : Nat) : wtAll (xs.take k) ≤ wtAll xs := by
  have h := wtAll_append (xs.take k) (xs.drop k)
  rw [List.take_append_drop] at h
  omega
theorem wtAll_drop (xs : List PyData) (k : Nat) : wtAll (xs.drop k) ≤ wtAll xs := by
  have h := wtAll_append (xs.take k) (xs.drop k)
  rw [List.take_append_drop] at h
  omega
theorem depthAll_iff {n : Nat} : ∀ {xs : List PyData}, PyData.depthAll xs ≤ n ↔ ∀ x ∈ xs, x.depth ≤ n
  | [] => by simp [PyData.depthAll]
  | x :: xs => by simp [PyData.depthAll, depthAll_iff (xs := xs), Nat.max_le]
theorem depth_tuple {n : Nat} {xs : List PyData} : (PyData.tuple xs).depth ≤ n + 1 ↔ ∀ x ∈ xs, x.depth ≤ n := by
  simp [PyData.depth, depthAll_iff]
theorem depth_list {n : Nat} {xs : List PyData} : (PyData.list xs).depth ≤ n + 1 ↔ ∀ x ∈ xs, x.depth ≤ n := by
  simp [PyData.depth, depthAll_iff]

mutual
theorem leaf_noDict {M : Nat} : ∀ d : PyData, leaf M d = true → d.hasDict = false
  | .none, _ => by simp [PyData.hasDict]
  | .bool _, _ => by simp [PyData.hasDict]
  | .int _, _ => by simp [PyData.hasDict]
  | .str _, _ => by simp [PyData.hasDict]
  | .list xs, h => by simpa [PyData.hasDict] using leafAll_noDict xs (by simpa [leaf] using h)
  | .tuple xs, h => by simpa [PyData.hasDict] using leafAll_noDict xs (by simpa [leaf] using h)
  | .dict _, h => by simp [leaf] at h
theorem leafAll_noDict {M : Nat} : ∀ xs : List PyData, leafAll M xs = true → PyData.hasDictAll xs = false
  | [], _ => by simp [PyData.hasDictAll]
  | x :: xs, h => by
    have h' : leaf M x = true ∧ leafAll M xs = true := by simpa [leafAll] using h
    simp [PyData.hasDictAll, leaf_noDict x h'.1, leafAll_noDict xs h'.2]
end
mutual
theorem leaf_canLay {M : Nat} : ∀ d : PyData, leaf M d = true → d.canLay0 = true
  | .none, _ => by simp [PyData.canLay0]
  | .bool _, _ => by simp [PyData.canLay0]
  | .int _, _ => by simp [PyData.canLay0]
  | .str x, h => by
    have h' := leaf_str.mp h
    simp only [PyData.canLay0, PyData.strOk, Array.all_eq_true_iff_forall_mem, decide_eq_true_eq]
    intro c hc
    have := h' c (by simpa using hc)
    omega
  | .list xs, h => by simpa [PyData.canLay0] using leafAll_canLay xs (by simpa [leaf] using h)
  | .tuple xs, h => by simpa [PyData.canLay0] using leafAll_canLay xs (by simpa [leaf] using h)
  | .dict _, h => by simp [leaf] at h
theorem leafAll_canLay {M : Nat} : ∀ xs : List PyData, leafAll M xs = true → PyData.canLayAll0 xs = true
  | [], _ => by simp [PyData.canLayAll0]
  | x :: xs, h => by
    have h' : leaf M x = true ∧ leafAll M xs = true := by simpa [leafAll] using h
    simp [PyData.canLayAll0, leaf_canLay x h'.1, leafAll_canLay xs h'.2]
end
mutual
theorem leaf_shows {M : Nat} (hM : M < 2 ^ 1920) : ∀ d : PyData, leaf M d = true → d.showable = true
  | .none, _ => by simp [PyData.showable]
  | .bool _, _ => by simp [PyData.showable]
  | .int i, h => by
    have h' : i.natAbs ≤ M := by simpa [leaf] using h
    simp only [PyData.showable, decide_eq_true_eq]
    exact log2_small (Nat.lt_of_le_of_lt h' hM)
  | .str x, h => by simp [PyData.showable]
  | .list xs, h => by simpa [PyData.showable] using leafAll_shows hM xs (by simpa [leaf] using h)
  | .tuple xs, h => by simpa [PyData.showable] using leafAll_shows hM xs (by simpa [leaf] using h)
  | .dict _, h => by simp [leaf] at h
theorem leafAll_shows {M : Nat} (hM : M < 2 ^ 1920) : ∀ xs : List PyData, leafAll M xs = true → PyData.showableAll xs = true
  | [], _ => by simp [PyData.showableAll]
  | x :: xs, h => by
    have h' : leaf M x = true ∧ leafAll M xs = true := by simpa [leafAll] using h
    simp [PyData.showableAll, leaf_shows hM x h'.1, leafAll_shows hM xs h'.2]
end
mutual
theorem shown_wt {M : Nat} (hM : M < 10 ^ 240) : ∀ d : PyData, leaf M d = true → d.shown.length ≤ wt d
  | .none, _ => by simp only [PyData.shown, wt]; decide +kernel
  | .bool b, _ => by cases b <;> (simp only [PyData.shown, wt]; decide +kernel)
  | .int i, h => by
    have h' : i.natAbs ≤ M := by simpa [leaf] using h
    have e := int_text_length_le10 (k := 240) (by decide) (Nat.lt_of_le_of_lt h' hM)
    simp only [PyData.shown, wt]
    rw [PySem.ofString_length]
    omega
  | .str x, h => by
    have h' := leaf_str.mp h
    have e := StrLaws.reprText_len x (fun c hc => by have := h' c hc; omega)
    simp only [PyData.shown, wt]
    omega
  | .list xs, h => by
    have e1 := listText_len_le (PyData.shownAll xs)
    have e2 := shownAll_wt hM xs (by simpa [leaf] using h)
    rw [PyData.shownAll_length] at e1
    simp only [PyData.shown, wt]
    omega
  | .tuple xs, h => by
    have e1 := tupleText_len_le (PyData.shownAll xs)
    have e2 := shownAll_wt hM xs (by simpa [leaf] using h)
    rw [PyData.shownAll_length] at e1
    simp only [PyData.shown, wt]
    omega
  | .dict _, h => by simp [leaf] at h
theorem shownAll_wt {M : Nat} (hM : M < 10 ^ 240) : ∀ xs : List PyData, leafAll M xs = true → ((PyData.shownAll xs).map (·.length)).sum + 2 * xs.length ≤ wtAll xs
  | [], _ => by simp [PyData.shownAll, wtAll]
  | x :: xs, h => by
    have h' : leaf M x = true ∧ leafAll M xs = true := by simpa [leafAll] using h
    have e1 := shown_wt hM x h'.1
    have e2 := shownAll_wt hM xs h'.2
    simp only [PyData.shownAll, wtAll, List.map_cons, List.sum_cons, List.length_cons]
    omega
end
mutual
theorem leaf_mono {M N : Nat} (h : M ≤ N) : ∀ d : PyData, leaf M d = true → leaf N d = true
  | .none, _ => by simp [leaf]
  | .bool _, _ => by simp [leaf]
  | .int i, e => by
    have e' : i.natAbs ≤ M := by simpa [leaf] using e
    simp only [leaf, decide_eq_true_eq]; omega
  | .str _, e => by simpa [leaf] using e
  | .list xs, e => by simpa [leaf] using leafAll_mono h xs (by simpa [leaf] using e)
  | .tuple xs, e => by simpa [leaf] using leafAll_mono h xs (by simpa [leaf] using e)
  | .dict _, e => by simp [leaf] at e
theorem leafAll_mono {M N : Nat} (h : M ≤ N) : ∀ xs : List PyData, leafAll M xs = true → leafAll N xs = true
  | [], _ => by simp [leafAll]
  | x :: xs, e => by
    have e' : leaf M x = true ∧ leafAll M xs = true := by simpa [leafAll] using e
    simp [leafAll, leaf_mono h x e'.1, leafAll_mono h xs e'.2]
end
mutual
theorem lens_mono {k l : Nat} (h : k ≤ l) : ∀ d : PyData, lens k d = true → lens l d = true
  | .none, _ => by simp [lens]
  | .bool _, _ => by simp [lens]
  | .int _, _ => by simp [lens]
  | .str _, _ => by simp [lens]
  | .list xs, e => by
    have e' : xs.length ≤ k ∧ lensAll k xs = true := by simpa [lens] using e
    simp only [lens, Bool.and_eq_true, decide_eq_true_eq]
    exact ⟨by omega, lensAll_mono h xs e'.2⟩
  | .tuple xs, e => by
    have e' : xs.length ≤ k ∧ lensAll k xs = true := by simpa [lens] using e
    simp only [lens, Bool.and_eq_true, decide_eq_true_eq]
    exact ⟨by omega, lensAll_mono h xs e'.2⟩
  | .dict _, e => by simp [lens] at e
theorem lensAll_mono {k l : Nat} (h : k ≤ l) : ∀ xs : List PyData, lensAll k xs = true → lensAll l xs = true
  | [], _ => by simp [lensAll]
  | x :: xs, e => by
    have e' : lens k x = true ∧ lensAll k xs = true := by simpa [lensAll] using e
    simp [lensAll, lens_mono h x e'.1, lensAll_mono h xs e'.2]
end

/-- data of this size: ints at most M, sequences at most l long, n deep, B heavy -/
structure Fit (M l n B : Nat) (d : PyData) : Prop where
  lf : leaf M d = true
  ln : lens l d = true
  dp : d.depth ≤ n
  wg : wt d ≤ B
theorem Fit.mono {M l n B M' l' n' B' : Nat} {d : PyData} (h : Fit M l n B d) (h1 : M ≤ M') (h2 : l ≤ l') (h3 : n ≤ n') (h4 : B ≤ B') : Fit M' l' n' B' d :=
  ⟨leaf_mono h1 d h.lf, lens_mono h2 d h.ln, Nat.le_trans h.dp h3, Nat.le_trans h.wg h4⟩
theorem Fit.none {M l n B : Nat} (h : 5 ≤ B) : Fit M l n B .none := ⟨rfl, rfl, Nat.zero_le _, h⟩
theorem Fit.bool {M l n B : Nat} {b : Bool} (h : 5 ≤ B) : Fit M l n B (.bool b) := ⟨rfl, rfl, Nat.zero_le _, h⟩
theorem Fit.int {M l n B : Nat} {i : Int} (hi : i.natAbs ≤ M) (h : 250 ≤ B) : Fit M l n B (.int i) := ⟨by simpa [leaf] using hi, rfl, Nat.zero_le _, h⟩
theorem Fit.str {M l n B : Nat} {x : Str} (hx : ∀ c ∈ x.cps.toList, c < 128) (h : 10 * x.length + 5 ≤ B) : Fit M l n B (.str x) := ⟨leaf_str.mpr hx, rfl, Nat.zero_le _, h⟩
theorem Fit.tup {M l n B : Nat} {xs : List PyData} (hl : xs.length ≤ l) (h : ∀ x ∈ xs, leaf M x = true ∧ lens l x = true ∧ x.depth ≤ n) (hw : wtAll xs + 5 ≤ B) : Fit M l (n + 1) B (.tuple xs) :=
  ⟨by simpa [leaf] using leafAll_iff.mpr fun x hx => (h x hx).1, by simp only [lens, Bool.and_eq_true, decide_eq_true_eq]; exact ⟨hl, lensAll_iff.mpr fun x hx => (h x hx).2.1⟩, depth_tuple.mpr fun x hx => (h x hx).2.2, by simpa [wt] using hw⟩
theorem Fit.lst {M l n B : Nat} {xs : List PyData} (hl : xs.length ≤ l) (h : ∀ x ∈ xs, leaf M x = true ∧ lens l x = true ∧ x.depth ≤ n) (hw : wtAll xs + 5 ≤ B) : Fit M l (n + 1) B (.list xs) :=
  ⟨by simpa [leaf] using leafAll_iff.mpr fun x hx => (h x hx).1, by simp only [lens, Bool.and_eq_true, decide_eq_true_eq]; exact ⟨hl, lensAll_iff.mpr fun x hx => (h x hx).2.1⟩, depth_list.mpr fun x hx => (h x hx).2.2, by simpa [wt] using hw⟩
theorem Fit.inTup {M l n B : Nat} {xs : List PyData} (h : Fit M l n B (.tuple xs)) : xs.length ≤ l ∧ 1 ≤ n ∧ wtAll xs + 5 ≤ B ∧ ∀ x ∈ xs, Fit M l (n - 1) B x := by
  have h2 : xs.length ≤ l ∧ lensAll l xs = true := by simpa [lens] using h.ln
  have h3 : PyData.depthAll xs + 1 ≤ n := by simpa [PyData.depth] using h.dp
  have h4 : wtAll xs + 5 ≤ B := by simpa [wt] using h.wg
  refine ⟨h2.1, by omega, h4, fun x hx => ⟨leafAll_iff.mp (by simpa [leaf] using h.lf) x hx, lensAll_iff.mp h2.2 x hx, (depthAll_iff (n := n - 1)).mp (by omega) x hx, ?_⟩⟩
  have := wt_mem hx
  omega
theorem Fit.inLst {M l n B : Nat} {xs : List PyData} (h : Fit M l n B (.list xs)) : xs.length ≤ l ∧ 1 ≤ n ∧ wtAll xs + 5 ≤ B ∧ ∀ x ∈ xs, Fit M l (n - 1) B x := by
  have h2 : xs.length ≤ l ∧ lensAll l xs = true := by simpa [lens] using h.ln
  have h3 : PyData.depthAll xs + 1 ≤ n := by simpa [PyData.depth] using h.dp
  have h4 : wtAll xs + 5 ≤ B := by simpa [wt] using h.wg
  refine ⟨h2.1, by omega, h4, fun x hx => ⟨leafAll_iff.mp (by simpa [leaf] using h.lf) x hx, lensAll_iff.mp h2.2 x hx, (depthAll_iff (n := n - 1)).mp (by omega) x hx, ?_⟩⟩
  have := wt_mem hx
  omega
theorem Fit.shaped {M l n B : Nat} {d : PyData} (h : Fit M l n B d) (hn : n ≤ 64) : SeqAt.shaped d = true := by
  unfold SeqAt.shaped
  rw [leaf_canLay d h.lf, Bool.true_and, decide_eq_true_eq]
  exact Nat.le_trans h.dp hn
end Sw
set_option maxRecDepth 100000
set_option maxHeartbeats 4000000
namespace Sw
open PySem PySem.Spec PyProof.Rows L2

/-- a def of the text, how it binds, where it stands -/
structure Df (K : PySem.W.Frag) (mg : Str → Option Value) (x : Str) (st : Stmt) (ps : List Str) (f : Addr) (fd : FuncData) : Prop where
  fn : Fun K x x st f fd
  bd : Binds K fd ps []
  gl : mg x = some (.ref f)

/-! ### isinstance of data -/
def isaInt : PyData → Bool
  | .int _ => true
  | .bool _ => true
  | _ => false
def isaBool : PyData → Bool
  | .bool _ => true
  | _ => false
def isaStr : PyData → Bool
  | .str _ => true
  | _ => false
def isaTup : PyData → Bool
  | .tuple _ => true
  | _ => false
theorem ty_list {K : PySem.W.Frag} {H : Hp} {a : Addr} {xs : List V} (h : SqL K H a xs) : TyX K H (.ref a) (.type "list") := by
  rcases h with (h | ⟨o, h⟩) | ⟨o, its, n, h, hc, _⟩
  · exact .base (.lst h)
  · exact .base (.frz h)
  · exact .kList h hc
theorem ty_tup {K : PySem.W.Frag} {H : Hp} {a : Addr} {xs : List V} (h : SqT K H a xs) : TyX K H (.ref a) (.type "tuple") := by
  rcases h with (h | ⟨o, h⟩) | ⟨o, its, n, h, hc, _⟩
  · exact .base (.tup h)
  · exact .fTuple h
  · exact .kTuple h hc
theorem isa_data {K : PySem.W.Frag} {H : Hp} {v : V} {d : PyData} {T : String} {g : PyData → Bool} (h : Dp K H v d)
    (k0 : kitB "NoneType" T = some (g .none)) (k1 : ∀ b, kitB "bool" T = some (g (.bool b))) (k2 : ∀ i, kitB "int" T = some (g (.int i))) (k3 : ∀ x, kitB "str" T = some (g (.str x)))
    (k4 : ∀ xs, kitB "list" T = some (g (.list xs))) (k5 : ∀ xs, kitB "tuple" T = some (g (.tuple xs))) : ∃ t, TyX K H v t ∧ PySem.W.kitOne K t (.type T) = some (g d) := by
  cases h with
  | non => exact ⟨_, .base .non, kit_ty k0⟩
  | bl b => exact ⟨_, .base (.bl b), kit_ty (k1 b)⟩
  | int i => exact ⟨_, .base (.int i), kit_ty (k2 i)⟩
  | str x => exact ⟨_, .base (.str x), kit_ty (k3 x)⟩
  | lst h _ => exact ⟨_, ty_list h, kit_ty (k4 _)⟩
  | tup h _ => exact ⟨_, ty_tup h, kit_ty (k5 _)⟩
theorem isa_int {K : PySem.W.Frag} {H : Hp} {v : V} {d : PyData} (h : Dp K H v d) : ∃ t, TyX K H v t ∧ PySem.W.kitOne K t (.type "int") = some (isaInt d) :=
  isa_data (g := isaInt) h (by decide +kernel) (fun _ => by show _ = some true; decide +kernel) (fun _ => by show _ = some true; decide +kernel) (fun _ => by show _ = some false; decide +kernel) (fun _ => by show _ = some false; decide +kernel) (fun _ => by show _ = some false; decide +kernel)
theorem isa_bool {K : PySem.W.Frag} {H : Hp} {v : V} {d : PyData} (h : Dp K H v d) : ∃ t, TyX K H v t ∧ PySem.W.kitOne K t (.type "bool") = some (isaBool d) :=
  isa_data (g := isaBool) h (by decide +kernel) (fun _ => by show _ = some true; decide +kernel) (fun _ => by show _ = some false; decide +kernel) (fun _ => by show _ = some false; decide +kernel) (fun _ => by show _ = some false; decide +kernel) (fun _ => by show _ = some false; decide +kernel)
theorem isa_str {K : PySem.W.Frag} {H : Hp} {v : V} {d : PyData} (h : Dp K H v d) : ∃ t, TyX K H v t ∧ PySem.W.kitOne K t (.type "str") = some (isaStr d) :=
  isa_data (g := isaStr) h (by decide +kernel) (fun _ => by show _ = some false; decide +kernel) (fun _ => by show _ = some false; decide +kernel) (fun _ => by show _ = some true; decide +kernel) (fun _ => by show _ = some false; decide +kernel) (fun _ => by show _ = some false; decide +kernel)
theorem isa_tup {K : PySem.W.Frag} {H : Hp} {v : V} {d : PyData} (h : Dp K H v d) : ∃ t, TyX K H v t ∧ PySem.W.kitOne K t (.type "tuple") = some (isaTup d) :=
  isa_data (g := isaTup) h (by decide +kernel) (fun _ => by show _ = some false; decide +kernel) (fun _ => by show _ = some false; decide +kernel) (fun _ => by show _ = some false; decide +kernel) (fun _ => by show _ = some false; decide +kernel) (fun _ => by show _ = some true; decide +kernel)

/-! ### what a look promises -/
def dNum : PyData → Bool
  | .int _ => true
  | _ => false
def okSign (c : Nat) : Bool := decide (97 ≤ c) && decide (c ≤ 122)
def wordS (z : Str) : Bool := decide (1 ≤ z.length) && decide (z.length ≤ 8) && z.cps.toList.all okSign
def dWord : PyData → Bool
  | .str z => wordS z
  | _ => false
def dOper (d : PyData) : Bool := dNum d || dWord d
def dPair : PyData → Bool
  | .tuple ds => decide (ds.length = 2)
  | _ => false
def dPos : PyData → Bool
  | .int i => decide (1 ≤ i)
  | _ => false
def dObj : PyData → Bool
  | .tuple [a, b] => dWord a && dPos b
  | _ => false
def fstS : PyData → Str
  | .tuple (.str z :: _) => z
  | _ => Str.empty
def rises : List Str → Bool
  | a :: b :: r => decide (a.cps.toList < b.cps.toList) && rises (b :: r)
  | _ => true
def dObjs : PyData → Bool
  | .tuple ds => !ds.isEmpty && ds.all dObj && rises (ds.map fstS)
  | _ => false
/-- a look at data: its answer, all that stood stands -/
def spLook (K : PySem.W.Frag) (g : PyData → Bool) : Sp := fun vs H Q _ => ∃ (v : V) (d : PyData), vs = [v] ∧ Dp K H v d ∧ (∃ M, Fit M 60 60 1000000 d) ∧ ∀ H', Same H H' → Q (.bl (g d)) H'
theorem big_size {n : Nat} (h : n ≤ 1000000) : n < sizeLine := by rw [sizeLine_eq]; omega
theorem fit_strlen {M l n B : Nat} {x : Str} (h : Fit M l n B (.str x)) (hB : B ≤ 1000000) : x.length ≤ sizeLine := by
  have h1 : 10 * x.length + 5 ≤ B := by simpa [wt] using h.wg
  rw [sizeLine_eq]; omega
theorem isi_dNum (d : PyData) : (isaInt d && !isaBool d) = dNum d := by cases d <;> rfl
end Sw
set_option maxRecDepth 100000
set_option maxHeartbeats 4000000
namespace Sw
open PySem PySem.Spec PyProof.Rows L2
def topS (i : Nat) : Stmt := PySem.Challenge.pw_storeways_k10_nearest_and_frontiers.main.body.getD i (.Pass ⟨0, 0, 0, 0⟩)
/-- built-in names that the text leaves alone -/
structure Bt (mg : Str → Option Value) : Prop where
  isi : mg "isinstance" = none
  int : mg "int" = none
  bool : mg "bool" = none
  str : mg "str" = none
  tuple : mg "tuple" = none
  list : mg "list" = none
  len : mg "len" = none
  all : mg "all" = none
  zip : mg "zip" = none
  range : mg "range" = none
  ord : mg "ord" = none
  sorted : mg "sorted" = none
  set : mg "set" = none
  repr : mg "repr" = none
section
variable {P : Program} {w : World} {K : PySem.W.Frag} {mg : Str → Option Value} {base : Heap}
theorem sign_lo (c : Nat) : (!decide (([c] : List Nat) < ("a" : Str).cps.toList)) = decide (97 ≤ c) := by
  show (!decide (([c] : List Nat) < [97])) = decide (97 ≤ c)
  by_cases h : 97 ≤ c
  · have : ¬ (([c] : List Nat) < [97]) := by intro z; have := List.cons_lt_cons_iff.mp z; simp at this; omega
    simp [h, this]
  · have : ([c] : List Nat) < [97] := List.cons_lt_cons_iff.mpr (.inl (by omega))
    simp [h, this]
theorem sign_hi (c : Nat) : (!decide (("z" : Str).cps.toList < ([c] : List Nat))) = decide (c ≤ 122) := by
  show (!decide (([122] : List Nat) < [c])) = decide (c ≤ 122)
  by_cases h : c ≤ 122
  · have : ¬ (([122] : List Nat) < [c]) := by intro z; have := List.cons_lt_cons_iff.mp z; simp at this; omega
    simp [h, this]
  · have : ([122] : List Nat) < [c] := List.cons_lt_cons_iff.mpr (.inl (by omega))
    simp [h, this]
theorem all_range {z : Str} : ((List.range z.cps.size).map fun i => V.bl (okSign (z.cps.toList.getD i 0))) = (z.cps.toList.map okSign).map V.bl := by
  apply List.ext_getElem?
  intro i
  simp only [List.getElem?_map, List.getElem?_range']
  by_cases h : i < z.cps.size
  · rw [List.getElem?_range h, List.getElem?_eq_getElem (by simpa using h)]
    simp [List.getD, List.getElem?_eq_getElem, h]
  · rw [List.getElem?_eq_none (by simpa using h), List.getElem?_eq_none (by simpa using h)]
    rfl
end
end Sw
set_option maxRecDepth 100000
set_option maxHeartbeats 4000000
namespace Sw
open PySem PySem.Spec PyProof.Rows L2
section
variable {P : Program} {w : World} {K : PySem.W.Frag} {mg : Str → Option Value} {base : Heap}
theorem q_of {Q : VK} {b c : Bool} {H : Hp} (e : b = c) (h : Q (.bl b) H) : Q (.bl c) H := e ▸ h
theorem int_two {n : Nat} : decide (V.int (n : Int) = V.int 2) = decide (n = 2) := by
  by_cases h : n = 2
  · subst h; simp
  · have : ¬ (V.int (n : Int) = V.int 2) := fun z => h (by injection z with z; omega)
    simp [h, this]
end
end Sw
set_option maxRecDepth 100000
set_option maxHeartbeats 4000000
namespace Sw
open PySem PySem.Spec PyProof.Rows L2
theorem cut_one (xs : List V) : cutV xs (some 1) none = xs.drop 1 := by
  unfold cutV
  rw [show HT.sIx xs.length 0 (some 1) = min 1 xs.length from HT.sIx_nat xs.length 0 1, HT.sIx_none]
  cases xs with
  | nil => rfl
  | cons x r =>
    have e : min 1 (x :: r).length = 1 := by rw [List.length_cons]; omega
    rw [e]
    show (List.take ((x :: r).length - 1) r) = r
    rw [List.length_cons, Nat.add_sub_cancel, List.take_length]
theorem obj_parts {K : PySem.W.Frag} {H : Hp} {v : V} {d : PyData} (h : Dp K H v d) (o : dObj d = true) : ∃ (p : Addr) (z : Str) (k : Int), v = .ref p ∧ SqT K H p [.str z, .int k] ∧ fstS d = z ∧ d = .tuple [.str z, .int k] := by
  unfold dObj at o
  split at o
  · rename_i a b
    rw [Bool.and_eq_true] at o
    cases a with
    | str z =>
      cases b with
      | int k =>
        cases h with
        | tup hs r =>
          cases r with
          | cons h0 r =>
            cases r with
            | cons h1 r =>
              cases r
              cases h0
              cases h1
              exact ⟨_, z, k, rfl, hs, rfl, rfl⟩
      | _ => simp [dPos] at o
    | _ => simp [dWord] at o
  · cases o
theorem rises_range : ∀ zs : List Str, ((List.range (zs.length - 1)).map fun i => decide ((zs.getD i Str.empty).cps.toList < (zs.getD (i + 1) Str.empty).cps.toList)).all id = rises zs
  | [] => rfl
  | [_] => rfl
  | a :: b :: r => by
    have ih := rises_range (b :: r)
    have e : (a :: b :: r).length - 1 = (b :: r).length - 1 + 1 := by simp
    rw [e, List.range_succ_eq_map, List.map_cons, List.map_map, List.all_cons]
    show (decide (a.cps.toList < b.cps.toList) && _) = (decide (a.cps.toList < b.cps.toList) && rises (b :: r))
    rw [← ih]
    rfl
section
variable {P : Program} {w : World} {K : PySem.W.Frag} {mg : Str → Option Value} {base : Heap}
def spRise (K : PySem.W.Frag) : Sp := fun vs H Q _ => ∃ (v : V) (ds : List PyData), vs = [v] ∧ Dp K H v (.tuple ds) ∧ ds.length ≤ 60 ∧ ds.all dObj = true ∧ ∀ H', Same H H' → Q (.bl (rises (ds.map fstS))) H'
end
end Sw
set_option maxRecDepth 100000
set_option maxHeartbeats 4000000
namespace Sw
open PySem PySem.Spec PyProof.Rows L2
/-- x is not True, x is not False, x an int or a bool -/
def rNotB2 : R2 := fun x y H Q => ∃ b : Bool, y = .bl b ∧ ((∃ i, x = .int i ∧ Q (.bl true) H) ∨ ∃ a, x = .bl a ∧ Q (.bl (!decide (a = b))) H)
theorem op_notB2 {X : Cx} : OpR X (compareOp .IsNot) rNotB2 := by
  intro pins s σ H x y v u Q I rx ry h
  obtain ⟨b, rfl, h⟩ := h
  cases (show u = Value.bool b from ry)
  rcases h with ⟨i, rfl, q⟩ | ⟨a, rfl, q⟩
  · obtain ⟨t, rfl⟩ := rx
    exact wpAny_isNot_other rfl (fun z => by cases z) ⟨.bl true, H, I, rfl, q⟩
  · cases (show v = Value.bool a from rx)
    by_cases e : a = b
    · subst e
      exact wpAny_isNot_self rfl ⟨.bl false, H, I, rfl, by simpa using q⟩
    · exact wpAny_isNot_other rfl (fun z => e (Value.bool.inj z)) ⟨.bl true, H, I, rfl, by simpa [e] using q⟩
section
variable {P : Program} {w : World} {K : PySem.W.Frag} {mg : Str → Option Value} {base : Heap}
/-- the signs that spoil a word -/
def bad (z : Str) : List Nat := z.cps.toList.filter fun c => !okSign c
theorem bad_nil (z : Str) : (bad z).isEmpty = z.cps.toList.all okSign := by
  unfold bad
  generalize z.cps.toList = l
  induction l with
  | nil => rfl
  | cons c l ih =>
    by_cases h : okSign c = true
    · simp [h, ← ih]
    · have h' : okSign c = false := by simpa using h
      simp [h']
theorem filter_signs {z : Str} : ((List.range z.cps.size).filter fun i => !okSign (z.cps.toList.getD i 0)).map (fun i => V.str ⟨#[z.cps.toList.getD i 0]⟩) = ((bad z).map fun c => (⟨#[c]⟩ : Str)).map V.str := by
  unfold bad
  have e : z.cps.toList = (List.range z.cps.size).map fun i => z.cps.toList.getD i 0 := by
    apply List.ext_getElem?
    intro i
    simp only [List.getElem?_map]
    by_cases h : i < z.cps.size
    · rw [List.getElem?_range h, List.getElem?_eq_getElem (by simpa using h)]
      simp [List.getD, List.getElem?_eq_getElem, h]
    · rw [List.getElem?_eq_none (by simpa using h), List.getElem?_eq_none (by simpa using h)]
      rfl
  conv => rhs; rw [e]
  rw [List.filter_map, List.map_map, List.map_map]
  rfl
theorem eqv_nil_list (xs : List PyData) : PyData.eqv (.list xs) (.list []) = xs.isEmpty := by
  cases xs <;> simp [PyData.eqv, PyData.eqvAll]
theorem eqv_nil_tup (xs : List PyData) : PyData.eqv (.tuple xs) (.tuple []) = xs.isEmpty := by
  cases xs <;> simp [PyData.eqv, PyData.eqvAll]
theorem strs_shaped {zs : List Str} (h : ∀ z ∈ zs, ∀ c ∈ z.cps.toList, c < 128) : SeqAt.shaped (.list (zs.map PyData.str)) = true := by
  have hf : leaf 0 (.list (zs.map PyData.str)) = true := by
    simp only [leaf]
    refine leafAll_iff.mpr fun x hx => ?_
    obtain ⟨z, hz, rfl⟩ := List.mem_map.mp hx
    exact leaf_str.mpr (h z hz)
  unfold SeqAt.shaped
  rw [leaf_canLay _ hf, Bool.true_and, decide_eq_true_eq]
  have : (PyData.list (zs.map PyData.str)).depth ≤ 0 + 1 := depth_list.mpr fun x hx => by
    obtain ⟨z, _, rfl⟩ := List.mem_map.mp hx
    simp [PyData.depth]
  omega
theorem nil_shaped : SeqAt.shaped (.list []) = true := by decide +kernel
theorem nilT_shaped : SeqAt.shaped (.tuple []) = true := by decide +kernel
theorem bad_sign (c : Nat) : (decide ((c : Int) < 97) || decide ((c : Int) > 122)) = !okSign c := by
  unfold okSign
  by_cases h1 : 97 ≤ c <;> by_cases h2 : c ≤ 122 <;> simp [h1, h2] <;> omega
end
end Sw
set_option maxRecDepth 100000
set_option maxHeartbeats 4000000
namespace Sw
open PySem PySem.Spec PyProof.Rows L2

/-! ### sets of texts -/
def Mem1 (w : World) (e : Int × Value) (x : Str) : Prop := ∃ t, e.2 = Value.str x t ∧ e.1 = hashStr w x
/-- the set at a holds the texts L, none twice -/
def TxtSet (w : World) (h : Heap) (a : Addr) (L : List Str) : Prop :=
  ∃ o es ep t, h.get? a = some o ∧ o.ExactSet ∧ o.data = .set es ep t ∧ Paired (Mem1 w) es.toList L ∧ L.Nodup ∧ es.size < scanBound ∧ t.fits es.size = true ∧ Ris t.place.toList ∧
    (w.params.followText "set-order" = true ∨ t.led = true)
theorem TxtSet.at {w : World} {h h' : Heap} {a : Addr} {L : List Str} (R : TxtSet w h a L) (k : ∀ o, h.get? a = some o → h'.get? a = some o) : TxtSet w h' a L := by
  obtain ⟨o, es, ep, t, ho, r⟩ := R
  exact ⟨o, es, ep, t, k o ho, r⟩
theorem paired_perm {α β : Type} {R : α → β → Prop} : ∀ {l l' : List α}, l'.Perm l → ∀ {L : List β}, Paired R l L → ∃ L', Paired R l' L' ∧ L'.Perm L := by
  intro l l' p
  induction p with
  | nil => intro L h; cases h; exact ⟨[], .nil, .nil⟩
  | cons x p ih =>
    intro L h
    cases h with
    | cons r t =>
      obtain ⟨L', h1, h2⟩ := ih t
      exact ⟨_ :: L', .cons r h1, h2.cons _⟩
  | swap x y l =>
    intro L h
    cases h with
    | cons r1 t =>
      cases t with
      | cons r2 t => exact ⟨_ :: _ :: _, .cons r2 (.cons r1 t), .swap _ _ _⟩
  | trans p q ih1 ih2 =>
    intro L h
    obtain ⟨L1, h1, h2⟩ := ih2 h
    obtain ⟨L2, h3, h4⟩ := ih1 h1
    exact ⟨L2, h3, h4.trans h2⟩
theorem mem_elems {P : Program} {w : World} : ∀ {l : List (Int × Value)} {L : List Str}, Paired (Mem1 w) l L → ElemsOf (strKind P w) l
  | _, _, .nil, _, he => by simp at he
  | _, _, .cons r t, e, he => by
    rcases List.mem_cons.mp he with rfl | he
    · obtain ⟨tk, h1, h2⟩ := r
      exact ⟨⟨_, by rw [h1]; exact strKind_is P w _ tk, h2⟩, by rw [h1]; rfl⟩
    · exact mem_elems t e he
theorem is_iff {P : Program} {w : World} {x y : Str} {t : Tok} : (strKind P w).is x (.str y t) = true ↔ y = x := by
  show Value.isStrOf x (.str y t) = true ↔ _
  simp [Value.isStrOf]
theorem found_mem {P : Program} {w : World} {x : Str} : ∀ {l : List (Int × Value)} {L : List Str}, Paired (Mem1 w) l L → ((∃ e ∈ l, (strKind P w).is x e.2 = true) ↔ x ∈ L)
  | _, _, .nil => by simp
  | _, _, .cons (a := e0) (b := y) r t => by
    have ih := found_mem (P := P) (w := w) (x := x) t
    obtain ⟨tk, h1, _⟩ := r
    constructor
    · rintro ⟨e, he, h⟩
      rcases List.mem_cons.mp he with rfl | he
      · rw [h1, is_iff] at h
        rw [h]
        exact List.mem_cons_self
      · exact List.mem_cons_of_mem _ (ih.mp ⟨e, he, h⟩)
    · intro h
      rcases List.mem_cons.mp h with rfl | h
      · exact ⟨e0, List.mem_cons_self, by rw [h1, is_iff]⟩
      · obtain ⟨e, he, h⟩ := ih.mpr h
        exact ⟨e, List.mem_cons_of_mem _ he, h⟩
section
variable {P : Program} {w : World} {A : Around} {E : Value → Shared → Prop} {s : Shared} {a : Addr} {L : List Str}
theorem txt_store {g : Bool → Sem Unit} (hg : ∀ (b : Bool) (s₁ : Shared) (Q' : Unit → Shared → Prop), Q' () s₁ → wpAny (model P w) A (g b) Q' E s₁)
    {o : Obj} {es es1 : Array (Int × Value)} {ep : Nat} {t t2 : SetTable} (ho : s.heap.get? a = some o) (hex : o.ExactSet) (hd : o.data = .set es ep t) (pr : Paired (Mem1 w) es1.toList L) (nd : L.Nodup)
    (hb : es1.size < scanBound) (hf : t2.fits es1.size = true) (hr : Ris t2.place.toList) (hl : w.params.followText "set-order" = true ∨ t2.led = true) {dm : Bool} {R : Option Bool → Shared → Prop}
    (hR : ∀ h' L', Heap.SameBut a s.heap h' → TxtSet w h' a L' → L'.Perm L → R (some true) { s with heap := h' }) :
    wpAny (model P w) A (do
        storeSet a es1 t2
        if (!dm && t2.tooFull) = true then do
            g (relayAll t2 es1 (SetTable.grown es1.size)).2.2
            storeSet a (relayAll t2 es1 (SetTable.grown es1.size)).1 (relayAll t2 es1 (SetTable.grown es1.size)).2.1
            pure (some true)
          else pure (some true)) R E s := by
  refine wpAny_bind (wpAny_storeSet_of ho hd ?_ (fits_of_scanBound hb))
  have o1 := store_at (es' := es1) (t' := t2) ho hd
  have sb := Heap.SameBut.update s.heap a (Obj.putSet es1 t2)
  split
  · have p1 := relayAll_perm t2 es1 (SetTable.grown es1.size)
    have p2 := relayAll_fits t2 es1 (SetTable.grown es1.size)
    have p3 := relayAll_ris t2 es1 (SetTable.grown es1.size)
    have p4 := relayAll_led t2 es1 (SetTable.grown es1.size)
    generalize relayAll t2 es1 (SetTable.grown es1.size) = Z at p1 p2 p3 p4 ⊢
    obtain ⟨es2, t3, gv⟩ := Z
    dsimp only at p1 p2 p3 p4 ⊢
    obtain ⟨L', q1, q2⟩ := paired_perm p1 pr
    have sz : es2.size = es1.size := by
      have := p1.length_eq
      simpa using this
    have hb2 : es2.size < scanBound := by omega
    refine wpAny_bind (hg gv _ _ ?_)
    refine wpAny_bind (wpAny_storeSet_of o1 rfl ?_ (fits_of_scanBound hb2))
    refine wpAny_pure (hR _ L' (sb.trans (Heap.SameBut.update _ a _)) ?_ q2)
    exact ⟨_, es2, _, t3, store_at (es' := es2) (t' := t3) o1 rfl, hex, rfl, q1, q2.nodup_iff.mpr nd, hb2, p2, p3, hl.imp id fun z => by rw [p4]; exact z⟩
  · exact wpAny_pure (hR _ L sb ⟨_, es1, _, t2, o1, hex, rfl, pr, nd, hb, hf, hr, hl⟩ (.refl _))
theorem txt_add {x : Str} {tk : Tok} {Q : Bool → Shared → Prop} (R : TxtSet w s.heap a L) (room : L.length + 1 < scanBound)
    (hQ : ∀ b h' L', Heap.SameBut a s.heap h' → TxtSet w h' a L' → (x ∈ L ∧ L' = L ∨ x ∉ L ∧ L'.Perm (x :: L)) → Q b { s with heap := h' }) :
    wpAny (model P w) A (setAddHashed a (.str x tk) ((strKind P w).hash x)) Q E s := by
  obtain ⟨o, es, ep, t, ho, hex, hd, pr, nd, hb, hf, hr, hl⟩ := R
  have el : ElemsOf (strKind P w) es.toList := mem_elems pr
  have sc : (Value.str x tk).scannable = true := rfl
  have key : (strKind P w).is x (.str x tk) = true := strKind_is P w x tk
  have hlen : es.size = L.length := by have := pr.length; simpa using this
  unfold setAddHashed setAddHashedIn
  refine wpAny_holding (wpAny_bind (wpAny_setState_of ho hd hf ?_))
  dsimp only
  rw [byScan_of sc hb el]
  simp only [↓reduceIte]
  unfold setAddByScan
  refine wpAny_bind (wpAny_bind (wpAny_rule (wpAny_bind (wpAny_setScan_of key ho hd hf el ?_))))
  cases hfi : List.findIdx? (fun e => (strKind P w).is x e.2) es.toList with
  | some j =>
    obtain ⟨hj, pj, _⟩ := List.findIdx?_eq_some_iff_getElem.mp hfi
    have hx : x ∈ L := (found_mem (P := P) pr).mp ⟨_, List.getElem_mem hj, pj⟩
    exact wpAny_pure (wpAny_pure (hQ _ s.heap L (Heap.SameBut.refl a s.heap) ⟨o, es, ep, t, ho, hex, hd, pr, nd, hb, hf, hr, hl⟩ (.inl ⟨hx, rfl⟩)))
  | none =>
    dsimp only
    have hx : x ∉ L := fun z => by
      obtain ⟨e, he, q⟩ := (found_mem (P := P) pr).mpr z
      have c := List.findIdx?_eq_none_iff.mp hfi e he
      rw [q] at c
      cases c
    have gw : ∀ (b : Bool) {s₁ : Shared} {Q' : Unit → Shared → Prop}, Q' () s₁ → wpAny (model P w) A (match b with | true => rule "set.scan.the-table-gave-way" | false => pure ()) Q' E s₁ := by
      intro b s₁ Q' q
      cases b
      · exact wpAny_pure q
      · exact wpAny_rule q
    have p1 := layNew_perm t es ((strKind P w).hash x) (.str x tk)
    have p2 := layNew_fits t es ((strKind P w).hash x) (.str x tk)
    have p3 := layNew_ris t es ((strKind P w).hash x) (.str x tk) hr
    have p4 := layNew_led t es ((strKind P w).hash x) (.str x tk)
    generalize layNew t es ((strKind P w).hash x) (.str x tk) = Z at p1 p2 p3 p4 ⊢
    obtain ⟨es1, t1, dm, gv⟩ := Z
    dsimp only at p1 p2 p3 p4 ⊢
    rw [Array.toList_push] at p1
    have pr1 : Paired (Mem1 w) (((strKind P w).hash x, Value.str x tk) :: es.toList) (x :: L) := .cons ⟨tk, rfl, rfl⟩ pr
    obtain ⟨L1, q1, q2⟩ := paired_perm (p1.trans (List.perm_append_singleton _ _)) pr1
    have nd1 : L1.Nodup := q2.nodup_iff.mpr (List.nodup_cons.mpr ⟨hx, nd⟩)
    have sz1 : es1.size = L.length + 1 := by
      have h1 := q1.length
      have h2 := q2.length_eq
      simp at h1 h2
      omega
    have hb1 : es1.size < scanBound := by omega
    have hl1 : w.params.followText "set-order" = true ∨ t1.led = true := hl.imp id fun z => by rw [p4]; exact z
    have fin : ∀ h' L', Heap.SameBut a s.heap h' → TxtSet w h' a L' → L'.Perm L1 → Q true { s with heap := h' } := fun h' L' sb r pm => hQ true h' L' sb r (.inr ⟨hx, pm.trans q2⟩)
    refine wpAny_bind (gw _ ?_)
    split
    · refine wpAny_bind ?_
      rw [hashByValue_scannable 8 sc]
      refine wpAny_pure ?_
      refine txt_store (L := L1) ?_ ho hex hd q1 nd1 hb1 ?_ ?_ ?_ ?_
      · intro b s₁ Q' q; cases b <;> first | exact wpAny_pure q | exact wpAny_rule q
      · first | (split <;> first | exact p2 | exact SetTable.fits_plain_off p2) | exact p2
      · first | (split <;> exact p3) | exact p3
      · first | (split <;> exact hl1) | exact hl1
      · intro h' L' sb r pm; dsimp only; exact wpAny_pure (fin h' L' sb r pm)
    · refine wpAny_bind (wpAny_pure ?_)
      simp only [↓reduceIte]
      refine txt_store (L := L1) ?_ ho hex hd q1 nd1 hb1 p2 p3 hl1 ?_
      · intro b s₁ Q' q; cases b <;> first | exact wpAny_pure q | exact wpAny_rule q
      · intro h' L' sb r pm; dsimp only; exact wpAny_pure (fin h' L' sb r pm)
end
end Sw
set_option maxRecDepth 100000
set_option maxHeartbeats 4000000
namespace Sw
open PySem PySem.Spec PyProof.Rows L2
/-- L: what is met in the first i of xs -/
def Met (xs : List Str) (i : Nat) (L : List Str) : Prop := L.length ≤ i ∧ ∀ x, x ∈ L ↔ x ∈ xs.take i
theorem Met.step {xs L L' : List Str} {i : Nat} {x : Str} (g : Met xs i L) (hx : xs[i]? = some x) (h : x ∈ L ∧ L' = L ∨ x ∉ L ∧ L'.Perm (x :: L)) : Met xs (i + 1) L' := by
  have et : xs.take (i + 1) = xs.take i ++ [x] := by rw [List.take_add_one, hx]; rfl
  rcases h with ⟨hm, rfl⟩ | ⟨hm, pm⟩
  · refine ⟨Nat.le_succ_of_le g.1, fun y => ?_⟩
    rw [et, List.mem_append, ← g.2 y]
    constructor
    · exact .inl
    · rintro (h | h)
      · exact h
      · rw [List.mem_singleton.mp h]; exact hm
  · refine ⟨by rw [pm.length_eq, List.length_cons]; exact Nat.succ_le_succ g.1, fun y => ?_⟩
    rw [pm.mem_iff, et, List.mem_append, ← g.2 y, List.mem_cons, List.mem_singleton]
    exact Or.comm
section
variable {P : Program} {w : World} {A : Around} {E : Value → Shared → Prop} {s : Shared}
theorem txt_update {I : Addr} {fp wr : List Addr} {G : Array GenState → Array GenState → Prop} {n : Nat} {Pv : Nat → Value → Prop} {St : Nat → Shared → Prop} {R : Result → Shared → Prop} (W : WalksS P w A.in1 I fp wr G n Pv St)
    (S : Addr) (hSf : S ∉ fp) (xs : List Str) (hn : n = xs.length) (few : n + 1 < scanBound) (hval : ∀ i v, Pv i v → ∃ x t, xs[i]? = some x ∧ v = .str x t) :
    ∀ (k i : Nat) (s : Shared), n - i = k → i ≤ n → St i s → (∃ L, TxtSet w s.heap S L ∧ Met xs i L) → (∀ s' L, Moved (S :: wr) G s s' → TxtSet w s'.heap S L → Met xs n L → R (.ok (.ret .none)) s') →
      codeAny (model P w) A (.builtin "set.update.loop" ⟨[.ref S, .ref I], []⟩) R s := by
  have nw : S ∉ wr := fun h => hSf (W.sub _ h)
  have up : ∀ b ∈ wr, b ∈ S :: wr := fun b hb => List.mem_cons_of_mem _ hb
  intro k
  induction k with
  | zero =>
    rintro i s hk hi st ⟨L, hS, g⟩ hR
    obtain rfl : i = n := by omega
    refine codeAny_builtin PyProof.Rows.F.entry_set_update_loop ?_; rw [Around.under_plainId PyProof.Rows.F.plain_set_update_loop _]
    show wpAny _ A.in1 (pyNext (.ref I) >>= _) _ _ s
    refine wpAny_bind (W.done s _ _ st ?_)
    intro s' hm
    show wpAny _ A.in1 (ret Value.none) _ _ s'
    exact wpAny_pure (hR s' L (hm.mono up) (hS.at fun o e => hm.heap S o nw e) g)
  | succ k ih =>
    rintro i s hk hi st ⟨L, hS, g⟩ hR
    have lt : i < n := by omega
    refine codeAny_builtin PyProof.Rows.F.entry_set_update_loop ?_; rw [Around.under_plainId PyProof.Rows.F.plain_set_update_loop _]
    show wpAny _ A.in1 (pyNext (.ref I) >>= _) _ _ s
    refine wpAny_bind (W.item i s _ _ lt st ?_)
    intro v s' hP st' hm
    obtain ⟨x, t, hx, rfl⟩ := hval i v hP
    have hS' : TxtSet w s'.heap S L := hS.at fun o e => hm.heap S o nw e
    show wpAny _ A.in1 (holding [Value.str x t] (setAdd S (.str x t)) >>= _) _ _ s'
    refine wpAny_bind (wpAny_holding ?_)
    unfold setAdd
    refine wpAny_holding (wpAny_bind ((strKind P w).pyHash (k := x) (strKind_is P w x t) ?_))
    refine txt_add (s := { s' with toks := s'.toks + 1 }) hS' (by have := g.1; omega) ?_
    intro b h' L' sb hS2 hL
    refine wpAny_pure ⟨plainId_quiet PyProof.Rows.F.plain_set_update_loop _, ih (i + 1) _ (by omega) lt (W.frame _ s' _ _ st' (Nat.le_succ _) ?_) ⟨L', hS2, g.step hx hL⟩ ?_⟩
    · intro c hc o e
      rw [sb.2 c (fun z : c = S => hSf (z ▸ hc))]
      exact e
    · intro s'' L2 hm2 hS3 g3
      refine hR s'' L2 (Moved.trans W.gtrans ((hm.mono up).then_heap (Nat.le_succ _) ?_) hm2) hS3 g3
      intro c o hc e
      rw [sb.2 c (fun z : c = S => hc (by rw [z]; exact List.mem_cons_self))]
      exact e
/-- the object that set.__new__ lays -/
abbrev newSetO (w : World) : Obj := { cls := .type "set", dict := none, data := .set #[] 0 (.fresh 0 0 (!w.params.followText "set-order")) }
theorem txt_fresh {h : Heap} {a : Addr} (e : h.get? a = some (newSetO w)) : TxtSet w h a [] := by
  refine ⟨_, #[], 0, _, e, ⟨rfl, rfl, rfl⟩, rfl, .nil, List.nodup_nil, by decide, by rfl, List.Pairwise.nil, ?_⟩
  show _ ∨ (!w.params.followText "set-order") = true
  cases w.params.followText "set-order"
  · exact .inr rfl
  · exact .inl rfl
theorem call_set_txts {l : Addr} {items : Array Value} (xs : List Str) {Q : Value → Shared → Prop} (hh : A.handled = none) (hl : s.heap.IsList l items) (hit : StrsAre items.toList xs) (few : xs.length + 1 < scanBound)
    (h : ∀ (h' : Heap) (tk : Nat) L, TxtSet w h' s.heap.objs.size L → Met xs xs.length L → (∀ b o, s.heap.get? b = some o → h'.get? b = some o) → Q (.ref s.heap.objs.size) { s with heap := h', toks := tk }) :
    wpAny (model P w) A (call (.type "set") [.ref l]) Q E s := by
  have isz : items.size = xs.length := by have := hit.length; simpa using this
  obtain ⟨c, tl, hmro⟩ := F.called_set.mro
  have hmade := F.called_set.made
  have hsub := F.called_set.sub
  refine wpAny_call (codeAny_of_tree ?_)
  show wpAny _ _ (callAny (.type "set") _) _ _ _
  refine wpAny_pure ⟨Code.quiet_builtin _ (by decide +kernel), codeAny_builtin F.entry_type_call ?_⟩
  rw [Around.under_plain (weight_type_call_type "set" [.ref l] []) rfl]
  have h1 := F.called_set.notType
  have h2 := F.called_set.canCreate
  have hct := F.typeCall_set_1 (.ref l)
  repeat (any_goals (first | assumption | wp_step))
  refine codeAny_mono (code_set_led1 (.ref l) (E := E) (Q₁ := fun obj s1 => obj = .ref s.heap.objs.size ∧ s1 = { s with heap := s.heap.push (newSetO w) }) ⟨rfl, rfl⟩) ?_
  intro r s1 hr
  cases r with
  | error e => exact hr
  | ok fl =>
    cases fl with
    | ret obj =>
      obtain ⟨rfl, rfl⟩ := hr
      have hS : (s.heap.push (newSetO w)).get? s.heap.objs.size = some (newSetO w) := Heap.get?_push_size _ rfl
      have hT : Shared.TypeIs { s with heap := s.heap.push (newSetO w) } (.ref s.heap.objs.size) "set" := ⟨_, hS, rfl⟩
      have hli := F.called_set.init.lookup
      have hbi := F.called_set.init.bind (.ref s.heap.objs.size)
      repeat (any_goals (first | assumption | wp_step))
      refine codeAny_mono (codeAny_call_builtin (R := wants (fun r s2 => r = .none ∧ ∃ h' tk L, s2 = { s with heap := h', toks := tk } ∧ TxtSet w h' s.heap.objs.size L ∧ Met xs xs.length L ∧
          (∀ b o, s.heap.get? b = some o → h'.get? b = some o)) E) F.called_set.init.plain F.entry_set_init (check_set_init_1 hT ?_)) ?_
      · obtain ⟨ol, hol, hcl, nl, hdl⟩ := hl
        obtain ⟨ocls, odict, odata, oslots⟩ := ol
        simp only at hcl hdl
        subst hcl
        subst hdl
        have hol' : (s.heap.push (newSetO w)).get? l = some { cls := .type "list", dict := odict, data := .seq items nl, slots := oslots } := Heap.get?_push_of_some _ hol
        have hsls := F.sub_list_set
        have hslf := F.sub_list_frozenset
        have hne : (Value.type "list" == Value.type "dict") = false := by decide
        have hl1 : (s.heap.push (newSetO w)).IsList l items := ⟨_, hol', rfl, nl, rfl⟩
        unfold Builtin.«set.__init__» noKeywords Builtin.Frozenset.updateFrom
        generalize hPI : pyIter = PI
        wp_walk
        subst hPI
        refine wpAny_pyIter_list hl1 (wpAny_bind (wpAny_runValue ?_))
        have hlS : l < s.heap.objs.size := Heap.lt_size hol
        have zp : (s.heap.push (newSetO w)).objs.size = s.heap.objs.size + 1 := Heap.size_push ..
        have neI : l ≠ (s.heap.push (newSetO w)).objs.size := by rw [zp]; exact Nat.ne_of_lt (Nat.lt_succ_of_lt hlS)
        have nS : s.heap.objs.size ∉ [(s.heap.push (newSetO w)).objs.size, l] := by
          rw [zp]
          simp only [List.mem_cons, List.not_mem_nil, or_false, not_or]
          exact ⟨Nat.ne_of_lt (Nat.lt_succ_self _), Nat.ne_of_gt hlS⟩
        have hval : ∀ (i : Nat) (v : Value), items[i]? = some v → ∃ x t, xs[i]? = some x ∧ v = .str x t := fun i v hv => by
          obtain ⟨y, t, e1, e2⟩ := hit.item i v (by rw [Array.getElem?_toList]; exact hv)
          exact ⟨y, t, e2, e1⟩
        refine txt_update ((Walks.list (by simp [hh]) _ l neI items).toS) s.heap.objs.size nS xs isz (by omega) hval (items.size - 0) 0 _ (by omega) (Nat.zero_le _)
          ⟨⟨_, Heap.get?_push_size _ rfl, rfl, rfl⟩, (hl1.push _)⟩ ⟨[], txt_fresh (Heap.get?_push_of_some _ hS), Nat.le_refl _, by simp⟩ ?_
        intro s' L hm hS' g'
        obtain ⟨h', g2, d', tk', os'⟩ := s'
        have eg : g2 = s.gens := hm.gens
        have ed : d' = s.drawn := hm.drawn
        have eo : os' = s.os := hm.os
        subst eg ed eo
        show wpAny _ _ _ _ _ _
        refine wpAny_pure ?_
        show wpAny _ _ (ret Value.none) _ _ _
        rw [isz] at g'
        refine wpAny_pure ⟨rfl, h', tk', L, rfl, hS', g', fun c o e => ?_⟩
        have lc : c < s.heap.objs.size := Heap.lt_size e
        refine hm.heap c o ?_ (Heap.get?_push_of_some _ (Heap.get?_push_of_some _ e))
        simp only [List.mem_cons, List.not_mem_nil, or_false, not_or]
        refine ⟨Nat.ne_of_lt lc, ?_⟩
        rw [zp]
        exact Nat.ne_of_lt (Nat.lt_succ_of_lt lc)
      · intro r2 s2 hr2
        cases r2 with
        | error e => exact hr2
        | ok fl2 =>
          cases fl2 with
          | ret r =>
            obtain ⟨rfl, h', tk, L, rfl, hS', g', hk'⟩ := hr2
            repeat (any_goals (first | assumption | wp_step))
            exact h _ _ _ hS' g' hk'
          | _ => exact hr2.elim
    | _ => exact hr.elim
end
end Sw
set_option maxRecDepth 100000
set_option maxHeartbeats 4000000
namespace Sw
open PySem PySem.Spec PyProof.Rows L2
theorem strs_of_mem {w : World} : ∀ {l : List (Int × Value)} {L : List Str}, Paired (Mem1 w) l L → Paired (fun v x => ∃ t, v = Value.str x t) (l.map (·.2)) L
  | _, _, .nil => .nil
  | _, _, .cons ⟨t, h, _⟩ r => .cons ⟨t, h⟩ (strs_of_mem r)
theorem strs_of_paired : ∀ {l : List Value} {L : List Str}, Paired (fun v x => ∃ t, v = Value.str x t) l L → StrsAre l L
  | _, _, .nil => .nil
  | _, _, .cons ⟨t, h⟩ r => by
    subst h
    exact .cons _ t (strs_of_paired r)
section
variable {P : Program} {w : World} {A : Around} {E : Value → Shared → Prop} {s : Shared}
theorem sorted_txts {a : Addr} {L : List Str} {Q : Value → Shared → Prop} (R : TxtSet w s.heap a L) (hh : A.handled = none) (h64 : L.length < 64)
    (hQ : ∀ s' p (out : Array Value) (c : Nat) (ys : List Str), (∀ b o, s.heap.get? b = some o → s'.heap.get? b = some o) → s'.gens = s.gens → s'.os = s.os → s.heap.objs.size ≤ p →
      s'.heap.get? p = some (seqObj "list" out c) → StrsAre out.toList ys → ys.Perm L → sortedS ys = true → Q (.ref p) s') : wpAny (model P w) A (call (.builtin "sorted") [.ref a]) Q E s := by
  obtain ⟨o, es, ep, t, ho, hex, hd, pr, nd, hb, hf, hr, hl⟩ := R
  refine Calls.call_function_entry kind_sorted plain_sorted entry_sorted (args_sorted1 _) ?_
  unfold Builtin.«sorted»
  refine wpAny_bind (m := checkCount "sorted" 1 1 _) (wpAny_pure ?_)
  refine wpAny_bind (collect_set (A := A.in1) hh ⟨o, ho, hex.1, hd⟩ hf hb hr hl ?_)
  intro s1 vs k1 hz g1 o1 pm
  obtain ⟨L1, q1, q2⟩ := paired_perm pm (strs_of_mem pr)
  have hS := strs_of_paired q1
  have hvl : vs.length = L.length := by rw [q1.length, q2.length_eq]
  refine wpAny_bind (wpAny_newList ?_ (by rw [hvl, sizeLine_eq]; omega))
  have hoL : (s1.heap.push (seqObj "list" vs.toArray 0)).get? s1.heap.objs.size = some (seqObj "list" vs.toArray 0) := Heap.get?_push_size _ rfl
  refine wpAny_bind (wpAny_holding (wpAny_call_entry slot_list_sort ⟨_, hoL, rfl⟩ entry_list_sort (list_sort_treeK PyProof.Rows.strKind_oneLt hoL hS.keysOf (fun v₁ v₂ rest e => keyKind_strs (by rw [← e]; exact hS)) (by rw [hvl]; exact h64) ?_) (args_list_sort _)))
  intro st' hp hs
  obtain ⟨ys, a1, a2, a3⟩ := sorted_out_str hS hp hs
  generalize (arrOf st').map (·.2) = out at a1
  refine ⟨_, rfl, ?_⟩
  obtain ⟨c, hc⟩ := sortedHeap_at (vs := vs) (out := out) hoL
  refine wpAny_pure ⟨_, rfl, hQ _ s1.heap.objs.size out c ys ?_ g1 o1 hz hc a1 (a2.trans q2) a3⟩
  intro b u e
  have q := k1 b u e
  have lt := Heap.lt_size q
  show (sortedHeap (s1.heap.push (seqObj "list" vs.toArray 0)) s1.heap.objs.size vs out).get? b = some u
  rw [sortedHeap_old (Nat.ne_of_lt lt) (by rw [size_push']; exact Nat.lt_succ_of_lt lt)]
  exact Heap.get?_push_of_some _ q
end
/-- a set of texts as a thing of the abstract heap -/
def SetSO (w : World) (a : Addr) (L : List Str) : HO := .ext fun h => TxtSet w h a L
theorem setSO_ok {P : Program} {w : World} {H : Hp} {h : Heap} {a : Addr} {L : List Str} (R : TxtSet w h a L) : ObjOk P w H h a (SetSO w a L) := by
  refine ⟨R, ?_, fun h1 h2 r k => r.at k⟩
  obtain ⟨o, _, _, _, ho, _⟩ := R
  exact ⟨o, ho⟩
section
variable {X : Cx}
def rSetS (K : PySem.W.Frag) (w : World) : List V → Hp → VK → Prop := fun vs H Q => ∃ (l : Addr) (xs : List Str), vs = [.ref l] ∧ SqL K H l (xs.map V.str) ∧ xs.length ≤ 1000 ∧
  ∀ a L, H a = none → L.length ≤ xs.length → (∀ x, x ∈ L ↔ x ∈ xs) → Q (.ref a) (upd H a (SetSO w a L))
theorem cr_setS (hc : X.calm = true) : CallR X (.type "set") (rSetS X.K X.w) := by
  intro pins s σ H vs us Q I r h
  obtain ⟨l, xs, rfl, hl, hn, q⟩ := h
  obtain ⟨its, rv, hp, _⟩ := I.list hl
  rw [Vals.ref1 r]
  refine call_set_txts xs (I.ok.hd hc) hp.isList (by simpa using rv.strs) (by unfold scanBound; omega) ?_
  intro h' tk L hS g k
  have hf : H s.heap.objs.size = none := I.hok.fresh (Nat.le_refl _)
  refine ⟨.ref s.heap.objs.size, _, I.laid (t' := tk) (o := SetSO X.w s.heap.objs.size L) k (Nat.le_refl _) (setSO_ok hS), rfl, q _ L hf g.1 ?_⟩
  intro x
  have := g.2 x
  rwa [List.take_length] at this
def rSortedSS (w : World) : List V → Hp → VK → Prop := fun vs H Q => ∃ (a : Addr) (L : List Str), vs = [.ref a] ∧ H a = some (SetSO w a L) ∧ L.length < 64 ∧
  ∀ (ys : List Str) (p : Addr), ys.Perm L → L.Nodup → sortedS ys = true → H p = none → Q (.ref p) (upd H p (.lst (ys.map V.str)))
theorem cr_sortedSS (hc : X.calm = true) : CallR X (.builtin "sorted") (rSortedSS X.w) := by
  intro pins s σ H vs us Q I r h
  obtain ⟨a, L, rfl, ha, h64, q⟩ := h
  have R : TxtSet X.w s.heap a L := (I.hok a _ ha).1
  have nd : L.Nodup := by
    obtain ⟨_, _, _, _, _, _, _, _, nd, _⟩ := R
    exact nd
  rw [Vals.ref1 r]
  refine sorted_txts R (I.ok.hd hc) h64 ?_
  intro s' p out c ys k g o hp hg hi pm hs
  have hlen : (ys.map V.str).length ≤ sizeLine := by rw [List.length_map, pm.length_eq, sizeLine_eq]; omega
  have hn : H p = none := I.hok.fresh hp
  have J : Inv X pins σ (upd H p (.lst (ys.map V.str))) { s with heap := s'.heap, gens := s'.gens, drawn := s'.drawn, toks := s'.toks } :=
    I.call (ch := []) (Un.laid k hp hn) (I.hok.laid k hp ⟨hlen, out.toList, c, vals_of_strs hi, hg⟩) (by rw [g]; exact I.bare) (fun _ z => nomatch z)
  have e : s' = { s with heap := s'.heap, gens := s'.gens, drawn := s'.drawn, toks := s'.toks } := by
    cases s'; cases s; cases o; rfl
  rw [e]
  exact ⟨.ref p, _, J, rfl, q ys p pm nd hs hn⟩
end
end Sw
set_option maxRecDepth 100000
set_option maxHeartbeats 4000000
namespace Sw
open PySem PySem.Spec PyProof.Rows L2
def LtS (a b : Str) : Prop := a.cps.toList < b.cps.toList
theorem LtS.trans {a b c : Str} (h1 : LtS a b) (h2 : LtS b c) : LtS a c := List.lt_trans h1 h2
theorem LtS.irr {a : Str} : ¬ LtS a a := List.lt_irrefl _
theorem LtS.tri {a b : Str} (h : ¬ LtS b a) (hne : a ≠ b) : LtS a b := by
  have h1 : a.cps.toList ≤ b.cps.toList := h
  rcases List.le_iff_lt_or_eq.mp h1 with h2 | h2
  · exact h2
  · exfalso
    apply hne
    cases a with
    | mk x =>
      cases b with
      | mk y =>
        have : x = y := by
          have := congrArg List.toArray h2
          simpa using this
        rw [this]
theorem rises_pw : ∀ zs : List Str, rises zs = true ↔ zs.Pairwise LtS
  | [] => by simp [rises]
  | [_] => by simp [rises]
  | a :: b :: r => by
    have ih := rises_pw (b :: r)
    rw [show rises (a :: b :: r) = (decide (a.cps.toList < b.cps.toList) && rises (b :: r)) from rfl, Bool.and_eq_true, decide_eq_true_eq, ih]
    constructor
    · rintro ⟨h1, h2⟩
      refine List.pairwise_cons.mpr ⟨fun x hx => ?_, h2⟩
      rcases List.mem_cons.mp hx with rfl | hx
      · exact h1
      · exact LtS.trans h1 ((List.pairwise_cons.mp h2).1 x hx)
    · intro h
      obtain ⟨h1, h2⟩ := List.pairwise_cons.mp h
      exact ⟨h1 b List.mem_cons_self, h2⟩
theorem sorted_pw : ∀ (p : Str) (r : List Str), risingS p r = true → (p :: r).Nodup → (p :: r).Pairwise LtS
  | p, [], _, _ => by simp
  | p, x :: r, h, nd => by
    have h' : (!ltCps x.cps.toList p.cps.toList && risingS x r) = true := h
    rw [Bool.and_eq_true, ltCps_eq] at h'
    obtain ⟨n1, n2⟩ := List.nodup_cons.mp nd
    have ih := sorted_pw x r h'.2 n2
    have hx : LtS p x := LtS.tri (fun z => by have z2 := h'.1; rw [decide_eq_true (show x.cps.toList < p.cps.toList from z)] at z2; cases z2) (fun e => n1 (by rw [e]; exact List.mem_cons_self))
    refine List.pairwise_cons.mpr ⟨fun y hy => ?_, ih⟩
    rcases List.mem_cons.mp hy with rfl | hy
    · exact hx
    · exact LtS.trans hx ((List.pairwise_cons.mp ih).1 y hy)
theorem pw_unique : ∀ {ys zs : List Str}, ys.Pairwise LtS → zs.Pairwise LtS → (∀ x, x ∈ ys ↔ x ∈ zs) → ys = zs
  | [], [], _, _, _ => rfl
  | [], z :: zs, _, _, h => absurd ((h z).mpr List.mem_cons_self) List.not_mem_nil
  | y :: ys, [], _, _, h => absurd ((h y).mp List.mem_cons_self) List.not_mem_nil
  | y :: ys, z :: zs, h1, h2, h => by
    obtain ⟨a1, a2⟩ := List.pairwise_cons.mp h1
    obtain ⟨b1, b2⟩ := List.pairwise_cons.mp h2
    have e : y = z := by
      rcases List.mem_cons.mp ((h y).mp List.mem_cons_self) with e | m1
      · exact e
      · rcases List.mem_cons.mp ((h z).mpr List.mem_cons_self) with e | m2
        · exact e.symm
        · exact absurd ((b1 y m1).trans (a1 z m2)) LtS.irr
    subst e
    rw [pw_unique a2 b2]
    intro x
    constructor
    · intro hx
      rcases List.mem_cons.mp ((h x).mp (List.mem_cons_of_mem _ hx)) with e | m
      · subst e
        exact absurd (a1 x hx) LtS.irr
      · exact m
    · intro hx
      rcases List.mem_cons.mp ((h x).mpr (List.mem_cons_of_mem _ hx)) with e | m
      · subst e
        exact absurd (b1 x hx) LtS.irr
      · exact m
theorem eqvAll_strs : ∀ ys zs : List Str, PyData.eqvAll (ys.map .str) (zs.map .str) = decide (ys = zs)
  | [], [] => by simp [PyData.eqvAll]
  | [], _ :: _ => by simp [PyData.eqvAll]
  | _ :: _, [] => by simp [PyData.eqvAll]
  | y :: ys, z :: zs => by
    simp only [List.map_cons, PyData.eqvAll, PyData.eqv, eqvAll_strs ys zs]
    by_cases h1 : y = z <;> by_cases h2 : ys = zs <;> simp [h1, h2]
theorem eqv_strs (ys zs : List Str) : PyData.eqv (.list (ys.map .str)) (.list (zs.map .str)) = decide (ys = zs) := by
  simp only [PyData.eqv, eqvAll_strs]
theorem sorted_set_is {ys L zs : List Str} (pm : ys.Perm L) (nd : L.Nodup) (hs : sortedS ys = true) (hm : ∀ x, x ∈ L ↔ x ∈ zs) : decide (ys = zs) = rises zs := by
  have ndy : ys.Nodup := pm.nodup_iff.mpr nd
  have py : ys.Pairwise LtS := by
    cases ys with
    | nil => exact .nil
    | cons p r => exact sorted_pw p r hs ndy
  by_cases h : rises zs = true
  · rw [h, decide_eq_true_eq]
    exact pw_unique py ((rises_pw zs).mp h) fun x => by rw [pm.mem_iff, hm]
  · have h' : rises zs = false := by simpa using h
    rw [h', decide_eq_false_iff_not]
    intro e
    subst e
    exact h ((rises_pw _).mpr py)
end Sw
set_option maxRecDepth 100000
set_option maxHeartbeats 4000000
namespace Sw
open PySem PySem.Spec PyProof.Rows L2
section
variable {P : Program} {w : World} {K : PySem.W.Frag} {mg : Str → Option Value} {base : Heap}
/-- pairs whose first things are words -/
def dWp : PyData → Bool
  | .tuple [a, _] => dWord a
  | _ => false
def dPairs : PyData → Bool
  | .tuple ds => !ds.isEmpty && ds.all dWp && rises (ds.map fstS)
  | _ => false
theorem wp_parts {K : PySem.W.Frag} {H : Hp} {v : V} {d : PyData} (h : Dp K H v d) (o : dWp d = true) : ∃ (p : Addr) (z : Str) (v1 : V) (e : PyData), v = .ref p ∧ SqT K H p [.str z, v1] ∧ Dp K H v1 e ∧ fstS d = z ∧ d = .tuple [.str z, e] := by
  unfold dWp at o
  split at o
  · rename_i a b
    cases a with
    | str z =>
      cases h with
      | tup hs r =>
        cases r with
        | cons h0 r =>
          cases r with
          | cons h1 r =>
            cases r
            cases h0
            exact ⟨_, z, _, _, rfl, hs, h1, rfl, rfl⟩
    | _ => simp [dWord] at o
  · cases o
theorem isEmpty_len {α β : Type} {l : List α} {m : List β} (h : l.length = m.length) : l.isEmpty = m.isEmpty := by
  cases l <;> cases m <;> simp at h ⊢
theorem filter_none {α : Type} (l : List α) (p : α → Bool) : (l.filter fun x => !p x).isEmpty = l.all p := by
  induction l with
  | nil => rfl
  | cons c l ih =>
    by_cases h : p c = true
    · simp [h, ← ih]
    · have h' : p c = false := by simpa using h
      simp [h']
theorem range_filter_all {ds : List PyData} (p : PyData → Bool) : ((List.range ds.length).filter fun i => !p (ds.getD i .none)).isEmpty = ds.all p := by
  rw [filter_none]
  have e : ds = (List.range ds.length).map fun i => ds.getD i .none := by
    apply List.ext_getElem?
    intro i
    simp only [List.getElem?_map]
    by_cases h : i < ds.length
    · rw [List.getElem?_range h, List.getElem?_eq_getElem h]
      simp [List.getD, h]
    · rw [List.getElem?_eq_none (by omega), List.getElem?_eq_none (by simp; omega)]
      rfl
  conv => rhs; rw [e]
  rw [List.all_map]
  rfl
theorem fit_shaped {M l n B : Nat} {ds : List PyData} (h : ∀ d ∈ ds, Fit M l n B d) (hn : n ≤ 63) : SeqAt.shaped (.list ds) = true := by
  have hf : leaf M (.list ds) = true := by simp only [leaf]; exact leafAll_iff.mpr fun x hx => (h x hx).lf
  unfold SeqAt.shaped
  rw [leaf_canLay _ hf, Bool.true_and, decide_eq_true_eq]
  have : (PyData.list ds).depth ≤ n + 1 := depth_list.mpr fun x hx => (h x hx).dp
  omega
theorem obj_all : ∀ (ds : List PyData), ds.all dObj = true → ds.all dWp = true := by
  intro ds h
  refine List.all_eq_true.mpr fun d hd => ?_
  have o := List.all_eq_true.mp h d hd
  unfold dObj at o
  split at o
  · rw [Bool.and_eq_true] at o
    exact o.1
  · cases o
end
end Sw
set_option maxRecDepth 100000
set_option maxHeartbeats 4000000
namespace Sw
open PySem PySem.Spec PyProof.Rows L2
/-! ### a heap without one place -/
def del (H : Hp) (p : Addr) : Hp := fun c => if c = p then none else H c
theorem del_some {H : Hp} {p c : Addr} {o : HO} (h : H c = some o) (hc : c ≠ p) : del H p c = some o := by unfold del; rw [if_neg hc]; exact h
theorem of_del {H : Hp} {p c : Addr} {o : HO} (h : del H p c = some o) : H c = some o ∧ c ≠ p := by
  unfold del at h
  by_cases hc : c = p
  · rw [if_pos hc] at h; cases h
  · rw [if_neg hc] at h; exact ⟨h, hc⟩
theorem del_same (H : Hp) (p : Addr) : Same (del H p) H := fun c o h => (of_del h).1
theorem same_del {H H' : Hp} {p : Addr} (h : Same H H') : Same (del H p) (del H' p) := fun c o e => del_some (h _ _ (of_del e).1) (of_del e).2
theorem del_upd {H : Hp} {p : Addr} {o : HO} : Same (del H p) (del (upd H p o) p) := fun c u e => del_some (by rw [upd_ne (of_del e).2]; exact (of_del e).1) (of_del e).2
theorem del_new {H : Hp} {p a : Addr} {o : HO} (ha : H a = none) : Same (del H p) (del (upd H a o) p) := same_del (same_new ha)
theorem new_del {H : Hp} {p a : Addr} {o u : HO} (hp : H p = some u) (ha : H a = none) : del (upd H a o) p a = some o := del_some upd_same (fun e => by rw [e, hp] at ha; cases ha)
/-! ### what the draws stand on -/
structure FeedAt (H : Hp) (p fq : Addr) (b : Nat) : Prop where
  ex : ∃ (ns : List Int) (i j k : Int), H p = some (.lst [.ref fq, .int i, .int j, .int k]) ∧ H fq = some (.lst (ns.map V.int)) ∧ p ≠ fq ∧ 0 ≤ i ∧ 0 ≤ j ∧ 0 ≤ k ∧ k ≤ (b : Int) ∧ ns.length ≤ 63
theorem FeedAt.there {H : Hp} {p fq : Addr} {b : Nat} (h : FeedAt H p fq b) : ∃ u, H p = some u := by
  obtain ⟨ns, i, j, k, hp, _⟩ := h.ex
  exact ⟨_, hp⟩
theorem FeedAt.mono {H : Hp} {p fq : Addr} {b c : Nat} (h : FeedAt H p fq b) (hb : b ≤ c) : FeedAt H p fq c := by
  obtain ⟨ns, i, j, k, h1, h2, h3, h4, h5, h6, h7, h8⟩ := h.ex
  exact ⟨ns, i, j, k, h1, h2, h3, h4, h5, h6, by omega, h8⟩
theorem FeedAt.same {H H' : Hp} {p fq : Addr} {b : Nat} (h : FeedAt H p fq b) (s : Same H H') : FeedAt H' p fq b := by
  obtain ⟨ns, i, j, k, h1, h2, h3⟩ := h.ex
  exact ⟨ns, i, j, k, s _ _ h1, s _ _ h2, h3⟩
/-- another list changes -/
theorem FeedAt.upd {H : Hp} {p fq a : Addr} {b : Nat} {o : HO} (h : FeedAt H p fq b) (h1 : a ≠ p) (h2 : a ≠ fq) : FeedAt (upd H a o) p fq b := by
  obtain ⟨ns, i, j, k, g1, g2, g3⟩ := h.ex
  exact ⟨ns, i, j, k, by rw [upd_ne (Ne.symm h1)]; exact g1, by rw [upd_ne (Ne.symm h2)]; exact g2, g3⟩
theorem FeedAt.ne {H : Hp} {p fq a : Addr} {b : Nat} (h : FeedAt H p fq b) (ha : H a = none) : a ≠ p ∧ a ≠ fq := by
  obtain ⟨ns, i, j, k, g1, g2, g3⟩ := h.ex
  exact ⟨Ne.symm (ne_of_none g1 ha), Ne.symm (ne_of_none g2 ha)⟩
/-- xs[i], for xs[i] += e -/
theorem get_list {X : Cx} : PGet X (fun o i H Q => ∃ p xs k v, o = .ref p ∧ i = .int k ∧ 0 ≤ k ∧ SqL X.K H p xs ∧ xs[k.toNat]? = some v ∧ Q v H) := by
  intro pins s σ H o i ov iv Q I ro ri h
  obtain ⟨p, xs, k, v, rfl, rfl, h0, hq, he, q⟩ := h
  cases ro
  obtain ⟨t, rfl⟩ := ri
  obtain ⟨its, r, pl, hz⟩ := I.list hq
  obtain ⟨u, eu, ru⟩ := r.get he
  have hl := (List.getElem?_eq_some_iff.mp he).1
  have hn := line63
  exact wpAny_getItem_list pl.isList h0 (by omega) (by simpa using eu) ⟨v, H, I, ru, q⟩
theorem ints_shaped (ns : List Int) : SeqAt.shaped (.list (ns.map PyData.int)) = true := by
  have hf : PyData.canLayAll0 (ns.map PyData.int) = true := by
    induction ns with
    | nil => simp [PyData.canLayAll0]
    | cons n ns ih => simp [PyData.canLayAll0, PyData.canLay0, ih]
  unfold SeqAt.shaped
  rw [show (PyData.list (ns.map PyData.int)).canLay0 = true by simpa [PyData.canLay0] using hf, Bool.true_and, decide_eq_true_eq]
  have : (PyData.list (ns.map PyData.int)).depth ≤ 0 + 1 := depth_list.mpr fun x hx => by
    obtain ⟨z, _, rfl⟩ := List.mem_map.mp hx
    simp [PyData.depth]
  omega
theorem DpAll_ints {K : PySem.W.Frag} {H : Hp} : ∀ ns : List Int, DpAll K H (ns.map V.int) (ns.map PyData.int)
  | [] => .nil
  | n :: ns => .cons (.int n) (DpAll_ints ns)
theorem md {x A : Int} (h : 0 < A) (hA : A ≤ 4294967296) : -(2 ^ 64) < x % A ∧ x % A < 2 ^ 64 := by
  have h1 := Int.emod_nonneg x (by omega : A ≠ 0)
  have h2 := Int.emod_lt_of_pos x h
  constructor <;> omega
section
variable {P : Program} {w : World} {K : PySem.W.Frag} {mg : Str → Option Value} {base : Heap}
def spDraw : Sp := fun vs H Q _ => ∃ (p fq : Addr) (m : Int) (b : Nat), vs = [.ref p, .int m] ∧ FeedAt H p fq b ∧ b ≤ 1000000000 ∧ 1 ≤ m ∧ m ≤ 1000000 ∧
  ∀ (r : Int) (H' : Hp), 0 ≤ r → r < m → Same (del H p) (del H' p) → FeedAt H' p fq (b + 1) → Q (.int r) H'
theorem sc_draw : FnScope ["_law_feed_here", "_law_many", "_law_told", "_law_cell", "_law_turn", "_law_mixed"] ["_law_feed_here", "_law_many"] (defScope (topS 18)) := ⟨rfl, rfl, rfl, by decide +kernel, rfl, by decide +kernel, by decide +kernel⟩
theorem ok_draw {f : Addr} {fd : FuncData} (D : Df K mg "_law_draw" (topS 18) ["_law_feed_here", "_law_many"] f fd) (B : Bt mg) : FnOk P w K mg base CX0 1 f fd ["_law_feed_here", "_law_many"] spDraw := by
  refine D.fn.ok sc_draw (fun vs H Q E h => ?_) (fun cdv A outer s H vs Q E hr h => ?_)
  · obtain ⟨p, qa, m, b, rfl, _⟩ := h
    rfl
  obtain ⟨p, qa, m, b, rfl, hF, hb, hm1, hm2, q⟩ := h
  obtain ⟨ns, i, j, k, hp, hq, hne, hi, hj, hk, hkb, hn⟩ := hF.ex
  have hu := hr.units
  have nd := sc_draw.nd
  refine ⟨_, pss_cons (ps_augS (pv 0) pe_int get_list pe_int ip_add set_list)
    (pss_cons (ps_if (pt_cmpR op_gt (pe_ix ix_list (pv 0) pe_int (fun _ _ => rfl)) pe_int (nomark _))
      (pss_cons (ps_set (i := 2) nd rfl (Or.inl rfl) (pe_op op_mod (pe_ix ix_list (pv 0) pe_int (fun _ _ => rfl)) (pv 1)))
      (pss_cons (ps_asg (pe_op op_fdiv (pe_ix ix_list (pv 0) pe_int (fun _ _ => rfl)) (pv 1)) (pg_sub (pv 0) pe_int set_list))
      (pss_one (ps_ret (pv 2))))) pss_nil)
    (pss_cons (ps_set (i := 3) nd rfl (Or.inl rfl) (pe_ifExp (pt_cmpR (op_eqD hu) (pe_ix ix_list (pv 0) pe_int (fun _ _ => rfl)) (pe_lst pa_nil) (nomark _)) pe_int
      (pe_ix ix_list (pe_ix ix_list (pv 0) pe_int (fun _ _ => rfl)) (pe_op op_mod (pe_ix ix_list (pv 0) pe_int (fun _ _ => rfl)) (pe_callB call_len_seq (by rfl) B.len PySem.boot_len (pa_cons (pe_ix ix_list (pv 0) pe_int (fun _ _ => rfl)) pa_nil))) (fun _ _ => rfl))))
    (pss_cons (ps_augS (pv 0) pe_int get_list pe_int ip_add set_list)
    (pss_cons (ps_if (PW.pt (pw_and (pt_cmpR op_ge (pv 3) (pe_op op_pow pe_int pe_int) (nomark _)) (pw_and1 (pt_cmpR op_le (pe_ix ix_list (pv 0) pe_int (fun _ _ => rfl)) (pe_callB call_len_seq (by rfl) B.len PySem.boot_len (pa_cons (pe_ix ix_list (pv 0) pe_int (fun _ _ => rfl)) pa_nil)) (nomark _)))))
      (pss_cons (ps_asg (pe_op op_fdiv (pv 3) (pv 1)) (pg_sub (pv 0) pe_int set_list))
      (pss_one (ps_ret (pe_op op_mod (pv 3) (pv 1))))) pss_nil)
    (pss_cons (ps_set (i := 4) nd rfl (Or.inl rfl) (pe_ix ix_list (pv 0) pe_int (fun _ _ => rfl)))
    (pss_cons (ps_set (i := 5) nd rfl (Or.inl rfl) (pe_op op_mod (pe_op op_add (pe_op op_add (pe_op op_mod (pv 3) pe_int) (pe_op op_mul (pe_op op_mul pe_int (pv 4)) (pv 4))) (pe_op op_mul pe_int (pv 4))) pe_int))
    (pss_cons (ps_set (i := 5) nd rfl (Or.inl rfl) (pe_op op_mod (pe_op op_add (pe_op op_mul (pv 5) (pv 5)) (pe_op op_mul pe_int (pv 4))) pe_int))
    (pss_cons (ps_set (i := 5) nd rfl (Or.inl rfl) (pe_op op_mod (pe_op op_add (pe_op op_mul (pv 5) (pv 5)) (pe_op op_mul pe_int (pv 4))) pe_int))
    (pss_one (ps_ret (pe_op op_mod (pe_op op_fdiv (pe_op op_mod (pe_op op_add (pe_op op_mul (pv 5) (pv 5)) (pv 4)) pe_int) pe_int) (pv 1)))))))))))), ?_⟩
  -- feed[3] += 1
  refine ⟨_, rfl, p, _, 3, _, rfl, rfl, by decide, SqL.of hp, rfl, k, 1, rfl, rfl, p, _, 3, 3, rfl, rfl, hp, rfl, ?_⟩
  generalize hH1 : upd H p (HO.lst ([V.ref qa, V.int i, V.int j, V.int k].set 3 (V.int ((fun i j => i + j) k 1)))) = H1
  have hp1 : H1 p = some (.lst [.ref qa, .int i, .int j, .int (k + 1)]) := by rw [← hH1]; exact upd_same
  have hq1 : H1 qa = some (.lst (ns.map V.int)) := by rw [← hH1, upd_ne (Ne.symm hne)]; exact hq
  have d1 : Same (del H p) (del H1 p) := by rw [← hH1]; exact del_upd
  clear hH1
  -- if feed[2] > 0
  refine ⟨_, rfl, p, _, 2, _, rfl, rfl, SqL.of hp1, atI_nat (j := 2) rfl, j, 0, rfl, rfl, _, rfl, ?_⟩
  refine ite2 (fun c => ?_) (fun c => ?_)
  · refine ⟨_, rfl, p, _, 2, _, rfl, rfl, SqL.of hp1, atI_nat (j := 2) rfl, _, rfl, j, m, rfl, rfl, (by show (0 : Int) < m; omega), ?_⟩
    refine ⟨_, rfl, p, _, 2, _, rfl, rfl, SqL.of hp1, atI_nat (j := 2) rfl, _, rfl, j, m, rfl, rfl, ⟨by omega, by omega⟩, _, rfl, p, _, 2, 2, rfl, rfl, hp1, rfl, ?_⟩
    refine ⟨_, rfl, q _ _ (Int.emod_nonneg _ (by omega)) (Int.emod_lt_of_pos _ (by omega)) (d1.trans del_upd) ⟨ns, i, j / m, k + 1, upd_same, ?_, hne, hi, Int.ediv_nonneg hj (by omega), by omega, by omega, hn⟩⟩
    rw [upd_ne (Ne.symm hne)]
    exact hq1
  -- the cell
  refine ⟨_, rfl, p, _, 0, _, rfl, rfl, SqL.of hp1, atI_nat (j := 0) rfl, Nat.zero_le _, fun N hN => ?_⟩
  have sN : Same H1 (upd H1 N (.lst [])) := same_new hN
  refine ⟨.list (ns.map PyData.int), .list [], .lst (SqL.of (sN _ _ hq1)) (DpAll_ints _), .lst (SqL.of upd_same) .nil, ints_shaped _, nil_shaped, _, rfl, ?_⟩
  have d2 : Same (del H p) (del (upd H1 N (.lst [])) p) := d1.trans (same_del sN)
  have hp2 := sN _ _ hp1
  have hq2 := sN _ _ hq1
  generalize upd H1 N (.lst []) = H2 at d2 hp2 hq2
  rw [eqv_nil_list]
  refine ite2 (fun c2 => ?_) (fun c2 => ?_)
  rotate_left
  · have hne0 : ns.length ≠ 0 := fun e => c2 (by rw [List.eq_nil_of_length_eq_zero e]; rfl)
    have hml : (ns.map V.int).length = ns.length := List.length_map _
    have e1 : 0 ≤ i % ((ns.map V.int).length : Int) := Int.emod_nonneg _ (by rw [hml]; omega)
    have e2 : i % ((ns.map V.int).length : Int) < ((ns.map V.int).length : Int) := Int.emod_lt_of_pos _ (by rw [hml]; omega)
    obtain ⟨t, ht⟩ : ∃ t : Nat, i % ((ns.map V.int).length : Int) = (t : Int) := ⟨_, (Int.toNat_of_nonneg e1).symm⟩
    have ht2 : t < ns.length := by rw [ht, hml] at e2; omega
    have hat : atI (ns.map V.int) (i % ((ns.map V.int).length : Int)) = some (V.int ns[t]) := by
      rw [ht]
      exact atI_nat (by rw [List.getElem?_map, List.getElem?_eq_getElem ht2]; rfl)
    refine ⟨_, rfl, p, _, 0, _, rfl, rfl, SqL.of hp2, atI_nat (j := 0) rfl, _, rfl, p, _, 1, _, rfl, rfl, SqL.of hp2, atI_nat (j := 1) rfl, _, rfl, p, _, 0, _, rfl, rfl, SqL.of hp2, atI_nat (j := 0) rfl, qa, _, rfl, .inl (SqL.of hq2), i, _, rfl, rfl, (by show (0 : Int) < _; rw [hml]; omega), qa, _, _, _, rfl, rfl, SqL.of hq2, hat, ?_⟩
    generalize ns[t] = cell
    refine ⟨_, rfl, p, _, 1, _, rfl, rfl, by decide, SqL.of hp2, rfl, i, 1, rfl, rfl, p, _, 1, 1, rfl, rfl, hp2, rfl, ?_⟩
    generalize hH3 : upd H2 p (HO.lst ([V.ref qa, V.int i, V.int j, V.int (k + 1)].set 1 (V.int ((fun i j => i + j) i 1)))) = H3
    have hp3 : H3 p = some (.lst [.ref qa, .int (i + 1), .int j, .int (k + 1)]) := by rw [← hH3]; exact upd_same
    have hq3 : H3 qa = some (.lst (ns.map V.int)) := by rw [← hH3, upd_ne (Ne.symm hne)]; exact hq2
    have d3 : Same (del H p) (del H3 p) := by rw [← hH3]; exact d2.trans del_upd
    clear hH3
    refine ⟨_, rfl, 10, 18, rfl, rfl, ⟨by decide, by decide, by decide⟩, _, _, rfl, rfl, _, rfl, ?_⟩
    refine ite2 (fun c3 => ?_) (fun c3 => ?_)
    · have c4 := of_decide_eq_true c3
      refine ⟨_, rfl, p, _, 1, _, rfl, rfl, SqL.of hp3, atI_nat (j := 1) rfl, _, rfl, p, _, 0, _, rfl, rfl, SqL.of hp3, atI_nat (j := 0) rfl, qa, _, rfl, .inl (SqL.of hq3), _, _, rfl, rfl, _, rfl, ?_⟩
      refine ite2 (fun c5 => ?_) (fun c5 => ?_)
      · refine ⟨_, rfl, _, rfl, _, m, rfl, rfl, ⟨by omega, by omega⟩, _, rfl, p, _, 2, 2, rfl, rfl, hp3, rfl, ?_⟩
        refine ⟨_, rfl, _, rfl, _, m, rfl, rfl, (by show (0 : Int) < m; omega), ?_⟩
        refine q _ _ (Int.emod_nonneg _ (by omega)) (Int.emod_lt_of_pos _ (by omega)) (d3.trans del_upd) ⟨ns, i + 1, _, k + 1, upd_same, ?_, hne, by omega, Int.ediv_nonneg (Int.le_trans (by decide) c4) (by omega), by omega, by omega, hn⟩
        rw [upd_ne (Ne.symm hne)]
        exact hq3
      · refine ⟨_, rfl, p, _, 3, _, rfl, rfl, SqL.of hp3, atI_nat (j := 3) rfl, ?_⟩
        refine ⟨_, rfl, _, 2147483629, rfl, rfl, (by show (0 : Int) < 2147483629; decide), _, rfl, 69621, k + 1, rfl, rfl, .inl ⟨by decide, by decide⟩, _, rfl, _, k + 1, rfl, rfl, .inr ⟨by omega, by omega⟩, _, _, rfl, rfl, _, rfl, 7, k + 1, rfl, rfl, .inl ⟨by decide, by decide⟩, _, _, rfl, rfl, _, 2147483629, rfl, rfl, (by show (0 : Int) < 2147483629; decide), ?_⟩
        refine ⟨_, rfl, _, rfl, _, _, rfl, rfl, .inl (md (by decide) (by decide)), _, rfl, 48271, k + 1, rfl, rfl, .inl ⟨by decide, by decide⟩, _, _, rfl, rfl, _, 2147483647, rfl, rfl, (by show (0 : Int) < 2147483647; decide), ?_⟩
        refine ⟨_, rfl, _, rfl, _, _, rfl, rfl, .inl (md (by decide) (by decide)), _, rfl, 16807, k + 1, rfl, rfl, .inl ⟨by decide, by decide⟩, _, _, rfl, rfl, _, 2147483587, rfl, rfl, (by show (0 : Int) < 2147483587; decide), ?_⟩
        refine ⟨_, rfl, _, rfl, _, _, rfl, rfl, .inl (md (by decide) (by decide)), _, rfl, _, k + 1, rfl, rfl, _, 2147483629, rfl, rfl, (by show (0 : Int) < 2147483629; decide), _, 131, rfl, rfl, ⟨by decide, by decide⟩, _, rfl, _, m, rfl, rfl, by show (0 : Int) < m; omega, ?_⟩
        exact q _ _ (Int.emod_nonneg _ (by omega)) (Int.emod_lt_of_pos _ (by omega)) d3 ⟨ns, i + 1, j, k + 1, hp3, hq3, hne, by omega, hj, by omega, by omega, hn⟩
    · refine iteF ?_
      refine ⟨_, rfl, p, _, 3, _, rfl, rfl, SqL.of hp3, atI_nat (j := 3) rfl, ?_⟩
      refine ⟨_, rfl, _, 2147483629, rfl, rfl, (by show (0 : Int) < 2147483629; decide), _, rfl, 69621, k + 1, rfl, rfl, .inl ⟨by decide, by decide⟩, _, rfl, _, k + 1, rfl, rfl, .inr ⟨by omega, by omega⟩, _, _, rfl, rfl, _, rfl, 7, k + 1, rfl, rfl, .inl ⟨by decide, by decide⟩, _, _, rfl, rfl, _, 2147483629, rfl, rfl, (by show (0 : Int) < 2147483629; decide), ?_⟩
      refine ⟨_, rfl, _, rfl, _, _, rfl, rfl, .inl (md (by decide) (by decide)), _, rfl, 48271, k + 1, rfl, rfl, .inl ⟨by decide, by decide⟩, _, _, rfl, rfl, _, 2147483647, rfl, rfl, (by show (0 : Int) < 2147483647; decide), ?_⟩
      refine ⟨_, rfl, _, rfl, _, _, rfl, rfl, .inl (md (by decide) (by decide)), _, rfl, 16807, k + 1, rfl, rfl, .inl ⟨by decide, by decide⟩, _, _, rfl, rfl, _, 2147483587, rfl, rfl, (by show (0 : Int) < 2147483587; decide), ?_⟩
      refine ⟨_, rfl, _, rfl, _, _, rfl, rfl, .inl (md (by decide) (by decide)), _, rfl, _, k + 1, rfl, rfl, _, 2147483629, rfl, rfl, (by show (0 : Int) < 2147483629; decide), _, 131, rfl, rfl, ⟨by decide, by decide⟩, _, rfl, _, m, rfl, rfl, by show (0 : Int) < m; omega, ?_⟩
      exact q _ _ (Int.emod_nonneg _ (by omega)) (Int.emod_lt_of_pos _ (by omega)) d3 ⟨ns, i + 1, j, k + 1, hp3, hq3, hne, by omega, hj, by omega, by omega, hn⟩
  · refine ⟨_, rfl, p, _, 1, _, rfl, rfl, by decide, SqL.of hp2, rfl, i, 1, rfl, rfl, p, _, 1, 1, rfl, rfl, hp2, rfl, ?_⟩
    generalize hH3 : upd H2 p (HO.lst ([V.ref qa, V.int i, V.int j, V.int (k + 1)].set 1 (V.int ((fun i j => i + j) i 1)))) = H3
    have hp3 : H3 p = some (.lst [.ref qa, .int (i + 1), .int j, .int (k + 1)]) := by rw [← hH3]; exact upd_same
    have hq3 : H3 qa = some (.lst (ns.map V.int)) := by rw [← hH3, upd_ne (Ne.symm hne)]; exact hq2
    have d3 : Same (del H p) (del H3 p) := by rw [← hH3]; exact d2.trans del_upd
    clear hH3
    refine ⟨_, rfl, 10, 18, rfl, rfl, ⟨by decide, by decide, by decide⟩, _, _, rfl, rfl, _, rfl, ?_⟩
    refine ite2 (fun c3 => ?_) (fun c3 => ?_)
    · have c4 := of_decide_eq_true c3
      refine ⟨_, rfl, p, _, 1, _, rfl, rfl, SqL.of hp3, atI_nat (j := 1) rfl, _, rfl, p, _, 0, _, rfl, rfl, SqL.of hp3, atI_nat (j := 0) rfl, qa, _, rfl, .inl (SqL.of hq3), _, _, rfl, rfl, _, rfl, ?_⟩
      refine ite2 (fun c5 => ?_) (fun c5 => ?_)
      · refine ⟨_, rfl, _, rfl, _, m, rfl, rfl, ⟨by omega, by omega⟩, _, rfl, p, _, 2, 2, rfl, rfl, hp3, rfl, ?_⟩
        refine ⟨_, rfl, _, rfl, _, m, rfl, rfl, (by show (0 : Int) < m; omega), ?_⟩
        refine q _ _ (Int.emod_nonneg _ (by omega)) (Int.emod_lt_of_pos _ (by omega)) (d3.trans del_upd) ⟨ns, i + 1, _, k + 1, upd_same, ?_, hne, by omega, Int.ediv_nonneg (Int.le_trans (by decide) c4) (by omega), by omega, by omega, hn⟩
        rw [upd_ne (Ne.symm hne)]
        exact hq3
      · refine ⟨_, rfl, p, _, 3, _, rfl, rfl, SqL.of hp3, atI_nat (j := 3) rfl, ?_⟩
        refine ⟨_, rfl, _, 2147483629, rfl, rfl, (by show (0 : Int) < 2147483629; decide), _, rfl, 69621, k + 1, rfl, rfl, .inl ⟨by decide, by decide⟩, _, rfl, _, k + 1, rfl, rfl, .inr ⟨by omega, by omega⟩, _, _, rfl, rfl, _, rfl, 7, k + 1, rfl, rfl, .inl ⟨by decide, by decide⟩, _, _, rfl, rfl, _, 2147483629, rfl, rfl, (by show (0 : Int) < 2147483629; decide), ?_⟩
        refine ⟨_, rfl, _, rfl, _, _, rfl, rfl, .inl (md (by decide) (by decide)), _, rfl, 48271, k + 1, rfl, rfl, .inl ⟨by decide, by decide⟩, _, _, rfl, rfl, _, 2147483647, rfl, rfl, (by show (0 : Int) < 2147483647; decide), ?_⟩
        refine ⟨_, rfl, _, rfl, _, _, rfl, rfl, .inl (md (by decide) (by decide)), _, rfl, 16807, k + 1, rfl, rfl, .inl ⟨by decide, by decide⟩, _, _, rfl, rfl, _, 2147483587, rfl, rfl, (by show (0 : Int) < 2147483587; decide), ?_⟩
        refine ⟨_, rfl, _, rfl, _, _, rfl, rfl, .inl (md (by decide) (by decide)), _, rfl, _, k + 1, rfl, rfl, _, 2147483629, rfl, rfl, (by show (0 : Int) < 2147483629; decide), _, 131, rfl, rfl, ⟨by decide, by decide⟩, _, rfl, _, m, rfl, rfl, by show (0 : Int) < m; omega, ?_⟩
        exact q _ _ (Int.emod_nonneg _ (by omega)) (Int.emod_lt_of_pos _ (by omega)) d3 ⟨ns, i + 1, j, k + 1, hp3, hq3, hne, by omega, hj, by omega, by omega, hn⟩
    · refine iteF ?_
      refine ⟨_, rfl, p, _, 3, _, rfl, rfl, SqL.of hp3, atI_nat (j := 3) rfl, ?_⟩
      refine ⟨_, rfl, _, 2147483629, rfl, rfl, (by show (0 : Int) < 2147483629; decide), _, rfl, 69621, k + 1, rfl, rfl, .inl ⟨by decide, by decide⟩, _, rfl, _, k + 1, rfl, rfl, .inr ⟨by omega, by omega⟩, _, _, rfl, rfl, _, rfl, 7, k + 1, rfl, rfl, .inl ⟨by decide, by decide⟩, _, _, rfl, rfl, _, 2147483629, rfl, rfl, (by show (0 : Int) < 2147483629; decide), ?_⟩
      refine ⟨_, rfl, _, rfl, _, _, rfl, rfl, .inl (md (by decide) (by decide)), _, rfl, 48271, k + 1, rfl, rfl, .inl ⟨by decide, by decide⟩, _, _, rfl, rfl, _, 2147483647, rfl, rfl, (by show (0 : Int) < 2147483647; decide), ?_⟩
      refine ⟨_, rfl, _, rfl, _, _, rfl, rfl, .inl (md (by decide) (by decide)), _, rfl, 16807, k + 1, rfl, rfl, .inl ⟨by decide, by decide⟩, _, _, rfl, rfl, _, 2147483587, rfl, rfl, (by show (0 : Int) < 2147483587; decide), ?_⟩
      refine ⟨_, rfl, _, rfl, _, _, rfl, rfl, .inl (md (by decide) (by decide)), _, rfl, _, k + 1, rfl, rfl, _, 2147483629, rfl, rfl, (by show (0 : Int) < 2147483629; decide), _, 131, rfl, rfl, ⟨by decide, by decide⟩, _, rfl, _, m, rfl, rfl, by show (0 : Int) < m; omega, ?_⟩
      exact q _ _ (Int.emod_nonneg _ (by omega)) (Int.emod_lt_of_pos _ (by omega)) d3 ⟨ns, i + 1, j, k + 1, hp3, hq3, hne, by omega, hj, by omega, by omega, hn⟩
end
end Sw
set_option maxRecDepth 100000
set_option maxHeartbeats 4000000
namespace Sw
open PySem PySem.Spec PyProof.Rows L2
/-! ### graphs as data -/
inductive Ge where
  | go (a : Int)
  | iff (a b : Int)
  | back
def endD : Ge → PyData
  | .go a => .tuple [.str "go", .int a]
  | .iff a b => .tuple [.str "if", .str "i", .int a, .int b]
  | .back => .tuple [.str "back"]
def allG : Ge → List Int
  | .go a => [a]
  | .iff a b => [a, b]
  | .back => []
def goalsI : Ge → List Int
  | .go a => [a]
  | .iff a b => if a < b then [a, b] else if b < a then [b, a] else [a]
  | .back => []
theorem mem_goalsI {e : Ge} {x : Int} : x ∈ goalsI e ↔ x ∈ allG e := by
  cases e with
  | go a => rfl
  | back => rfl
  | iff a b =>
    show x ∈ (if a < b then [a, b] else if b < a then [b, a] else [a]) ↔ x ∈ [a, b]
    by_cases h1 : a < b
    · rw [if_pos h1]
    · rw [if_neg h1]
      by_cases h2 : b < a
      · rw [if_pos h2]; simp only [List.mem_cons, List.not_mem_nil, or_false]; exact or_comm
      · rw [if_neg h2]
        have : a = b := by omega
        subst this
        simp
theorem goalsI_sorted (e : Ge) : (goalsI e).Pairwise (· < ·) := by
  cases e with
  | go a => exact List.pairwise_singleton _ _
  | back => exact List.Pairwise.nil
  | iff a b =>
    show (if a < b then [a, b] else if b < a then [b, a] else [a]).Pairwise (· < ·)
    by_cases h1 : a < b
    · rw [if_pos h1]; simp [h1]
    · rw [if_neg h1]
      by_cases h2 : b < a
      · rw [if_pos h2]; simp [h2]
      · rw [if_neg h2]; exact List.pairwise_singleton _ _
theorem goalsI_len (e : Ge) : (goalsI e).length ≤ 2 := by
  cases e with
  | go a => exact Nat.le_succ 1
  | back => exact Nat.zero_le _
  | iff a b =>
    show (if a < b then [a, b] else if b < a then [b, a] else [a]).length ≤ 2
    split
    · exact Nat.le_refl _
    · split
      · exact Nat.le_refl _
      · exact Nat.le_succ 1
/-- two rising lists of the same numbers are the same -/
theorem rising_eq : ∀ {xs ys : List Int}, xs.Pairwise (· < ·) → ys.Pairwise (· < ·) → (∀ k, k ∈ xs ↔ k ∈ ys) → xs = ys
  | [], [], _, _, _ => rfl
  | [], y :: ys, _, _, h => by have := (h y).mpr List.mem_cons_self; cases this
  | x :: xs, [], _, _, h => by have := (h x).mp List.mem_cons_self; cases this
  | x :: xs, y :: ys, px, py, h => by
    rw [List.pairwise_cons] at px py
    have e : x = y := by
      rcases List.mem_cons.mp ((h x).mp List.mem_cons_self) with e | e
      · exact e
      · rcases List.mem_cons.mp ((h y).mpr List.mem_cons_self) with e2 | e2
        · exact e2.symm
        · have := py.1 x e; have := px.1 y e2; omega
    subst e
    congr 1
    refine rising_eq px.2 py.2 fun k => ⟨fun hk => ?_, fun hk => ?_⟩
    · rcases List.mem_cons.mp ((h k).mp (List.mem_cons_of_mem _ hk)) with e2 | e2
      · have := px.1 k hk; omega
      · exact e2
    · rcases List.mem_cons.mp ((h k).mpr (List.mem_cons_of_mem _ hk)) with e2 | e2
      · have := py.1 k hk; omega
      · exact e2
def blkD (e : Ge) : PyData := .tuple [.tuple [], endD e]
def rtD (r : Str × List Ge) : PyData := .tuple [.str r.1, .tuple (r.2.map blkD)]
def objD : PyData := .tuple [.tuple [.str "a", .int 1]]
def codeD (rs : List (Str × List Ge)) : PyData := .tuple [objD, .tuple (rs.map rtD)]
def lk (nm : Str) : List (Str × List Ge) → Option (List Ge)
  | [] => none
  | r :: rs => if r.1 = nm then some r.2 else lk nm rs
/-- where a block goes -/
def arr (es : List Ge) (b : Int) : List Int := match es[b.toNat]? with
  | some e => allG e
  | none => []
structure Gok (es : List Ge) : Prop where
  pos : 1 ≤ es.length
  few : es.length ≤ 60
  rng : ∀ e ∈ es, ∀ g ∈ allG e, 0 ≤ g ∧ g < (es.length : Int)
theorem arr_rng {es : List Ge} (h : Gok es) {a b : Int} (hb : b ∈ arr es a) : 0 ≤ b ∧ b < (es.length : Int) := by
  unfold arr at hb
  split at hb
  · rename_i e he
    exact h.rng e (List.mem_of_getElem? he) b hb
  · cases hb
/-- to which blocks one comes without ov -/
inductive Rch (es : List Ge) (ov : Option Int) : Int → Prop
  | zero : ov ≠ some 0 → Rch es ov 0
  | step {a b : Int} : Rch es ov a → b ∈ arr es a → ov ≠ some b → Rch es ov b
theorem Rch.rng {es : List Ge} {ov : Option Int} (h : Gok es) {a : Int} (r : Rch es ov a) : 0 ≤ a ∧ a < (es.length : Int) := by
  cases r with
  | zero => have := h.pos; omega
  | step _ hb _ => exact arr_rng h hb
theorem Rch.ne {es : List Ge} {ov : Option Int} {a : Int} (r : Rch es ov a) : ov ≠ some a := by
  cases r with
  | zero h => exact h
  | step _ _ h => exact h
/-- what is known while one goes on -/
inductive Led (es : List Ge) (ov : Option Int) : List (Int × Option Int) → Prop
  | one : ov ≠ some 0 → Led es ov [(0, none)]
  | snoc {L : List (Int × Option Int)} {b g : Int} : Led es ov L → b ∈ L.map (·.1) → g ∈ arr es b → g ∉ L.map (·.1) → ov ≠ some g → Led es ov (L ++ [(g, some b)])
theorem Led.rch {es : List Ge} {ov : Option Int} {L : List (Int × Option Int)} (h : Led es ov L) : ∀ k ∈ L.map (·.1), Rch es ov k := by
  induction h with
  | one h => intro k hk; have : k = 0 := by simpa using hk
             rw [this]; exact .zero h
  | @snoc L b g _ hb hg hn ho ih =>
    intro k hk
    rw [List.map_append, List.mem_append] at hk
    rcases hk with hk | hk
    · exact ih k hk
    · have : k = g := by simpa using hk
      rw [this]
      exact .step (ih _ hb) hg ho
theorem Led.nodup {es : List Ge} {ov : Option Int} {L : List (Int × Option Int)} (h : Led es ov L) : (L.map (·.1)).Nodup := by
  induction h with
  | one h => simp
  | @snoc L b g _ hb hg hn ho ih =>
    rw [List.map_append]
    refine List.nodup_append.mpr ⟨ih, by simp, fun a ha b' hb2 => ?_⟩
    have : b' = g := by simpa using hb2
    rw [this]
    exact fun e => hn (e ▸ ha)
theorem Led.zero {es : List Ge} {ov : Option Int} {L : List (Int × Option Int)} (h : Led es ov L) : (0 : Int) ∈ L.map (·.1) := by
  induction h with
  | one h => simp
  | snoc _ _ _ _ _ ih => rw [List.map_append]; exact List.mem_append_left _ ih
theorem Led.no {es : List Ge} {ov : Option Int} {L : List (Int × Option Int)} (h : Led es ov L) : ov ≠ some 0 := by
  induction h with
  | one h => exact h
  | snoc _ _ _ _ _ ih => exact ih
/-- none twice and all below n: at most n -/
theorem few_ints : ∀ (n : Nat) {L : List Int}, L.Nodup → (∀ x ∈ L, 0 ≤ x ∧ x < (n : Int)) → L.length ≤ n
  | 0, [], _, _ => Nat.le_refl _
  | 0, x :: _, _, h => by have := h x List.mem_cons_self; omega
  | n + 1, L, nd, h => by
    have h1 : (L.erase (n : Int)).length ≤ n := few_ints n (nd.erase _) fun x hx => by
      have h2 := h x (List.mem_of_mem_erase hx)
      have h3 : x ≠ (n : Int) := fun e => by
        rw [e] at hx
        exact (List.Nodup.not_mem_erase nd) hx
      omega
    by_cases hm : (n : Int) ∈ L
    · rw [List.length_erase_of_mem hm] at h1
      omega
    · rw [List.erase_of_not_mem hm] at h1
      omega
theorem Led.few {es : List Ge} {ov : Option Int} (hg : Gok es) {L : List (Int × Option Int)} (h : Led es ov L) : L.length ≤ es.length := by
  have := few_ints es.length h.nodup fun x hx => (h.rch x hx).rng hg
  rwa [List.length_map] at this
theorem closed_all {es : List Ge} {ov : Option Int} {ks : List Int} (h0 : ov ≠ some 0 → (0 : Int) ∈ ks) (hc : ∀ b ∈ ks, ∀ g ∈ arr es b, ov ≠ some g → g ∈ ks) {k : Int} (r : Rch es ov k) : k ∈ ks := by
  induction r with
  | zero h => exact h0 h
  | step _ hb ho ih => exact hc _ ih _ hb ho
structure LedOk (es : List Ge) (ov : Option Int) (L : List (Int × Option Int)) : Prop where
  led : (L = [] ∧ ov = some 0) ∨ Led es ov L
  iff : ∀ k, k ∈ L.map (·.1) ↔ Rch es ov k
  nd : (L.map (·.1)).Nodup
  few : L.length ≤ es.length
/-! ### the dict of it -/
def optV : Option Int → V
  | none => .non
  | some i => .int i
def dkv (L : List (Int × Option Int)) : List (Key × V) := L.map fun p => (Sum.inl p.1, optV p.2)
theorem dkv_has (L : List (Int × Option Int)) (k : Int) : (valV (dkv L) (Sum.inl k)).isSome = decide (k ∈ L.map (·.1)) := by
  induction L with
  | nil => rfl
  | cons p L ih =>
    have e : dkv (p :: L) = (Sum.inl p.1, optV p.2) :: dkv L := rfl
    rw [e]
    by_cases h : p.1 = k
    · rw [valV_pos (show ((Sum.inl p.1, optV p.2) : Key × V).1 = Sum.inl k by rw [h])]
      simp [h]
    · rw [valV_neg (show ¬ ((Sum.inl p.1, optV p.2) : Key × V).1 = Sum.inl k from fun z => h (by injection z)), ih]
      have h' : ¬ k = p.1 := fun z => h z.symm
      simp [h']
theorem dkv_put {L : List (Int × Option Int)} {g b : Int} (h : g ∉ L.map (·.1)) : putK (dkv L) (Sum.inl g) (.int b) = dkv (L ++ [(g, some b)]) := by
  unfold putK
  have : ((dkv L).any fun kv => decide (kv.1 = Sum.inl g)) = false := by
    rw [valV_any, dkv_has]
    simpa using h
  rw [this, if_neg (by simp)]
  unfold dkv
  rw [List.map_append]
  rfl
theorem dkv_keys (L : List (Int × Option Int)) : (dkv L).map (·.1) = (L.map (·.1)).map Sum.inl := by
  unfold dkv
  rw [List.map_map, List.map_map]
  rfl
end Sw
set_option maxRecDepth 100000
set_option maxHeartbeats 4000000
namespace Sw
open PySem PySem.Spec PyProof.Rows L2
theorem pss_never {X : Cx} {st : List Stmt} : PSs X st (fun _ _ _ => False) := ⟨fun pins s σ H D I h => h.elim⟩
section
variable {X : Cx}
/-- set(t) of a tuple of numbers -/
def rSetIT (K : PySem.W.Frag) (w : World) : List V → Hp → VK → Prop := fun vs H Q => ∃ (l : Addr) (ns : List Int), vs = [.ref l] ∧ SqT K H l (ns.map V.int) ∧ ns.length ≤ 60 ∧
  ∀ a c, H a = none → c ≤ ns.length → Q (.ref a) (upd H a (SetO w a (fun j => decide (j ∈ ns)) c))
theorem cr_setIT (hc : X.calm = true) : CallR X (.type "set") (rSetIT X.K X.w) := by
  intro pins s σ H vs us Q I r h
  obtain ⟨l, ns, rfl, hl, hn, q⟩ := h
  obtain ⟨its, rv, hp, _⟩ := I.tuple hl
  rw [Vals.ref1 r]
  refine call_set_tupI ns (I.ok.hd hc) hp (by simpa using rv.ints) (by unfold scanBound; omega) ?_
  intro h' tk c hS hcl k
  exact ⟨.ref s.heap.objs.size, _, I.laid (t' := tk) (o := SetO X.w s.heap.objs.size (fun j => decide (j ∈ ns)) c) k (Nat.le_refl _) (setO_new hS), rfl, q _ c (I.hok.fresh (Nat.le_refl _)) hcl⟩
end
theorem Dp_tup {K : PySem.W.Frag} {H : Hp} {v : V} {ds : List PyData} (h : Dp K H v (.tuple ds)) : ∃ a vs, v = .ref a ∧ SqT K H a vs ∧ DpAll K H vs ds := by
  cases h with
  | tup h r => exact ⟨_, _, rfl, h, r⟩
theorem Dp_str {K : PySem.W.Frag} {H : Hp} {v : V} {z : Str} (h : Dp K H v (.str z)) : v = .str z := by cases h; rfl
theorem Dp_int {K : PySem.W.Frag} {H : Hp} {v : V} {i : Int} (h : Dp K H v (.int i)) : v = .int i := by cases h; rfl
theorem DpAll_two {K : PySem.W.Frag} {H : Hp} {vs : List V} {a b : PyData} (h : DpAll K H vs [a, b]) : ∃ x y, vs = [x, y] ∧ Dp K H x a ∧ Dp K H y b := by
  cases h with
  | cons h1 r => cases r with
    | cons h2 r => cases r; exact ⟨_, _, rfl, h1, h2⟩
theorem code_two {K : PySem.W.Frag} {H : Hp} {v : V} {rs : List (Str × List Ge)} (h : Dp K H v (codeD rs)) : ∃ a vo vr, v = .ref a ∧ SqT K H a [vo, vr] ∧ Dp K H vo objD ∧ Dp K H vr (.tuple (rs.map rtD)) := by
  obtain ⟨a, vs, rfl, h1, h2⟩ := Dp_tup h
  obtain ⟨x, y, rfl, h3, h4⟩ := DpAll_two h2
  exact ⟨a, x, y, rfl, h1, h3, h4⟩
section
variable {P : Program} {w : World} {K : PySem.W.Frag} {mg : Str → Option Value} {base : Heap}
def spBlocks (K : PySem.W.Frag) : Sp := fun vs H Q _ => ∃ (vc : V) (nm : Str) (rs : List (Str × List Ge)) (es : List Ge), vs = [vc, .str nm] ∧ Dp K H vc (codeD rs) ∧ lk nm rs = some es ∧ ∀ v, Dp K H v (.tuple (es.map blkD)) → Q v H
theorem sc_blocks : FnScope ["code", "name", "word", "blocks"] ["code", "name"] (defScope (topS 4)) := ⟨rfl, rfl, rfl, by decide +kernel, rfl, by decide +kernel, by decide +kernel⟩
theorem ok_blocks {f : Addr} {fd : FuncData} (D : Df K mg "blocks_of" (topS 4) ["code", "name"] f fd) (B : Bt mg) : FnOk P w K mg base CX0 1 f fd ["code", "name"] (spBlocks K) := by
  refine D.fn.ok sc_blocks (fun vs H Q E h => ?_) (fun cdv A outer s H vs Q E hr h => ?_)
  · obtain ⟨vc, nm, rs, es, rfl, _⟩ := h
    rfl
  obtain ⟨vc, nm, rs, es, rfl, hc, hl, q⟩ := h
  have nd := sc_blocks.nd
  refine ⟨_, pss_cons (ps_for PassesOwn.never rfl (pi_tup (pe_ix ix_tup (pv 0) pe_int (fun _ _ => rfl))) (pg_tup rfl (pgs_cons (pg_name (i := 2) nd rfl (Or.inl rfl)) (pgs_cons (pg_name (i := 3) nd rfl (Or.inl rfl)) pgs_nil)))
      (pss_one (ps_if (pt_cmpR op_eq (pv 2) (pv 1) (nomark _)) (pss_one (ps_ret (pv 3))) pss_nil))) pss_never, ?_⟩
  obtain ⟨a, vo, vr, rfl, ha, ho, hr2⟩ := code_two hc
  obtain ⟨ar, xs, rfl, hx, hd⟩ := Dp_tup hr2
  have hlen : xs.length = rs.length := by rw [DpAll_len hd, List.length_map]
  refine ⟨_, rfl, a, _, 1, _, rfl, rfl, ha, atI_nat (j := 1) rfl, ar, rfl, ⟨_, hx⟩, for_it (walk_tup (xs := xs)) (fun n σ H' => ∃ (x2 x3 : Option V), σ = [some (.ref a), some (.str nm), x2, x3] ∧ H' = H ∧ lk nm (rs.drop n) = some es)
    ⟨_, _, rfl, rfl, hl⟩ (fun n σ H' _ h => by obtain ⟨_, _, _, rfl, _⟩ := h; exact hx) ?_ ?_⟩
  · rintro n x σ H4 H5 hn ⟨x2, x3, rfl, rfl, hk⟩ ⟨rfl, hxn⟩
    obtain ⟨d, hd1, hd2⟩ := DpAll_get hd hxn
    have hn' : n < rs.length := by omega
    rw [List.getElem?_map, List.getElem?_eq_getElem hn'] at hd1
    cases hd1
    rw [List.drop_eq_getElem_cons hn'] at hk
    generalize rs[n] = r at hd2 hk
    obtain ⟨z, eb⟩ := r
    obtain ⟨at_, ys, rfl, hy, hy2⟩ := Dp_tup hd2
    obtain ⟨u1, u2, rfl, k1, k2⟩ := DpAll_two hy2
    cases Dp_str k1
    refine ⟨at_, _, rfl, hy, rfl, _, _, rfl, _, _, rfl, rfl, ?_⟩
    refine ⟨_, rfl, _, rfl, rfl, _, rfl, ?_⟩
    refine ite2 (fun c => ?_) (fun c => ?_)
    · have c' : z = nm := by simpa using c
      have e : lk nm ((z, eb) :: rs.drop (n + 1)) = some eb := by show (if z = nm then _ else _) = _; rw [if_pos c']
      rw [e] at hk
      cases hk
      exact ⟨_, rfl, q _ k2⟩
    · have c' : ¬ z = nm := by simpa using c
      have e : lk nm ((z, eb) :: rs.drop (n + 1)) = lk nm (rs.drop (n + 1)) := by show (if z = nm then _ else _) = _; rw [if_neg c']
      rw [e] at hk
      exact ⟨_, _, rfl, rfl, hk⟩
  · rintro σ H4 ⟨x2, x3, rfl, rfl, hk⟩
    rw [hlen, List.drop_length] at hk
    cases hk
def spGoals (K : PySem.W.Frag) : Sp := fun vs H Q _ => ∃ (v : V) (e : Ge), vs = [v] ∧ Dp K H v (endD e) ∧ ∀ t H', Same H H' → H' t = some (.tup ((goalsI e).map V.int)) → Q (.ref t) H'
theorem sc_goals : FnScope ["end"] ["end"] (defScope (topS 6)) := ⟨rfl, rfl, rfl, by decide +kernel, rfl, by decide +kernel, by decide +kernel⟩
theorem ok_goals {f : Addr} {fd : FuncData} (D : Df K mg "goals" (topS 6) ["end"] f fd) (B : Bt mg) : FnOk P w K mg base CX0 1 f fd ["end"] (spGoals K) := by
  refine D.fn.ok sc_goals (fun vs H Q E h => ?_) (fun cdv A outer s H vs Q E hr h => ?_)
  · obtain ⟨v, e, rfl, _⟩ := h
    rfl
  obtain ⟨v, e, rfl, hd, q⟩ := h
  refine ⟨_, pss_cons (ps_if (pt_cmpR op_eq (pe_ix ix_tup (pv 0) pe_int (fun _ _ => rfl)) pe_str (nomark _)) (pss_one (ps_ret (pe_tup (pa_cons (pe_ix ix_tup (pv 0) pe_int (fun _ _ => rfl)) pa_nil)))) pss_nil)
    (pss_cons (ps_if (pt_cmpR op_eq (pe_ix ix_tup (pv 0) pe_int (fun _ _ => rfl)) pe_str (nomark _))
      (pss_one (ps_ret (pe_callTy call_tuple_of (by rfl) B.tuple (by decide +kernel) (pa_cons (pe_callB (cr_sortedSet rfl) (by rfl) B.sorted (by decide +kernel) (pa_cons (pe_callTy (cr_setIT rfl) (by rfl) B.set (by decide +kernel) (pa_cons (pe_slice sl_tup (pv 0) (po_some pe_int) po_none) pa_nil)) pa_nil)) pa_nil)))) pss_nil)
    (pss_one (ps_ret (pe_tup pa_nil)))), ?_⟩
  cases e with
  | go a =>
    obtain ⟨p, xs, rfl, hp, hx⟩ := Dp_tup hd
    obtain ⟨x, y, rfl, h1, h2⟩ := DpAll_two hx
    cases Dp_str h1
    cases Dp_int h2
    refine ⟨_, rfl, p, _, 0, _, rfl, rfl, hp, atI_nat (j := 0) rfl, rfl, _, rfl, iteT ?_⟩
    exact ⟨_, rfl, p, _, 1, _, rfl, rfl, hp, atI_nat (j := 1) rfl, by show 1 ≤ sizeLine; decide, fun t ht => q t _ (same_new ht) upd_same⟩
  | back =>
    obtain ⟨p, xs, rfl, hp, hx⟩ := Dp_tup hd
    cases hx with
    | cons h1 r =>
      cases r
      cases Dp_str h1
      refine ⟨_, rfl, p, _, 0, _, rfl, rfl, hp, atI_nat (j := 0) rfl, rfl, _, rfl, iteF ?_⟩
      refine ⟨_, rfl, p, _, 0, _, rfl, rfl, hp, atI_nat (j := 0) rfl, rfl, _, rfl, iteF ?_⟩
      exact ⟨Nat.zero_le _, fun t ht => q t _ (same_new ht) upd_same⟩
  | iff a b =>
    obtain ⟨p, xs, rfl, hp, hx⟩ := Dp_tup hd
    cases hx with
    | cons h1 r => cases r with
      | cons h2 r => cases r with
        | cons h3 r => cases r with
          | cons h4 r =>
            cases r
            cases Dp_str h1
            cases Dp_int h3
            cases Dp_int h4
            refine ⟨_, rfl, p, _, 0, _, rfl, rfl, hp, atI_nat (j := 0) rfl, rfl, _, rfl, iteF ?_⟩
            refine ⟨_, rfl, p, _, 0, _, rfl, rfl, hp, atI_nat (j := 0) rfl, rfl, _, rfl, iteT ?_⟩
            refine ⟨_, rfl, 2, rfl, p, _, rfl, hp, (fun z => absurd z.1 (by show ¬ (2 : Nat) = 0; decide)), fun t1 ht1 => ?_⟩
            refine ⟨t1, [a, b], rfl, SqT.of upd_same, by show 2 ≤ 60; decide, fun t2 c ht2 hc2 => ?_⟩
            refine ⟨t2, _, c, rfl, upd_same, by have : c ≤ 2 := hc2; omega, fun ns t3 hs hm hl ht3 => ?_⟩
            refine ⟨t3, _, rfl, .inl ⟨SqL.of upd_same, fun t4 ht4 => ?_⟩⟩
            have en : ns = goalsI (.iff a b) := rising_eq hs (goalsI_sorted _) fun k => by rw [hm, mem_goalsI]; simp [allG]
            subst en
            exact q t4 _ ((((same_new ht1).trans (same_new ht2)).trans (same_new ht3)).trans (same_new ht4)) upd_same
end
end Sw
set_option maxRecDepth 100000
set_option maxHeartbeats 4000000
namespace Sw
open PySem PySem.Spec PyProof.Rows L2
/-- CODE at a value, with the routine of a name -/
structure CodeOf (K : PySem.W.Frag) (H : Hp) (v : V) (nm : Str) (es : List Ge) : Prop where
  ex : ∃ rs, Dp K H v (codeD rs) ∧ lk nm rs = some es
  ok : Gok es
theorem CodeOf.same {K : PySem.W.Frag} {H H' : Hp} {v : V} {nm : Str} {es : List Ge} (h : CodeOf K H v nm es) (s : Same H H') : CodeOf K H' v nm es := by
  obtain ⟨rs, h1, h2⟩ := h.ex
  exact ⟨⟨rs, Dp_same s h1, h2⟩, h.ok⟩
def tTru (K : PySem.W.Frag) (t : TE) : TT := fun σ H Q => t σ H fun x H' => ∃ k, TruV K x H' k ∧ Q k H'
theorem pt_tru {X : Cx} {a : Expr} {ta : TE} (ha : PE X a ta) (he : ∀ whole, isTrue a X.env whole = (do let v ← whole; standAt a.pos; holding [v] (truthy v)) := by intro _; rfl) : PT X a (tTru X.K ta) := pt_truth ha he
def goalsAt (es : List Ge) (b : Int) : List Int := match es[b.toNat]? with
  | some e => goalsI e
  | none => []
theorem mem_goalsAt {es : List Ge} {b x : Int} : x ∈ goalsAt es b ↔ x ∈ arr es b := by
  unfold goalsAt arr
  cases es[b.toNat]? with
  | some e => exact mem_goalsI
  | none => exact Iff.rfl
theorem no_rch0 {es : List Ge} {k : Int} (h : Rch es (some 0) k) : False := by
  induction h with
  | zero h => exact h rfl
  | step _ _ _ ih => exact ih
theorem goalsAt_len (es : List Ge) (b : Int) : (goalsAt es b).length ≤ 2 := by
  unfold goalsAt
  split
  · exact goalsI_len _
  · exact Nat.zero_le _
section
variable {P : Program} {w : World} {K : PySem.W.Frag} {mg : Str → Option Value} {base : Heap}
def spNexts (K : PySem.W.Frag) : Sp := fun vs H Q _ => ∃ (vc : V) (nm : Str) (b : Int) (es : List Ge), vs = [vc, .str nm, .int b] ∧ CodeOf K H vc nm es ∧ 0 ≤ b ∧ b < (es.length : Int) ∧ ∀ t H', Same H H' → H' t = some (.tup ((goalsAt es b).map V.int)) → Q (.ref t) H'
theorem sc_nexts : FnScope ["code", "name", "block", "rows", "end"] ["code", "name", "block"] (defScope (topS 7)) := ⟨rfl, rfl, rfl, by decide +kernel, rfl, by decide +kernel, by decide +kernel⟩
theorem ok_nexts {f f1 f2 : Addr} {fd fd1 fd2 : FuncData} (D : Df K mg "nexts" (topS 7) ["code", "name", "block"] f fd) (D1 : Df K mg "blocks_of" (topS 4) ["code", "name"] f1 fd1) (D2 : Df K mg "goals" (topS 6) ["end"] f2 fd2) (B : Bt mg)
    (G1 : FnOk P w K mg base CX0 1 f1 fd1 ["code", "name"] (spBlocks K)) (G2 : FnOk P w K mg base CX0 1 f2 fd2 ["end"] (spGoals K)) : FnOk P w K mg base CX0 2 f fd ["code", "name", "block"] (spNexts K) := by
  refine D.fn.ok sc_nexts (fun vs H Q E h => ?_) (fun cdv A outer s H vs Q E hr h => ?_)
  · obtain ⟨vc, nm, b, es, rfl, _⟩ := h
    rfl
  obtain ⟨vc, nm, b, es, rfl, hc, hb0, hb1, q⟩ := h
  have nd := sc_nexts.nd
  refine ⟨_, pss_cons (ps_asg (pe_ix ix_tup (pe_call G1 hr (by rfl) D1.gl D1.fn.kp D1.bd .nil pass0 (pa_cons (pv 0) (pa_cons (pv 1) pa_nil))) (pv 2) (fun _ _ => rfl)) (pg_tup rfl (pgs_cons (pg_name (i := 3) nd rfl (Or.inl rfl)) (pgs_cons (pg_name (i := 4) nd rfl (Or.inl rfl)) pgs_nil))))
    (pss_one (ps_ret (pe_call G2 hr (by rfl) D2.gl D2.fn.kp D2.bd .nil pass0 (pa_cons (pv 4) pa_nil)))), ?_⟩
  obtain ⟨rs, h1, h2⟩ := hc.ex
  refine ⟨_, rfl, _, rfl, vc, nm, rs, es, rfl, h1, h2, fun v hv => ?_⟩
  obtain ⟨a, xs, rfl, ha, hx⟩ := Dp_tup hv
  obtain ⟨n, rfl⟩ : ∃ n : Nat, b = (n : Int) := ⟨b.toNat, (Int.toNat_of_nonneg hb0).symm⟩
  have hn : n < es.length := by omega
  obtain ⟨u, hu, hd⟩ := DpAll_get' (i := n) hx (by rw [List.getElem?_map, List.getElem?_eq_getElem hn]; rfl)
  have eg : goalsAt es (n : Int) = goalsI es[n] := by
    unfold goalsAt
    rw [Int.toNat_natCast, List.getElem?_eq_getElem hn]
  rw [eg] at q
  generalize es[n] = e at hd q
  obtain ⟨p, ys, rfl, hp, hy⟩ := Dp_tup hd
  obtain ⟨x, y, rfl, _, k2⟩ := DpAll_two hy
  refine ⟨_, rfl, a, _, _, _, rfl, rfl, ha, atI_nat hu, p, _, rfl, hp, rfl, _, _, rfl, _, _, rfl, rfl, ?_⟩
  exact ⟨_, rfl, y, e, rfl, k2, q⟩
/-- over as it is handed in -/
def spLed (K : PySem.W.Frag) : Sp := fun vs H Q _ => ∃ (vc : V) (nm : Str) (ov : Option Int) (es : List Ge), vs = [vc, .str nm, optV ov] ∧ CodeOf K H vc nm es ∧ ∀ d H' L, Same H H' → H d = none → H' d = some (.dK (dkv L)) → LedOk es ov L → Q (.ref d) H'
theorem sc_led : FnScope ["code", "name", "over", "ahead", "todo", "block", "goal"] ["code", "name", "over"] (defScope (topS 8)) := ⟨rfl, rfl, rfl, by decide +kernel, rfl, by decide +kernel, by decide +kernel⟩
theorem Dp_opt {K : PySem.W.Frag} {H : Hp} (ov : Option Int) : Dp K H (optV ov) (match ov with | none => .none | some i => .int i) := by
  cases ov with
  | none => exact .non
  | some i => exact .int i
theorem opt_shaped (ov : Option Int) : SeqAt.shaped (match ov with | none => .none | some i => .int i) = true := by
  cases ov <;> rfl
theorem opt_eqv (ov : Option Int) (k : Int) : PyData.eqv (match ov with | none => .none | some i => .int i) (.int k) = decide (ov = some k) := by
  cases ov with
  | none => rfl
  | some i =>
    show (i == k) = _
    by_cases h : i = k
    · simp [h]
    · simp [h]
theorem opt_eqv' (ov : Option Int) (k : Int) : PyData.eqv (.int k) (match ov with | none => .none | some i => .int i) = decide (ov = some k) := by
  cases ov with
  | none => rfl
  | some i =>
    show (k == i) = _
    by_cases h : i = k
    · simp [h]
    · have : ¬ k = i := fun z => h z.symm
      simp [h, this]
/-- while one goes on: what is known, what is to be done yet -/
structure LedAt (es : List Ge) (ov : Option Int) (L : List (Int × Option Int)) (T : List Int) : Prop where
  led : Led es ov L
  sub : ∀ t ∈ T, t ∈ L.map (·.1)
  cls : ∀ b ∈ L.map (·.1), b ∉ T → ∀ g ∈ arr es b, ov ≠ some g → g ∈ L.map (·.1)
  few : T.length ≤ L.length
theorem ok_led {f f1 : Addr} {fd fd1 : FuncData} (D : Df K mg "led_around" (topS 8) ["code", "name", "over"] f fd) (D1 : Df K mg "nexts" (topS 7) ["code", "name", "block"] f1 fd1) (B : Bt mg)
    (G1 : FnOk P w K mg base CX0 2 f1 fd1 ["code", "name", "block"] (spNexts K)) : FnOk P w K mg base CX0 3 f fd ["code", "name", "over"] (spLed K) := by
  refine D.fn.ok sc_led (fun vs H Q E h => ?_) (fun cdv A outer s H vs Q E hr h => ?_)
  · obtain ⟨vc, nm, ov, es, rfl, _⟩ := h
    rfl
  obtain ⟨vc, nm, ov, es, rfl, hc, q⟩ := h
  have nd := sc_led.nd
  have hu := hr.units
  have hu1 := Nat.lt_of_le_of_lt (Nat.add_le_add_left (by decide : 1 ≤ 64) _) hu
  refine ⟨_, pss_cons (ps_if (pt_cmpR (op_eqD hu) (pv 2) pe_int (nomark _)) (pss_one (ps_ret pe_dnewK)) pss_nil)
    (pss_cons (ps_set (i := 3) nd rfl (Or.inl rfl) (pe_disp (pps_cons pe_int pe_non pps_nil) (by rfl) (by rfl) (fun z => by cases z) (by decide)))
    (pss_cons (ps_set (i := 4) nd rfl (Or.inl rfl) (pe_lst (pa_cons pe_int pa_nil)))
    (pss_cons (ps_while PassesOwn.never (pt_tru (pv 4))
      (pss_cons (ps_set (i := 5) nd rfl (Or.inl rfl) (pe_bm0 PySem.F.plainAttrs_list PySem.F.slot_list_pop PySem.F.type_list_pop mt_pop (pv 4)))
      (pss_one (ps_for PassesOwn.never rfl (pi_tup (pe_call G1 hr (by rfl) D1.gl D1.fn.kp D1.bd .nil pass0 (pa_cons (pv 0) (pa_cons (pv 1) (pa_cons (pv 5) pa_nil))))) (pg_name (i := 6) nd rfl (Or.inl rfl))
        (pss_one (ps_if (PW.pt (pw_and (pt_cmpR (op_neD hu) (pv 6) (pv 2) (nomark _)) (pw_and1 (pt_cmp (pc_dnotin hu1 (pv 6) (pv 3))))))
          (pss_cons (ps_dput hu1 (pv 3) (pv 6) (pv 5) rfl)
          (pss_one (ps_expr (pe_bm PySem.F.plainAttrs_list PySem.F.slot_list_append PySem.F.type_list_append mt_append (pv 4) (pa_cons (pv 6) pa_nil))))) pss_nil))))))
    (pss_one (ps_ret (pv 3)))))), ?_⟩
  refine ⟨_, rfl, _, .int 0, Dp_opt ov, .int 0, opt_shaped ov, rfl, _, rfl, ?_⟩
  rw [opt_eqv]
  refine ite2 (fun c => ?_) (fun c => ?_)
  · have c' : ov = some 0 := by simpa using c
    subst c'
    exact fun d hd => q d _ [] (same_new hd) hd upd_same ⟨.inl ⟨rfl, rfl⟩, fun k => ⟨fun h => absurd h List.not_mem_nil, fun h => (no_rch0 h).elim⟩, List.nodup_nil, Nat.zero_le _⟩
  have c' : ov ≠ some 0 := by simpa using c
  refine fun d hd => ?_
  refine ⟨upd_same, [(Sum.inl 0, .non)], rfl, by decide, ?_⟩
  have s1 : Same H (upd (upd H d (.dK [])) d (.dK [(Sum.inl 0, V.non)])) := fun b x e => by
    rw [upd_ne (ne_of_none e hd), upd_ne (ne_of_none e hd)]
    exact e
  have e1 : upd (upd H d (.dK [])) d (.dK [(Sum.inl 0, V.non)]) d = some (.dK (dkv [(0, none)])) := upd_same
  have q1 : (upd (upd H d (.dK [])) d (.dK (mergeK [] [(Sum.inl 0, V.non)]))) = upd (upd H d (.dK [])) d (.dK [(Sum.inl 0, V.non)]) := rfl
  rw [q1]
  generalize upd (upd H d (.dK [])) d (.dK [(Sum.inl 0, V.non)]) = H1 at s1 e1
  refine ⟨by show 1 ≤ sizeLine; decide, fun l hl => ?_⟩
  have s2 : Same H (upd H1 l (.lst [.int 0])) := s1.trans (same_new hl)
  have e2 : upd H1 l (.lst [.int 0]) d = some (.dK (dkv [(0, none)])) := (same_new hl) _ _ e1
  have e3 : upd H1 l (.lst [.int 0]) l = some (.lst (([0] : List Int).map V.int)) := upd_same
  have hl0 : H l = none := by
    cases hx : H l with
    | none => rfl
    | some o => rw [s1 _ _ hx] at hl; cases hl
  have ndl : d ≠ l := ne_of_none e1 hl
  generalize upd H1 l (.lst [.int 0]) = H2 at s2 e2 e3
  refine while_by (fun σ H' => ∃ (L : List (Int × Option Int)) (T : List Int) (x5 x6 : Option V), σ = [some vc, some (.str nm), some (optV ov), some (.ref d), some (.ref l), x5, x6] ∧ Same H H' ∧ H' d = some (.dK (dkv L)) ∧ H' l = some (.lst (T.map V.int)) ∧ LedAt es ov L T)
    (fun σ H' => match H' d, H' l with | some (.dK kvs), some (.lst ts) => 2 * (es.length - kvs.length) + ts.length | _, _ => 0)
    ⟨[(0, none)], [0], none, none, rfl, s2, e2, e3, ⟨.one c', by simp, fun b hb hn => absurd (by simpa using hb) (by simpa using hn), Nat.le_refl _⟩⟩ ?_ ?_
  · rintro σ H3 ⟨L, T, x5, x6, rfl, s3, d3, l3, I⟩
    refine ⟨_, rfl, _, .inl ⟨_, SqL.of l3, rfl⟩, ?_⟩
    cases hT : T with
    | nil =>
      subst hT
      refine iteF ?_
      refine ⟨_, rfl, q d H3 L s3 hd d3 ⟨.inr I.led, fun k => ⟨I.led.rch k, fun r => closed_all (fun _ => I.led.zero) (fun b hb g hg ho => I.cls b hb (by simp) g hg ho) r⟩, I.led.nodup, I.led.few hc.ok⟩⟩
    | cons t0 T0 =>
      rw [← hT]
      have hne : T ≠ [] := by rw [hT]; simp
      obtain ⟨T1, b, hTb⟩ : ∃ T1 b, T = T1 ++ [b] := ⟨T.dropLast, T.getLast hne, (List.dropLast_concat_getLast hne).symm⟩
      clear hT
      subst hTb
      have hemp : (!((T1 ++ [b]).map V.int).isEmpty) = true := by simp
      rw [hemp]
      refine iteT ?_
      refine ⟨_, rfl, .inl ⟨rfl, _, SqL.of l3⟩, l, _, .int b, rfl, rfl, l3, by simp, ?_⟩
      have s4 : Same H (upd H3 l (.lst ((T1 ++ [b]).map V.int).dropLast)) := fun c o e => by rw [upd_ne (ne_of_none e hl0)]; exact s3 _ _ e
      have d4 : upd H3 l (.lst ((T1 ++ [b]).map V.int).dropLast) d = some (.dK (dkv L)) := by rw [upd_ne ndl]; exact d3
      have l4 : upd H3 l (.lst ((T1 ++ [b]).map V.int).dropLast) l = some (.lst (T1.map V.int)) := by rw [upd_same, List.map_append]; simp
      generalize upd H3 l (.lst ((T1 ++ [b]).map V.int).dropLast) = H4 at s4 d4 l4
      have hbL : b ∈ L.map (·.1) := I.sub b (by simp)
      obtain ⟨hb0, hb1⟩ := (I.led.rch b hbL).rng hc.ok
      have fewL := I.led.few hc.ok
      have few0 := I.few
      rw [List.length_append, List.length_singleton] at few0
      refine ⟨_, rfl, _, rfl, _, rfl, vc, nm, b, es, rfl, hc.same s4, hb0, hb1, fun t H5 s5 t5 => ?_⟩
      have hg2 := goalsAt_len es b
      refine ⟨t, rfl, ⟨_, SqT.of t5⟩, for_it (walk_tup (xs := (goalsAt es b).map V.int)) (fun n σ H' => ∃ (L' : List (Int × Option Int)) (T' : List Int) (x6 : Option V), σ = [some vc, some (.str nm), some (optV ov), some (.ref d), some (.ref l), some (.int b), x6] ∧ Same H H' ∧ H' t = some (.tup ((goalsAt es b).map V.int)) ∧ H' d = some (.dK (dkv L')) ∧ H' l = some (.lst (T'.map V.int)) ∧ Led es ov L' ∧ (∀ k ∈ L.map (·.1), k ∈ L'.map (·.1)) ∧ (∀ k ∈ T', k ∈ L'.map (·.1)) ∧
          (∀ k ∈ L'.map (·.1), k ∉ T' → k ≠ b → ∀ g ∈ arr es k, ov ≠ some g → g ∈ L'.map (·.1)) ∧ (∀ g ∈ (goalsAt es b).take n, ov ≠ some g → g ∈ L'.map (·.1)) ∧ 2 * (es.length - L'.length) + T'.length ≤ 2 * (es.length - L.length) + T1.length ∧ T'.length ≤ L'.length)
        ⟨L, T1, _, rfl, s4.trans s5, t5, s5 _ _ d4, s5 _ _ l4, I.led, fun k h => h, fun k h => I.sub k (List.mem_append_left _ h), fun k h1 h2 h3 => I.cls k h1 (by simp [h2, h3]), fun g h => by simp at h, Nat.le_refl _, by omega⟩
        (fun n σ H' _ h => by obtain ⟨L', T', x6, _, _, ht, _⟩ := h; exact SqT.of ht) ?_ ?_⟩
      · rintro n x σ H6 H7 hn ⟨L', T', x6, rfl, s6, t6, d6, l6, led, inc, sub, cls, got, mu, few⟩ ⟨rfl, hxn⟩
        rw [List.length_map] at hn
        rw [List.getElem?_map, List.getElem?_eq_getElem hn] at hxn
        have hxn' : V.int (goalsAt es b)[n] = x := Option.some.inj hxn
        subst hxn'
        have hgm : (goalsAt es b)[n] ∈ arr es b := mem_goalsAt.mp (List.getElem_mem hn)
        have etk : (goalsAt es b).take (n + 1) = (goalsAt es b).take n ++ [(goalsAt es b)[n]] := by rw [List.take_succ, List.getElem?_eq_getElem hn]; rfl
        generalize (goalsAt es b)[n] = g at hgm etk
        have few' := led.few hc.ok
        refine ⟨_, rfl, _, rfl, .int g, _, .int g, Dp_opt ov, rfl, opt_shaped ov, _, rfl, ?_⟩
        rw [opt_eqv']
        refine ite2 (fun c1 => ?_) (fun c1 => ?_)
        · have c1' : ov ≠ some g := by simpa using c1
          refine ⟨_, rfl, _, rfl, d, _, rfl, DGet.k (k := Sum.inl g) d6, _, rfl, ?_⟩
          rw [dkv_has]
          refine ite2 (fun c2 => ?_) (fun c2 => ?_)
          · have c2' : g ∉ L'.map (·.1) := by simpa using c2
            have led' : Led es ov (L' ++ [(g, some b)]) := .snoc led (inc b hbL) hgm c2' c1'
            have few2 := led'.few hc.ok
            rw [List.length_append, List.length_singleton] at few2
            have fe := hc.ok.few
            have hdl : (dkv L').length = L'.length := List.length_map _
            refine ⟨_, rfl, _, rfl, _, rfl, d, _, rfl, DPut.k (k := Sum.inl g) d6 (by rw [hdl, sizeLine_eq]; omega), ?_⟩
            rw [dkv_put c2']
            have s7 : Same H (upd H7 d (.dK (dkv (L' ++ [(g, some b)])))) := fun c o e => by rw [upd_ne (ne_of_none e hd)]; exact s6 _ _ e
            have t7 : upd H7 d (.dK (dkv (L' ++ [(g, some b)]))) t = some (.tup ((goalsAt es b).map V.int)) := by
              rw [upd_ne (fun e => by rw [e, d6] at t6; cases t6)]
              exact t6
            have d7 : upd H7 d (.dK (dkv (L' ++ [(g, some b)]))) d = some (.dK (dkv (L' ++ [(g, some b)]))) := upd_same
            have l7 : upd H7 d (.dK (dkv (L' ++ [(g, some b)]))) l = some (.lst (T'.map V.int)) := by rw [upd_ne (Ne.symm ndl)]; exact l6
            generalize upd H7 d (.dK (dkv (L' ++ [(g, some b)]))) = H8 at s7 t7 d7 l7
            refine ⟨_, rfl, .inl ⟨rfl, _, SqL.of l7⟩, _, rfl, l, _, _, rfl, rfl, l7, by rw [List.length_map, sizeLine_eq]; omega, ?_⟩
            have mapk : (L' ++ [(g, some b)]).map (·.1) = L'.map (·.1) ++ [g] := by rw [List.map_append]; rfl
            refine ⟨L' ++ [(g, some b)], T' ++ [g], _, rfl, fun c o e => by rw [upd_ne (ne_of_none e hl0)]; exact s7 _ _ e, ?_, by rw [upd_ne ndl]; exact d7, by rw [upd_same, List.map_append]; rfl, led', ?_, ?_, ?_, ?_, ?_, ?_⟩
            · rw [upd_ne (fun e => by rw [e, l7] at t7; cases t7)]
              exact t7
            · intro k hk
              rw [mapk]
              exact List.mem_append_left _ (inc k hk)
            · intro k hk
              rw [mapk]
              rcases List.mem_append.mp hk with hk | hk
              · exact List.mem_append_left _ (sub k hk)
              · exact List.mem_append_right _ hk
            · intro k hk hn1 hn2 g' hg' ho'
              rw [mapk] at hk ⊢
              rw [List.mem_append, not_or] at hn1
              rcases List.mem_append.mp hk with hk | hk
              · exact List.mem_append_left _ (cls k hk hn1.1 hn2 g' hg' ho')
              · exact absurd hk hn1.2
            · intro g' hg' ho'
              rw [etk] at hg'
              rw [mapk]
              rcases List.mem_append.mp hg' with hk | hk
              · exact List.mem_append_left _ (got g' hk ho')
              · exact List.mem_append_right _ hk
            · rw [List.length_append, List.length_append, List.length_singleton, List.length_singleton]
              omega
            · rw [List.length_append, List.length_append, List.length_singleton, List.length_singleton]
              omega
          · have c2' : g ∈ L'.map (·.1) := by simpa using c2
            refine ⟨L', T', _, rfl, s6, t6, d6, l6, led, inc, sub, cls, fun g' hg' ho' => ?_, mu, few⟩
            rw [etk] at hg'
            rcases List.mem_append.mp hg' with hk | hk
            · exact got g' hk ho'
            · have : g' = g := by simpa using hk
              rw [this]; exact c2'
        · have c1' : ov = some g := by simpa using c1
          refine iteF ?_
          refine ⟨L', T', _, rfl, s6, t6, d6, l6, led, inc, sub, cls, fun g' hg' ho' => ?_, mu, few⟩
          rw [etk] at hg'
          rcases List.mem_append.mp hg' with hk | hk
          · exact got g' hk ho'
          · have : g' = g := by simpa using hk
            rw [this] at ho'; exact absurd c1' ho'
      · rintro σ H6 ⟨L', T', x6, rfl, s6, t6, d6, l6, led, inc, sub, cls, got, mu, few⟩
        rw [List.length_map, List.take_length] at got
        refine ⟨⟨L', T', _, _, rfl, s6, d6, l6, ⟨led, sub, fun k hk hn g hg ho => ?_, few⟩⟩, ?_⟩
        · by_cases hkb : k = b
          · rw [hkb] at hg
            exact got g (mem_goalsAt.mpr hg) ho
          · exact cls k hk hn hkb g hg ho
        · show (match H6 d, H6 l with | some (.dK kvs), some (.lst ts) => 2 * (es.length - kvs.length) + ts.length | _, _ => 0) < (match H3 d, H3 l with | some (.dK kvs), some (.lst ts) => 2 * (es.length - kvs.length) + ts.length | _, _ => 0)
          rw [d6, l6, d3, l3]
          show 2 * (es.length - (dkv L').length) + (T'.map V.int).length < 2 * (es.length - (dkv L).length) + ((T1 ++ [b]).map V.int).length
          rw [List.length_map, List.length_map, List.length_append, List.length_singleton, show (dkv L').length = L'.length from List.length_map _, show (dkv L).length = L.length from List.length_map _]
          omega
  · intro σ H' Q1 Q2 h12 hc2
    obtain ⟨v, h1, k, h2, h3⟩ := hc2
    exact ⟨v, h1, k, h2, h12 _ _ h3⟩
end
end Sw
set_option maxRecDepth 100000
set_option maxHeartbeats 4000000
namespace Sw
open PySem PySem.Spec PyProof.Rows L2
/-- range's items as a list -/
def ivs (n : Nat) : List V := (List.range n).map fun k : Nat => V.int (k : Int)
theorem ivs_at {n i : Nat} {x : V} (h : (ivs n)[i]? = some x) : x = .int (i : Int) ∧ i < n := by
  unfold ivs at h
  rw [List.getElem?_map] at h
  by_cases hi : i < n
  · rw [List.getElem?_range hi] at h
    exact ⟨(Option.some.inj h).symm, hi⟩
  · rw [List.getElem?_eq_none (by rw [List.length_range]; omega)] at h
    cases h
theorem walk_rangeA {n : Nat} : Walk (Itr 0 n) n (fun _ => True) (YAt (ivs n)) := by
  refine ⟨walk_range.goes, walk_range.stops, fun i H x H' hi hg y => ?_⟩
  obtain ⟨rfl, rfl⟩ := walk_range.yields i H x H' hi hg y
  refine ⟨rfl, ?_⟩
  unfold ivs
  rw [List.getElem?_map, List.getElem?_range hi]
  show some (V.int _) = some (V.int _)
  rw [Int.zero_add]
noncomputable def domB (es : List Ge) (o u : Int) : Bool := @decide (¬ Rch es (some o) u) (Classical.propDecidable _)
theorem domB_iff {es : List Ge} {o u : Int} : domB es o u = true ↔ ¬ Rch es (some o) u := by
  unfold domB
  exact @decide_eq_true_iff _ (Classical.propDecidable _)
theorem domB_of {es : List Ge} {o u : Int} {b : Bool} (h : b = true ↔ ¬ Rch es (some o) u) : b = domB es o u := by
  cases hb : b with
  | true => exact (domB_iff.mpr (h.mp hb)).symm
  | false =>
    cases hd : domB es o u with
    | false => rfl
    | true => exact absurd (h.mpr (domB_iff.mp hd)) (by rw [hb]; decide)
noncomputable def domsI (es : List Ge) (u : Int) : List Int := ((List.range es.length).filter fun i : Nat => domB es (i : Int) u).map fun i : Nat => (i : Int)
section
variable {P : Program} {w : World} {K : PySem.W.Frag} {mg : Str → Option Value} {base : Heap}
def spDom (K : PySem.W.Frag) : Sp := fun vs H Q _ => ∃ (vc : V) (nm : Str) (o u : Int) (es : List Ge), vs = [vc, .str nm, .int o, .int u] ∧ CodeOf K H vc nm es ∧ ∀ H', Same H H' → Q (.bl (domB es o u)) H'
theorem sc_dom : FnScope ["code", "name", "over", "under"] ["code", "name", "over", "under"] (defScope (topS 11)) := ⟨rfl, rfl, rfl, by decide +kernel, rfl, by decide +kernel, by decide +kernel⟩
theorem ok_dom {f f1 : Addr} {fd fd1 : FuncData} (D : Df K mg "dominates" (topS 11) ["code", "name", "over", "under"] f fd) (D1 : Df K mg "led_around" (topS 8) ["code", "name", "over"] f1 fd1) (B : Bt mg)
    (G1 : FnOk P w K mg base CX0 3 f1 fd1 ["code", "name", "over"] (spLed K)) : FnOk P w K mg base CX0 4 f fd ["code", "name", "over", "under"] (spDom K) := by
  refine D.fn.ok sc_dom (fun vs H Q E h => ?_) (fun cdv A outer s H vs Q E hr h => ?_)
  · obtain ⟨vc, nm, o, u, es, rfl, _⟩ := h
    rfl
  obtain ⟨vc, nm, o, u, es, rfl, hc, q⟩ := h
  have hu := hr.units
  have hu1 := Nat.lt_of_le_of_lt (Nat.add_le_add_left (by decide : 1 ≤ 64) _) hu
  refine ⟨_, pss_one (ps_ret (pe_cmp (pc_dnotin hu1 (pv 3) (pe_call G1 hr (by rfl) D1.gl D1.fn.kp D1.bd .nil pass0 (pa_cons (pv 0) (pa_cons (pv 1) (pa_cons (pv 2) pa_nil))))))), ?_⟩
  refine ⟨_, rfl, _, rfl, _, rfl, _, rfl, vc, nm, some o, es, rfl, hc, fun d H' L s' hd hd' ok => ?_⟩
  refine ⟨d, _, rfl, DGet.k (k := Sum.inl u) hd', ?_⟩
  rw [dkv_has]
  have e : (!decide (u ∈ L.map (·.1))) = domB es o u := domB_of (by simp [ok.iff])
  rw [e]
  exact q H' s'
def spDoms (K : PySem.W.Frag) : Sp := fun vs H Q _ => ∃ (vc : V) (nm : Str) (u : Int) (es : List Ge), vs = [vc, .str nm, .int u] ∧ CodeOf K H vc nm es ∧ ∀ t H', Same H H' → H' t = some (.tup ((domsI es u).map V.int)) → Q (.ref t) H'
theorem sc_doms : FnScope ["code", "name", "block", "over"] ["code", "name", "block"] (defScope (topS 12)) := ⟨rfl, rfl, rfl, by decide +kernel, rfl, by decide +kernel, by decide +kernel⟩
theorem ok_doms {f f1 f2 : Addr} {fd fd1 fd2 : FuncData} (D : Df K mg "dominators" (topS 12) ["code", "name", "block"] f fd) (D1 : Df K mg "blocks_of" (topS 4) ["code", "name"] f1 fd1) (D2 : Df K mg "dominates" (topS 11) ["code", "name", "over", "under"] f2 fd2) (B : Bt mg)
    (G1 : FnOk P w K mg base CX0 1 f1 fd1 ["code", "name"] (spBlocks K)) (G2 : FnOk P w K mg base CX0 4 f2 fd2 ["code", "name", "over", "under"] (spDom K)) : FnOk P w K mg base CX0 5 f fd ["code", "name", "block"] (spDoms K) := by
  refine D.fn.ok sc_doms (fun vs H Q E h => ?_) (fun cdv A outer s H vs Q E hr h => ?_)
  · obtain ⟨vc, nm, u, es, rfl, _⟩ := h
    rfl
  obtain ⟨vc, nm, u, es, rfl, hc, q⟩ := h
  have nd := sc_doms.nd
  have hr1 : Room 1 _ := hr.mono (by decide)
  refine ⟨_, pss_one (ps_ret (pe_callTy call_tuple_of (by rfl) B.tuple (by decide +kernel) (pa_cons
    (pe_lc (own := [("over", 3)]) (g := gName 3) (tt := tB (tCall (spDom K) [] E (tCons (tVar 0) (tCons (tVar 1) (tCons (tVar 3) (tCons (tVar 2) tNil)))))) rfl nd (pi_range1 (by rfl) B.range (pa_cons (pe_callB call_len_seq (by rfl) B.len PySem.boot_len (pa_cons (pe_call G1 hr1 (by rfl) D1.gl D1.fn.kp D1.bd .nil pass0 (pa_cons (pv 0) (pa_cons (pv 1) pa_nil))) pa_nil)) pa_nil))
      (blkOk_by (N := ["code", "name", "block", "over"]) (sc := defScope (topS 12)) (by decide +kernel)) (fun _ _ _ _ _ => pg_name (i := 3) nd rfl (Or.inl rfl))
      (fun _ _ _ _ _ => pts_one (pt_val (pe_call G2 hr (by rfl) D2.gl D2.fn.kp D2.bd .nil pass0 (pa_cons (pv 0) (pa_cons (pv 1) (pa_cons (pv 3) (pa_cons (pv 2) pa_nil)))))))
      (fun _ _ _ _ _ => pv 3)) pa_nil))), ?_⟩
  obtain ⟨rs, h1, h2⟩ := hc.ex
  refine ⟨_, rfl, _, rfl, vc, nm, rs, es, rfl, h1, h2, fun v hv => ?_⟩
  obtain ⟨a, xs, rfl, ha, hx⟩ := Dp_tup hv
  have hxl : xs.length = es.length := by rw [DpAll_len hx, List.length_map]
  have few := hc.ok.few
  refine ⟨a, _, rfl, .inr ha, _, rfl, by omega, by omega, fun L hL => ?_⟩
  rw [hxl, Int.toNat_natCast]
  refine lc_pure walk_rangeA (fun i => domB es (i : Int) u) (fun i => V.int (i : Int)) hL (fun _ _ => trivial) (big_size (by omega)) ?_ ?_ ?_
  · intro i x H1 Q1 hi hx1 s1 q1
    obtain ⟨rfl, _⟩ := ivs_at hx1
    exact ⟨_, rfl, _, rfl, _, rfl, _, rfl, vc, nm, (i : Int), u, es, rfl, hc.same s1, fun H2 s2 => ⟨_, rfl, q1 H2 s2⟩⟩
  · intro i x H1 Q1 hi hx1 _ s1 q1
    obtain ⟨rfl, _⟩ := ivs_at hx1
    exact ⟨_, rfl, q1 H1 (Same.refl _)⟩
  · intro H1 s1 hL1
    refine ⟨L, _, rfl, .inl ⟨SqL.of hL1, fun t ht => q t _ (s1.trans (same_new ht)) ?_⟩⟩
    rw [upd_same]
    unfold domsI
    rw [List.map_map]
    rfl
end
end Sw
set_option maxRecDepth 100000
set_option maxHeartbeats 4000000
namespace Sw
open PySem PySem.Spec PyProof.Rows L2
/-! ### data without lists stand in the tuples of the heap -/
mutual
def noL : PyData → Bool
  | .list _ => false
  | .dict _ => false
  | .tuple xs => noLAll xs
  | _ => true
def noLAll : List PyData → Bool
  | [] => true
  | x :: xs => noL x && noLAll xs
end
theorem noLAll_iff : ∀ {xs : List PyData}, noLAll xs = true ↔ ∀ x ∈ xs, noL x = true
  | [] => by simp [noLAll]
  | x :: xs => by simp [noLAll, noLAll_iff (xs := xs)]
/-- the heap's tuples, and what is locked -/
def tps (H : Hp) : Hp := fun c => match H c with
  | some (.tup xs) => some (.tup xs)
  | some (.frz o u) => some (.frz o u)
  | _ => none
theorem tps_sub {H : Hp} : Same (tps H) H := fun c o e => by
  unfold tps at e
  split at e
  · rename_i xs h; cases e; exact h
  · rename_i o' u h; cases e; exact h
  · cases e
theorem tps_tup {H : Hp} {c : Addr} {xs : List V} (h : H c = some (.tup xs)) : tps H c = some (.tup xs) := by unfold tps; rw [h]
theorem tps_frz {H : Hp} {c : Addr} {o : Obj} {u : HO} (h : H c = some (.frz o u)) : tps H c = some (.frz o u) := by unfold tps; rw [h]
theorem tps_same {H H' : Hp} (s : Same H H') : Same (tps H) (tps H') := fun c o e => by
  have h := tps_sub _ _ e
  have h' := s _ _ h
  unfold tps at e ⊢
  rw [h] at e
  rw [h']
  exact e
/-- a list changes: the tuples stay -/
theorem tps_lst {H : Hp} {F : Addr} {xs ys : List V} (hF : H F = some (.lst xs)) : Same (tps H) (tps (upd H F (.lst ys))) := fun c o e => by
  have h := tps_sub _ _ e
  have nc : c ≠ F := fun z => by
    rw [z] at e
    unfold tps at e
    rw [hF] at e
    cases e
  have h' : upd H F (.lst ys) c = some o := by rw [upd_ne nc]; exact h
  unfold tps at e ⊢
  rw [h] at e
  rw [h']
  exact e
theorem tps_del {H : Hp} {p : Addr} : Same (tps (del H p)) (del (tps H) p) := fun c o e => by
  obtain ⟨h1, h2⟩ := of_del (tps_sub _ _ e)
  refine del_some ?_ h2
  unfold tps at e ⊢
  rw [show del H p c = some o from del_some h1 h2] at e
  rw [h1]
  exact e
theorem sqt_tps {K : PySem.W.Frag} {H : Hp} {a : Addr} {xs : List V} (h : SqT K H a xs) : SqT K (tps H) a xs := by
  rcases h with (h | ⟨o, h⟩) | h
  · exact .inl (.inl (tps_tup h))
  · exact .inl (.inr ⟨o, tps_frz h⟩)
  · exact .inr h
mutual
theorem Dp_tps {K : PySem.W.Frag} {H : Hp} : ∀ {v : V} {d : PyData}, Dp K H v d → noL d = true → Dp K (tps H) v d
  | _, _, .non, _ => .non
  | _, _, .bl b, _ => .bl b
  | _, _, .int i, _ => .int i
  | _, _, .str x, _ => .str x
  | _, _, .lst h r, e => by simp [noL] at e
  | _, _, .tup h r, e => .tup (sqt_tps h) (DpAll_tps r (by simpa [noL] using e))
theorem DpAll_tps {K : PySem.W.Frag} {H : Hp} : ∀ {vs : List V} {ds : List PyData}, DpAll K H vs ds → noLAll ds = true → DpAll K (tps H) vs ds
  | _, _, .nil, _ => .nil
  | _, _, .cons (d := d) (ds := ds) h r, e => by
    have e' : noL d = true ∧ noLAll ds = true := by simpa [noLAll] using e
    exact .cons (Dp_tps h e'.1) (DpAll_tps r e'.2)
end
/-! ### lists that grow, of data without lists -/
structure GL (K : PySem.W.Frag) (p fq L : Addr) (H : Hp) (vs : List V) (ds : List PyData) : Prop where
  at_ : H L = some (.lst vs)
  dat : DpAll K (tps (del H p)) vs ds
  np : L ≠ p
  nq : L ≠ fq
section
variable {K : PySem.W.Frag} {p fq L : Addr} {H H' : Hp} {vs : List V} {ds : List PyData}
theorem GL.next (h : GL K p fq L H vs ds) (s : Same (del H p) (del H' p)) : GL K p fq L H' vs ds := ⟨(of_del (s _ _ (del_some h.at_ h.np))).1, DpAll_same (tps_same s) h.dat, h.np, h.nq⟩
theorem GL.lay (h : GL K p fq L H vs ds) (s : Same H H') : GL K p fq L H' vs ds := h.next (same_del s)
theorem del_lst {L' : Addr} {xs ys : List V} (hL : H L' = some (.lst xs)) (np : L' ≠ p) : Same (tps (del H p)) (tps (del (upd H L' (.lst ys)) p)) := by
  have e : del (upd H L' (.lst ys)) p = upd (del H p) L' (.lst ys) := by
    funext c
    show (if c = p then none else (if c = L' then some (.lst ys) else H c)) = if c = L' then some (.lst ys) else (if c = p then none else H c)
    by_cases h1 : c = p
    · rw [if_pos h1, if_neg (fun z => np (z.symm.trans h1)), if_pos h1]
    · rw [if_neg h1, if_neg h1]
  rw [e]
  exact tps_lst (del_some hL np)
theorem GL.other {L' : Addr} {xs ys : List V} (h : GL K p fq L H vs ds) (hL : H L' = some (.lst xs)) (np : L' ≠ p) (ne : L ≠ L') : GL K p fq L (upd H L' (.lst ys)) vs ds :=
  ⟨by rw [upd_ne ne]; exact h.at_, DpAll_same (del_lst hL np) h.dat, h.np, h.nq⟩
theorem GL.push {v : V} {d : PyData} (h : GL K p fq L H vs ds) (hd : Dp K (del H p) v d) (hn : noL d = true) : GL K p fq L (upd H L (.lst (vs ++ [v]))) (vs ++ [v]) (ds ++ [d]) :=
  ⟨upd_same, DpAll_same (del_lst h.at_ h.np) (DpAll_append h.dat (.cons (Dp_tps hd hn) .nil)), h.np, h.nq⟩
end
end Sw
set_option maxRecDepth 100000
set_option maxHeartbeats 4000000
namespace Sw
open PySem PySem.Spec PyProof.Rows L2
theorem endD_noL (e : Ge) : noL (endD e) = true := by cases e <;> rfl
theorem blkD_noL (e : Ge) : noL (blkD e) = true := by
  show (noL (.tuple []) && (noL (endD e) && true)) = true
  rw [endD_noL]
  rfl
/-- the ends to be drawn from -/
def endsOf (a b c : Int) : List Ge := [.go a, .go c, .iff a b, .iff c a, .back]
theorem five_of {α : Type} {x0 x1 x2 x3 x4 : α} {r : Int} (h0 : 0 ≤ r) (h1 : r < 5) : ∃ j : Nat, r = (j : Int) ∧ j < 5 := ⟨r.toNat, (Int.toNat_of_nonneg h0).symm, by omega⟩
/-- while a graph is drawn -/
structure GS (K : PySem.W.Frag) (p fq L : Addr) (H0 : Hp) (b : Nat) (H : Hp) (us : List V) (es : List Ge) : Prop where
  sm : Same (del H0 p) (del H p)
  fd : FeedAt H p fq b
  gl : GL K p fq L H us (es.map blkD)
section
variable {K : PySem.W.Frag} {p fq L : Addr} {H0 H H' : Hp} {b b' : Nat} {us : List V} {es : List Ge}
theorem GS.next (h : GS K p fq L H0 b H us es) (s : Same (del H p) (del H' p)) (F : FeedAt H' p fq b') : GS K p fq L H0 b' H' us es := ⟨h.sm.trans s, F, h.gl.next s⟩
theorem GS.lay (h : GS K p fq L H0 b H us es) (s : Same H H') : GS K p fq L H0 b H' us es := h.next (same_del s) (h.fd.same s)
end
abbrev N15 : List Str := ["_law_feed_here", "_law_most", "_law_many", "_law_blocks", "_law_block", "_law_first", "_law_second", "_law_near", "_law_ends"]
section
variable {P : Program} {w : World} {K : PySem.W.Frag} {mg : Str → Option Value} {base : Heap}
def spGraph (K : PySem.W.Frag) : Sp := fun vs H Q _ => ∃ (p fq : Addr) (m : Int) (b : Nat), vs = [.ref p, .int m] ∧ FeedAt H p fq b ∧ b + 100 ≤ 100000000 ∧ 1 ≤ m ∧ m ≤ 6 ∧
  ∀ (v : V) (H' : Hp) (es : List Ge), Same (del H p) (del H' p) → FeedAt H' p fq (b + 100) → Gok es → es.length ≤ 6 → Dp K (del H' p) v (codeD [("main", es)]) → Q v H'
theorem sc_graph : FnScope N15 ["_law_feed_here", "_law_most"] (defScope (topS 19)) := ⟨rfl, rfl, rfl, by decide +kernel, rfl, by decide +kernel, by decide +kernel⟩
theorem ok_graph {f f1 : Addr} {fd fd1 : FuncData} (D : Df K mg "_law_graph" (topS 19) ["_law_feed_here", "_law_most"] f fd) (DD : Df K mg "_law_draw" (topS 18) ["_law_feed_here", "_law_many"] f1 fd1) (B : Bt mg)
    (GD : FnOk P w K mg base CX0 1 f1 fd1 ["_law_feed_here", "_law_many"] spDraw) : FnOk P w K mg base CX0 2 f fd ["_law_feed_here", "_law_most"] (spGraph K) := by
  refine D.fn.ok sc_graph (fun vs H Q E h => ?_) (fun cdv A outer s H vs Q E hr h => ?_)
  · obtain ⟨p, fq, m, b, rfl, _⟩ := h
    rfl
  obtain ⟨p, fq, m, b, rfl, hF, hb, hm1, hm6, q⟩ := h
  have nd := sc_graph.nd
  refine ⟨_, pss_cons (ps_set (i := 2) nd rfl (Or.inl rfl) (pe_op op_add pe_int (pe_call GD hr (by rfl) DD.gl DD.fn.kp DD.bd .nil pass0 (pa_cons (pv 0) (pa_cons (pv 1) pa_nil)))))
    (pss_cons (ps_set (i := 3) nd rfl (Or.inl rfl) (pe_lst pa_nil))
    (pss_cons (ps_for PassesOwn.never rfl (pi_range1 (by rfl) B.range (pa_cons (pv 2) pa_nil)) (pg_name (i := 4) nd rfl (Or.inl rfl))
      (pss_cons (ps_par3 (i := 5) (j := 6) (l := 7) rfl nd rfl rfl rfl (by decide) (by decide) (by decide) rfl rfl rfl (pa_cons (pe_call GD hr (by rfl) DD.gl DD.fn.kp DD.bd .nil pass0 (pa_cons (pv 0) (pa_cons (pv 2) pa_nil))) (pa_cons (pe_call GD hr (by rfl) DD.gl DD.fn.kp DD.bd .nil pass0 (pa_cons (pv 0) (pa_cons (pv 2) pa_nil))) (pa_cons (pe_op op_mod (pe_op op_add (pv 4) pe_int) (pv 2)) pa_nil))) (by rfl))
      (pss_cons (ps_set (i := 8) nd rfl (Or.inl rfl) (pe_lst (pa_cons (pe_tup (pa_cons pe_str (pa_cons (pv 5) pa_nil))) (pa_cons (pe_tup (pa_cons pe_str (pa_cons (pv 7) pa_nil))) (pa_cons (pe_tup (pa_cons pe_str (pa_cons pe_str (pa_cons (pv 5) (pa_cons (pv 6) pa_nil))))) (pa_cons (pe_tup (pa_cons pe_str (pa_cons pe_str (pa_cons (pv 7) (pa_cons (pv 5) pa_nil))))) (pa_cons (pe_tup (pa_cons pe_str pa_nil)) pa_nil)))))))
      (pss_one (ps_expr (pe_bm PySem.F.plainAttrs_list PySem.F.slot_list_append PySem.F.type_list_append mt_append (pv 3) (pa_cons (pe_tup (pa_cons (pe_tup pa_nil) (pa_cons (pe_ix ix_list (pv 8) (pe_call GD hr (by rfl) DD.gl DD.fn.kp DD.bd .nil pass0 (pa_cons (pv 0) (pa_cons pe_int pa_nil))) (fun _ _ => rfl)) pa_nil))) pa_nil)))))))
    (pss_one (ps_ret (pe_tup (pa_cons (pe_tup (pa_cons (pe_tup (pa_cons pe_str (pa_cons pe_int pa_nil))) pa_nil)) (pa_cons (pe_tup (pa_cons (pe_tup (pa_cons pe_str (pa_cons (pe_callTy call_tuple_of (by rfl) B.tuple (by decide +kernel) (pa_cons (pv 3) pa_nil)) pa_nil))) pa_nil)) pa_nil))))))), ?_⟩
  refine ⟨_, rfl, _, rfl, p, fq, m, b, rfl, hF, by omega, hm1, by omega, fun r H1 r0 r1 s1 F1 => ?_⟩
  refine ⟨_, _, rfl, rfl, Nat.zero_le _, fun L hL => ?_⟩
  obtain ⟨n, hn⟩ : ∃ n : Nat, (1 : Int) + r = (n : Int) := ⟨(1 + r).toNat, (Int.toNat_of_nonneg (by omega)).symm⟩
  have hn1 : 1 ≤ n := by omega
  have hn6 : n ≤ 6 := by omega
  obtain ⟨nLp, nLq⟩ := F1.ne hL
  have s2 := s1.trans (del_new (p := p) (o := .lst []) hL)
  have F2 := F1.same (same_new (o := .lst []) hL)
  have g2 : GL K p fq L (upd H1 L (.lst [])) [] [] := ⟨upd_same, .nil, nLp, nLq⟩
  have hLd : del H p L = none := by
    cases hx : del H p L with
    | none => rfl
    | some o => have := (of_del (s1 _ _ hx)).1; rw [this] at hL; cases hL
  generalize upd H1 L (.lst []) = H2 at s2 F2 g2
  refine ⟨_, rfl, (n : Int), congrArg (fun x => [V.int x]) hn, by omega, by omega, ?_⟩
  rw [Int.toNat_natCast]
  refine for_it walk_range (fun k σ H' => ∃ (us : List V) (es : List Ge) (x4 x5 x6 x7 x8 : Option V), σ = [some (.ref p), some (.int m), some (.int (n : Int)), some (.ref L), x4, x5, x6, x7, x8] ∧ GS K p fq L H (b + 1 + 3 * k) H' us es ∧ es.length = k ∧ ∀ e ∈ es, ∀ g ∈ allG e, 0 ≤ g ∧ g < (n : Int))
    ⟨[], [], none, none, none, none, none, congrArg (fun x => [some (V.ref p), some (.int m), some (V.int x), some (.ref L), none, none, none, none, none]) hn, ⟨s2, F2, g2⟩, rfl, fun e h => by cases h⟩ (fun _ _ _ _ _ => trivial) ?_ ?_
  · rintro k x σ H3 H4 hk ⟨us, es, x4, x5, x6, x7, x8, rfl, g3, hl3, hr3⟩ ⟨rfl, rfl⟩
    dsimp only
    rw [Int.zero_add]
    have lus : us.length = es.length := by rw [DpAll_len g3.gl.dat, List.length_map]
    refine ⟨_, rfl, _, rfl, p, fq, (n : Int), _, rfl, g3.fd, by omega, by omega, by omega, fun a H5 a0 a1 s5 F5 => ?_⟩
    refine ⟨_, rfl, _, rfl, p, fq, (n : Int), _, rfl, F5, by omega, by omega, by omega, fun c H6 c0 c1 s6 F6 => ?_⟩
    have g6 := (g3.next s5 F5).next s6 F6
    clear F5 s5 F6 s6 g3
    have n0 : (0 : Int) < (n : Int) := by omega
    refine ⟨_, rfl, _, _, rfl, rfl, _, rfl, _, _, rfl, rfl, n0, _, _, _, rfl, ?_⟩
    obtain ⟨d, hd, d0, d1⟩ : ∃ d : Int, (fun (i j : Int) => V.int (i % j)) ((k : Int) + 1) (n : Int) = V.int d ∧ 0 ≤ d ∧ d < (n : Int) := ⟨_, rfl, Int.emod_nonneg _ (by omega), Int.emod_lt_of_pos _ n0⟩
    rw [hd]
    clear hd
    refine ⟨_, rfl, by show 2 ≤ sizeLine; decide, fun t1 h1 => ?_⟩
    have st1 := same_new (o := .tup [V.str "go", .int a]) h1
    have e1 : upd H6 t1 (.tup [V.str "go", .int a]) t1 = some (.tup [V.str "go", .int a]) := upd_same
    generalize upd H6 t1 (.tup [V.str "go", .int a]) = H7 at st1 e1
    have g7 := g6.lay st1
    refine ⟨_, rfl, by show 2 ≤ sizeLine; decide, fun t2 h2 => ?_⟩
    have st2 := same_new (o := .tup [V.str "go", .int d]) h2
    have e2 : upd H7 t2 (.tup [V.str "go", .int d]) t2 = some (.tup [V.str "go", .int d]) := upd_same
    generalize upd H7 t2 (.tup [V.str "go", .int d]) = H8 at st2 e2
    have g8 := g7.lay st2
    refine ⟨_, rfl, _, rfl, by show 4 ≤ sizeLine; decide, fun t3 h3 => ?_⟩
    have st3 := same_new (o := .tup [V.str "if", .str "i", .int a, .int c]) h3
    have e3 : upd H8 t3 (.tup [V.str "if", .str "i", .int a, .int c]) t3 = some (.tup [V.str "if", .str "i", .int a, .int c]) := upd_same
    generalize upd H8 t3 (.tup [V.str "if", .str "i", .int a, .int c]) = H9 at st3 e3
    have g9 := g8.lay st3
    refine ⟨_, rfl, _, rfl, by show 4 ≤ sizeLine; decide, fun t4 h4 => ?_⟩
    have st4 := same_new (o := .tup [V.str "if", .str "i", .int d, .int a]) h4
    have e4 : upd H9 t4 (.tup [V.str "if", .str "i", .int d, .int a]) t4 = some (.tup [V.str "if", .str "i", .int d, .int a]) := upd_same
    generalize upd H9 t4 (.tup [V.str "if", .str "i", .int d, .int a]) = H10 at st4 e4
    have g10 := g9.lay st4
    refine ⟨by show 1 ≤ sizeLine; decide, fun t5 h5 => ?_⟩
    have st5 := same_new (o := .tup [V.str "back"]) h5
    have e5 : upd H10 t5 (.tup [V.str "back"]) t5 = some (.tup [V.str "back"]) := upd_same
    generalize upd H10 t5 (.tup [V.str "back"]) = H11 at st5 e5
    have g11 := g10.lay st5
    refine ⟨by show 5 ≤ sizeLine; decide, fun E5 h6 => ?_⟩
    have st6 := same_new (o := .lst [V.ref t1, .ref t2, .ref t3, .ref t4, .ref t5]) h6
    have e6 : upd H11 E5 (.lst [V.ref t1, .ref t2, .ref t3, .ref t4, .ref t5]) E5 = some (.lst [V.ref t1, .ref t2, .ref t3, .ref t4, .ref t5]) := upd_same
    generalize upd H11 E5 (.lst [V.ref t1, .ref t2, .ref t3, .ref t4, .ref t5]) = H12 at st6 e6
    have g12 := g11.lay st6
    have np6 : E5 ≠ p := (g11.fd.ne h6).1
    have ends : DpAll K (tps (del H12 p)) [V.ref t1, .ref t2, .ref t3, .ref t4, .ref t5] ((endsOf a c d).map endD) := by
      have np : ∀ {t : Addr} {xs : List V}, H12 t = some (.tup xs) → tps (del H12 p) t = some (.tup xs) := fun h => tps_tup (del_some h (fun e => by
        obtain ⟨ns, i, j, k, hp, _⟩ := g12.fd.ex
        rw [e, hp] at h
        cases h))
      have k1 := np (st6 _ _ (st5 _ _ (st4 _ _ (st3 _ _ (st2 _ _ e1)))))
      have k2 := np (st6 _ _ (st5 _ _ (st4 _ _ (st3 _ _ e2))))
      have k3 := np (st6 _ _ (st5 _ _ (st4 _ _ e3)))
      have k4 := np (st6 _ _ (st5 _ _ e4))
      have k5 := np (st6 _ _ e5)
      exact .cons (.tup (SqT.of k1) (.cons (.str _) (.cons (.int _) .nil))) (.cons (.tup (SqT.of k2) (.cons (.str _) (.cons (.int _) .nil))) (.cons (.tup (SqT.of k3) (.cons (.str _) (.cons (.str _) (.cons (.int _) (.cons (.int _) .nil))))) (.cons (.tup (SqT.of k4) (.cons (.str _) (.cons (.str _) (.cons (.int _) (.cons (.int _) .nil))))) (.cons (.tup (SqT.of k5) (.cons (.str _) .nil)) .nil))))
    have rngs : ∀ e ∈ endsOf a c d, ∀ g ∈ allG e, 0 ≤ g ∧ g < (n : Int) := by
      intro e he g hg
      unfold endsOf at he
      simp only [List.mem_cons, List.not_mem_nil, or_false] at he
      rcases he with rfl | rfl | rfl | rfl | rfl <;> simp only [allG, List.mem_cons, List.not_mem_nil, or_false] at hg
      · omega
      · omega
      · omega
      · omega
    clear e1 e2 e3 e4 e5 st1 st2 st3 st4 st5 st6 g6 g7 g8 g9 g10 g11 h1 h2 h3 h4 h5 h6
    refine ⟨_, rfl, .inl ⟨rfl, _, SqL.of g12.gl.at_⟩, Nat.zero_le _, fun t6 h6 => ?_⟩
    have st7 := same_new (o := .tup []) h6
    have g13 := g12.lay st7
    have e7 : tps (del (upd H12 t6 (.tup [])) p) t6 = some (.tup []) := tps_tup (del_some upd_same (g12.fd.ne h6).1)
    have ends13 := DpAll_same (tps_same (same_del (p := p) st7)) ends
    have e13 := st7 _ _ e6
    generalize upd H12 t6 (.tup []) = H13 at st7 g13 e7 ends13 e13
    refine ⟨_, rfl, _, rfl, p, fq, 5, _, rfl, g13.fd, by omega, by omega, by omega, fun j H14 j0 j1 s14 F14 => ?_⟩
    obtain ⟨j, rfl, hj⟩ := five_of (α := Nat) (x0 := 0) (x1 := 0) (x2 := 0) (x3 := 0) (x4 := 0) j0 j1
    have g14 := g13.next s14 F14
    have e14 := (of_del (s14 _ _ (del_some e13 np6))).1
    have ends14 := DpAll_same (tps_same s14) ends13
    have e72 := (tps_same s14) _ _ e7
    have hj5 : j < [V.ref t1, .ref t2, .ref t3, .ref t4, .ref t5].length := hj
    have hje : j < (endsOf a c d).length := hj
    refine ⟨E5, _, (j : Int), _, rfl, rfl, SqL.of e14, atI_nat (List.getElem?_eq_getElem hj5), ?_⟩
    obtain ⟨dd, hdd, hdp⟩ := DpAll_get ends14 (List.getElem?_eq_getElem hj5)
    rw [List.getElem?_map, List.getElem?_eq_getElem hje] at hdd
    cases hdd
    have hre := rngs _ (List.getElem_mem hje)
    generalize (endsOf a c d)[j] = e at hdp hre
    generalize [V.ref t1, V.ref t2, V.ref t3, V.ref t4, V.ref t5][j] = ve at hdp
    refine ⟨by show 2 ≤ sizeLine; decide, fun t7 h7 => ?_⟩
    have st8 := same_new (o := .tup [V.ref t6, ve]) h7
    have g15 := g14.lay st8
    have e8 : del (upd H14 t7 (.tup [V.ref t6, ve])) p t7 = some (.tup [V.ref t6, ve]) := del_some upd_same (g14.fd.ne h7).1
    have dp8 : Dp K (del (upd H14 t7 (.tup [V.ref t6, ve])) p) (.ref t7) (blkD e) := .tup (SqT.of e8) (.cons (.tup (SqT.of ((same_del st8) _ _ (tps_sub _ _ e72))) .nil) (.cons (Dp_same (tps_sub.trans (same_del st8)) hdp) .nil))
    generalize upd H14 t7 (.tup [V.ref t6, ve]) = H15 at g15 dp8
    refine ⟨L, _, _, rfl, rfl, g15.gl.at_, by rw [sizeLine_eq]; omega, ?_⟩
    refine ⟨us ++ [.ref t7], es ++ [e], _, _, _, _, _, rfl, ⟨fun cc o ee => ?_, ?_, ?_⟩, by rw [List.length_append, hl3]; rfl, ?_⟩
    · obtain ⟨ee1, ee2⟩ := of_del ee
      exact del_some (by rw [upd_ne (ne_of_none ee hLd)]; exact (of_del (g15.sm _ _ ee)).1) ee2
    · exact (g15.fd.upd nLp nLq).mono (by omega)
    · rw [List.map_append]
      exact g15.gl.push dp8 (blkD_noL e)
    · intro e' he' g hg
      rcases List.mem_append.mp he' with h | h
      · exact hr3 e' h g hg
      · have : e' = e := by simpa using h
        rw [this] at hg
        exact hre g hg
  · rintro σ H3 ⟨us, es, x4, x5, x6, x7, x8, rfl, g3, hl3, hr3⟩
    have hgok : Gok es := ⟨by omega, by omega, by rw [hl3]; exact hr3⟩
    have lus : us.length = es.length := by rw [DpAll_len g3.gl.dat, List.length_map]
    have nw : ∀ {H' : Hp} {t : Addr} {o : HO} {b' : Nat}, GS K p fq L H b' H' us es → H' t = none → del (upd H' t o) p t = some o := fun g h => del_some upd_same (g.fd.ne h).1
    refine ⟨by show 2 ≤ sizeLine; decide, fun t1 h1 => ?_⟩
    have st1 := same_new (o := .tup [V.str "a", .int 1]) h1
    have g4 := g3.lay st1
    have e1 := nw (o := .tup [V.str "a", .int 1]) g3 h1
    generalize upd H3 t1 (.tup [V.str "a", .int 1]) = H4 at st1 g4 e1
    refine ⟨by show 1 ≤ sizeLine; decide, fun t2 h2 => ?_⟩
    have st2 := same_new (o := .tup [V.ref t1]) h2
    have g5 := g4.lay st2
    have e2 := nw (o := .tup [V.ref t1]) g4 h2
    have e12 := (same_del (p := p) st2) _ _ e1
    generalize upd H4 t2 (.tup [V.ref t1]) = H5 at st2 g5 e2 e12
    have dO : Dp K (del H5 p) (.ref t2) objD := .tup (SqT.of e2) (.cons (.tup (SqT.of e12) (.cons (.str _) (.cons (.int _) .nil))) .nil)
    refine ⟨_, rfl, L, _, rfl, .inl ⟨SqL.of g5.gl.at_, fun t3 h3 => ?_⟩⟩
    have st3 := same_new (o := .tup us) h3
    have g6 := g5.lay st3
    have e3 := nw (o := .tup us) g5 h3
    have dO6 := Dp_same (same_del (p := p) st3) dO
    generalize upd H5 t3 (.tup us) = H6 at st3 g6 e3 dO6
    have dB : Dp K (del H6 p) (.ref t3) (.tuple (es.map blkD)) := .tup (SqT.of e3) (DpAll_same tps_sub g6.gl.dat)
    refine ⟨by show 2 ≤ sizeLine; decide, fun t4 h4 => ?_⟩
    have st4 := same_new (o := .tup [V.str "main", .ref t3]) h4
    have g7 := g6.lay st4
    have e4 := nw (o := .tup [V.str "main", .ref t3]) g6 h4
    have dO7 := Dp_same (same_del (p := p) st4) dO6
    have dB7 := Dp_same (same_del (p := p) st4) dB
    generalize upd H6 t4 (.tup [V.str "main", .ref t3]) = H7 at st4 g7 e4 dO7 dB7
    have dR : Dp K (del H7 p) (.ref t4) (rtD ("main", es)) := .tup (SqT.of e4) (.cons (.str _) (.cons dB7 .nil))
    refine ⟨by show 1 ≤ sizeLine; decide, fun t5 h5 => ?_⟩
    have st5 := same_new (o := .tup [V.ref t4]) h5
    have g8 := g7.lay st5
    have e5 := nw (o := .tup [V.ref t4]) g7 h5
    have dO8 := Dp_same (same_del (p := p) st5) dO7
    have dR8 := Dp_same (same_del (p := p) st5) dR
    generalize upd H7 t5 (.tup [V.ref t4]) = H8 at st5 g8 e5 dO8 dR8
    refine ⟨by show 2 ≤ sizeLine; decide, fun t6 h6 => ?_⟩
    have st6 := same_new (o := .tup [V.ref t2, .ref t5]) h6
    have g9 := g8.lay st6
    have e6 := nw (o := .tup [V.ref t2, .ref t5]) g8 h6
    have dO9 := Dp_same (same_del (p := p) st6) dO8
    have dR9 := Dp_same (same_del (p := p) st6) dR8
    have e59 := (same_del (p := p) st6) _ _ e5
    exact q _ _ es g9.sm (g9.fd.mono (by omega)) hgok (by omega) (.tup (SqT.of e6) (.cons dO9 (.cons (.tup (SqT.of e59) (.cons dR9 .nil)) .nil)))
end
end Sw
set_option maxRecDepth 100000
set_option maxHeartbeats 4000000
namespace Sw
open PySem PySem.Spec PyProof.Rows L2
theorem inV_ints {z : Int} {zs : List Int} : inV (.int z) (zs.map V.int) = decide (z ∈ zs) := by
  unfold inV
  induction zs with
  | nil => rfl
  | cons y zs ih =>
    rw [List.map_cons, List.any_cons, ih]
    show (y == z || _) = _
    by_cases h : y = z
    · simp [h]
    · have h' : ¬ z = y := fun e => h e.symm
      simp [h, h']
theorem flat_ints (zs : List Int) : (zs.map V.int).all flatV = true := by
  rw [List.all_map]
  simp [flatV]
/-- the arrows of a graph, as the law lays them -/
structure ArrAt (H : Hp) (F : Addr) (es : List Ge) : Prop where
  ex : ∃ as : List Addr, H F = some (.lst (as.map V.ref)) ∧ Paired (fun a e => H a = some (.lst ((allG e).map V.int))) as es
theorem paired_imp {α β : Type} {R S : α → β → Prop} (h : ∀ a b, R a b → S a b) : ∀ {xs : List α} {ys : List β}, Paired R xs ys → Paired S xs ys
  | _, _, .nil => .nil
  | _, _, .cons r t => .cons (h _ _ r) (paired_imp h t)
theorem paired_snoc {α β : Type} {R : α → β → Prop} {a : α} {b : β} (r : R a b) : ∀ {xs : List α} {ys : List β}, Paired R xs ys → Paired R (xs ++ [a]) (ys ++ [b])
  | _, _, .nil => .cons r .nil
  | _, _, .cons q t => .cons q (paired_snoc r t)
theorem paired_at {α β : Type} {R : α → β → Prop} : ∀ {xs : List α} {ys : List β} {i : Nat} {y : β}, Paired R xs ys → ys[i]? = some y → ∃ x, xs[i]? = some x ∧ R x y
  | _, _, _, _, .nil, e => by simp at e
  | _, _, 0, _, .cons r _, e => by simp at e; subst e; exact ⟨_, rfl, r⟩
  | _, _, i + 1, y, .cons _ t, e => by
    obtain ⟨x, h1, h2⟩ := paired_at (i := i) (y := y) t (by simpa using e)
    exact ⟨x, by simpa using h1, h2⟩
theorem ArrAt.same {H H' : Hp} {F : Addr} {es : List Ge} (h : ArrAt H F es) (s : Same H H') : ArrAt H' F es := by
  obtain ⟨as, h1, h2⟩ := h.ex
  exact ⟨as, s _ _ h1, paired_imp (fun _ _ r => s _ _ r) h2⟩
theorem ArrAt.at {H : Hp} {F : Addr} {es : List Ge} (h : ArrAt H F es) {b : Int} (h0 : 0 ≤ b) (h1 : b < (es.length : Int)) : ∃ (as : List Addr) (a : Addr), H F = some (.lst (as.map V.ref)) ∧ atI (as.map V.ref) b = some (.ref a) ∧ H a = some (.lst ((arr es b).map V.int)) ∧ as.length = es.length := by
  obtain ⟨as, e1, e2⟩ := h.ex
  obtain ⟨n, rfl⟩ : ∃ n : Nat, b = (n : Int) := ⟨b.toNat, (Int.toNat_of_nonneg h0).symm⟩
  have hn : n < es.length := by omega
  obtain ⟨a, ha, hr⟩ := paired_at e2 (List.getElem?_eq_getElem hn)
  refine ⟨as, a, e1, atI_nat (by rw [List.getElem?_map, ha]; rfl), ?_, e2.length⟩
  unfold arr
  rw [Int.toNat_natCast, List.getElem?_eq_getElem hn]
  exact hr
section
variable {P : Program} {w : World} {K : PySem.W.Frag} {mg : Str → Option Value} {base : Heap}
def spArrows (K : PySem.W.Frag) : Sp := fun vs H Q _ => ∃ (vc : V) (nm : Str) (es : List Ge) (rs : List (Str × List Ge)), vs = [vc] ∧ Dp K H vc (codeD ((nm, es) :: rs)) ∧ es.length ≤ 60 ∧ ∀ F H', Same H H' → ArrAt H' F es → Q (.ref F) H'
theorem sc_arrows : FnScope ["_law_code", "_law_found", "_law_rows", "_law_end", "_law_block"] ["_law_code"] (defScope (topS 20)) := ⟨rfl, rfl, rfl, by decide +kernel, rfl, by decide +kernel, by decide +kernel⟩
theorem ok_arrows {f : Addr} {fd : FuncData} (D : Df K mg "_law_arrows" (topS 20) ["_law_code"] f fd) (B : Bt mg) : FnOk P w K mg base CX0 1 f fd ["_law_code"] (spArrows K) := by
  refine D.fn.ok sc_arrows (fun vs H Q E h => ?_) (fun cdv A outer s H vs Q E hr h => ?_)
  · obtain ⟨vc, nm, es, rs, rfl, _⟩ := h
    rfl
  obtain ⟨vc, nm, es, rs, rfl, hc, few, q⟩ := h
  have nd := sc_arrows.nd
  refine ⟨_, pss_cons (ps_set (i := 1) nd rfl (Or.inl rfl) (pe_lst pa_nil))
    (pss_cons (ps_for PassesOwn.never rfl (pi_tup (pe_ix ix_tup (pe_ix ix_tup (pe_ix ix_tup (pv 0) pe_int (fun _ _ => rfl)) pe_int (fun _ _ => rfl)) pe_int (fun _ _ => rfl))) (pg_tup rfl (pgs_cons (pg_name (i := 2) nd rfl (Or.inl rfl)) (pgs_cons (pg_name (i := 3) nd rfl (Or.inl rfl)) pgs_nil)))
      (pss_one (ps_expr (pe_bm PySem.F.plainAttrs_list PySem.F.slot_list_append PySem.F.type_list_append mt_append (pv 1) (pa_cons (pe_lc (own := [("_law_block", 4)]) (g := gName 4) rfl nd (pi_tup (pv 3))
        (blkOk_by (N := ["_law_code", "_law_found", "_law_rows", "_law_end", "_law_block"]) (sc := defScope (topS 20)) (by decide +kernel)) (fun _ _ _ _ _ => pg_name (i := 4) nd rfl (Or.inl rfl))
        (fun _ _ _ _ _ => pts_one (pt_val (pe_callB (r := rIsi K) call_isi (by rfl) B.isi (by decide +kernel) (pa_cons (pv 4) (pa_cons (pe_bltn (v := .ty "int") (by rfl) B.int (by decide +kernel) rfl) pa_nil)))))
        (fun _ _ _ _ _ => pv 4)) pa_nil)))))
    (pss_one (ps_ret (pv 1)))), ?_⟩
  obtain ⟨a, vo, vr, rfl, ha, ho, hr2⟩ := code_two hc
  obtain ⟨ar, xs, rfl, hx, hd⟩ := Dp_tup hr2
  cases hd with
  | @cons v0 _ vs0 _ hd0 hds =>
    obtain ⟨a0, ys, rfl, hy, hyd⟩ := Dp_tup hd0
    obtain ⟨u1, u2, rfl, k1, k2⟩ := DpAll_two hyd
    obtain ⟨ab, bs, rfl, hb, hbd⟩ := Dp_tup k2
    have lb : bs.length = es.length := by rw [DpAll_len hbd, List.length_map]
    refine ⟨Nat.zero_le _, fun F hF => ?_⟩
    have sF := same_new (o := .lst []) hF
    have eF : upd H F (.lst []) F = some (.lst (([] : List Addr).map V.ref)) := upd_same
    generalize upd H F (.lst []) = H1 at sF eF
    refine ⟨_, rfl, a, _, 1, _, rfl, rfl, sameT sF ha, atI_nat (j := 1) rfl, ar, _, 0, _, rfl, rfl, sameT sF hx, atI_nat (j := 0) rfl, a0, _, 1, _, rfl, rfl, sameT sF hy, atI_nat (j := 1) rfl, ab, rfl, ⟨_, sameT sF hb⟩,
      for_it (walk_tup (xs := bs)) (fun n σ H' => ∃ (as : List Addr) (x2 x3 : Option V), σ = [some (.ref a), some (.ref F), x2, x3, none] ∧ Same H H' ∧ H' F = some (.lst (as.map V.ref)) ∧ Paired (fun a e => H' a = some (.lst ((allG e).map V.int)) ∧ a ≠ F) as (es.take n))
      ⟨[], none, none, rfl, sF, eF, .nil⟩ (fun n σ H' _ h => by obtain ⟨as, x2, x3, _, s', _⟩ := h; exact sameT s' hb) ?_ ?_⟩
    · rintro n x σ H3 H4 hn ⟨as, x2, x3, rfl, s3, e3, p3⟩ ⟨rfl, hxn⟩
      have hn' : n < es.length := by omega
      obtain ⟨d, hd1, hd2⟩ := DpAll_get hbd hxn
      rw [List.getElem?_map, List.getElem?_eq_getElem hn'] at hd1
      cases hd1
      have etk : es.take (n + 1) = es.take n ++ [es[n]] := by rw [List.take_succ, List.getElem?_eq_getElem hn']; rfl
      generalize es[n] = e at hd2 etk
      obtain ⟨at_, zs, rfl, hz, hzd⟩ := Dp_tup hd2
      obtain ⟨w1, w2, rfl, m1, m2⟩ := DpAll_two hzd
      obtain ⟨ae, vs, rfl, he, hed⟩ : ∃ ae vs, w2 = .ref ae ∧ SqT K H ae vs ∧ ∃ ds, endD e = .tuple ds ∧ DpAll K H vs ds := by
        cases e <;> (obtain ⟨p, v, h1, h2, h3⟩ := Dp_tup m2; exact ⟨p, v, h1, h2, _, rfl, h3⟩)
      obtain ⟨ds, hds, hed⟩ := hed
      have hlen := DpAll_len hed
      have dl : ds.length ≤ 4 := by cases e <;> (cases hds; simp)
      have las : as.length = n := by have := p3.length; rw [List.length_take] at this; omega
      refine ⟨at_, _, rfl, sameT s3 hz, rfl, _, _, rfl, _, _, rfl, rfl, ?_⟩
      refine ⟨_, rfl, .inl ⟨rfl, _, SqL.of e3⟩, _, rfl, ae, rfl, ⟨_, sameT s3 he⟩, fun D2 hD2 => lc_pure (walk_tup (xs := vs)) (fun i => isaInt (ds.getD i .none)) (fun i => vs.getD i .non) hD2 (fun _ h => sameT (s3.trans h) he) (big_size (by omega)) ?_ ?_ ?_⟩
      · intro i x H5 Q5 hi hx5 s5 q5
        obtain ⟨d5, hd5, hp5⟩ := DpAll_get hed hx5
        obtain ⟨t5, ty5, k5⟩ := isa_int (Dp_same (s3.trans s5) hp5)
        rw [show ds.getD i .none = d5 by rw [List.getD_eq_getElem?_getD, hd5]; rfl] at q5
        exact ⟨_, rfl, x, .ty "int", t5, _, _, rfl, .ty _, ty5, k5, _, rfl, q5 H5 (Same.refl _)⟩
      · intro i x H5 Q5 hi hx5 _ s5 q5
        rw [show vs.getD i .non = x by rw [List.getD_eq_getElem?_getD, hx5]; rfl] at q5
        exact ⟨_, rfl, q5 H5 (Same.refl _)⟩
      · intro H5 s5 hD5
        have ev : ((List.range vs.length).filter fun i => isaInt (ds.getD i .none)).map (fun i => vs.getD i .non) = (allG e).map V.int := by
          cases e with
          | go a => cases hds; cases hed with | cons r1 r => cases r with | cons r2 r => cases r; cases Dp_str r1; cases Dp_int r2; rfl
          | back => cases hds; cases hed with | cons r1 r => cases r; cases Dp_str r1; rfl
          | iff a b => cases hds; cases hed with | cons r1 r => cases r with | cons r2 r => cases r with | cons r3 r => cases r with | cons r4 r => cases r; cases Dp_str r1; cases Dp_str r2; cases Dp_int r3; cases Dp_int r4; rfl
        rw [ev] at hD5
        have nFD : D2 ≠ F := fun z => by rw [z, e3] at hD2; cases hD2
        refine ⟨F, _, _, rfl, rfl, s5 _ _ e3, by rw [List.length_map, sizeLine_eq]; omega, ?_⟩
        refine ⟨as ++ [D2], _, _, rfl, fun c o ee => by rw [upd_ne (ne_of_none ee hF)]; exact s5 _ _ (s3 _ _ ee), by rw [upd_same, List.map_append]; rfl, ?_⟩
        rw [etk]
        exact paired_snoc ⟨by rw [upd_ne nFD]; exact hD5, nFD⟩ (paired_imp (fun c o r => ⟨by rw [upd_ne r.2]; exact s5 _ _ r.1, r.2⟩) p3)
    · rintro σ H3 ⟨as, x2, x3, rfl, s3, e3, p3⟩
      rw [lb, List.take_length] at p3
      exact ⟨_, rfl, q F H3 s3 ⟨as, e3, paired_imp (fun _ _ r => r.1) p3⟩⟩
end
end Sw
set_option maxRecDepth 100000
set_option maxHeartbeats 4000000
namespace Sw
open PySem PySem.Spec PyProof.Rows L2
abbrev N17 : List Str := ["_law_arrows_here", "_law_over_here", "_law_found", "_law_turn", "_law_block", "_law_one"]
/-- what the law has found so far -/
structure CI (es : List Ge) (o : Int) (fs : List Int) : Prop where
  nd : fs.Nodup
  rc : ∀ k ∈ fs, Rch es (some o) k
  z : o ≠ 0 → (0 : Int) ∈ fs
def Clo (es : List Ge) (o : Int) (fs : List Int) : Prop := ∀ b ∈ fs, ∀ g ∈ arr es b, o ≠ g → g ∈ fs
theorem CI.few {es : List Ge} {o : Int} {fs : List Int} (h : CI es o fs) (g : Gok es) : fs.length ≤ es.length := few_ints es.length h.nd fun x hx => (h.rc x hx).rng g
theorem CI.push {es : List Ge} {o k b : Int} {fs : List Int} (h : CI es o fs) (hb : b ∈ fs) (hk : k ∈ arr es b) (ho : k ≠ o) (hn : k ∉ fs) : CI es o (fs ++ [k]) :=
  ⟨List.nodup_append.mpr ⟨h.nd, by simp, fun a ha c hc => by
    have : c = k := by simpa using hc
    rw [this]; exact fun e => hn (e ▸ ha)⟩, fun x hx => by
    rcases List.mem_append.mp hx with hx | hx
    · exact h.rc x hx
    · have : x = k := by simpa using hx
      rw [this]; exact .step (h.rc b hb) hk (fun e => ho (Option.some.inj e).symm), fun hz => List.mem_append_left _ (h.z hz)⟩
theorem CI.all {es : List Ge} {o : Int} {fs : List Int} (h : CI es o fs) (c : Clo es o fs) (k : Int) : k ∈ fs ↔ Rch es (some o) k :=
  ⟨h.rc k, closed_all (fun z => h.z fun e => z (by rw [e])) fun b hb g hg ho => c b hb g hg fun e => ho (by rw [e])⟩
/-- a round of it: from fs0 on, the blocks below j asked -/
structure Rnd (es : List Ge) (o : Int) (fs0 fs : List Int) (j : Nat) : Prop where
  ci : CI es o fs
  inc : ∀ k ∈ fs0, k ∈ fs
  gr : fs = fs0 ∨ fs0.length < fs.length
  cl : Clo es o fs0 → fs = fs0
  got : ∀ k : Int, 0 ≤ k → k < (j : Int) → k ≠ o → (∃ b ∈ fs0, k ∈ arr es b) → k ∈ fs
theorem Rnd.skip {es : List Ge} {o : Int} {fs0 fs : List Int} {j : Nat} (h : Rnd es o fs0 fs j) (hs : (j : Int) ≠ o → (∃ b ∈ fs, (j : Int) ∈ arr es b) → (j : Int) ∈ fs) : Rnd es o fs0 fs (j + 1) :=
  ⟨h.ci, h.inc, h.gr, h.cl, fun k k0 k1 ko kb => by
    by_cases e : k = (j : Int)
    · subst e
      obtain ⟨b, hb, hk⟩ := kb
      exact hs ko ⟨b, h.inc b hb, hk⟩
    · exact h.got k k0 (by omega) ko kb⟩
theorem Rnd.push {es : List Ge} {o : Int} {fs0 fs : List Int} {j : Nat} (h : Rnd es o fs0 fs j) (ho : (j : Int) ≠ o) (hn : (j : Int) ∉ fs) (hb : ∃ b ∈ fs, (j : Int) ∈ arr es b) : Rnd es o fs0 (fs ++ [(j : Int)]) (j + 1) := by
  obtain ⟨b, hb1, hb2⟩ := hb
  refine ⟨h.ci.push hb1 hb2 ho hn, fun k hk => List.mem_append_left _ (h.inc k hk), .inr ?_, fun c => ?_, fun k k0 k1 ko kb => ?_⟩
  · rw [List.length_append, List.length_singleton]
    rcases h.gr with e | e
    · rw [e]; omega
    · omega
  · have e := h.cl c
    rw [e] at hb1 hn
    exact absurd (c b hb1 _ hb2 (Ne.symm ho)) hn
  · by_cases e : k = (j : Int)
    · rw [e]; exact List.mem_append_right _ (by simp)
    · exact List.mem_append_left _ (h.got k k0 (by omega) ko kb)
theorem Rnd.clo {es : List Ge} {o : Int} {fs0 : List Int} (g : Gok es) (h : Rnd es o fs0 fs0 es.length) : Clo es o fs0 := fun b hb x hx ho => by
  obtain ⟨h0, h1⟩ := arr_rng g hx
  exact h.got x h0 h1 (Ne.symm ho) ⟨b, hb, hx⟩
theorem ints_list {K : PySem.W.Frag} {H : Hp} {D : Addr} {ns : List Int} (h : H D = some (.lst (ns.map V.int))) : Dp K H (.ref D) (.list (ns.map PyData.int)) := .lst (SqL.of h) (DpAll_ints ns)
section
variable {P : Program} {w : World} {K : PySem.W.Frag} {mg : Str → Option Value} {base : Heap}
def spComes (K : PySem.W.Frag) : Sp := fun vs H Q _ => ∃ (F : Addr) (o : Int) (es : List Ge), vs = [.ref F, .int o] ∧ ArrAt H F es ∧ Gok es ∧ ∀ (t : Addr) (H' : Hp) (ns : List Int), Same H H' → H' t = some (.lst (ns.map V.int)) → (∀ k, k ∈ ns ↔ Rch es (some o) k) → Q (.ref t) H'
theorem sc_comes : FnScope N17 ["_law_arrows_here", "_law_over_here"] (defScope (topS 21)) := ⟨rfl, rfl, rfl, by decide +kernel, rfl, by decide +kernel, by decide +kernel⟩
theorem ok_comes {f : Addr} {fd : FuncData} (D : Df K mg "_law_comes" (topS 21) ["_law_arrows_here", "_law_over_here"] f fd) (B : Bt mg) : FnOk P w K mg base CX0 1 f fd ["_law_arrows_here", "_law_over_here"] (spComes K) := by
  refine D.fn.ok sc_comes (fun vs H Q E h => ?_) (fun cdv A outer s H vs Q E hr h => ?_)
  · obtain ⟨F, o, es, rfl, _⟩ := h
    rfl
  obtain ⟨F, o, es, rfl, hA, hg, q⟩ := h
  have nd := sc_comes.nd
  have hu := hr.units
  refine ⟨_, C8.pss_cut (ps_set (i := 2) nd rfl (Or.inl rfl) (pe_ifExp (pt_cmpR op_ne (pv 1) pe_int (nomark _)) (pe_lst (pa_cons pe_int pa_nil)) (pe_lst pa_nil)))
    (pss_cons (ps_for PassesOwn.never rfl (pi_range1 (by rfl) B.range (pa_cons (pe_callB call_len_seq (by rfl) B.len PySem.boot_len (pa_cons (pv 0) pa_nil)) pa_nil)) (pg_name (i := 3) nd rfl (Or.inl rfl))
      (pss_one (ps_for PassesOwn.never rfl (pi_range1 (by rfl) B.range (pa_cons (pe_callB call_len_seq (by rfl) B.len PySem.boot_len (pa_cons (pv 0) pa_nil)) pa_nil)) (pg_name (i := 4) nd rfl (Or.inr rfl))
        (pss_one (ps_if (PW.pt (pw_and (pt_cmpR op_ne (pv 4) (pv 1) (nomark _)) (pw_and (pt_cmpR op_notIn_seq (pv 4) (pv 2) (by with_unfolding_all rfl)) (pw_and1 (pt_cmpR (op_neD hu)
          (pe_lc (own := [("_law_one", 5)]) (g := gName 5) (tt := tTest (tOp (rIn K false) (tVar 4) (tOp (rIxL K) (tVar 0) (tVar 5)))) rfl nd (pi_list (pv 2)) (blkOk_by (N := N17) (sc := defScope (topS 21)) (by decide +kernel)) (fun _ _ _ _ _ => pg_name (i := 5) nd rfl (Or.inl rfl))
            (fun _ _ _ _ _ => pts_one (pt_cmpR (r := rIn K false) op_in_seq (pv 4) (pe_ix (r := rIxL K) ix_list (pv 0) (pv 5) (fun _ _ => rfl)) (by with_unfolding_all rfl)))
            (fun _ _ _ _ _ => pv 5)) (pe_lst pa_nil) (nomark _))))))
          (pss_one (ps_expr (pe_bm PySem.F.plainAttrs_list PySem.F.slot_list_append PySem.F.type_list_append mt_append (pv 2) (pa_cons (pv 4) pa_nil)))) pss_nil)))))
    (pss_one (ps_ret (pe_callB cr_sorted (by rfl) B.sorted (by decide +kernel) (pa_cons (pv 2) pa_nil))))), ?_⟩
  have few := hg.few
  obtain ⟨as0, F0, p0⟩ := hA.ex
  have las : (as0.map V.ref).length = es.length := by rw [List.length_map]; exact p0.length
  refine ⟨fun σ H' => ∃ (L : Addr) (fs : List Int), σ = [some (.ref F), some (.int o), some (.ref L), none, none, none] ∧ H L = none ∧ Same H H' ∧ H' L = some (.lst (fs.map V.int)) ∧ CI es o fs ∧ (Clo es o fs ∨ 1 ≤ fs.length), ?_, ?_⟩
  · refine ⟨_, rfl, rfl, _, rfl, ?_⟩
    refine ite2 (fun c => ?_) (fun c => ?_)
    · have c' : o ≠ 0 := by simpa using c
      exact ⟨by show 1 ≤ sizeLine; decide, fun L hL => ⟨L, [0], rfl, hL, same_new hL, upd_same, ⟨by simp, fun k hk => by
        have : k = 0 := by simpa using hk
        rw [this]; exact .zero (fun e => c' (Option.some.inj e)), fun _ => by simp⟩, .inr (Nat.le_refl _)⟩⟩
    · have c' : o = 0 := by simpa using c
      exact ⟨Nat.zero_le _, fun L hL => ⟨L, [], rfl, hL, same_new hL, upd_same, ⟨List.nodup_nil, fun k hk => absurd hk List.not_mem_nil, fun h => absurd c' h⟩, .inl fun b hb => absurd hb List.not_mem_nil⟩⟩
  rintro σ1 H1 ⟨L, fs1, rfl, hL, s1, l1, ci1, cl1⟩
  refine ⟨_, rfl, F, _, rfl, .inl (SqL.of (s1 _ _ F0)), _, rfl, by omega, by omega, ?_⟩
  rw [las, Int.toNat_natCast]
  refine for_it walk_rangeA (fun t σ H' => ∃ (fs : List Int) (x3 x4 : Option V), σ = [some (.ref F), some (.int o), some (.ref L), x3, x4, none] ∧ Same H H' ∧ H' L = some (.lst (fs.map V.int)) ∧ CI es o fs ∧ (Clo es o fs ∨ t + 1 ≤ fs.length))
    ⟨fs1, none, none, rfl, s1, l1, ci1, by simpa using cl1⟩ (fun _ _ _ _ _ => trivial) ?_ ?_
  · rintro t x σ H2 H3 ht ⟨fs2, x3, x4, rfl, s2, l2, ci2, cl2⟩ ⟨rfl, hx⟩
    obtain ⟨rfl, _⟩ := ivs_at hx
    refine ⟨_, rfl, F, _, rfl, .inl (SqL.of (s2 _ _ F0)), _, rfl, by omega, by omega, ?_⟩
    rw [las, Int.toNat_natCast]
    refine for_it walk_rangeA (fun j σ H' => ∃ (fs : List Int) (x4 : Option V), σ = [some (.ref F), some (.int o), some (.ref L), some (.int (t : Int)), x4, none] ∧ Same H H' ∧ H' L = some (.lst (fs.map V.int)) ∧ Rnd es o fs2 fs j)
      ⟨fs2, _, rfl, s2, l2, ci2, fun k h => h, .inl rfl, fun _ => rfl, fun k k0 k1 => by omega⟩ (fun _ _ _ _ _ => trivial) ?_ ?_
    · rintro j x σ H4 H5 hj ⟨fs, x4, rfl, s4, l4, R⟩ ⟨rfl, hx⟩
      obtain ⟨rfl, _⟩ := ivs_at hx
      have fl := R.ci.few hg
      refine ⟨_, rfl, _, rfl, rfl, _, rfl, ?_⟩
      refine ite2 (fun c1 => ?_) (fun c1 => ?_)
      rotate_left
      · have c1' : (j : Int) = o := by simpa using c1
        exact iteF ⟨fs, _, rfl, s4, l4, R.skip fun h => absurd c1' h⟩
      have c1' : (j : Int) ≠ o := by simpa using c1
      refine ⟨_, rfl, _, rfl, L, _, rfl, .inl (SqL.of l4), rfl, flat_ints _, _, rfl, ?_⟩
      rw [if_pos rfl, inV_ints]
      refine ite2 (fun c2 => ?_) (fun c2 => ?_)
      rotate_left
      · have c2' : (j : Int) ∈ fs := by simpa using c2
        exact iteF ⟨fs, _, rfl, s4, l4, R.skip fun _ _ => c2'⟩
      have c2' : (j : Int) ∉ fs := by simpa using c2
      refine ⟨_, rfl, L, rfl, ⟨_, SqL.of l4⟩, fun D2 hD2 => ?_⟩
      refine lc_pure (walk_list (xs := fs.map V.int)) (fun i => decide ((j : Int) ∈ arr es (fs.getD i 0))) (fun i => V.int (fs.getD i 0)) hD2 (fun _ h => SqL.of (h _ _ l4)) (big_size (by rw [List.length_map]; omega)) ?_ ?_ ?_
      · intro i y H6 Q6 hi hy s6 q6
        rw [List.length_map] at hi
        rw [List.getElem?_map, List.getElem?_eq_getElem hi] at hy
        have hy' : V.int fs[i] = y := Option.some.inj hy
        subst hy'
        rw [show fs.getD i 0 = fs[i] by rw [List.getD_eq_getElem?_getD, List.getElem?_eq_getElem hi]; rfl] at q6
        obtain ⟨y0, y1⟩ := (R.ci.rc _ (List.getElem_mem hi)).rng hg
        obtain ⟨as, a, ea, eb, ec, _⟩ := (hA.same (s4.trans s6)).at y0 y1
        refine ⟨_, rfl, _, rfl, _, rfl, F, _, _, _, rfl, rfl, SqL.of ea, eb, a, _, rfl, .inl (SqL.of ec), rfl, flat_ints _, _, rfl, ?_⟩
        rw [if_neg (by simp), inV_ints]
        exact q6 H6 (Same.refl _)
      · intro i y H6 Q6 hi hy _ s6 q6
        rw [List.length_map] at hi
        rw [List.getElem?_map, List.getElem?_eq_getElem hi] at hy
        have hy' : V.int fs[i] = y := Option.some.inj hy
        subst hy'
        rw [show fs.getD i 0 = fs[i] by rw [List.getD_eq_getElem?_getD, List.getElem?_eq_getElem hi]; rfl] at q6
        exact ⟨_, rfl, q6 H6 (Same.refl _)⟩
      · intro H6 s6 hD6
        rw [List.length_map] at hD6
        have ev : ((List.range fs.length).filter fun i => decide ((j : Int) ∈ arr es (fs.getD i 0))).map (fun i => V.int (fs.getD i 0)) = (((List.range fs.length).filter fun i => decide ((j : Int) ∈ arr es (fs.getD i 0))).map (fun i => fs.getD i 0)).map V.int := by rw [List.map_map]; rfl
        rw [ev] at hD6
        have ex : (((List.range fs.length).filter fun i => decide ((j : Int) ∈ arr es (fs.getD i 0))).map (fun i => fs.getD i 0)) ≠ [] ↔ ∃ b ∈ fs, (j : Int) ∈ arr es b := by
          constructor
          · intro h
            obtain ⟨b, hb⟩ := List.exists_mem_of_ne_nil _ h
            obtain ⟨i, hi, rfl⟩ := List.mem_map.mp hb
            obtain ⟨hi1, hi2⟩ := List.mem_filter.mp hi
            rw [List.mem_range] at hi1
            refine ⟨_, ?_, of_decide_eq_true hi2⟩
            rw [List.getD_eq_getElem?_getD, List.getElem?_eq_getElem hi1]
            exact List.getElem_mem hi1
          · rintro ⟨b, hb, hb2⟩ h
            obtain ⟨i, hi, rfl⟩ := List.getElem_of_mem hb
            have : fs.getD i 0 = fs[i] := by rw [List.getD_eq_getElem?_getD, List.getElem?_eq_getElem hi]; rfl
            have hm : fs.getD i 0 ∈ (((List.range fs.length).filter fun i => decide ((j : Int) ∈ arr es (fs.getD i 0))).map (fun i => fs.getD i 0)) := List.mem_map.mpr ⟨i, List.mem_filter.mpr ⟨List.mem_range.mpr hi, by rw [this]; exact decide_eq_true hb2⟩, rfl⟩
            rw [h] at hm
            cases hm
        generalize (((List.range fs.length).filter fun i => decide ((j : Int) ∈ arr es (fs.getD i 0))).map (fun i => fs.getD i 0)) = ns at hD6 ex
        refine ⟨Nat.zero_le _, fun N hN => ?_⟩
        have sN := same_new (o := .lst []) hN
        refine ⟨.list (ns.map PyData.int), .list [], ints_list (sN _ _ hD6), .lst (SqL.of upd_same) .nil, ints_shaped _, nil_shaped, _, rfl, ?_⟩
        have s7 := s4.trans (s6.trans sN)
        have l7 := sN _ _ (s6 _ _ l4)
        generalize upd H6 N (.lst []) = H7 at s7 l7
        rw [eqv_nil_list]
        refine ite2 (fun c3 => ?_) (fun c3 => ?_)
        · have hne : ns ≠ [] := fun z => by rw [z] at c3; cases c3
          refine ⟨_, rfl, .inl ⟨rfl, _, SqL.of l7⟩, _, rfl, L, _, _, rfl, rfl, l7, by rw [List.length_map, sizeLine_eq]; omega, ?_⟩
          exact ⟨fs ++ [(j : Int)], _, rfl, fun c o e => by rw [upd_ne (ne_of_none e hL)]; exact s7 _ _ e, by rw [upd_same, List.map_append]; rfl, R.push c1' c2' (ex.mp hne)⟩
        · have hne : ns = [] := by
            cases ns with
            | nil => rfl
            | cons y ys => exact absurd rfl c3
          exact ⟨fs, _, rfl, s7, l7, R.skip fun _ hb => absurd hne (ex.mpr hb)⟩
    · rintro σ H4 ⟨fs, x4, rfl, s4, l4, R⟩
      refine ⟨fs, _, _, rfl, s4, l4, R.ci, ?_⟩
      rcases cl2 with h | h
      · rw [R.cl h]
        exact .inl h
      · rcases R.gr with e | e
        · subst e
          exact .inl (R.clo hg)
        · exact .inr (by omega)
  · rintro σ H2 ⟨fs, x3, x4, rfl, s2, l2, ci, cl⟩
    have fl := ci.few hg
    have clo : Clo es o fs := cl.elim id fun h => by omega
    refine ⟨_, rfl, L, fs, rfl, SqL.of l2, by omega, fun ns' p perm _ new => ?_⟩
    exact q p _ ns' (s2.trans (same_new new)) upd_same fun k => (perm.mem_iff).trans (ci.all clo k)
def spOver (K : PySem.W.Frag) : Sp := fun vs H Q _ => ∃ (F : Addr) (o u : Int) (es : List Ge), vs = [.ref F, .int o, .int u] ∧ ArrAt H F es ∧ Gok es ∧ ∀ H', Same H H' → Q (.bl (domB es o u)) H'
theorem sc_over : FnScope ["_law_arrows_here", "_law_over_here", "_law_under"] ["_law_arrows_here", "_law_over_here", "_law_under"] (defScope (topS 22)) := ⟨rfl, rfl, rfl, by decide +kernel, rfl, by decide +kernel, by decide +kernel⟩
theorem ok_over {f f1 : Addr} {fd fd1 : FuncData} (D : Df K mg "_law_over" (topS 22) ["_law_arrows_here", "_law_over_here", "_law_under"] f fd) (D1 : Df K mg "_law_comes" (topS 21) ["_law_arrows_here", "_law_over_here"] f1 fd1) (B : Bt mg)
    (G1 : FnOk P w K mg base CX0 1 f1 fd1 ["_law_arrows_here", "_law_over_here"] (spComes K)) : FnOk P w K mg base CX0 2 f fd ["_law_arrows_here", "_law_over_here", "_law_under"] (spOver K) := by
  refine D.fn.ok sc_over (fun vs H Q E h => ?_) (fun cdv A outer s H vs Q E hr h => ?_)
  · obtain ⟨F, o, u, es, rfl, _⟩ := h
    rfl
  obtain ⟨F, o, u, es, rfl, hA, hg, q⟩ := h
  refine ⟨_, pss_one (ps_ret (pe_cmpR op_notIn_seq (pv 2) (pe_call G1 hr (by rfl) D1.gl D1.fn.kp D1.bd .nil pass0 (pa_cons (pv 0) (pa_cons (pv 1) pa_nil))) (by with_unfolding_all rfl))), ?_⟩
  refine ⟨_, rfl, _, rfl, _, rfl, F, o, es, rfl, hA, hg, fun t H' ns s' ht hm => ?_⟩
  refine ⟨t, _, rfl, .inl (SqL.of ht), rfl, flat_ints _, ?_⟩
  rw [if_pos rfl, inV_ints]
  rw [show (!decide (u ∈ ns)) = domB es o u from domB_of (by simp [hm])]
  exact q H' s'
end
end Sw
set_option maxRecDepth 100000
set_option maxHeartbeats 4000000
namespace Sw
open PySem PySem.Spec PyProof.Rows L2
theorem repr_ok {M l n B : Nat} {d : PyData} (h : Fit M l n B d) (hM : M ≤ 1000) (hn : n ≤ 60) (hB : B ≤ 16777216) : d.showable = true ∧ d.hasDict = false ∧ d.depth ≤ 60 ∧ d.shown.length ≤ sizeLine := by
  have e1 : M < 2 ^ 1920 := Nat.lt_of_le_of_lt hM (by decide +kernel)
  have e2 : M < 10 ^ 240 := Nat.lt_of_le_of_lt hM (by decide +kernel)
  refine ⟨leaf_shows e1 d h.lf, leaf_noDict d h.lf, Nat.le_trans h.dp hn, ?_⟩
  have h1 := shown_wt e2 d h.lf
  have h2 := h.wg
  rw [sizeLine_eq]
  omega
theorem wtAll_le {B : Nat} : ∀ {ds : List PyData}, (∀ d ∈ ds, wt d ≤ B) → wtAll ds ≤ (B + 2) * ds.length
  | [], _ => by simp [wtAll]
  | d :: ds, h => by
    have h1 := h d List.mem_cons_self
    have h2 := wtAll_le (ds := ds) fun x hx => h x (List.mem_cons_of_mem _ hx)
    simp only [wtAll, List.length_cons, Nat.mul_add, Nat.mul_one]
    omega
/-- a tuple of things that fit -/
theorem Fit.all {M l n B k : Nat} {ds : List PyData} (h : ∀ d ∈ ds, Fit M l n B d) (hk : ds.length ≤ k) (hl : k ≤ l) : Fit M l (n + 1) ((B + 2) * k + 5) (.tuple ds) := by
  have hw := wtAll_le fun d hd => (h d hd).wg
  have hm := Nat.mul_le_mul_left (B + 2) hk
  refine ⟨?_, ?_, ?_, ?_⟩
  · simp only [leaf]
    exact leafAll_iff.mpr fun d hd => (h d hd).lf
  · simp only [lens, Bool.and_eq_true, decide_eq_true_eq]
    exact ⟨by omega, lensAll_iff.mpr fun d hd => (h d hd).ln⟩
  · exact depth_tuple.mpr fun d hd => (h d hd).dp
  · simp only [wt]
    omega
theorem fit_int {i : Int} (h0 : 0 ≤ i) (h1 : i < 100) : Fit 100 60 0 250 (.int i) := ⟨by simp only [leaf, decide_eq_true_eq]; omega, rfl, by simp [PyData.depth], Nat.le_refl _⟩
theorem ints_fit {ns : List Int} (hl : ns.length ≤ 60) (h : ∀ k ∈ ns, 0 ≤ k ∧ k < 100) : Fit 100 60 1 20000 (.tuple (ns.map PyData.int)) :=
  (Fit.all (n := 0) (B := 250) (k := 60) (fun d hd => by
    obtain ⟨k, hk, rfl⟩ := List.mem_map.mp hd
    exact fit_int (h k hk).1 (h k hk).2) (by rw [List.length_map]; exact hl) (Nat.le_refl _)).mono (Nat.le_refl _) (Nat.le_refl _) (Nat.le_refl _) (by decide)
theorem domsI_rng {es : List Ge} {u k : Int} (h : k ∈ domsI es u) : 0 ≤ k ∧ k < (es.length : Int) := by
  unfold domsI at h
  obtain ⟨i, hi, rfl⟩ := List.mem_map.mp h
  have := List.mem_range.mp (List.mem_filter.mp hi).1
  exact ⟨by omega, by omega⟩
theorem domsI_len (es : List Ge) (u : Int) : (domsI es u).length ≤ es.length := by
  unfold domsI
  rw [List.length_map]
  exact Nat.le_trans (List.length_filter_le _ _) (by rw [List.length_range]; exact Nat.le_refl _)
theorem domsI_fit {es : List Ge} (g : es.length ≤ 60) (u : Int) : Fit 100 60 1 20000 (.tuple ((domsI es u).map PyData.int)) := ints_fit (Nat.le_trans (domsI_len es u) g) fun k hk => ⟨(domsI_rng hk).1, by have := (domsI_rng hk).2; omega⟩
theorem mem_domsI {es : List Ge} {u o : Int} (h0 : 0 ≤ o) (h1 : o < (es.length : Int)) : o ∈ domsI es u ↔ domB es o u = true := by
  unfold domsI
  rw [List.mem_map]
  constructor
  · rintro ⟨i, hi, rfl⟩
    exact (List.mem_filter.mp hi).2
  · intro h
    refine ⟨o.toNat, List.mem_filter.mpr ⟨List.mem_range.mpr (by omega), ?_⟩, Int.toNat_of_nonneg h0⟩
    rw [Int.toNat_of_nonneg h0]
    exact h
theorem ints_tup {K : PySem.W.Frag} {H : Hp} {D : Addr} {ns : List Int} (h : H D = some (.tup (ns.map V.int))) : Dp K H (.ref D) (.tuple (ns.map PyData.int)) := .tup (SqT.of h) (DpAll_ints ns)
/-- repr of a bool -/
theorem call_reprBl {X : Cx} : CallR X (.builtin "repr") (fun xs H Q => ∃ b : Bool, xs = [.bl b] ∧ Q (.str (if b then "True" else "False")) H) := by
  intro pins s σ H xs us Q I r h
  obtain ⟨b, rfl, q⟩ := h
  cases r with
  | cons r0 r1 =>
    cases r1
    cases r0
    exact PySem.P.repr_of_bool ⟨.str _, H, I.tok _, ⟨_, rfl⟩, q⟩
section
variable {P : Program} {w : World} {K : PySem.W.Frag} {mg : Str → Option Value} {base : Heap}
def spRightD (K : PySem.W.Frag) : Sp := fun vs H Q _ => ∃ (vc : V) (es : List Ge) (rs : List (Str × List Ge)), vs = [vc] ∧ Dp K H vc (codeD (("main", es) :: rs)) ∧ Gok es ∧ ∀ H', Same H H' → Q (.bl true) H'
abbrev N19 : List Str := ["_law_code", "_law_arrows_here", "_law_many", "_law_under", "_law_due", "_law_over_here"]
end
end Sw
set_option maxRecDepth 100000
set_option maxHeartbeats 4000000
namespace Sw
open PySem PySem.Spec PyProof.Rows L2
/-! ### displays with names in them -/
theorem pe_imp {X : Cx} {e : Expr} {t t' : TE} (h : PE X e t) (hi : ∀ σ H Q, t' σ H Q → t σ H Q) : PE X e t' := ⟨fun pins s σ H Q I q => h.run pins s σ H Q I (hi σ H Q q)⟩
theorem pa_imp {X : Cx} {es : List Expr} {t t' : TA} (h : PA X es t) (hi : ∀ σ H Q, t' σ H Q → t σ H Q) : PA X es t' := ⟨fun pos pins s σ H Q I q => h.run pos pins s σ H Q I (hi σ H Q q)⟩
def tE (K : PySem.W.Frag) (G : L2.St → Hp → Prop) (d : PyData) : TE := fun σ H Q => G σ H ∧ ∀ v H', Same H H' → Dp K H' v d → Q v H'
def tEs (K : PySem.W.Frag) (G : L2.St → Hp → Prop) (ds : List PyData) : TA := fun σ H Q => G σ H ∧ ∀ vs H', Same H H' → DpAll K H' vs ds → Q vs H'
structure Kp (G : L2.St → Hp → Prop) : Prop where
  go : ∀ {σ : L2.St} {H H' : Hp}, G σ H → Same H H' → G σ H'
section
variable {X : Cx} {K : PySem.W.Frag} {G : L2.St → Hp → Prop}
theorem px_var {e : Expr} {i : Nat} {d : PyData} (he : PE X e (tVar i)) (h : ∀ σ H, G σ H → ∃ v, σ[i]? = some (some v) ∧ Dp K H v d) : PE X e (tE K G d) :=
  pe_imp he fun σ H Q q => by
    obtain ⟨v, h1, h2⟩ := h σ H q.1
    exact ⟨v, h1, q.2 v H (Same.refl H) h2⟩
theorem px_int {i : Int} {k : Nat} {pos : Pos} : PE X (.Constant (.int i) k pos) (tE K G (.int i)) := pe_imp pe_int fun σ H Q q => q.2 _ H (Same.refl H) (.int i)
theorem px_str {z : Str} {k : Nat} {pos : Pos} : PE X (.Constant (.str z) k pos) (tE K G (.str z)) := pe_imp pe_str fun σ H Q q => q.2 _ H (Same.refl H) (.str z)
theorem pxs_nil : PA X [] (tEs K G []) := pa_imp pa_nil fun σ H Q q => q.2 [] H (Same.refl H) .nil
theorem pxs_cons (C : Kp G) {e : Expr} {es : List Expr} {d : PyData} {ds : List PyData} (he : PE X e (tE K G d)) (hes : PA X es (tEs K G ds)) (hs : starEach (e :: es) X.env = (false, eval e X.env) :: starEach es X.env := by rfl) : PA X (e :: es) (tEs K G (d :: ds)) :=
  pa_imp (pa_cons he hes hs) fun σ H Q q => ⟨q.1, fun v H1 s1 d1 => ⟨C.go q.1 s1, fun vs H2 s2 d2 => q.2 _ H2 (s1.trans s2) (.cons (Dp_same s2 d1) d2)⟩⟩
theorem px_tup {es : List Expr} {ds : List PyData} {k : Nat} {pos : Pos} (h : PA X es (tEs K G ds)) (hl : Nat.ble ds.length 1000 = true := by rfl) : PE X (.Tuple es k pos) (tE K G (.tuple ds)) :=
  pe_imp (pe_tup h) fun σ H Q q => ⟨q.1, fun vs H1 s1 d1 => ⟨by have := DpAll_len d1; have := Nat.le_of_ble_eq_true hl; exact Nat.le_of_lt (big_size (by omega)), fun a ha => by
    have s2 := same_new (o := .tup vs) ha
    exact q.2 _ _ (s1.trans s2) (.tup (SqT.of upd_same) (DpAll_same s2 d1))⟩⟩
/-- a list: its place is new, and its items stand -/
theorem px_lst {es : List Expr} {ds : List PyData} {pos : Pos} (h : PA X es (tEs K G ds)) (hl : Nat.ble ds.length 1000 = true := by rfl) : PE X (.List es pos) (fun σ H Q => G σ H ∧ ∀ L vs H', Same H H' → H L = none → H' L = some (.lst vs) → DpAll K H' vs ds → Q (.ref L) H') :=
  pe_imp (pe_lst h) fun σ H Q q => ⟨q.1, fun vs H1 s1 d1 => ⟨by have := DpAll_len d1; have := Nat.le_of_ble_eq_true hl; exact Nat.le_of_lt (big_size (by omega)), fun a ha => by
    have s2 := same_new (o := .lst vs) ha
    exact q.2 a vs _ (s1.trans s2) (s1.free ha) upd_same (DpAll_same s2 d1)⟩⟩
end
/-! ### deciding on graphs written down -/
def stepC (es : List Ge) (o : Int) (fs : List Int) : List Int := fs ++ (fs.flatMap (arr es)).filter fun g => !(g == o) && !(fs.contains g)
def cloC (es : List Ge) (o : Int) : Nat → List Int
  | 0 => if o = 0 then [] else [0]
  | n + 1 => stepC es o (cloC es o n)
theorem cloC_rch {es : List Ge} {o : Int} : ∀ (n : Nat) (k : Int), k ∈ cloC es o n → Rch es (some o) k
  | 0, k, h => by
    unfold cloC at h
    by_cases e : o = 0
    · rw [if_pos e] at h; cases h
    · rw [if_neg e] at h
      have : k = 0 := by simpa using h
      rw [this]
      exact .zero fun z => e (Option.some.inj z)
  | n + 1, k, h => by
    unfold cloC stepC at h
    rcases List.mem_append.mp h with h | h
    · exact cloC_rch n k h
    · obtain ⟨h1, h2⟩ := List.mem_filter.mp h
      obtain ⟨b, hb, hk⟩ := List.mem_flatMap.mp h1
      refine .step (cloC_rch n b hb) hk fun z => ?_
      have e : o = k := Option.some.inj z
      simp [e] at h2
def okC (es : List Ge) (o : Int) : Bool := ((o == 0) || (cloC es o es.length).contains 0) && ((cloC es o es.length).flatMap (arr es)).all fun g => (g == o) || (cloC es o es.length).contains g
theorem cloC_iff {es : List Ge} {o : Int} (h : okC es o = true) (k : Int) : k ∈ cloC es o es.length ↔ Rch es (some o) k := by
  unfold okC at h
  rw [Bool.and_eq_true] at h
  refine ⟨cloC_rch _ k, closed_all (fun z => ?_) fun b hb g hg ho => ?_⟩
  · rcases Bool.or_eq_true _ _ ▸ h.1 with e | e
    · exact absurd (by simpa using e : o = 0) fun e' => z (by rw [e'])
    · simpa using e
  · have := List.all_eq_true.mp h.2 g (List.mem_flatMap.mpr ⟨b, hb, hg⟩)
    rcases Bool.or_eq_true _ _ ▸ this with e | e
    · exact absurd (by simpa using e : g = o) fun e' => ho (by rw [e'])
    · simpa using e
def domsC (es : List Ge) (u : Int) : List Int := ((List.range es.length).filter fun i : Nat => !((cloC es (i : Int) es.length).contains u)).map fun i : Nat => (i : Int)
theorem domsC_eq {es : List Ge} {u : Int} (h : ((List.range es.length).all fun i : Nat => okC es (i : Int)) = true) : domsI es u = domsC es u := by
  unfold domsI domsC
  congr 1
  refine List.filter_congr fun i hi => ?_
  have ok := List.all_eq_true.mp h i hi
  have := cloC_iff ok u
  refine (domB_of ?_).symm
  rw [← this]
  simp
abbrev Case := List Ge × Int × List Int
def caseD (c : Case) : PyData := .tuple [.tuple (c.1.map endD), .int c.2.1, .tuple (c.2.2.map PyData.int)]
def gRow : List Ge := [.go 1, .go 2, .back]
def gMeet : List Ge := [.iff 1 2, .go 3, .go 3, .go 4, .back]
def gRing : List Ge := [.iff 1 2, .go 2, .go 1, .back]
def cases1 : List Case := [(gRow, 2, [0, 1, 2]), (gMeet, 4, [0, 3, 4]), (gMeet, 3, [0, 3]), (gRing, 1, [0, 1]), (gRing, 2, [0, 2])]
def cases2 : List Case := [(gRing, 3, [0, 1, 2, 3]), (gMeet, 0, [0]), ([.go 0], 0, [0])]
def gokB (es : List Ge) : Bool := decide (1 ≤ es.length) && decide (es.length ≤ 60) && es.all fun e => (allG e).all fun g => decide (0 ≤ g) && decide (g < (es.length : Int))
theorem gokB_ok {es : List Ge} (h : gokB es = true) : Gok es := by
  unfold gokB at h
  rw [Bool.and_eq_true, Bool.and_eq_true] at h
  refine ⟨of_decide_eq_true h.1.1, of_decide_eq_true h.1.2, fun e he g hg => ?_⟩
  have := List.all_eq_true.mp (List.all_eq_true.mp h.2 e he) g hg
  rw [Bool.and_eq_true] at this
  exact ⟨of_decide_eq_true this.1, of_decide_eq_true this.2⟩
def caseB (c : Case) : Bool := gokB c.1 && decide (c.1.length ≤ 6) && ((List.range c.1.length).all fun i : Nat => okC c.1 (i : Int)) && decide (domsC c.1 c.2.1 = c.2.2)
theorem cases_ok : ((cases1 ++ cases2).all caseB) = true := by decide +kernel
structure CaseOk (c : Case) : Prop where
  ok : Gok c.1
  few : c.1.length ≤ 6
  due : domsI c.1 c.2.1 = c.2.2
theorem case_ok {c : Case} (h : c ∈ cases1 ++ cases2) : CaseOk c := by
  have := List.all_eq_true.mp cases_ok c h
  unfold caseB at this
  rw [Bool.and_eq_true, Bool.and_eq_true, Bool.and_eq_true] at this
  exact ⟨gokB_ok this.1.1.1, of_decide_eq_true this.1.1.2, (domsC_eq this.1.2).trans (of_decide_eq_true this.2)⟩
/-- graphs as data fit -/
theorem endD_fit {es : List Ge} (g : Gok es) {e : Ge} (he : e ∈ es) : Fit 100 60 1 1013 (endD e) := by
  have r := g.rng e he
  have few := g.few
  have fs : ∀ z : Str, z ∈ [("go" : Str), "if", "i", "back"] → Fit 100 60 0 250 (.str z) := fun z hz => by
    simp only [List.mem_cons, List.not_mem_nil, or_false] at hz
    rcases hz with rfl | rfl | rfl | rfl <;> exact ⟨by decide +kernel, rfl, by simp [PyData.depth], by decide +kernel⟩
  cases e with
  | go a =>
    have ra := r a (by simp [allG])
    exact (Fit.all (ds := [.str "go", .int a]) (l := 60) (k := 4) (fun d hd => by
      simp only [List.mem_cons, List.not_mem_nil, or_false] at hd
      rcases hd with rfl | rfl
      · exact fs _ (by simp)
      · exact fit_int ra.1 (by omega)) (by show 2 ≤ 4; decide) (by decide))
  | iff a b =>
    have ra := r a (by simp [allG])
    have rb := r b (by simp [allG])
    exact (Fit.all (ds := [.str "if", .str "i", .int a, .int b]) (l := 60) (k := 4) (fun d hd => by
      simp only [List.mem_cons, List.not_mem_nil, or_false] at hd
      rcases hd with rfl | rfl | rfl | rfl
      · exact fs _ (by simp)
      · exact fs _ (by simp)
      · exact fit_int ra.1 (by omega)
      · exact fit_int rb.1 (by omega)) (by show 4 ≤ 4; decide) (by decide))
  | back =>
    exact (Fit.all (ds := [.str "back"]) (l := 60) (k := 4) (fun d hd => by
      simp only [List.mem_cons, List.not_mem_nil, or_false] at hd
      rcases hd with rfl
      exact fs _ (by simp)) (by show 1 ≤ 4; decide) (by decide))
theorem blkD_fit {es : List Ge} (g : Gok es) {e : Ge} (he : e ∈ es) : Fit 100 60 2 2035 (blkD e) :=
  Fit.all (ds := [.tuple [], endD e]) (l := 60) (n := 1) (B := 1013) (k := 2) (fun d hd => by
    simp only [List.mem_cons, List.not_mem_nil, or_false] at hd
    rcases hd with rfl | rfl
    · exact (Fit.all (ds := []) (n := 0) (B := 250) (k := 0) (fun _ h => by cases h) (Nat.le_refl _) (by decide)).mono (Nat.le_refl _) (Nat.le_refl _) (by decide) (by decide)
    · exact endD_fit g he) (by show 2 ≤ 2; decide) (by decide)
theorem codeD_fit {es : List Ge} (g : Gok es) : Fit 100 60 6 488941 (codeD [("main", es)]) := by
  have h1 : Fit 100 60 3 122225 (.tuple (es.map blkD)) := Fit.all (k := 60) (fun d hd => by
    obtain ⟨e, he, rfl⟩ := List.mem_map.mp hd
    exact blkD_fit g he) (by rw [List.length_map]; exact g.few) (Nat.le_refl _)
  have fs : ∀ z : Str, z ∈ [("main" : Str), "a"] → Fit 100 60 0 250 (.str z) := fun z hz => by
    simp only [List.mem_cons, List.not_mem_nil, or_false] at hz
    rcases hz with rfl | rfl <;> exact ⟨by decide +kernel, rfl, by simp [PyData.depth], by decide +kernel⟩
  have h2 : Fit 100 60 4 (122227 * 2 + 5) (rtD ("main", es)) := Fit.all (ds := [.str "main", .tuple (es.map blkD)]) (l := 60) (k := 2) (fun d hd => by
    simp only [List.mem_cons, List.not_mem_nil, or_false] at hd
    rcases hd with rfl | rfl
    · exact (fs _ (by simp)).mono (Nat.le_refl _) (Nat.le_refl _) (by decide) (by decide)
    · exact h1) (by show 2 ≤ 2; decide) (by decide)
  have h3 : Fit 100 60 5 244466 (.tuple [rtD ("main", es)]) := Fit.all (ds := [rtD ("main", es)]) (l := 60) (k := 1) (fun d hd => by
    simp only [List.mem_cons, List.not_mem_nil, or_false] at hd
    rcases hd with rfl
    exact h2) (by show 1 ≤ 1; decide) (by decide)
  have h5 : Fit 100 60 1 509 (.tuple [.str "a", .int 1]) := Fit.all (ds := [.str "a", .int 1]) (l := 60) (n := 0) (B := 250) (k := 2) (fun d hd => by
      simp only [List.mem_cons, List.not_mem_nil, or_false] at hd
      rcases hd with rfl | rfl
      · exact fs _ (by simp)
      · exact fit_int (by decide) (by decide)) (by show 2 ≤ 2; decide) (by decide)
  have h4 : Fit 100 60 2 516 objD := Fit.all (ds := [.tuple [.str "a", .int 1]]) (l := 60) (k := 1) (fun d hd => by
    simp only [List.mem_cons, List.not_mem_nil, or_false] at hd
    rcases hd with rfl
    exact h5) (by show 1 ≤ 1; decide) (by decide)
  exact Fit.all (ds := [objD, .tuple [rtD ("main", es)]]) (l := 60) (n := 5) (B := 244466) (k := 2) (fun d hd => by
    simp only [List.mem_cons, List.not_mem_nil, or_false] at hd
    rcases hd with rfl | rfl
    · exact h4.mono (Nat.le_refl _) (Nat.le_refl _) (by decide) (by decide)
    · exact h3) (by show 2 ≤ 2; decide) (by decide)
end Sw
set_option maxRecDepth 100000
set_option maxHeartbeats 4000000
namespace Sw
open PySem PySem.Spec PyProof.Rows L2
/-- f(e), f's promise kept where no repr is under way -/
theorem pe_callG {X : Cx} {k : Nat} {f : Addr} {fd : FuncData} {ps : List Str} {sp : Sp} {x : Str} {p pos : Pos} {e : Expr} {es : List Expr} {t : TA} {E : XK} (hG : X.A.guards = some []) (F : FnG X.prog X.w X.K X.mg X.base k f fd ps sp) (hr : Room k X.A) (hg : Gl X x) (hm : X.mg x = some (.ref f)) (hk : PySem.W.keepIn X.K (.ref f) = true) (hb : Binds X.K fd ps []) (hx : Passes CX0 X E)
    (ha : PA X (e :: es) t) (hdb : (x == ("__debug__" : Str)) = false := by decide) (he : starEach (e :: es) X.env = (false, eval e X.env) :: starEach es X.env := by rfl) (hpl : (backTo pos (starEach es X.env)).any (·.1) = false := by rfl) :
    PE X (.Call (.Name x p) (e :: es) [] pos) (tCall sp [] E t) := by
  refine ⟨fun pins s σ H Q I h => ?_⟩
  refine wpAny_Call_Name_kw (ld_glob I hg hm ?_ hdb)
  refine PySem.W.callWith_K (h₀ := X.base) I.ok.mod.kin hk (thn (ha.run pos pins s σ H _ I h) fun us s1 ⟨vs, H1, I1, r, q⟩ => ⟨I1.kIn, ?_⟩) he hpl
  have r2 : Vals (vs ++ []) (us ++ []) := r.append .nil
  have hl : (us ++ []).length = ps.length := by rw [← r2.length]; exact F.size _ _ _ _ q
  refine wpAny_call (codeAny_mono (F.goes X.A X.stack s1 H1 ⟨us, []⟩ (us ++ []) (vs ++ []) Q E hG hr I1.env0 (hb s1 us I1.kIn hl) r2 q) fun r s' hq => ?_)
  cases r with
  | error e => exact hx pins σ H1 s1 e s' I1 hq
  | ok fl =>
    cases fl with
    | ret u => exact I1.after hq
    | next => exact False.elim hq
    | brk => exact False.elim hq
    | cont => exact False.elim hq
theorem eqv_same {d : PyData} (h : SeqAt.shaped d = true) : PyData.eqv d d = true := by
  unfold SeqAt.shaped at h
  rw [Bool.and_eq_true] at h
  exact SeqAt.eqv_refl d h.1
theorem DpAll_bls {K : PySem.W.Frag} {H : Hp} : ∀ bs : List Bool, DpAll K H (bs.map V.bl) (bs.map PyData.bool)
  | [] => .nil
  | b :: bs => .cons (.bl b) (DpAll_bls bs)
theorem bools_repr {bs : List Bool} (hl : bs.length ≤ 60) : (PyData.list (bs.map PyData.bool)).showable = true ∧ (PyData.list (bs.map PyData.bool)).hasDict = false ∧ (PyData.list (bs.map PyData.bool)).depth ≤ 60 ∧ (PyData.list (bs.map PyData.bool)).shown.length ≤ sizeLine := by
  refine repr_ok (M := 0) (l := 60) (n := 1) (B := 1000) ⟨?_, ?_, ?_, ?_⟩ (by decide) (by decide) (by decide)
  · simp only [leaf]
    exact leafAll_iff.mpr fun d hd => by obtain ⟨b, _, rfl⟩ := List.mem_map.mp hd; rfl
  · simp only [lens, Bool.and_eq_true, decide_eq_true_eq]
    exact ⟨by rw [List.length_map]; exact hl, lensAll_iff.mpr fun d hd => by obtain ⟨b, _, rfl⟩ := List.mem_map.mp hd; rfl⟩
  · exact depth_list.mpr fun d hd => by obtain ⟨b, _, rfl⟩ := List.mem_map.mp hd; simp [PyData.depth]
  · have := wtAll_le (B := 5) (ds := bs.map PyData.bool) fun d hd => by obtain ⟨b, _, rfl⟩ := List.mem_map.mp hd; exact Nat.le_refl _
    rw [List.length_map] at this
    simp only [wt]
    omega
section
variable {P : Program} {w : World} {K : PySem.W.Frag} {mg : Str → Option Value} {base : Heap}
def spBeside (K : PySem.W.Frag) : Sp := fun vs H Q _ => ∃ (vc : V) (nm : Str) (es : List Ge) (rs : List (Str × List Ge)), vs = [vc] ∧ Dp K H vc (codeD ((nm, es) :: rs)) ∧ ∀ v H', Same H H' → Dp K H' v (codeD [("main", [.back]), ("sub", es)]) → Q v H'
theorem sc_beside : FnScope ["_law_code"] ["_law_code"] (defScope (topS 28)) := ⟨rfl, rfl, rfl, by decide +kernel, rfl, by decide +kernel, by decide +kernel⟩
theorem ok_beside {f : Addr} {fd : FuncData} (D : Df K mg "_law_beside" (topS 28) ["_law_code"] f fd) (B : Bt mg) : FnOk P w K mg base CX0 1 f fd ["_law_code"] (spBeside K) := by
  refine D.fn.ok sc_beside (fun vs H Q E h => ?_) (fun cdv A outer s H vs Q E hr h => ?_)
  · obtain ⟨vc, nm, es, rs, rfl, _⟩ := h
    rfl
  obtain ⟨vc, nm, es, rs, rfl, hc, q⟩ := h
  have C : Kp (fun (σ : L2.St) H' => σ[0]? = some (some vc) ∧ Same H H') := ⟨fun g s => ⟨g.1, g.2.trans s⟩⟩
  obtain ⟨a, vo, vr, rfl, ha, ho, hr2⟩ := code_two hc
  obtain ⟨ar, xs, rfl, hx, hd⟩ := Dp_tup hr2
  cases hd with
  | @cons v0 _ vs0 _ hd0 hds =>
    obtain ⟨a0, ys, rfl, hy, hyd⟩ := Dp_tup hd0
    obtain ⟨u1, u2, rfl, k1, k2⟩ := DpAll_two hyd
    refine ⟨_, pss_one (ps_ret (px_tup (K := K) (pxs_cons C (d := objD) (pe_imp (pe_ix ix_tup (pv 0) pe_int (fun _ _ => rfl)) (fun σ H' Q q => ⟨_, q.1.1, a, _, 0, _, rfl, rfl, sameT q.1.2 ha, atI_nat (j := 0) rfl, q.2 _ H' (Same.refl _) (Dp_same q.1.2 ho)⟩)) (pxs_cons C (px_tup (pxs_cons C (px_tup (pxs_cons C px_str (pxs_cons C (px_tup (pxs_cons C (px_tup (pxs_cons C (px_tup pxs_nil) (pxs_cons C (px_tup (pxs_cons C px_str pxs_nil)) pxs_nil))) pxs_nil)) pxs_nil))) (pxs_cons C (px_tup (pxs_cons C px_str (pxs_cons C (d := .tuple (es.map blkD)) (pe_imp (pe_ix ix_tup (pe_ix ix_tup (pe_ix ix_tup (pv 0) pe_int (fun _ _ => rfl)) pe_int (fun _ _ => rfl)) pe_int (fun _ _ => rfl)) (fun σ H' Q q => ⟨_, q.1.1, a, _, 1, _, rfl, rfl, sameT q.1.2 ha, atI_nat (j := 1) rfl, ar, _, 0, _, rfl, rfl, sameT q.1.2 hx, atI_nat (j := 0) rfl, a0, _, 1, _, rfl, rfl, sameT q.1.2 hy, atI_nat (j := 1) rfl, q.2 _ H' (Same.refl _) (Dp_same q.1.2 k2)⟩)) pxs_nil))) pxs_nil))) pxs_nil)))), ?_⟩
    exact ⟨⟨rfl, Same.refl _⟩, fun v H' s' d' => q v H' s' d'⟩
abbrev N21 : List Str := ["_law_row", "_law_meet", "_law_ring", "_law_cases", "_law_ends", "_law_block", "_law_due", "_law_code", "_law_end", "_law_other", "_law_under", "_law_told", "_law_over_here"]
def spHand : Sp := fun vs H Q _ => vs = [] ∧ ∀ H', Same H H' → Q (.bl true) H'
end
end Sw
set_option maxRecDepth 100000
set_option maxHeartbeats 4000000
namespace Sw
open PySem PySem.Spec PyProof.Rows L2
/-- f(), f's promise kept where no repr is under way -/
theorem pe_callG0 {X : Cx} {k : Nat} {f : Addr} {fd : FuncData} {sp : Sp} {x : Str} {p pos : Pos} {E : XK} (hG : X.A.guards = some []) (F : FnG X.prog X.w X.K X.mg X.base k f fd [] sp) (hr : Room k X.A) (hg : Gl X x) (hm : X.mg x = some (.ref f)) (hk : PySem.W.keepIn X.K (.ref f) = true) (hb : Binds X.K fd [] []) (hx : Passes CX0 X E)
    (hdb : (x == ("__debug__" : Str)) = false := by decide) : PE X (.Call (.Name x p) [] [] pos) (tCall sp [] E tNil) := by
  refine ⟨fun pins s σ H Q I h => ?_⟩
  refine wpAny_Call_Name_kw (ld_glob I hg hm ?_ hdb)
  refine PySem.W.callWith_K0 I.kIn hk (wpAny_call (codeAny_mono (F.goes X.A X.stack s H ⟨[], []⟩ [] [] Q E hG hr I.env0 (hb s [] I.kIn rfl) .nil h) fun r s' hq => ?_))
  cases r with
  | error e => exact hx pins σ H s e s' I hq
  | ok fl =>
    cases fl with
    | ret u => exact I.after hq
    | next => exact False.elim hq
    | brk => exact False.elim hq
    | cont => exact False.elim hq
section
variable {P : Program} {w : World} {K : PySem.W.Frag} {mg : Str → Option Value} {base : Heap}
def spFeed (K : PySem.W.Frag) : Sp := fun vs H Q _ => ∃ (a : Addr) (ns : List Int), vs = [.ref a] ∧ SqL K H a (ns.map V.int) ∧ ns.length ≤ 63 ∧
  ∀ (p fq : Addr) (H' : Hp), Same H H' → H p = none → FeedAt H' p fq 0 → Q (.ref p) H'
theorem sc_feed : FnScope ["_law_script"] ["_law_script"] (defScope (topS 17)) := ⟨rfl, rfl, rfl, by decide +kernel, rfl, by decide +kernel, by decide +kernel⟩
theorem cut_ints (ns : List Int) (lo hi : Option Int) : ∃ ms : List Int, cutV (ns.map V.int) lo hi = ms.map V.int ∧ ms.length ≤ ns.length := by
  refine ⟨(ns.drop (HT.sIx ns.length 0 lo)).take (HT.sIx ns.length ns.length hi - HT.sIx ns.length 0 lo), ?_, ?_⟩
  · unfold cutV
    rw [List.length_map, List.map_take, List.map_drop]
  · rw [List.length_take, List.length_drop]
    omega
theorem ok_feed {f : Addr} {fd : FuncData} (D : Df K mg "_law_feed" (topS 17) ["_law_script"] f fd) : FnOk P w K mg base CX0 1 f fd ["_law_script"] (spFeed K) := by
  refine D.fn.ok sc_feed (fun vs H Q E h => ?_) (fun cdv A outer s H vs Q E hr h => ?_)
  · obtain ⟨a, ns, rfl, _⟩ := h
    rfl
  obtain ⟨a, ns, rfl, hS, hn, q⟩ := h
  refine ⟨_, pss_one (ps_ret (pe_lst (pa_cons (pe_slice sl_list (pv 0) po_none (po_some pe_int)) (pa_cons pe_int (pa_cons pe_int (pa_cons pe_int pa_nil)))))), ?_⟩
  obtain ⟨ms, e, hm⟩ := cut_ints ns none (some 63)
  refine ⟨_, rfl, 63, rfl, a, _, rfl, hS, fun c hc => ⟨by show 4 ≤ sizeLine; decide, fun p hp => ?_⟩⟩
  have s1 := same_new (o := .lst (cutV (ns.map V.int) none (some 63))) hc
  have s2 := same_new (o := .lst [.ref c, .int 0, .int 0, .int 0]) hp
  have hcp : c ≠ p := fun z => by rw [z] at hp; rw [upd_same] at hp; cases hp
  refine q p c _ (s1.trans s2) ?_ ⟨ms, 0, 0, 0, upd_same, ?_, Ne.symm hcp, by decide, by decide, by decide, by decide, by omega⟩
  · rw [upd_ne (Ne.symm hcp)] at hp
    exact hp
  · rw [upd_ne hcp, upd_same, e]
abbrev N22 : List Str := ["_law_script", "_law_feed_here", "_law_turn", "_law_code", "_law_kept"]
def spLaw (K : PySem.W.Frag) : Sp := fun vs H Q _ => ∃ (a : Addr) (ns : List Int), vs = [.ref a] ∧ SqL K H a (ns.map V.int) ∧ ns.length ≤ 63 ∧ ∀ H', Q (.bl true) H'
end
end Sw
set_option maxRecDepth 100000
set_option maxHeartbeats 4000000
namespace Sw
open PySem PySem.Spec PyProof.Rows L2
/-! ### ways without a block twice, the last one first -/
inductive RW (es : List Ge) : List Int → Prop
  | one : RW es [0]
  | cons {g b : Int} {w : List Int} : RW es (b :: w) → g ∈ arr es b → g ∉ (b :: w) → RW es (g :: b :: w)
theorem RW.nodup {es : List Ge} {r : List Int} (h : RW es r) : r.Nodup := by
  induction h with
  | one => simp
  | cons _ _ hn ih => exact List.nodup_cons.mpr ⟨hn, ih⟩
theorem RW.rng {es : List Ge} (g : Gok es) {r : List Int} (h : RW es r) : ∀ k ∈ r, 0 ≤ k ∧ k < (es.length : Int) := by
  induction h with
  | one => intro k hk; have : k = 0 := by simpa using hk
           have := g.pos; omega
  | cons _ ha _ ih =>
    intro k hk
    rcases List.mem_cons.mp hk with rfl | hk
    · exact arr_rng g ha
    · exact ih k hk
theorem RW.few {es : List Ge} (g : Gok es) {r : List Int} (h : RW es r) : r.length ≤ es.length := few_ints es.length h.nodup (h.rng g)
theorem RW.ne {es : List Ge} {r : List Int} (h : RW es r) : r ≠ [] := by cases h <;> simp
theorem RW.suffix {es : List Ge} {c : Int} {y : List Int} : ∀ {x : List Int}, RW es (x ++ c :: y) → RW es (c :: y)
  | [], h => h
  | g :: x, h => by
    cases hxc : x ++ c :: y with
    | nil => simp at hxc
    | cons b w =>
      rw [List.cons_append, hxc] at h
      cases h with
      | cons h1 _ _ => rw [← hxc] at h1; exact RW.suffix h1
/-- to go on along a way by a block from which one comes without ov -/
theorem rch_on {es : List Ge} {ov : Option Int} {c : Int} {y : List Int} (hc : Rch es ov c) : ∀ {x : List Int} {u : Int} {w : List Int}, RW es (x ++ c :: y) → x ++ c :: y = u :: w → (∀ k ∈ x, ov ≠ some k) → Rch es ov u
  | [], u, w, _, e, _ => by cases e; exact hc
  | g :: x, u, w, h, e, hx => by
    rw [List.cons_append] at e
    cases e
    cases hxc : x ++ c :: y with
    | nil => simp at hxc
    | cons b w =>
      rw [List.cons_append, hxc] at h
      cases h with
      | cons h1 ha hn =>
        rw [← hxc] at h1
        exact .step (rch_on hc h1 hxc fun k hk => hx k (List.mem_cons_of_mem _ hk)) ha (hx g List.mem_cons_self)
theorem rch_rw {es : List Ge} {ov : Option Int} {u : Int} (h : Rch es ov u) : ∃ w, RW es (u :: w) ∧ ∀ k ∈ u :: w, ov ≠ some k := by
  induction h with
  | zero h =>
    refine ⟨[], .one, fun k hk => ?_⟩
    have : k = 0 := by simpa using hk
    rw [this]
    exact h
  | @step a b _ hb ho ih =>
    obtain ⟨w, h1, h2⟩ := ih
    by_cases hm : b ∈ a :: w
    · obtain ⟨x, y, e⟩ := List.append_of_mem hm
      rw [e] at h1 h2
      exact ⟨y, h1.suffix, fun k hk => h2 k (List.mem_append_right _ hk)⟩
    · exact ⟨a :: w, .cons h1 hb hm, fun k hk => by
        rcases List.mem_cons.mp hk with rfl | hk
        · exact ho
        · exact h2 k hk⟩
theorem rw_rch {es : List Ge} {ov : Option Int} {r : List Int} (h : RW es r) : ∀ {u : Int} {w : List Int}, r = u :: w → (∀ k ∈ r, ov ≠ some k) → Rch es ov u := by
  induction h with
  | one => intro u w e hk; cases e; exact .zero (hk 0 (by simp))
  | @cons g b w' h1 ha hn ih =>
    intro u w e hk
    cases e
    exact .step (ih rfl fun k hk' => hk k (List.mem_cons_of_mem _ hk')) ha (hk _ List.mem_cons_self)
theorem rch_iff {es : List Ge} {ov : Option Int} {u : Int} : Rch es ov u ↔ ∃ w, RW es (u :: w) ∧ ∀ k ∈ u :: w, ov ≠ some k := ⟨rch_rw, fun ⟨_, h1, h2⟩ => rw_rch h1 rfl h2⟩
theorem Rch.free {es : List Ge} {ov : Option Int} {u : Int} (h : Rch es ov u) : Rch es none u := by
  induction h with
  | zero _ => exact .zero (by simp)
  | step _ hb _ ih => exact .step ih hb (by simp)
/-- one that dominates stands on each way -/
theorem dom_on {es : List Ge} {o u : Int} {w : List Int} (h : ¬ Rch es (some o) u) (hw : RW es (u :: w)) : o ∈ u :: w := Decidable.byContradiction fun hn => h (rw_rch hw rfl fun k hk e => hn (by cases Option.some.inj e; exact hk))
theorem two_in {a c : Int} (ne : a ≠ c) : ∀ {r : List Int}, r.Nodup → a ∈ r → c ∈ r → (∃ x y, r = x ++ a :: y ∧ c ∈ y) ∨ ∃ x y, r = x ++ c :: y ∧ a ∈ y
  | [], _, h, _ => by cases h
  | g :: r, nd, ha, hc => by
    rw [List.nodup_cons] at nd
    rcases List.mem_cons.mp ha with rfl | ha'
    · rcases List.mem_cons.mp hc with e | hc'
      · exact absurd e.symm ne
      · exact .inl ⟨[], r, rfl, hc'⟩
    · rcases List.mem_cons.mp hc with rfl | hc'
      · exact .inr ⟨[], r, rfl, ha'⟩
      · rcases two_in ne nd.2 ha' hc' with ⟨x, y, e, h⟩ | ⟨x, y, e, h⟩
        · exact .inl ⟨g :: x, y, by rw [e]; rfl, h⟩
        · exact .inr ⟨g :: x, y, by rw [e]; rfl, h⟩
theorem not_in_x {c : Int} {x y : List Int} {a : Int} (nd : (x ++ a :: y).Nodup) (h : c ∈ y) : c ∉ x := fun hx => by
  have := (List.nodup_append.mp nd).2.2 c hx c (List.mem_cons_of_mem _ h)
  exact this rfl
theorem dom_total {es : List Ge} {a c b : Int} (hb : Rch es none b) (ha : ¬ Rch es (some a) b) (hc : ¬ Rch es (some c) b) : ¬ Rch es (some a) c ∨ ¬ Rch es (some c) a := by
  by_cases e : a = c
  · subst e
    exact .inl fun h => h.ne rfl
  obtain ⟨w, hw, _⟩ := rch_rw hb
  rcases two_in e hw.nodup (dom_on ha hw) (dom_on hc hw) with ⟨x, y, ex, hy⟩ | ⟨x, y, ex, hy⟩
  · refine .inr fun h => hc ?_
    have nd := hw.nodup
    rw [ex] at hw nd
    exact rch_on h hw ex.symm fun k hk z => not_in_x nd hy (by cases Option.some.inj z; exact hk)
  · refine .inl fun h => ha ?_
    have nd := hw.nodup
    rw [ex] at hw nd
    exact rch_on h hw ex.symm fun k hk z => not_in_x nd hy (by cases Option.some.inj z; exact hk)
theorem dom_anti {es : List Ge} {a c b : Int} (ne : a ≠ c) (hb : Rch es none b) (ha : ¬ Rch es (some a) b) (hc : ¬ Rch es (some c) b) : Rch es (some a) c ∨ Rch es (some c) a := by
  obtain ⟨w, hw, _⟩ := rch_rw hb
  have far : ∀ {x y : List Int} {p q : Int}, RW es (x ++ p :: y) → q ∈ y → Rch es (some p) q := fun {x y p q} h hq => by
    have h1 := h.suffix
    have nd := h1.nodup
    rw [List.nodup_cons] at nd
    obtain ⟨y1, y2, ey⟩ := List.append_of_mem hq
    rw [ey] at h1 nd
    have h2 : RW es (q :: y2) := RW.suffix (x := p :: y1) h1
    exact rw_rch h2 rfl fun k hk z => nd.1 (by cases Option.some.inj z; exact List.mem_append_right _ hk)
  rcases two_in ne hw.nodup (dom_on ha hw) (dom_on hc hw) with ⟨x, y, ex, hy⟩ | ⟨x, y, ex, hy⟩
  · rw [ex] at hw
    exact .inl (far hw hy)
  · rw [ex] at hw
    exact .inr (far hw hy)
theorem dom_trans {es : List Ge} {o a b : Int} (h1 : ¬ Rch es (some o) a) (h2 : ¬ Rch es (some a) b) : ¬ Rch es (some o) b := fun h => by
  obtain ⟨w, hw, hk⟩ := rch_rw h
  have ha := dom_on h2 hw
  obtain ⟨x, y, e⟩ := List.append_of_mem ha
  rw [e] at hw hk
  exact h1 (rw_rch hw.suffix rfl fun k hk' => hk k (List.mem_append_right _ hk'))
end Sw
set_option maxRecDepth 100000
set_option maxHeartbeats 4000000
namespace Sw
open PySem PySem.Spec PyProof.Rows L2
section
variable {P : Program} {w : World} {A : Around} {E : Value → Shared → Prop} {s : Shared}
theorem call_set_intsL {l : Addr} {items : Array Value} (xs : List Int) {Q : Value → Shared → Prop} (hh : A.handled = none) (hl : s.heap.IsList l items) (hit : IntsAre items.toList xs) (few : xs.length + 1 < scanBound)
    (h : ∀ (h' : Heap) (tk c : Nat), SetR w h' s.heap.objs.size (fun j => decide (j ∈ xs)) c → (∀ b o, s.heap.get? b = some o → h'.get? b = some o) → Q (.ref s.heap.objs.size) { s with heap := h', toks := tk }) :
    wpAny (model P w) A (call (.type "set") [.ref l]) Q E s := by
  have isz : items.size = xs.length := by have := hit.length; simpa using this
  obtain ⟨c, tl, hmro⟩ := F.called_set.mro
  have hmade := F.called_set.made
  have hsub := F.called_set.sub
  refine wpAny_call (codeAny_of_tree ?_)
  show wpAny _ _ (callAny (.type "set") _) _ _ _
  refine wpAny_pure ⟨Code.quiet_builtin _ (by decide +kernel), codeAny_builtin F.entry_type_call ?_⟩
  rw [Around.under_plain (weight_type_call_type "set" [.ref l] []) rfl]
  have h1 := F.called_set.notType
  have h2 := F.called_set.canCreate
  have hct := F.typeCall_set_1 (.ref l)
  repeat (any_goals (first | assumption | wp_step))
  refine codeAny_mono (code_set_led1 (.ref l) (E := E) (Q₁ := fun obj s1 => obj = .ref s.heap.objs.size ∧ s1 = { s with heap := s.heap.push (newSetO w) }) ⟨rfl, rfl⟩) ?_
  intro r s1 hr
  cases r with
  | error e => exact hr
  | ok fl =>
    cases fl with
    | ret obj =>
      obtain ⟨rfl, rfl⟩ := hr
      have hS : (s.heap.push (newSetO w)).get? s.heap.objs.size = some (newSetO w) := Heap.get?_push_size _ rfl
      have hT : Shared.TypeIs { s with heap := s.heap.push (newSetO w) } (.ref s.heap.objs.size) "set" := ⟨_, hS, rfl⟩
      have hli := F.called_set.init.lookup
      have hbi := F.called_set.init.bind (.ref s.heap.objs.size)
      repeat (any_goals (first | assumption | wp_step))
      refine codeAny_mono (codeAny_call_builtin (R := wants (fun r s2 => r = .none ∧ ∃ h' tk c, s2 = { s with heap := h', toks := tk } ∧ SetR w h' s.heap.objs.size (fun j => decide (j ∈ xs)) c ∧
          (∀ b o, s.heap.get? b = some o → h'.get? b = some o)) E) F.called_set.init.plain F.entry_set_init (check_set_init_1 hT ?_)) ?_
      · obtain ⟨ol, hol, hcl, nl, hdl⟩ := hl
        obtain ⟨ocls, odict, odata, oslots⟩ := ol
        simp only at hcl hdl
        subst hcl
        subst hdl
        have hol' : (s.heap.push (newSetO w)).get? l = some { cls := .type "list", dict := odict, data := .seq items nl, slots := oslots } := Heap.get?_push_of_some _ hol
        have hsls := F.sub_list_set
        have hslf := F.sub_list_frozenset
        have hne : (Value.type "list" == Value.type "dict") = false := by decide
        have hl1 : (s.heap.push (newSetO w)).IsList l items := ⟨_, hol', rfl, nl, rfl⟩
        unfold Builtin.«set.__init__» noKeywords Builtin.Frozenset.updateFrom
        generalize hPI : pyIter = PI
        wp_walk
        subst hPI
        refine wpAny_pyIter_list hl1 (wpAny_bind (wpAny_runValue ?_))
        have hlS : l < s.heap.objs.size := Heap.lt_size hol
        have zp : (s.heap.push (newSetO w)).objs.size = s.heap.objs.size + 1 := Heap.size_push ..
        have neI : l ≠ (s.heap.push (newSetO w)).objs.size := by rw [zp]; exact Nat.ne_of_lt (Nat.lt_succ_of_lt hlS)
        have nS : s.heap.objs.size ∉ [(s.heap.push (newSetO w)).objs.size, l] := by
          rw [zp]
          simp only [List.mem_cons, List.not_mem_nil, or_false, not_or]
          exact ⟨Nat.ne_of_lt (Nat.lt_succ_self _), Nat.ne_of_gt hlS⟩
        have hval : ∀ (i : Nat) (v : Value), items[i]? = some v → ∃ k t, xs[i]? = some k ∧ v = .int k t := fun i v hv => by
          have hi : i < xs.length := by rw [← isz]; exact (Array.getElem?_eq_some_iff.mp hv).1
          obtain ⟨t, e⟩ := IntsAre.int_at hit i v (by rw [Array.getElem?_toList]; exact hv)
          refine ⟨xs[i], t, List.getElem?_eq_getElem hi, ?_⟩
          rw [e, List.getD_eq_getElem?_getD, List.getElem?_eq_getElem hi] <;> rfl
        refine set_update_ints ((Walks.list (by simp [hh]) _ l neI items).toS) s.heap.objs.size nS xs isz few hval (items.size - 0) 0 _ (by omega) (Nat.zero_le _)
          ⟨⟨_, Heap.get?_push_size _ rfl, rfl, rfl⟩, (hl1.push _)⟩ ⟨0, Nat.le_refl 0, setR_new_at (Heap.get?_push_of_some _ hS)⟩ ?_
        intro s' c hm hc' hS'
        obtain ⟨h', g2, d', tk', os'⟩ := s'
        have eg : g2 = s.gens := hm.gens
        have ed : d' = s.drawn := hm.drawn
        have eo : os' = s.os := hm.os
        subst eg ed eo
        show wpAny _ _ _ _ _ _
        refine wpAny_pure ?_
        show wpAny _ _ (ret Value.none) _ _ _
        refine wpAny_pure ⟨rfl, h', tk', c, rfl, hS', fun c o e => ?_⟩
        have lc : c < s.heap.objs.size := Heap.lt_size e
        refine hm.heap c o ?_ (Heap.get?_push_of_some _ (Heap.get?_push_of_some _ e))
        simp only [List.mem_cons, List.not_mem_nil, or_false, not_or]
        refine ⟨Nat.ne_of_lt lc, ?_⟩
        rw [zp]
        exact Nat.ne_of_lt (Nat.lt_succ_of_lt lc)
      · intro r2 s2 hr2
        cases r2 with
        | error e => exact hr2
        | ok fl2 =>
          cases fl2 with
          | ret r =>
            obtain ⟨rfl, h', tk, c, rfl, hS', hk'⟩ := hr2
            repeat (any_goals (first | assumption | wp_step))
            exact h _ _ _ hS' hk'
          | _ => exact hr2.elim
    | _ => exact hr.elim
end
end Sw
set_option maxRecDepth 100000
set_option maxHeartbeats 4000000
namespace Sw
open PySem PySem.Spec PyProof.Rows L2
section
variable {X : Cx}
/-- set(xs) of a list of numbers -/
def rSetIL (K : PySem.W.Frag) (w : World) : List V → Hp → VK → Prop := fun vs H Q => ∃ (l : Addr) (ns : List Int), vs = [.ref l] ∧ SqL K H l (ns.map V.int) ∧ ns.length ≤ 1000 ∧
  ∀ a c, H a = none → (∀ m : Nat, (∀ k ∈ ns, 0 ≤ k ∧ k < (m : Int)) → c ≤ m) → Q (.ref a) (upd H a (SetO w a (fun j => decide (j ∈ ns)) c))
theorem setR_few {w : World} {h : Heap} {a : Addr} {ns : List Int} {c : Nat} (R : SetR w h a (fun j => decide (j ∈ ns)) c) (m : Nat) (hm : ∀ k ∈ ns, 0 ≤ k ∧ k < (m : Int)) : c ≤ m := by
  obtain ⟨o, es, ep, t, ho, ex, hd, good, nd, iff, _, _, hc, _⟩ := R
  have := few_ints m nd fun x hx => hm x (of_decide_eq_true ((iff x).mpr hx))
  rw [List.length_map, Array.length_toList, hc] at this
  exact this
theorem cr_setIL (hc : X.calm = true) : CallR X (.type "set") (rSetIL X.K X.w) := by
  intro pins s σ H vs us Q I r h
  obtain ⟨l, ns, rfl, hl, hn, q⟩ := h
  obtain ⟨its, rv, hp, _⟩ := I.list hl
  rw [Vals.ref1 r]
  refine call_set_intsL ns (I.ok.hd hc) hp.isList (by simpa using rv.ints) (by unfold scanBound; omega) ?_
  intro h' tk c hS k
  exact ⟨.ref s.heap.objs.size, _, I.laid (t' := tk) (o := SetO X.w s.heap.objs.size (fun j => decide (j ∈ ns)) c) k (Nat.le_refl _) (setO_new hS), rfl, q _ c (I.hok.fresh (Nat.le_refl _)) (setR_few hS)⟩
end
theorem rising_of {ns : List Int} (h1 : ns.Pairwise (· ≤ ·)) (h2 : ns.Nodup) : ns.Pairwise (· < ·) := by
  have := h1.and h2
  exact this.imp fun h => by have := h.1; have := h.2; omega
section
variable {P : Program} {w : World} {K : PySem.W.Frag} {mg : Str → Option Value} {base : Heap}
def spReached (K : PySem.W.Frag) : Sp := fun vs H Q _ => ∃ (vc : V) (nm : Str) (es : List Ge), vs = [vc, .str nm] ∧ CodeOf K H vc nm es ∧ ∀ (t : Addr) (H' : Hp) (ns : List Int), Same H H' → H' t = some (.tup (ns.map V.int)) → ns.Pairwise (· < ·) → (∀ k, k ∈ ns ↔ Rch es none k) → Q (.ref t) H'
theorem sc_reached : FnScope ["code", "name"] ["code", "name"] (defScope (topS 9)) := ⟨rfl, rfl, rfl, by decide +kernel, rfl, by decide +kernel, by decide +kernel⟩
theorem ok_reached {f f1 : Addr} {fd fd1 : FuncData} (D : Df K mg "reached" (topS 9) ["code", "name"] f fd) (D1 : Df K mg "led_around" (topS 8) ["code", "name", "over"] f1 fd1) (B : Bt mg)
    (G1 : FnOk P w K mg base CX0 3 f1 fd1 ["code", "name", "over"] (spLed K)) : FnOk P w K mg base CX0 4 f fd ["code", "name"] (spReached K) := by
  refine D.fn.ok sc_reached (fun vs H Q E h => ?_) (fun cdv A outer s H vs Q E hr h => ?_)
  · obtain ⟨vc, nm, es, rfl, _⟩ := h
    rfl
  obtain ⟨vc, nm, es, rfl, hc, q⟩ := h
  refine ⟨_, pss_one (ps_ret (pe_callTy call_tuple_of (by rfl) B.tuple (by decide +kernel) (pa_cons (pe_callB (call_sortedDI rfl) (by rfl) B.sorted (by decide +kernel) (pa_cons (pe_call G1 hr (by rfl) D1.gl D1.fn.kp D1.bd .nil pass0 (pa_cons (pv 0) (pa_cons (pv 1) (pa_cons pe_non pa_nil)))) pa_nil)) pa_nil))), ?_⟩
  refine ⟨_, rfl, _, rfl, vc, nm, none, es, rfl, hc, fun d H1 L s1 _ hd ok => ?_⟩
  have few := hc.ok.few
  have fl := ok.few
  refine ⟨d, _, L.map (·.1), rfl, .inl hd, dkv_keys L, by rw [List.length_map]; omega, fun ys p perm ris hp => ?_⟩
  refine ⟨p, _, rfl, .inl ⟨SqL.of upd_same, fun t ht => ?_⟩⟩
  exact q t _ ys (s1.trans ((same_new hp).trans (same_new ht))) upd_same (rising_of ris (perm.nodup_iff.mpr ok.nd)) fun k => perm.mem_iff.trans (ok.iff k)
end
end Sw
set_option maxRecDepth 100000
set_option maxHeartbeats 4000000
namespace Sw
open PySem PySem.Spec PyProof.Rows L2
noncomputable def sdoms (es : List Ge) (b : Int) : List Int := (domsI es b).filter fun o => decide (o ≠ b)
noncomputable def nearI (es : List Ge) (b : Int) : Option Int := @ite _ (Rch es none b) (Classical.propDecidable _) ((sdoms es b).find? fun one => (sdoms es b).all fun other => domB es other one) none
theorem nearI_of {es : List Ge} {b : Int} (h : Rch es none b) : nearI es b = (sdoms es b).find? fun one => (sdoms es b).all fun other => domB es other one := by
  unfold nearI
  exact @if_pos _ (Classical.propDecidable _) h _ _ _
theorem nearI_not {es : List Ge} {b : Int} (h : ¬ Rch es none b) : nearI es b = none := by
  unfold nearI
  exact @if_neg _ (Classical.propDecidable _) h _ _ _
theorem domsI_rising (es : List Ge) (b : Int) : (domsI es b).Pairwise (· < ·) := by
  unfold domsI
  rw [List.pairwise_map]
  exact (List.Pairwise.filter _ List.pairwise_lt_range).imp fun h => by omega
theorem domsI_nodup (es : List Ge) (b : Int) : (domsI es b).Nodup := (domsI_rising es b).imp fun h => by omega
theorem range_getD2 {α β : Type} (g : α → β) (d : α) : ∀ xs : List α, ((List.range xs.length).map fun i => g (xs.getD i d)) = xs.map g := by
  intro xs
  apply List.ext_getElem
  · simp
  · intro i h1 h2
    simp at h1
    simp [List.getD_eq_getElem?_getD, h1]
/-- a dict of dicts -/
def akv (L : List (Int × Addr)) : List (Key × V) := L.map fun p => (Sum.inl p.1, V.ref p.2)
theorem akv_has (L : List (Int × Addr)) (k : Int) : (valV (akv L) (Sum.inl k)).isSome = decide (k ∈ L.map (·.1)) := by
  induction L with
  | nil => rfl
  | cons p L ih =>
    have e : akv (p :: L) = (Sum.inl p.1, V.ref p.2) :: akv L := rfl
    rw [e]
    by_cases h : p.1 = k
    · rw [valV_pos (show ((Sum.inl p.1, V.ref p.2) : Key × V).1 = Sum.inl k by rw [h])]
      simp [h]
    · rw [valV_neg (show ¬ ((Sum.inl p.1, V.ref p.2) : Key × V).1 = Sum.inl k from fun z => h (by injection z)), ih]
      have h' : ¬ k = p.1 := fun z => h z.symm
      simp [h']
theorem akv_put {L : List (Int × Addr)} {g : Int} {a : Addr} (h : g ∉ L.map (·.1)) : putK (akv L) (Sum.inl g) (.ref a) = akv (L ++ [(g, a)]) := by
  unfold putK
  have : ((akv L).any fun kv => decide (kv.1 = Sum.inl g)) = false := by
    rw [valV_any, akv_has]
    simpa using h
  rw [this, if_neg (by simp)]
  unfold akv
  rw [List.map_append]
  rfl
theorem akv_get : ∀ {L : List (Int × Addr)} {k : Int}, k ∈ L.map (·.1) → ∃ a, (k, a) ∈ L ∧ valV (akv L) (Sum.inl k) = some (.ref a)
  | [], k, h => by cases h
  | p :: L, k, h => by
    have e : akv (p :: L) = (Sum.inl p.1, V.ref p.2) :: akv L := rfl
    by_cases hp : p.1 = k
    · exact ⟨p.2, by rw [← hp]; exact List.mem_cons_self, by rw [e, valV_pos (show ((Sum.inl p.1, V.ref p.2) : Key × V).1 = Sum.inl k by rw [hp])]⟩
    · rw [List.map_cons] at h
      rcases List.mem_cons.mp h with z | z
      · exact absurd z.symm hp
      · obtain ⟨a, h1, h2⟩ := akv_get z
        exact ⟨a, List.mem_cons_of_mem _ h1, by rw [e, valV_neg (show ¬ ((Sum.inl p.1, V.ref p.2) : Key × V).1 = Sum.inl k from fun z => hp (by injection z))]; exact h2⟩
theorem walk_keys {d : Addr} {o : Obj} {kvs : List (Key × V)} {ks : List Int} (hk : kvs.map (·.1) = ks.map Sum.inl) : Walk (Itk d o kvs) kvs.length (fun H => H d = some (.frz o (.dK kvs))) (YAt (ks.map V.int)) := by
  refine ⟨fun i H hi q => ⟨q, hi⟩, fun H q => ⟨q, Nat.le_refl _⟩, fun i H x H' hi q y => ?_⟩
  obtain ⟨rfl, k, v, e, rfl⟩ := y
  refine ⟨rfl, ?_⟩
  have h1 : (kvs.map (·.1))[i]? = some k := by rw [List.getElem?_map, e]; rfl
  rw [hk, List.getElem?_map] at h1
  obtain ⟨n, hn, rfl⟩ := Option.map_eq_some_iff.mp h1
  rw [List.getElem?_map, hn]
  rfl
section
variable {P : Program} {w : World} {K : PySem.W.Frag} {mg : Str → Option Value} {base : Heap}
abbrev NN : List Str := ["code", "name", "block", "around", "over", "one", "other"]
def spNear (K : PySem.W.Frag) : Sp := fun vs H Q _ => ∃ (vc : V) (nm : Str) (b : Int) (es : List Ge), vs = [vc, .str nm, .int b] ∧ CodeOf K H vc nm es ∧ ∀ H', Same H H' → Q (optV (nearI es b)) H'
theorem sc_near : FnScope NN ["code", "name", "block"] (defScope (topS 13)) := ⟨rfl, rfl, rfl, by decide +kernel, rfl, by decide +kernel, by decide +kernel⟩
theorem ok_near {f f1 f2 f3 : Addr} {fd fd1 fd2 fd3 : FuncData} (D : Df K mg "nearest" (topS 13) ["code", "name", "block"] f fd) (D1 : Df K mg "reached" (topS 9) ["code", "name"] f1 fd1) (D2 : Df K mg "dominators" (topS 12) ["code", "name", "block"] f2 fd2) (D3 : Df K mg "led_around" (topS 8) ["code", "name", "over"] f3 fd3) (B : Bt mg)
    (G1 : FnOk P w K mg base CX0 4 f1 fd1 ["code", "name"] (spReached K)) (G2 : FnOk P w K mg base CX0 5 f2 fd2 ["code", "name", "block"] (spDoms K)) (G3 : FnOk P w K mg base CX0 3 f3 fd3 ["code", "name", "over"] (spLed K)) : FnOk P w K mg base CX0 6 f fd ["code", "name", "block"] (spNear K) := by
  refine D.fn.ok sc_near (fun vs H Q E h => ?_) (fun cdv A outer s H vs Q E hr h => ?_)
  · obtain ⟨vc, nm, b, es, rfl, _⟩ := h
    rfl
  obtain ⟨vc, nm, b, es, rfl, hc, q⟩ := h
  have nd := sc_near.nd
  have hu := hr.units
  have hu1 := Nat.lt_of_le_of_lt (Nat.add_le_add_left (by decide : 1 ≤ 64) _) hu
  refine ⟨_, (pss_cons (ps_if (pt_cmpR (r := rIn K true) op_notIn_seq (pv 2) (pe_call G1 (hr.mono (by decide)) (by rfl) D1.gl D1.fn.kp D1.bd .nil pass0 (pa_cons (pv 0) (pa_cons (pv 1) pa_nil))) (by with_unfolding_all rfl)) (pss_one (ps_ret pe_non)) pss_nil)
    (pss_cons (ps_set (i := 3) nd rfl (Or.inr rfl) (pe_dc (own := [("over", 4)]) (g := gName 4) (tt := tTest (tOp rNe (tVar 4) (tVar 2))) (tk := tVar 4) (tv := tCall (spLed K) [] E0 (tCons (tVar 0) (tCons (tVar 1) (tCons (tVar 4) tNil)))) rfl nd (pi_tup (pe_call G2 hr (by rfl) D2.gl D2.fn.kp D2.bd .nil pass0 (pa_cons (pv 0) (pa_cons (pv 1) (pa_cons (pv 2) pa_nil))))) (blkOk_by (N := NN) (sc := defScope (topS 13)) (by decide +kernel)) (fun _ _ _ _ _ => pg_name (i := 4) nd rfl (Or.inl rfl)) (fun _ _ _ _ _ => pts_one (pt_cmpR op_ne (pv 4) (pv 2) (nomark _))) (fun _ _ _ _ _ => pv 4) (fun _ _ _ _ _ => (pe_call G3 (hr.mono (by decide)) (by rfl) D3.gl D3.fn.kp D3.bd .nil pass0 (pa_cons (pv 0) (pa_cons (pv 1) (pa_cons (pv 4) pa_nil)))))))
    (pss_cons (ps_lock (ps_for PassesOwn.never rfl (pi_keys (pv 3)) (pg_name (i := 5) nd rfl (Or.inr rfl))
    (pss_one (ps_if (pt_val (pe_callB (cr_all rfl) (by rfl) B.all (by decide +kernel) (pa_cons (pe_lc (own := [("other", 6)]) (g := gName 6) (tt := tYes) rfl nd (pi_keys (pv 3)) (blkOk_by (N := NN) (sc := defScope (topS 13)) (by decide +kernel)) (fun _ _ _ _ _ => pg_name (i := 6) nd rfl (Or.inl rfl)) (fun _ _ _ _ _ => pts_nil) (fun _ _ _ _ _ => (pe_cmp (pc_dnotin hu1 (pv 5) (pe_dget hu1 (pv 3) (pv 6) (fun _ _ => rfl)))))) pa_nil))) (pss_one (ps_ret (pv 5))) pss_nil))))
    (pss_one (ps_ret pe_non))))), ?_⟩
  have few := hc.ok.few
  refine ⟨_, rfl, _, rfl, _, rfl, vc, nm, es, rfl, hc, fun t H1 ms s1 ht _ hms => ?_⟩
  refine ⟨t, _, rfl, .inr (SqT.of ht), rfl, flat_ints _, _, rfl, ?_⟩
  rw [if_pos rfl, inV_ints]
  refine ite2 (fun c => ?_) (fun c => ?_)
  · have c' : b ∉ ms := by simpa using c
    have e := nearI_not (es := es) (b := b) fun h => c' ((hms b).mpr h)
    have q' := q H1 s1
    rw [e] at q'
    exact q'
  have c' : b ∈ ms := by simpa using c
  have hrb := (hms b).mp c'
  have en := nearI_of hrb
  refine ⟨_, rfl, _, rfl, _, rfl, vc, nm, b, es, rfl, hc.same s1, fun t2 H2 s2 ht2 => ?_⟩
  have s02 := s1.trans s2
  have dl := domsI_len es b
  refine ⟨t2, rfl, ⟨_, SqT.of ht2⟩, fun Dd hDd => dc_tup (K := K) (a := t2) (xs := (domsI es b).map V.int) (fun i H' => ∃ L : List (Int × Addr), Same H2 H' ∧ H' Dd = some (.dK (akv L)) ∧ L.map (·.1) = ((domsI es b).take i).filter (fun o => decide (o ≠ b)) ∧ ∀ p ∈ L, p.2 ≠ Dd ∧ ∃ l, H' p.2 = some (.dK (dkv l)) ∧ LedOk es (some p.1) l)
    ⟨[], same_new hDd, upd_same, rfl, fun p h => absurd h List.not_mem_nil⟩ (fun i H' _ h => by obtain ⟨_, s', _⟩ := h; exact SqT.of (s' _ _ ht2)) ?_ ?_⟩
  · rintro i x H3 hx ⟨L, s3, d3, hk3, hp3⟩
    rw [List.getElem?_map] at hx
    obtain ⟨k, hk, rfl⟩ := Option.map_eq_some_iff.mp hx
    obtain ⟨hi, hki⟩ := List.getElem?_eq_some_iff.mp hk
    have etk : (domsI es b).take (i + 1) = (domsI es b).take i ++ [k] := by rw [List.take_succ, hk]; rfl
    have hknew : k ∉ (domsI es b).take i := fun hm => by
      obtain ⟨j, hj, hjk⟩ := List.getElem_of_mem hm
      rw [List.length_take] at hj
      rw [List.getElem_take] at hjk
      have := List.pairwise_iff_getElem.mp (domsI_rising es b) j i (by omega) hi (by omega)
      omega
    refine ⟨rfl, ?_⟩
    refine ⟨_, rfl, _, rfl, rfl, _, rfl, ?_⟩
    refine ite2 (fun cc => ?_) (fun cc => ?_)
    · have ckb : k ≠ b := fun z => by rw [z] at cc; simp at cc
      refine ⟨_, rfl, _, rfl, _, rfl, _, rfl, vc, nm, some k, es, rfl, hc.same (s02.trans s3), fun A' H5 l s5 hA0 hA5 ok => ?_⟩
      have d5 := s5 _ _ d3
      have nA : A' ≠ Dd := fun z => by rw [z, d3] at hA0; cases hA0
      have ll : L.length ≤ 60 := by
        have : (L.map (·.1)).length ≤ (domsI es b).length := by
          rw [hk3]
          exact Nat.le_trans (List.length_filter_le _ _) (List.length_take_le' _ _)
        rw [List.length_map] at this
        omega
      have hkL : k ∉ L.map (·.1) := by rw [hk3]; exact fun z => hknew (List.mem_filter.mp z).1
      refine ⟨_, Sum.inl k, rfl, d5, by rw [show (akv L).length = L.length from List.length_map _, sizeLine_eq]; omega, L ++ [(k, A')], fun c o e => by rw [upd_ne (ne_of_none e hDd)]; exact s5 _ _ (s3 _ _ e), by rw [upd_same, akv_put hkL], ?_, ?_⟩
      · rw [List.map_append, hk3, etk, List.filter_append, show [k].filter (fun o => decide (o ≠ b)) = [k] by simp [ckb]]
        rfl
      · intro p hp
        rcases List.mem_append.mp hp with hp | hp
        · obtain ⟨n1, l', h1, h2⟩ := hp3 p hp
          exact ⟨n1, l', by rw [upd_ne n1]; exact s5 _ _ h1, h2⟩
        · have : p = (k, A') := by simpa using hp
          subst this
          exact ⟨nA, l, by rw [upd_ne nA]; exact hA5, ok⟩
    · have ckb : k = b := Decidable.byContradiction fun z => cc (by rw [decide_eq_false (show ¬ V.int k = V.int b from fun y => z (by injection y))]; rfl)
      refine ⟨L, s3, d3, ?_, hp3⟩
      rw [hk3, etk, List.filter_append, show [k].filter (fun o => decide (o ≠ b)) = [] by simp [ckb], List.append_nil]
  rintro H3 ⟨L, s3, d3, hk3, hp3⟩
  rw [List.length_map, List.take_length] at hk3
  have hk : L.map (·.1) = sdoms es b := hk3
  have ak : (akv L).map (·.1) = (sdoms es b).map Sum.inl := by
    rw [← hk]
    unfold akv
    rw [List.map_map, List.map_map]
    rfl
  have al : (akv L).length = (sdoms es b).length := by rw [← List.length_map (f := (·.1)), ak, List.length_map]
  have sdl : (sdoms es b).length ≤ 60 := Nat.le_trans (List.length_filter_le _ _) (by omega)
  have hD0 : H Dd = none := s02.free hDd
  have s03 := s02.trans s3
  refine ⟨Dd, _, d3, trivial, fun od => ?_⟩
  have low : ∀ {H' : Hp}, (∀ c o, c ≠ Dd → H3 c = some o → H' c = some o) → Same H H' := fun h c o e => h c o (ne_of_none e hD0) (s03 _ _ e)
  refine ⟨_, rfl, Dd, od, rfl, .inl ⟨_, upd_same, for_it (walk_keys ak) (fun i σ H' => ∃ (x5 : Option V), σ = [some vc, some (.str nm), some (.int b), some (.ref Dd), none, x5, none] ∧ (∀ c o, c ≠ Dd → H3 c = some o → H' c = some o) ∧ H' Dd = some (.frz od (.dK (akv L))) ∧ nearI es b = ((sdoms es b).drop i).find? fun one => (sdoms es b).all fun other => domB es other one)
    ⟨none, rfl, fun c o hn e => by rw [upd_ne hn]; exact e, upd_same, en⟩ (fun i σ H' _ h => by obtain ⟨_, _, _, h', _⟩ := h; exact h') ?_ ?_⟩⟩
  · rintro i x σ H4 H5 hi ⟨x5, rfl, s4, f4, hn4⟩ ⟨rfl, hx⟩
    rw [List.getElem?_map] at hx
    obtain ⟨one, hone, rfl⟩ := Option.map_eq_some_iff.mp hx
    obtain ⟨hi1, hi2⟩ := List.getElem?_eq_some_iff.mp hone
    rw [List.drop_eq_getElem_cons hi1, hi2] at hn4
    refine ⟨_, rfl, Dd, od, rfl, .inl ⟨_, f4, fun D6 hD6 => ?_⟩⟩
    have nD6 : D6 ≠ Dd := fun z => by rw [z, f4] at hD6; cases hD6
    refine lc_map (walk_keys ak) (fun j => V.bl (domB es ((sdoms es b).getD j 0) one)) hD6 (fun H' h => h _ _ f4) (big_size (by omega)) ?_ ?_
    · intro j y H6 Q6 hj hy s6 q6
      rw [List.getElem?_map] at hy
      obtain ⟨oth, hoth, rfl⟩ := Option.map_eq_some_iff.mp hy
      rw [show (sdoms es b).getD j 0 = oth by rw [List.getD_eq_getElem?_getD, hoth]; rfl] at q6
      have hmem : oth ∈ L.map (·.1) := by rw [hk]; exact List.mem_of_getElem? hoth
      obtain ⟨Aa, hA1, hA2⟩ := akv_get hmem
      obtain ⟨nA, l, hAl, ok⟩ := hp3 _ hA1
      have f6 := s6 _ _ f4
      have hA6 := s6 _ _ (s4 _ _ nA hAl)
      refine ⟨_, rfl, _, rfl, _, rfl, Dd, _, rfl, .inl ⟨_, Sum.inl oth, .inr ⟨od, f6⟩, rfl, hA2.symm⟩, Aa, _, rfl, DGet.k (k := Sum.inl one) hA6, ?_⟩
      rw [dkv_has]
      have e : (!decide (one ∈ l.map (·.1))) = domB es oth one := domB_of (by simp [ok.iff])
      rw [e]
      exact q6 H6 (Same.refl _)
    · intro H6 s6 hD6'
      rw [al, range_getD2 (fun oth => V.bl (domB es oth one)) 0 (sdoms es b), show ((sdoms es b).map fun oth => V.bl (domB es oth one)) = ((sdoms es b).map fun oth => domB es oth one).map V.bl by rw [List.map_map]; rfl] at hD6'
      have f6 := s6 _ _ f4
      have s46 : ∀ c o, c ≠ Dd → H3 c = some o → H6 c = some o := fun c o hn e => s6 _ _ (s4 c o hn e)
      refine ⟨D6, _, rfl, SqL.of hD6', _, rfl, ?_⟩
      have ea : ((sdoms es b).map fun oth => domB es oth one).all id = (sdoms es b).all fun other => domB es other one := by rw [List.all_map]; rfl
      rw [ea]
      refine ite2 (fun cc => ?_) (fun cc => ?_)
      · rw [List.find?_cons_of_pos (p := fun one => (sdoms es b).all fun other => domB es other one) cc] at hn4
        refine ⟨_, rfl, f6, ?_⟩
        have q' := q (upd H6 Dd (.dK (akv L))) (low fun c o hn e => by rw [upd_ne hn]; exact s46 c o hn e)
        rw [hn4] at q'
        exact q'
      · rw [List.find?_cons_of_neg (p := fun one => (sdoms es b).all fun other => domB es other one) cc] at hn4
        exact ⟨_, rfl, s46, f6, hn4⟩
  · rintro σ H4 ⟨x5, rfl, s4, f4, hn4⟩
    refine ⟨f4, ?_⟩
    rw [al, List.drop_length] at hn4
    have q' := q (upd H4 Dd (.dK (akv L))) (low fun c o hn e => by rw [upd_ne hn]; exact s4 c o hn e)
    rw [hn4] at q'
    exact q'
end
end Sw
set_option maxRecDepth 100000
set_option maxHeartbeats 4000000
namespace Sw
open PySem PySem.Spec PyProof.Rows L2
/-- a walk's turns, whatever is done at each -/
theorem out_it {J : It} {n : Nat} {G : Hp → Prop} {Y : Nat → Hp → V → Hp → Prop} (w : Walk J n G Y) {Body : (Hp → Prop) → V → Hp → Prop} {H0 : Hp} {Qd : Hp → Prop} (Pv : Nat → Hp → Prop) (h0 : Pv 0 H0) (hG : ∀ i H, i ≤ n → Pv i H → G H)
    (hs : ∀ i x H H', i < n → Pv i H → Y i H x H' → Body (Pv (i + 1)) x H') (hd : ∀ H, Pv n H → Qd H) :
    ∃ W : Nat → Nat → Hp → Prop, (∃ m, W 0 m H0) ∧ ∀ i m H, W i m H → (J.stop i H ∧ Qd H) ∨ (J.go i H ∧ ∃ Nx : Hp → Prop, (∀ H', Nx H' → ∃ m', m' < m ∧ W (i + 1) m' H') ∧ ∀ x H', J.yld i H x H' → Body Nx x H') := by
  refine ⟨fun i m H => m = n - i ∧ i ≤ n ∧ Pv i H, ⟨n, by simp, Nat.zero_le _, h0⟩, ?_⟩
  rintro i m H ⟨rfl, hi, p⟩
  have g := hG i H hi p
  by_cases lt : i < n
  · exact .inr ⟨w.goes i H lt g, Pv (i + 1), fun H' p' => ⟨n - (i + 1), by omega, rfl, lt, p'⟩, fun x H' y => hs i x H H' lt p (w.yields i H x H' lt g y)⟩
  · obtain rfl : i = n := by omega
    exact .inl ⟨w.stops H g, hd H p⟩
/-- in the frontier of b -/
def FrP (es : List Ge) (b k : Int) : Prop := (∃ o, Rch es none o ∧ ¬ Rch es (some b) o ∧ k ∈ arr es o) ∧ (k = b ∨ Rch es (some b) k)
noncomputable def frI (es : List Ge) (b : Int) : List Int := ((List.range es.length).filter fun i : Nat => @decide (FrP es b (i : Int)) (Classical.propDecidable _)).map fun i : Nat => (i : Int)
theorem frI_rising (es : List Ge) (b : Int) : (frI es b).Pairwise (· < ·) := by
  unfold frI
  rw [List.pairwise_map]
  exact (List.Pairwise.filter _ List.pairwise_lt_range).imp fun h => by omega
theorem mem_frI {es : List Ge} (hg : Gok es) {b k : Int} : k ∈ frI es b ↔ FrP es b k := by
  unfold frI
  rw [List.mem_map]
  constructor
  · rintro ⟨i, hi, rfl⟩
    exact @of_decide_eq_true _ (Classical.propDecidable _) (List.mem_filter.mp hi).2
  · intro h
    have h' := h
    obtain ⟨⟨o, _, _, ho⟩, _⟩ := h'
    obtain ⟨k0, k1⟩ := arr_rng hg ho
    refine ⟨k.toNat, List.mem_filter.mpr ⟨List.mem_range.mpr (by omega), ?_⟩, Int.toNat_of_nonneg k0⟩
    rw [Int.toNat_of_nonneg k0]
    exact @decide_eq_true _ (Classical.propDecidable _) h
theorem frI_rng {es : List Ge} {b k : Int} (h : k ∈ frI es b) : 0 ≤ k ∧ k < (es.length : Int) := by
  unfold frI at h
  obtain ⟨i, hi, rfl⟩ := List.mem_map.mp h
  have := List.mem_range.mp (List.mem_filter.mp hi).1
  exact ⟨by omega, by omega⟩
theorem frI_len (es : List Ge) (b : Int) : (frI es b).length ≤ es.length := by
  unfold frI
  rw [List.length_map]
  exact Nat.le_trans (List.length_filter_le _ _) (by rw [List.length_range]; exact Nat.le_refl _)
theorem Rch.free2 {es : List Ge} {ov : Option Int} {u : Int} (h : Rch es ov u) : Rch es none u := by
  induction h with
  | zero _ => exact .zero (by simp)
  | step _ hb _ ih => exact .step ih hb (by simp)
theorem yes_then {σ : L2.St} {H : Hp} {Q : Bool → Hp → Prop} (h : Q true H) : tYes σ H Q := h
theorem range_filter {α β : Type} (p : α → Bool) (g : α → β) (d : α) (xs : List α) : ((List.range xs.length).filter fun i => p (xs.getD i d)).map (fun i => g (xs.getD i d)) = (xs.filter p).map g := by
  have e := range_getD2 (fun x : α => x) d xs
  rw [List.map_id'] at e
  have h : (((List.range xs.length).map fun i => xs.getD i d).filter p).map g = (xs.filter p).map g := by rw [e]
  rw [← h, List.filter_map, List.map_map]
  rfl
section
variable {P : Program} {w : World} {K : PySem.W.Frag} {mg : Str → Option Value} {base : Heap}
abbrev NF : List Str := ["code", "name", "block", "around", "under", "other", "behind", "goal"]
def spFront (K : PySem.W.Frag) : Sp := fun vs H Q _ => ∃ (vc : V) (nm : Str) (b : Int) (es : List Ge), vs = [vc, .str nm, .int b] ∧ CodeOf K H vc nm es ∧ ∀ t H', Same H H' → H' t = some (.tup ((frI es b).map V.int)) → Q (.ref t) H'
theorem sc_front : FnScope NF ["code", "name", "block"] (defScope (topS 14)) := ⟨rfl, rfl, rfl, by decide +kernel, rfl, by decide +kernel, by decide +kernel⟩
theorem ok_front {f f1 f2 f3 : Addr} {fd fd1 fd2 fd3 : FuncData} (D : Df K mg "frontier" (topS 14) ["code", "name", "block"] f fd) (D1 : Df K mg "led_around" (topS 8) ["code", "name", "over"] f1 fd1) (D2 : Df K mg "reached" (topS 9) ["code", "name"] f2 fd2) (D3 : Df K mg "nexts" (topS 7) ["code", "name", "block"] f3 fd3) (B : Bt mg)
    (G1 : FnOk P w K mg base CX0 3 f1 fd1 ["code", "name", "over"] (spLed K)) (G2 : FnOk P w K mg base CX0 4 f2 fd2 ["code", "name"] (spReached K)) (G3 : FnOk P w K mg base CX0 2 f3 fd3 ["code", "name", "block"] (spNexts K)) : FnOk P w K mg base CX0 5 f fd ["code", "name", "block"] (spFront K) := by
  refine D.fn.ok sc_front (fun vs H Q E h => ?_) (fun cdv A outer s H vs Q E hr h => ?_)
  · obtain ⟨vc, nm, b, es, rfl, _⟩ := h
    rfl
  obtain ⟨vc, nm, b, es, rfl, hc, q⟩ := h
  have nd := sc_front.nd
  have hu := hr.units
  have hu1 := Nat.lt_of_le_of_lt (Nat.add_le_add_left (by decide : 1 ≤ 64) _) hu
  refine ⟨_, (pss_cons (ps_set (i := 3) nd rfl (Or.inr rfl) (pe_call G1 (hr.mono (by decide)) (by rfl) D1.gl D1.fn.kp D1.bd .nil pass0 (pa_cons (pv 0) (pa_cons (pv 1) (pa_cons (pv 2) pa_nil)))))
    (pss_cons (ps_set (i := 4) nd rfl (Or.inr rfl) (pe_lc (own := [("other", 5)]) (g := gName 5) (tt := tB (tDNotIn (tVar 5) (tVar 3))) rfl nd (pi_tup (pe_call G2 hr (by rfl) D2.gl D2.fn.kp D2.bd .nil pass0 (pa_cons (pv 0) (pa_cons (pv 1) pa_nil)))) (blkOk_by (N := NF) (sc := defScope (topS 14)) (by decide +kernel)) (fun _ _ _ _ _ => pg_name (i := 5) nd rfl (Or.inl rfl)) (fun _ _ _ _ _ => (pts_one (pt_cmp (pc_dnotin hu1 (pv 5) (pv 3))))) (fun _ _ _ _ _ => (pv 5))))
    (pss_cons (ps_setLc2 (i := 6) (own := [("other", 5), ("goal", 7)]) (vs1 := [7]) (g := gName 5) (tt := tYes) (g1 := gName 7) (tt1 := tYes) (wi1 := iTup K (tCall (spNexts K) [] E0 (tCons (tVar 0) (tCons (tVar 1) (tCons (tVar 5) tNil))))) (te := tVar 7) rfl nd rfl rfl (sw_true rfl rfl rfl (by decide +kernel)) (pi_list (pv 4)) (blkOk_by (N := NF) (sc := defScope (topS 14)) (by decide +kernel)) (by decide) (fun _ _ _ _ _ => pg_name (i := 5) nd rfl (Or.inl rfl)) (fun _ _ _ _ _ => pts_nil) (fun _ _ _ _ _ => pi_tup (pe_call G3 (hr.mono (by decide)) (by rfl) D3.gl D3.fn.kp D3.bd .nil pass0 (pa_cons (pv 0) (pa_cons (pv 1) (pa_cons (pv 5) pa_nil))))) (fun _ _ _ _ _ => pg_name (i := 7) nd rfl (Or.inl rfl)) (fun _ _ _ _ _ => pts_nil) (fun _ _ _ _ _ => pv 7))
    (pss_one (ps_ret (pe_callTy call_tuple_of (by rfl) B.tuple (by decide +kernel) (pa_cons (pe_callB (cr_sortedSet rfl) (by rfl) B.sorted (by decide +kernel) (pa_cons (pe_callTy (cr_setIL rfl) (by rfl) B.set (by decide +kernel) (pa_cons (pe_lc (own := [("goal", 7)]) (g := gName 7) (tt := tOr (tTest (tOp rEq (tVar 7) (tVar 2))) (tTest (tOp (rIn K true) (tVar 7) (tVar 4)))) rfl nd (pi_list (pv 6)) (blkOk_by (N := NF) (sc := defScope (topS 14)) (by decide +kernel)) (fun _ _ _ _ _ => pg_name (i := 7) nd rfl (Or.inl rfl)) (fun _ _ _ _ _ => (pts_one (PW.pt (pw_or (pt_cmpR op_eq (pv 7) (pv 2) (nomark _)) (pw_or1 (pt_cmpR (r := rIn K true) op_notIn_seq (pv 7) (pv 4) (by with_unfolding_all rfl))))))) (fun _ _ _ _ _ => (pv 7))) pa_nil)) pa_nil)) pa_nil))))))), ?_⟩
  have few := hc.ok.few
  refine ⟨_, rfl, _, rfl, _, rfl, vc, nm, some b, es, rfl, hc, fun d H1 L s1 _ hd ok => ?_⟩
  refine ⟨_, rfl, _, rfl, vc, nm, es, rfl, hc.same s1, fun t H2 ms s2 ht rist hms => ?_⟩
  have ml : ms.length ≤ es.length := few_ints es.length (rist.imp fun h => by omega) fun k hk => ((hms k).mp hk).rng hc.ok
  have s02 := s1.trans s2
  have hd2 := s2 _ _ hd
  refine ⟨t, rfl, ⟨_, SqT.of ht⟩, fun U hU => ?_⟩
  refine lc_pure (walk_tup (xs := ms.map V.int)) (fun i => !decide (ms.getD i 0 ∈ L.map (·.1))) (fun i => V.int (ms.getD i 0)) hU (fun _ h => SqT.of (h _ _ ht)) (big_size (by rw [List.length_map]; omega)) ?_ ?_ ?_
  · intro i x H3 Q3 hi hx s3 q3
    rw [List.getElem?_map] at hx
    obtain ⟨k, hk, rfl⟩ := Option.map_eq_some_iff.mp hx
    rw [show ms.getD i 0 = k by rw [List.getD_eq_getElem?_getD, hk]; rfl] at q3
    refine ⟨_, rfl, _, rfl, d, _, rfl, DGet.k (k := Sum.inl k) (s3 _ _ hd2), _, rfl, ?_⟩
    rw [dkv_has]
    exact q3 H3 (Same.refl _)
  · intro i x H3 Q3 hi hx _ s3 q3
    rw [List.getElem?_map] at hx
    obtain ⟨k, hk, rfl⟩ := Option.map_eq_some_iff.mp hx
    rw [show ms.getD i 0 = k by rw [List.getD_eq_getElem?_getD, hk]; rfl] at q3
    exact ⟨_, rfl, q3 H3 (Same.refl _)⟩
  intro H3 s3 hU3
  rw [List.length_map, range_filter (fun k => !decide (k ∈ L.map (·.1))) V.int 0 ms] at hU3
  have hus : ∀ k, k ∈ (ms.filter fun k => !decide (k ∈ L.map (·.1))) ↔ Rch es none k ∧ ¬ Rch es (some b) k := fun k => by
    rw [List.mem_filter, hms, ← ok.iff]
    simp
  have hul : (ms.filter fun k => !decide (k ∈ L.map (·.1))).length ≤ 60 := Nat.le_trans (List.length_filter_le _ _) (by omega)
  generalize (ms.filter fun k => !decide (k ∈ L.map (·.1))) = us at hU3 hus hul
  have s03 := s02.trans s3
  -- all behind
  have gl2 : ∀ (l : List Int), (l.flatMap (goalsAt es)).length ≤ 2 * l.length := by
    intro l
    induction l with
    | nil => simp
    | cons x l ih =>
      have := goalsAt_len es x
      rw [List.flatMap_cons, List.length_append, List.length_cons]
      omega
  refine ⟨_, rfl, U, rfl, ⟨_, SqL.of hU3⟩, fun Dl hDl => out_it (walk_list (xs := us.map V.int)) (fun i H' => Same H3 H' ∧ H' Dl = some (.lst (((us.take i).flatMap (goalsAt es)).map V.int))) ⟨same_new hDl, upd_same⟩ (fun i H' _ h => SqL.of (h.1 _ _ hU3)) ?_ ?_⟩
  · rintro i x H4 H5 hi ⟨s4, d4⟩ ⟨rfl, hx⟩
    rw [List.getElem?_map] at hx
    obtain ⟨o, ho, rfl⟩ := Option.map_eq_some_iff.mp hx
    have etk : us.take (i + 1) = us.take i ++ [o] := by rw [List.take_succ, ho]; rfl
    obtain ⟨hro, _⟩ := (hus o).mp (List.mem_of_getElem? ho)
    obtain ⟨o0, o1⟩ := hro.rng hc.ok
    have tl : (us.take i).length ≤ 60 := Nat.le_trans (List.length_take_le' _ _) hul
    have pl := gl2 (us.take i)
    generalize us.take i = ut at d4 etk tl pl
    refine ⟨rfl, yes_then ?_⟩
    refine (if_pos rfl).mpr ?_
    refine ⟨_, rfl, _, rfl, _, rfl, vc, nm, o, es, rfl, hc.same (s03.trans s4), o0, o1, fun g H6 s6 hg => ⟨g, rfl, ⟨_, SqT.of hg⟩, ?_⟩⟩
    have gl := goalsAt_len es o
    refine out_it (walk_tup (xs := (goalsAt es o).map V.int)) (fun j H' => Same H3 H' ∧ H' Dl = some (.lst ((ut.flatMap (goalsAt es) ++ (goalsAt es o).take j).map V.int)) ∧ H' g = some (.tup ((goalsAt es o).map V.int))) ⟨s4.trans s6, by rw [List.take_zero, List.append_nil]; exact s6 _ _ d4, hg⟩ (fun j H' _ h => SqT.of h.2.2) ?_ ?_
    · rintro j y H7 H8 hj ⟨s7, d7, g7⟩ ⟨rfl, hy⟩
      rw [List.getElem?_map] at hy
      obtain ⟨k, hk, rfl⟩ := Option.map_eq_some_iff.mp hy
      have etk2 : (goalsAt es o).take (j + 1) = (goalsAt es o).take j ++ [k] := by rw [List.take_succ, hk]; rfl
      have nDg : g ≠ Dl := fun z => by rw [z, d7] at g7; cases g7
      refine ⟨rfl, yes_then ?_⟩
      refine (if_pos rfl).mpr ?_
      refine ⟨_, rfl, _, d7, ?_, fun c o' e => by rw [upd_ne (ne_of_none e hDl)]; exact s7 _ _ e, ?_, by rw [upd_ne nDg]; exact g7⟩
      · have t2 := List.length_take_le' j (goalsAt es o)
        rw [List.length_map, List.length_append, sizeLine_eq]
        omega
      · rw [upd_same, etk2, ← List.append_assoc, List.map_append (l₂ := [k])]
        rfl
    · rintro H7 ⟨s7, d7, g7⟩
      rw [List.length_map, List.take_length] at d7
      refine ⟨s7, ?_⟩
      rw [etk, List.flatMap_append, d7]
      simp
  rintro H4 ⟨s4, d4⟩
  rw [List.length_map, List.take_length] at d4
  have gsl := gl2 us
  have hgs : ∀ k, k ∈ us.flatMap (goalsAt es) ↔ ∃ o ∈ us, k ∈ arr es o := fun k => by
    rw [List.mem_flatMap]
    exact ⟨fun ⟨o, h1, h2⟩ => ⟨o, h1, mem_goalsAt.mp h2⟩, fun ⟨o, h1, h2⟩ => ⟨o, h1, mem_goalsAt.mpr h2⟩⟩
  generalize us.flatMap (goalsAt es) = gs at d4 gsl hgs
  have s04 := s03.trans s4
  have hU4 := s4 _ _ hU3
  refine ⟨_, rfl, Dl, rfl, ⟨_, SqL.of d4⟩, fun D7 hD7 => ?_⟩
  refine lc_pure (walk_list (xs := gs.map V.int)) (fun i => decide (gs.getD i 0 = b) || !decide (gs.getD i 0 ∈ us)) (fun i => V.int (gs.getD i 0)) hD7 (fun _ h => SqL.of (h _ _ d4)) (big_size (by rw [List.length_map]; omega)) ?_ ?_ ?_
  · intro i x H5 Q5 hi hx s5 q5
    rw [List.getElem?_map] at hx
    obtain ⟨k, hk, rfl⟩ := Option.map_eq_some_iff.mp hx
    rw [show gs.getD i 0 = k by rw [List.getD_eq_getElem?_getD, hk]; rfl] at q5
    refine ⟨_, rfl, _, rfl, rfl, _, rfl, ?_⟩
    have q5' := q5 H5 (Same.refl _)
    by_cases hkb : k = b
    · rw [decide_eq_true (show V.int k = V.int b by rw [hkb])]
      rw [decide_eq_true hkb, Bool.true_or] at q5'
      exact iteT q5'
    · rw [decide_eq_false (show ¬ V.int k = V.int b from fun z => hkb (by injection z))]
      rw [decide_eq_false hkb, Bool.false_or] at q5'
      refine iteF ?_
      refine ⟨_, rfl, _, rfl, U, _, rfl, .inl (SqL.of (s5 _ _ hU4)), rfl, flat_ints _, _, rfl, ?_⟩
      rw [if_pos rfl, inV_ints]
      exact q5'
  · intro i x H5 Q5 hi hx _ s5 q5
    rw [List.getElem?_map] at hx
    obtain ⟨k, hk, rfl⟩ := Option.map_eq_some_iff.mp hx
    rw [show gs.getD i 0 = k by rw [List.getD_eq_getElem?_getD, hk]; rfl] at q5
    exact ⟨_, rfl, q5 H5 (Same.refl _)⟩
  intro H5 s5 hD5
  rw [List.length_map, range_filter (fun k => decide (k = b) || !decide (k ∈ us)) V.int 0 gs] at hD5
  have hm : ∀ k, k ∈ (gs.filter fun k => decide (k = b) || !decide (k ∈ us)) ↔ FrP es b k := fun k => by
    rw [List.mem_filter, hgs]
    constructor
    · rintro ⟨⟨o, h1, h2⟩, h3⟩
      obtain ⟨r1, r2⟩ := (hus o).mp h1
      refine ⟨⟨o, r1, r2, h2⟩, ?_⟩
      rcases Bool.or_eq_true _ _ ▸ h3 with h | h
      · exact .inl (of_decide_eq_true h)
      · have hn : k ∉ us := by simpa using h
        have hrk : Rch es none k := .step r1 h2 (by simp)
        exact .inr (Classical.byContradiction fun z => hn ((hus k).mpr ⟨hrk, z⟩))
    · rintro ⟨⟨o, r1, r2, h2⟩, h3⟩
      refine ⟨⟨o, (hus o).mpr ⟨r1, r2⟩, h2⟩, ?_⟩
      rcases h3 with h | h
      · rw [decide_eq_true h]; rfl
      · have hn : k ∉ us := fun z => ((hus k).mp z).2 h
        rw [decide_eq_false hn]
        simp
  have hfl : (gs.filter fun k => decide (k = b) || !decide (k ∈ us)).length ≤ 1000 := Nat.le_trans (List.length_filter_le _ _) (by omega)
  generalize (gs.filter fun k => decide (k = b) || !decide (k ∈ us)) = fl at hD5 hm hfl
  refine ⟨D7, fl, rfl, SqL.of hD5, hfl, fun a c ha hcm => ?_⟩
  have hc6 := hcm es.length fun k hk => by
    obtain ⟨⟨o, _, _, ho⟩, _⟩ := (hm k).mp hk
    exact arr_rng hc.ok ho
  refine ⟨a, _, c, rfl, upd_same, by omega, fun ns p ris mem hlen hp => ?_⟩
  refine ⟨p, _, rfl, .inl ⟨SqL.of upd_same, fun t4 ht4 => ?_⟩⟩
  have en : ns = frI es b := rising_eq ris (frI_rising es b) fun k => by rw [mem, decide_eq_true_iff, hm, mem_frI hc.ok]
  subst en
  exact q t4 _ (s04.trans (s5.trans ((same_new ha).trans ((same_new hp).trans (same_new ht4))))) upd_same
/-- again and again -/
inductive Ag (es : List Ge) (bs : List Int) : Int → Prop
  | one {b k : Int} : b ∈ bs → k ∈ frI es b → Ag es bs k
  | on {j k : Int} : Ag es bs j → k ∈ frI es j → Ag es bs k
theorem Ag.rng {es : List Ge} {bs : List Int} {k : Int} (h : Ag es bs k) : 0 ≤ k ∧ k < (es.length : Int) := by
  cases h with
  | one _ h => exact frI_rng h
  | on _ h => exact frI_rng h
/-- the dict of what is found -/
def tkv (fs : List Int) : List (Key × V) := fs.map fun k => (Sum.inl k, V.bl true)
theorem tkv_has (fs : List Int) (k : Int) : (valV (tkv fs) (Sum.inl k)).isSome = decide (k ∈ fs) := by
  induction fs with
  | nil => rfl
  | cons p fs ih =>
    have e : tkv (p :: fs) = (Sum.inl p, V.bl true) :: tkv fs := rfl
    rw [e]
    by_cases h : p = k
    · rw [valV_pos (show ((Sum.inl p, V.bl true) : Key × V).1 = Sum.inl k by rw [h])]
      simp [h]
    · rw [valV_neg (show ¬ ((Sum.inl p, V.bl true) : Key × V).1 = Sum.inl k from fun z => h (by injection z)), ih]
      have h' : ¬ k = p := fun z => h z.symm
      simp [h']
theorem tkv_put {fs : List Int} {g : Int} (h : g ∉ fs) : putK (tkv fs) (Sum.inl g) (.bl true) = tkv (fs ++ [g]) := by
  unfold putK
  have : ((tkv fs).any fun kv => decide (kv.1 = Sum.inl g)) = false := by
    rw [valV_any, tkv_has]
    simpa using h
  rw [this, if_neg (by simp)]
  unfold tkv
  rw [List.map_append]
  rfl
structure AI (es : List Ge) (bs fs T : List Int) : Prop where
  nd : fs.Nodup
  ag : ∀ k ∈ fs, Ag es bs k
  sub : ∀ t ∈ T, t ∈ bs ∨ t ∈ fs
  cls : ∀ x, x ∈ bs ∨ x ∈ fs → x ∉ T → ∀ k ∈ frI es x, k ∈ fs
  few : T.length ≤ 60 + fs.length
theorem AI.all {es : List Ge} {bs fs : List Int} (h : AI es bs fs []) (k : Int) : k ∈ fs ↔ Ag es bs k := by
  refine ⟨h.ag k, fun a => ?_⟩
  induction a with
  | one hb hk => exact h.cls _ (.inl hb) (by simp) _ hk
  | on _ hk ih => exact h.cls _ (.inr ih) (by simp) _ hk
theorem AI.fl {es : List Ge} {bs fs T : List Int} (h : AI es bs fs T) : fs.length ≤ es.length := few_ints es.length h.nd fun k hk => (h.ag k hk).rng
abbrev NA : List Str := ["code", "name", "blocks", "found", "todo", "goal"]
def spAgain (K : PySem.W.Frag) : Sp := fun vs H Q _ => ∃ (vc : V) (nm : Str) (tb : Addr) (bs : List Int) (es : List Ge), vs = [vc, .str nm, .ref tb] ∧ CodeOf K H vc nm es ∧ SqT K H tb (bs.map V.int) ∧ bs.length ≤ 60 ∧ ∀ (t : Addr) (H' : Hp) (ns : List Int), Same H H' → H' t = some (.tup (ns.map V.int)) → ns.Pairwise (· < ·) → (∀ k, k ∈ ns ↔ Ag es bs k) → Q (.ref t) H'
theorem sc_again : FnScope NA ["code", "name", "blocks"] (defScope (topS 15)) := ⟨rfl, rfl, rfl, by decide +kernel, rfl, by decide +kernel, by decide +kernel⟩
theorem ok_again {f f1 : Addr} {fd fd1 : FuncData} (D : Df K mg "frontier_again" (topS 15) ["code", "name", "blocks"] f fd) (D1 : Df K mg "frontier" (topS 14) ["code", "name", "block"] f1 fd1) (B : Bt mg)
    (G1 : FnOk P w K mg base CX0 5 f1 fd1 ["code", "name", "block"] (spFront K)) : FnOk P w K mg base CX0 6 f fd ["code", "name", "blocks"] (spAgain K) := by
  refine D.fn.ok sc_again (fun vs H Q E h => ?_) (fun cdv A outer s H vs Q E hr h => ?_)
  · obtain ⟨vc, nm, tb, bs, es, rfl, _⟩ := h
    rfl
  obtain ⟨vc, nm, tb, bs, es, rfl, hc, htb, hbl, q⟩ := h
  have nd := sc_again.nd
  have hu := hr.units
  have hu1 := Nat.lt_of_le_of_lt (Nat.add_le_add_left (by decide : 1 ≤ 64) _) hu
  refine ⟨_, (pss_cons (ps_set (i := 3) nd rfl (Or.inl rfl) pe_dnewK)
    (pss_cons (ps_set (i := 4) nd rfl (Or.inl rfl) (pe_callTy call_list_of (by rfl) B.list (by decide +kernel) (pa_cons (pv 2) pa_nil)))
    (pss_cons (ps_while PassesOwn.never (pt_tru (pv 4))
    (pss_one (ps_for PassesOwn.never rfl (pi_tup (pe_call G1 hr (by rfl) D1.gl D1.fn.kp D1.bd .nil pass0 (pa_cons (pv 0) (pa_cons (pv 1) (pa_cons (pe_bm0 PySem.F.plainAttrs_list PySem.F.slot_list_pop PySem.F.type_list_pop mt_pop (pv 4)) pa_nil))))) (pg_name (i := 5) nd rfl (Or.inl rfl))
    (pss_one (ps_if (pt_cmp (pc_dnotin hu1 (pv 5) (pv 3))) (pss_cons (ps_dput hu1 (pv 3) (pv 5) pe_bl rfl)
    (pss_one (ps_expr (pe_bm PySem.F.plainAttrs_list PySem.F.slot_list_append PySem.F.type_list_append mt_append (pv 4) (pa_cons (pv 5) pa_nil))))) pss_nil)))))
    (pss_one (ps_ret (pe_callTy call_tuple_of (by rfl) B.tuple (by decide +kernel) (pa_cons (pe_callB (call_sortedDI rfl) (by rfl) B.sorted (by decide +kernel) (pa_cons (pv 3) pa_nil)) pa_nil))))))), ?_⟩
  have few := hc.ok.few
  refine fun d hd => ?_
  have s1 := same_new (o := .dK []) hd
  have d1 : upd H d (.dK []) d = some (.dK (tkv [])) := upd_same
  generalize upd H d (.dK []) = H1 at s1 d1
  refine ⟨_, rfl, tb, _, rfl, .inr (sameT s1 htb), fun l hl => ?_⟩
  have s2 := same_new (o := .lst (bs.map V.int)) hl
  have l2 : upd H1 l (.lst (bs.map V.int)) l = some (.lst (bs.map V.int)) := upd_same
  generalize upd H1 l (.lst (bs.map V.int)) = H2 at s2 l2
  have hl0 : H l = none := s1.free hl
  have ndl : d ≠ l := ne_of_none d1 hl
  refine while_by (fun σ H' => ∃ (fs T : List Int) (x5 : Option V), σ = [some vc, some (.str nm), some (.ref tb), some (.ref d), some (.ref l), x5] ∧ Same H H' ∧ H' d = some (.dK (tkv fs)) ∧ H' l = some (.lst (T.map V.int)) ∧ AI es bs fs T)
    (fun σ H' => match H' d, H' l with | some (.dK kvs), some (.lst ts) => 2 * (es.length - kvs.length) + ts.length | _, _ => 0)
    ⟨[], bs, none, rfl, s1.trans s2, s2 _ _ d1, l2, ⟨List.nodup_nil, fun k h => absurd h List.not_mem_nil, fun t h => .inl h, fun x hx hn => absurd (hx.elim id fun z => absurd z List.not_mem_nil) hn, by omega⟩⟩ ?_ ?_
  · rintro σ H3 ⟨fs, T, x5, rfl, s3, d3, l3, I⟩
    refine ⟨_, rfl, _, .inl ⟨_, SqL.of l3, rfl⟩, ?_⟩
    have ffl := I.fl
    cases hT : T with
    | nil =>
      subst hT
      refine iteF ?_
      refine ⟨_, rfl, d, _, fs, rfl, .inl d3, by unfold tkv; rw [List.map_map]; rfl, by omega, fun ys p perm ris hp => ?_⟩
      refine ⟨p, _, rfl, .inl ⟨SqL.of upd_same, fun t ht => ?_⟩⟩
      exact q t _ ys (s3.trans ((same_new hp).trans (same_new ht))) upd_same (rising_of ris (perm.nodup_iff.mpr I.nd)) fun k => perm.mem_iff.trans (I.all k)
    | cons t0 T0 =>
      rw [← hT]
      have hne : T ≠ [] := by rw [hT]; simp
      obtain ⟨T1, b, hTb⟩ : ∃ T1 b, T = T1 ++ [b] := ⟨T.dropLast, T.getLast hne, (List.dropLast_concat_getLast hne).symm⟩
      clear hT
      subst hTb
      have hemp : (!((T1 ++ [b]).map V.int).isEmpty) = true := by simp
      rw [hemp]
      refine iteT ?_
      refine ⟨_, rfl, _, rfl, _, rfl, .inl ⟨rfl, _, SqL.of l3⟩, l, _, .int b, rfl, rfl, l3, by simp, ?_⟩
      have s4 : Same H (upd H3 l (.lst ((T1 ++ [b]).map V.int).dropLast)) := fun c o e => by rw [upd_ne (ne_of_none e hl0)]; exact s3 _ _ e
      have d4 : upd H3 l (.lst ((T1 ++ [b]).map V.int).dropLast) d = some (.dK (tkv fs)) := by rw [upd_ne ndl]; exact d3
      have l4 : upd H3 l (.lst ((T1 ++ [b]).map V.int).dropLast) l = some (.lst (T1.map V.int)) := by rw [upd_same, List.map_append]; simp
      generalize upd H3 l (.lst ((T1 ++ [b]).map V.int).dropLast) = H4 at s4 d4 l4
      have few0 := I.few
      rw [List.length_append, List.length_singleton] at few0
      have hbin : b ∈ bs ∨ b ∈ fs := I.sub b (by simp)
      refine ⟨vc, nm, b, es, rfl, hc.same s4, fun t H5 s5 t5 => ?_⟩
      have frl := frI_len es b
      refine ⟨t, rfl, ⟨_, SqT.of t5⟩, for_it (walk_tup (xs := (frI es b).map V.int)) (fun n σ H' => ∃ (fs' T' : List Int) (x5 : Option V), σ = [some vc, some (.str nm), some (.ref tb), some (.ref d), some (.ref l), x5] ∧ Same H H' ∧ H' t = some (.tup ((frI es b).map V.int)) ∧ H' d = some (.dK (tkv fs')) ∧ H' l = some (.lst (T'.map V.int)) ∧ fs'.Nodup ∧ (∀ k ∈ fs', Ag es bs k) ∧ (∀ k ∈ fs, k ∈ fs') ∧ (∀ k ∈ T', k ∈ bs ∨ k ∈ fs') ∧
          (∀ x, x ∈ bs ∨ x ∈ fs' → x ∉ T' → x ≠ b → ∀ k ∈ frI es x, k ∈ fs') ∧ (∀ k ∈ (frI es b).take n, k ∈ fs') ∧ 2 * (es.length - fs'.length) + T'.length ≤ 2 * (es.length - fs.length) + T1.length ∧ T'.length ≤ 60 + fs'.length)
        ⟨fs, T1, _, rfl, s4.trans s5, t5, s5 _ _ d4, s5 _ _ l4, I.nd, I.ag, fun k h => h, fun k h => I.sub k (List.mem_append_left _ h), fun x h1 h2 h3 => I.cls x h1 (by simp [h2, h3]), fun g h => by simp at h, Nat.le_refl _, by omega⟩
        (fun n σ H' _ h => by obtain ⟨fs', T', x5, _, _, ht, _⟩ := h; exact SqT.of ht) ?_ ?_⟩
      · rintro n x σ H6 H7 hn ⟨fs', T', x5, rfl, s6, t6, d6, l6, nd6, ag6, inc, sub, cls, got, mu, fw⟩ ⟨rfl, hxn⟩
        rw [List.getElem?_map] at hxn
        obtain ⟨g, hg, rfl⟩ := Option.map_eq_some_iff.mp hxn
        have hgm : g ∈ frI es b := List.mem_of_getElem? hg
        have etk : (frI es b).take (n + 1) = (frI es b).take n ++ [g] := by rw [List.take_succ, hg]; rfl
        have few' : fs'.length ≤ es.length := few_ints es.length nd6 fun k hk => (ag6 k hk).rng
        have hag : Ag es bs g := hbin.elim (fun h => .one h hgm) fun h => .on (I.ag b h) hgm
        refine ⟨_, rfl, _, rfl, d, _, rfl, DGet.k (k := Sum.inl g) d6, _, rfl, ?_⟩
        rw [tkv_has]
        refine ite2 (fun c2 => ?_) (fun c2 => ?_)
        · have c2' : g ∉ fs' := by simpa using c2
          have nd7 : (fs' ++ [g]).Nodup := List.nodup_append.mpr ⟨nd6, by simp, fun a ha c hc' => by
            have : c = g := by simpa using hc'
            rw [this]; exact fun e => c2' (e ▸ ha)⟩
          have ag7 : ∀ k ∈ fs' ++ [g], Ag es bs k := fun k hk => by
            rcases List.mem_append.mp hk with hk | hk
            · exact ag6 k hk
            · have : k = g := by simpa using hk
              rw [this]; exact hag
          have few2 : (fs' ++ [g]).length ≤ es.length := few_ints es.length nd7 fun k hk => (ag7 k hk).rng
          rw [List.length_append, List.length_singleton] at few2
          have hdl : (tkv fs').length = fs'.length := List.length_map _
          refine ⟨_, rfl, _, rfl, d, _, rfl, DPut.k (k := Sum.inl g) d6 (by rw [hdl, sizeLine_eq]; omega), ?_⟩
          rw [tkv_put c2']
          have s7 : Same H (upd H7 d (.dK (tkv (fs' ++ [g])))) := fun c o e => by rw [upd_ne (ne_of_none e hd)]; exact s6 _ _ e
          have t7 : upd H7 d (.dK (tkv (fs' ++ [g]))) t = some (.tup ((frI es b).map V.int)) := by
            rw [upd_ne (fun e => by rw [e, d6] at t6; cases t6)]
            exact t6
          have d7 : upd H7 d (.dK (tkv (fs' ++ [g]))) d = some (.dK (tkv (fs' ++ [g]))) := upd_same
          have l7 : upd H7 d (.dK (tkv (fs' ++ [g]))) l = some (.lst (T'.map V.int)) := by rw [upd_ne (Ne.symm ndl)]; exact l6
          generalize upd H7 d (.dK (tkv (fs' ++ [g]))) = H8 at s7 t7 d7 l7
          refine ⟨_, rfl, .inl ⟨rfl, _, SqL.of l7⟩, _, rfl, l, _, _, rfl, rfl, l7, by rw [List.length_map, sizeLine_eq]; omega, ?_⟩
          refine ⟨fs' ++ [g], T' ++ [g], _, rfl, fun c o e => by rw [upd_ne (ne_of_none e hl0)]; exact s7 _ _ e, ?_, by rw [upd_ne ndl]; exact d7, by rw [upd_same, List.map_append]; rfl, nd7, ag7, ?_, ?_, ?_, ?_, ?_, ?_⟩
          · rw [upd_ne (fun e => by rw [e, l7] at t7; cases t7)]
            exact t7
          · exact fun k hk => List.mem_append_left _ (inc k hk)
          · intro k hk
            rcases List.mem_append.mp hk with hk | hk
            · exact (sub k hk).elim .inl fun z => .inr (List.mem_append_left _ z)
            · exact .inr (List.mem_append_right _ hk)
          · intro x hx hn1 hn2 k hk
            rw [List.mem_append, not_or] at hn1
            refine List.mem_append_left _ (cls x ?_ hn1.1 hn2 k hk)
            rcases hx with hx | hx
            · exact .inl hx
            · rcases List.mem_append.mp hx with hx | hx
              · exact .inr hx
              · exact absurd hx hn1.2
          · intro k hk
            rw [etk] at hk
            rcases List.mem_append.mp hk with hk | hk
            · exact List.mem_append_left _ (got k hk)
            · exact List.mem_append_right _ hk
          · rw [List.length_append, List.length_append, List.length_singleton]
            omega
          · rw [List.length_append, List.length_append, List.length_singleton]
            omega
        · have c2' : g ∈ fs' := by simpa using c2
          refine ⟨fs', T', _, rfl, s6, t6, d6, l6, nd6, ag6, inc, sub, cls, fun k hk => ?_, mu, fw⟩
          rw [etk] at hk
          rcases List.mem_append.mp hk with hk | hk
          · exact got k hk
          · have : k = g := by simpa using hk
            rw [this]; exact c2'
      · rintro σ H6 ⟨fs', T', x5, rfl, s6, t6, d6, l6, nd6, ag6, inc, sub, cls, got, mu, fw⟩
        rw [List.length_map, List.take_length] at got
        refine ⟨⟨fs', T', _, rfl, s6, d6, l6, ⟨nd6, ag6, sub, fun x hx hn k hk => ?_, fw⟩⟩, ?_⟩
        · by_cases hxb : x = b
          · rw [hxb] at hk
            exact got k hk
          · exact cls x hx hn hxb k hk
        · show (match H6 d, H6 l with | some (.dK kvs), some (.lst ts) => 2 * (es.length - kvs.length) + ts.length | _, _ => 0) < (match H3 d, H3 l with | some (.dK kvs), some (.lst ts) => 2 * (es.length - kvs.length) + ts.length | _, _ => 0)
          rw [d6, l6, d3, l3]
          show 2 * (es.length - (tkv fs').length) + (T'.map V.int).length < 2 * (es.length - (tkv fs).length) + ((T1 ++ [b]).map V.int).length
          rw [List.length_map, List.length_map, List.length_append, List.length_singleton, show (tkv fs').length = fs'.length from List.length_map _, show (tkv fs).length = fs.length from List.length_map _]
          omega
  · intro σ H' Q1 Q2 h12 hc2
    obtain ⟨v, h1, k, h2, h3⟩ := hc2
    exact ⟨v, h1, k, h2, h12 _ _ h3⟩
end
end Sw
set_option maxRecDepth 100000
set_option maxHeartbeats 4000000
namespace Sw
open PySem PySem.Spec PyProof.Rows L2
theorem scal_opt (o : Option Int) (k : Int) : scal (optV o) (.int k) = true := by cases o <;> rfl
theorem scal_opt' (o : Option Int) (k : Int) : scal (.int k) (optV o) = true := by cases o <;> rfl
theorem optV_dec (o : Option Int) (k : Int) : decide (optV o = V.int k) = decide (o = some k) := by
  cases o with
  | none => rfl
  | some i =>
    rw [decide_eq_decide]
    exact ⟨fun z => by injection z with z; rw [z], fun z => by cases z; rfl⟩
theorem optV_dec' (o : Option Int) (k : Int) : decide (V.int k = optV o) = decide (o = some k) := by
  rw [← optV_dec, decide_eq_decide]
  exact ⟨Eq.symm, Eq.symm⟩
/-- what the law has found so far -/
structure CIo (es : List Ge) (o : Option Int) (fs : List Int) : Prop where
  nd : fs.Nodup
  rc : ∀ k ∈ fs, Rch es o k
  z : o ≠ some 0 → (0 : Int) ∈ fs
def Cloo (es : List Ge) (o : Option Int) (fs : List Int) : Prop := ∀ b ∈ fs, ∀ g ∈ arr es b, o ≠ some g → g ∈ fs
theorem CIo.few {es : List Ge} {o : Option Int} {fs : List Int} (h : CIo es o fs) (g : Gok es) : fs.length ≤ es.length := few_ints es.length h.nd fun x hx => (h.rc x hx).rng g
theorem CIo.push {es : List Ge} {o : Option Int} {k b : Int} {fs : List Int} (h : CIo es o fs) (hb : b ∈ fs) (hk : k ∈ arr es b) (ho : o ≠ some k) (hn : k ∉ fs) : CIo es o (fs ++ [k]) :=
  ⟨List.nodup_append.mpr ⟨h.nd, by simp, fun a ha c hc => by
    have : c = k := by simpa using hc
    rw [this]; exact fun e => hn (e ▸ ha)⟩, fun x hx => by
    rcases List.mem_append.mp hx with hx | hx
    · exact h.rc x hx
    · have : x = k := by simpa using hx
      rw [this]; exact .step (h.rc b hb) hk ho, fun hz => List.mem_append_left _ (h.z hz)⟩
theorem CIo.all {es : List Ge} {o : Option Int} {fs : List Int} (h : CIo es o fs) (c : Cloo es o fs) (k : Int) : k ∈ fs ↔ Rch es o k :=
  ⟨h.rc k, closed_all h.z fun b hb g hg ho => c b hb g hg ho⟩
/-- a round of it: from fs0 on, the blocks below j asked -/
structure Rndo (es : List Ge) (o : Option Int) (fs0 fs : List Int) (j : Nat) : Prop where
  ci : CIo es o fs
  inc : ∀ k ∈ fs0, k ∈ fs
  gr : fs = fs0 ∨ fs0.length < fs.length
  cl : Cloo es o fs0 → fs = fs0
  got : ∀ k : Int, 0 ≤ k → k < (j : Int) → o ≠ some k → (∃ b ∈ fs0, k ∈ arr es b) → k ∈ fs
theorem Rndo.skip {es : List Ge} {o : Option Int} {fs0 fs : List Int} {j : Nat} (h : Rndo es o fs0 fs j) (hs : o ≠ some (j : Int) → (∃ b ∈ fs, (j : Int) ∈ arr es b) → (j : Int) ∈ fs) : Rndo es o fs0 fs (j + 1) :=
  ⟨h.ci, h.inc, h.gr, h.cl, fun k k0 k1 ko kb => by
    by_cases e : k = (j : Int)
    · subst e
      obtain ⟨b, hb, hk⟩ := kb
      exact hs ko ⟨b, h.inc b hb, hk⟩
    · exact h.got k k0 (by omega) ko kb⟩
theorem Rndo.push {es : List Ge} {o : Option Int} {fs0 fs : List Int} {j : Nat} (h : Rndo es o fs0 fs j) (ho : o ≠ some (j : Int)) (hn : (j : Int) ∉ fs) (hb : ∃ b ∈ fs, (j : Int) ∈ arr es b) : Rndo es o fs0 (fs ++ [(j : Int)]) (j + 1) := by
  obtain ⟨b, hb1, hb2⟩ := hb
  refine ⟨h.ci.push hb1 hb2 ho hn, fun k hk => List.mem_append_left _ (h.inc k hk), .inr ?_, fun c => ?_, fun k k0 k1 ko kb => ?_⟩
  · rw [List.length_append, List.length_singleton]
    rcases h.gr with e | e
    · rw [e]; omega
    · omega
  · have e := h.cl c
    rw [e] at hb1 hn
    exact absurd (c b hb1 _ hb2 ho) hn
  · by_cases e : k = (j : Int)
    · rw [e]; exact List.mem_append_right _ (by simp)
    · exact List.mem_append_left _ (h.got k k0 (by omega) ko kb)
theorem Rndo.clo {es : List Ge} {o : Option Int} {fs0 : List Int} (g : Gok es) (h : Rndo es o fs0 fs0 es.length) : Cloo es o fs0 := fun b hb x hx ho => by
  obtain ⟨h0, h1⟩ := arr_rng g hx
  exact h.got x h0 h1 ho ⟨b, hb, hx⟩
section
variable {P : Program} {w : World} {K : PySem.W.Frag} {mg : Str → Option Value} {base : Heap}
def spComesO (K : PySem.W.Frag) : Sp := fun vs H Q _ => ∃ (F : Addr) (o : Option Int) (es : List Ge), vs = [.ref F, optV o] ∧ ArrAt H F es ∧ Gok es ∧ ∀ (t : Addr) (H' : Hp) (ns : List Int), Same H H' → H' t = some (.lst (ns.map V.int)) → ns.Pairwise (· < ·) → (∀ k, k ∈ ns ↔ Rch es o k) → Q (.ref t) H'
theorem sc_comesO : FnScope N17 ["_law_arrows_here", "_law_over_here"] (defScope (topS 21)) := ⟨rfl, rfl, rfl, by decide +kernel, rfl, by decide +kernel, by decide +kernel⟩
theorem ok_comesO {f : Addr} {fd : FuncData} (D : Df K mg "_law_comes" (topS 21) ["_law_arrows_here", "_law_over_here"] f fd) (B : Bt mg) : FnOk P w K mg base CX0 1 f fd ["_law_arrows_here", "_law_over_here"] (spComesO K) := by
  refine D.fn.ok sc_comesO (fun vs H Q E h => ?_) (fun cdv A outer s H vs Q E hr h => ?_)
  · obtain ⟨F, o, es, rfl, _⟩ := h
    rfl
  obtain ⟨F, o, es, rfl, hA, hg, q⟩ := h
  have nd := sc_comesO.nd
  have hu := hr.units
  refine ⟨_, C8.pss_cut (ps_set (i := 2) nd rfl (Or.inl rfl) (pe_ifExp (pt_cmpR op_ne (pv 1) pe_int (nomark _)) (pe_lst (pa_cons pe_int pa_nil)) (pe_lst pa_nil)))
    (pss_cons (ps_for PassesOwn.never rfl (pi_range1 (by rfl) B.range (pa_cons (pe_callB call_len_seq (by rfl) B.len PySem.boot_len (pa_cons (pv 0) pa_nil)) pa_nil)) (pg_name (i := 3) nd rfl (Or.inl rfl))
      (pss_one (ps_for PassesOwn.never rfl (pi_range1 (by rfl) B.range (pa_cons (pe_callB call_len_seq (by rfl) B.len PySem.boot_len (pa_cons (pv 0) pa_nil)) pa_nil)) (pg_name (i := 4) nd rfl (Or.inr rfl))
        (pss_one (ps_if (PW.pt (pw_and (pt_cmpR op_ne (pv 4) (pv 1) (nomark _)) (pw_and (pt_cmpR op_notIn_seq (pv 4) (pv 2) (by with_unfolding_all rfl)) (pw_and1 (pt_cmpR (op_neD hu)
          (pe_lc (own := [("_law_one", 5)]) (g := gName 5) (tt := tTest (tOp (rIn K false) (tVar 4) (tOp (rIxL K) (tVar 0) (tVar 5)))) rfl nd (pi_list (pv 2)) (blkOk_by (N := N17) (sc := defScope (topS 21)) (by decide +kernel)) (fun _ _ _ _ _ => pg_name (i := 5) nd rfl (Or.inl rfl))
            (fun _ _ _ _ _ => pts_one (pt_cmpR (r := rIn K false) op_in_seq (pv 4) (pe_ix (r := rIxL K) ix_list (pv 0) (pv 5) (fun _ _ => rfl)) (by with_unfolding_all rfl)))
            (fun _ _ _ _ _ => pv 5)) (pe_lst pa_nil) (nomark _))))))
          (pss_one (ps_expr (pe_bm PySem.F.plainAttrs_list PySem.F.slot_list_append PySem.F.type_list_append mt_append (pv 2) (pa_cons (pv 4) pa_nil)))) pss_nil)))))
    (pss_one (ps_ret (pe_callB cr_sorted (by rfl) B.sorted (by decide +kernel) (pa_cons (pv 2) pa_nil))))), ?_⟩
  have few := hg.few
  obtain ⟨as0, F0, p0⟩ := hA.ex
  have las : (as0.map V.ref).length = es.length := by rw [List.length_map]; exact p0.length
  refine ⟨fun σ H' => ∃ (L : Addr) (fs : List Int), σ = [some (.ref F), some (optV o), some (.ref L), none, none, none] ∧ H L = none ∧ Same H H' ∧ H' L = some (.lst (fs.map V.int)) ∧ CIo es o fs ∧ (Cloo es o fs ∨ 1 ≤ fs.length), ?_, ?_⟩
  · refine ⟨_, rfl, scal_opt o 0, _, rfl, ?_⟩
    refine ite2 (fun c => ?_) (fun c => ?_)
    · have c' : o ≠ some 0 := fun z => by subst z; exact absurd c (by simp [optV])
      exact ⟨by show 1 ≤ sizeLine; decide, fun L hL => ⟨L, [0], rfl, hL, same_new hL, upd_same, ⟨by simp, fun k hk => by
        have : k = 0 := by simpa using hk
        rw [this]; exact .zero c', fun _ => by simp⟩, .inr (Nat.le_refl _)⟩⟩
    · have c' : o = some 0 := by rw [optV_dec] at c; simpa using c
      exact ⟨Nat.zero_le _, fun L hL => ⟨L, [], rfl, hL, same_new hL, upd_same, ⟨List.nodup_nil, fun k hk => absurd hk List.not_mem_nil, fun h => absurd c' h⟩, .inl fun b hb => absurd hb List.not_mem_nil⟩⟩
  rintro σ1 H1 ⟨L, fs1, rfl, hL, s1, l1, ci1, cl1⟩
  refine ⟨_, rfl, F, _, rfl, .inl (SqL.of (s1 _ _ F0)), _, rfl, by omega, by omega, ?_⟩
  rw [las, Int.toNat_natCast]
  refine for_it walk_rangeA (fun t σ H' => ∃ (fs : List Int) (x3 x4 : Option V), σ = [some (.ref F), some (optV o), some (.ref L), x3, x4, none] ∧ Same H H' ∧ H' L = some (.lst (fs.map V.int)) ∧ CIo es o fs ∧ (Cloo es o fs ∨ t + 1 ≤ fs.length))
    ⟨fs1, none, none, rfl, s1, l1, ci1, by simpa using cl1⟩ (fun _ _ _ _ _ => trivial) ?_ ?_
  · rintro t x σ H2 H3 ht ⟨fs2, x3, x4, rfl, s2, l2, ci2, cl2⟩ ⟨rfl, hx⟩
    obtain ⟨rfl, _⟩ := ivs_at hx
    refine ⟨_, rfl, F, _, rfl, .inl (SqL.of (s2 _ _ F0)), _, rfl, by omega, by omega, ?_⟩
    rw [las, Int.toNat_natCast]
    refine for_it walk_rangeA (fun j σ H' => ∃ (fs : List Int) (x4 : Option V), σ = [some (.ref F), some (optV o), some (.ref L), some (.int (t : Int)), x4, none] ∧ Same H H' ∧ H' L = some (.lst (fs.map V.int)) ∧ Rndo es o fs2 fs j)
      ⟨fs2, _, rfl, s2, l2, ci2, fun k h => h, .inl rfl, fun _ => rfl, fun k k0 k1 => by omega⟩ (fun _ _ _ _ _ => trivial) ?_ ?_
    · rintro j x σ H4 H5 hj ⟨fs, x4, rfl, s4, l4, R⟩ ⟨rfl, hx⟩
      obtain ⟨rfl, _⟩ := ivs_at hx
      have fl := R.ci.few hg
      refine ⟨_, rfl, _, rfl, scal_opt' o (j : Int), _, rfl, ?_⟩
      rw [optV_dec']
      refine ite2 (fun c1 => ?_) (fun c1 => ?_)
      rotate_left
      · have c1' : o = some (j : Int) := by simpa using c1
        exact iteF ⟨fs, _, rfl, s4, l4, R.skip fun h => absurd c1' h⟩
      have c1' : o ≠ some (j : Int) := by simpa using c1
      refine ⟨_, rfl, _, rfl, L, _, rfl, .inl (SqL.of l4), rfl, flat_ints _, _, rfl, ?_⟩
      rw [if_pos rfl, inV_ints]
      refine ite2 (fun c2 => ?_) (fun c2 => ?_)
      rotate_left
      · have c2' : (j : Int) ∈ fs := by simpa using c2
        exact iteF ⟨fs, _, rfl, s4, l4, R.skip fun _ _ => c2'⟩
      have c2' : (j : Int) ∉ fs := by simpa using c2
      refine ⟨_, rfl, L, rfl, ⟨_, SqL.of l4⟩, fun D2 hD2 => ?_⟩
      refine lc_pure (walk_list (xs := fs.map V.int)) (fun i => decide ((j : Int) ∈ arr es (fs.getD i 0))) (fun i => V.int (fs.getD i 0)) hD2 (fun _ h => SqL.of (h _ _ l4)) (big_size (by rw [List.length_map]; omega)) ?_ ?_ ?_
      · intro i y H6 Q6 hi hy s6 q6
        rw [List.length_map] at hi
        rw [List.getElem?_map, List.getElem?_eq_getElem hi] at hy
        have hy' : V.int fs[i] = y := Option.some.inj hy
        subst hy'
        rw [show fs.getD i 0 = fs[i] by rw [List.getD_eq_getElem?_getD, List.getElem?_eq_getElem hi]; rfl] at q6
        obtain ⟨y0, y1⟩ := (R.ci.rc _ (List.getElem_mem hi)).rng hg
        obtain ⟨as, a, ea, eb, ec, _⟩ := (hA.same (s4.trans s6)).at y0 y1
        refine ⟨_, rfl, _, rfl, _, rfl, F, _, _, _, rfl, rfl, SqL.of ea, eb, a, _, rfl, .inl (SqL.of ec), rfl, flat_ints _, _, rfl, ?_⟩
        rw [if_neg (by simp), inV_ints]
        exact q6 H6 (Same.refl _)
      · intro i y H6 Q6 hi hy _ s6 q6
        rw [List.length_map] at hi
        rw [List.getElem?_map, List.getElem?_eq_getElem hi] at hy
        have hy' : V.int fs[i] = y := Option.some.inj hy
        subst hy'
        rw [show fs.getD i 0 = fs[i] by rw [List.getD_eq_getElem?_getD, List.getElem?_eq_getElem hi]; rfl] at q6
        exact ⟨_, rfl, q6 H6 (Same.refl _)⟩
      · intro H6 s6 hD6
        rw [List.length_map] at hD6
        have ev : ((List.range fs.length).filter fun i => decide ((j : Int) ∈ arr es (fs.getD i 0))).map (fun i => V.int (fs.getD i 0)) = (((List.range fs.length).filter fun i => decide ((j : Int) ∈ arr es (fs.getD i 0))).map (fun i => fs.getD i 0)).map V.int := by rw [List.map_map]; rfl
        rw [ev] at hD6
        have ex : (((List.range fs.length).filter fun i => decide ((j : Int) ∈ arr es (fs.getD i 0))).map (fun i => fs.getD i 0)) ≠ [] ↔ ∃ b ∈ fs, (j : Int) ∈ arr es b := by
          constructor
          · intro h
            obtain ⟨b, hb⟩ := List.exists_mem_of_ne_nil _ h
            obtain ⟨i, hi, rfl⟩ := List.mem_map.mp hb
            obtain ⟨hi1, hi2⟩ := List.mem_filter.mp hi
            rw [List.mem_range] at hi1
            refine ⟨_, ?_, of_decide_eq_true hi2⟩
            rw [List.getD_eq_getElem?_getD, List.getElem?_eq_getElem hi1]
            exact List.getElem_mem hi1
          · rintro ⟨b, hb, hb2⟩ h
            obtain ⟨i, hi, rfl⟩ := List.getElem_of_mem hb
            have : fs.getD i 0 = fs[i] := by rw [List.getD_eq_getElem?_getD, List.getElem?_eq_getElem hi]; rfl
            have hm : fs.getD i 0 ∈ (((List.range fs.length).filter fun i => decide ((j : Int) ∈ arr es (fs.getD i 0))).map (fun i => fs.getD i 0)) := List.mem_map.mpr ⟨i, List.mem_filter.mpr ⟨List.mem_range.mpr hi, by rw [this]; exact decide_eq_true hb2⟩, rfl⟩
            rw [h] at hm
            cases hm
        generalize (((List.range fs.length).filter fun i => decide ((j : Int) ∈ arr es (fs.getD i 0))).map (fun i => fs.getD i 0)) = ns at hD6 ex
        refine ⟨Nat.zero_le _, fun N hN => ?_⟩
        have sN := same_new (o := .lst []) hN
        refine ⟨.list (ns.map PyData.int), .list [], ints_list (sN _ _ hD6), .lst (SqL.of upd_same) .nil, ints_shaped _, nil_shaped, _, rfl, ?_⟩
        have s7 := s4.trans (s6.trans sN)
        have l7 := sN _ _ (s6 _ _ l4)
        generalize upd H6 N (.lst []) = H7 at s7 l7
        rw [eqv_nil_list]
        refine ite2 (fun c3 => ?_) (fun c3 => ?_)
        · have hne : ns ≠ [] := fun z => by rw [z] at c3; cases c3
          refine ⟨_, rfl, .inl ⟨rfl, _, SqL.of l7⟩, _, rfl, L, _, _, rfl, rfl, l7, by rw [List.length_map, sizeLine_eq]; omega, ?_⟩
          exact ⟨fs ++ [(j : Int)], _, rfl, fun c o e => by rw [upd_ne (ne_of_none e hL)]; exact s7 _ _ e, by rw [upd_same, List.map_append]; rfl, R.push c1' c2' (ex.mp hne)⟩
        · have hne : ns = [] := by
            cases ns with
            | nil => rfl
            | cons y ys => exact absurd rfl c3
          exact ⟨fs, _, rfl, s7, l7, R.skip fun _ hb => absurd hne (ex.mpr hb)⟩
    · rintro σ H4 ⟨fs, x4, rfl, s4, l4, R⟩
      refine ⟨fs, _, _, rfl, s4, l4, R.ci, ?_⟩
      rcases cl2 with h | h
      · rw [R.cl h]
        exact .inl h
      · rcases R.gr with e | e
        · subst e
          exact .inl (R.clo hg)
        · exact .inr (by omega)
  · rintro σ H2 ⟨fs, x3, x4, rfl, s2, l2, ci, cl⟩
    have fl := ci.few hg
    have clo : Cloo es o fs := cl.elim id fun h => by omega
    refine ⟨_, rfl, L, fs, rfl, SqL.of l2, by omega, fun ns' p perm ris new => ?_⟩
    exact q p _ ns' (s2.trans (same_new new)) upd_same (rising_of ris (perm.nodup_iff.mpr ci.nd)) fun k => (perm.mem_iff).trans (ci.all clo k)
end
end Sw
set_option maxRecDepth 100000
set_option maxHeartbeats 4000000
namespace Sw
open PySem PySem.Spec PyProof.Rows L2
abbrev NT : List Str := ["_law_arrows_here", "_law_some", "_law_over_here", "_law_block"]
noncomputable def rowsI (es : List Ge) (rs : List Int) (k : Int) : List Int := rs.filter fun o => domB es o k
theorem merge_akv : ∀ {L A : List (Int × Addr)}, ((A ++ L).map (·.1)).Nodup → (akv L).foldl (fun acc kv => putK acc kv.1 kv.2) (akv A) = akv (A ++ L)
  | [], A, _ => by rw [List.append_nil]; rfl
  | p :: L, A, h => by
    show (akv L).foldl _ (putK (akv A) (Sum.inl p.1) (.ref p.2)) = _
    have hp : p.1 ∉ A.map (·.1) := fun z => by
      rw [List.map_append, List.map_cons] at h
      exact (List.nodup_append.mp h).2.2 _ z _ List.mem_cons_self rfl
    rw [akv_put hp, merge_akv (A := A ++ [(p.1, p.2)]) (by rw [List.append_assoc]; exact h), List.append_assoc]
    rfl
theorem paired_akv {K : PySem.W.Frag} {H : Hp} : ∀ {ps : List Addr} {L : List (Int × Addr)}, Paired (fun p (x : Int × Addr) => H p = some (.tup [.int x.1, .ref x.2])) ps L → Paired (fun p (kv : Key × V) => SqT K H p [kV kv.1, kv.2]) ps (akv L)
  | _, _, .nil => .nil
  | _, _, .cons r t => .cons (SqT.of r) (paired_akv t)
/-- the law's rows: of each block that is reached those that dominate it -/
structure TabAt (H : Hp) (d : Addr) (es : List Ge) (rs : List Int) : Prop where
  ex : ∃ L : List (Int × Addr), H d = some (.dK (akv L)) ∧ L.map (·.1) = rs ∧ ∀ p ∈ L, p.2 ≠ d ∧ H p.2 = some (.lst ((rowsI es rs p.1).map V.int))
  ris : rs.Pairwise (· < ·)
  mem : ∀ k, k ∈ rs ↔ Rch es none k
theorem TabAt.same {H H' : Hp} {d : Addr} {es : List Ge} {rs : List Int} (h : TabAt H d es rs) (s : Same H H') : TabAt H' d es rs := by
  obtain ⟨L, h1, h2, h3⟩ := h.ex
  exact ⟨⟨L, s _ _ h1, h2, fun p hp => ⟨(h3 p hp).1, s _ _ (h3 p hp).2⟩⟩, h.ris, h.mem⟩
section
variable {P : Program} {w : World} {K : PySem.W.Frag} {mg : Str → Option Value} {base : Heap}
def spTables (K : PySem.W.Frag) : Sp := fun vs H Q _ => ∃ (F : Addr) (es : List Ge), vs = [.ref F] ∧ ArrAt H F es ∧ Gok es ∧ ∀ (d : Addr) (H' : Hp) (rs : List Int), Same H H' → H d = none → TabAt H' d es rs → Q (.ref d) H'
theorem sc_tables : FnScope NT ["_law_arrows_here"] (defScope (topS 23)) := ⟨rfl, rfl, rfl, by decide +kernel, rfl, by decide +kernel, by decide +kernel⟩
theorem ok_tables {f f1 f2 : Addr} {fd fd1 fd2 : FuncData} (D : Df K mg "_law_tables" (topS 23) ["_law_arrows_here"] f fd) (D1 : Df K mg "_law_comes" (topS 21) ["_law_arrows_here", "_law_over_here"] f1 fd1) (D2 : Df K mg "_law_over" (topS 22) ["_law_arrows_here", "_law_over_here", "_law_under"] f2 fd2) (B : Bt mg) (bD : mg "dict" = none)
    (G1 : FnOk P w K mg base CX0 1 f1 fd1 ["_law_arrows_here", "_law_over_here"] (spComesO K)) (G2 : FnOk P w K mg base CX0 2 f2 fd2 ["_law_arrows_here", "_law_over_here", "_law_under"] (spOver K)) : FnOk P w K mg base CX0 3 f fd ["_law_arrows_here"] (spTables K) := by
  refine D.fn.ok sc_tables (fun vs H Q E h => ?_) (fun cdv A outer s H vs Q E hr h => ?_)
  · obtain ⟨F, es, rfl, _⟩ := h
    rfl
  obtain ⟨F, es, rfl, hA, hok, q⟩ := h
  have nd := sc_tables.nd
  refine ⟨_, (pss_cons (ps_set (i := 1) nd rfl (Or.inr rfl) (pe_call G1 (hr.mono (by decide)) (by rfl) D1.gl D1.fn.kp D1.bd .nil pass0 (pa_cons (pv 0) (pa_cons pe_non pa_nil))))
    (pss_one (ps_ret (pe_callTy (call_dictP rfl) (by rfl) bD (by decide +kernel) (pa_cons (pe_lc (own := [("_law_block", 3)]) (g := gName 3) (tt := tYes) rfl nd (pi_list (pv 1)) (blkOk_by (N := NT) (sc := defScope (topS 23)) (by decide +kernel)) (fun _ _ _ _ _ => pg_name (i := 3) nd rfl (Or.inr rfl)) (fun _ _ _ _ _ => pts_nil) (fun _ _ _ _ _ => (pe_tup (pa_cons (pv 3) (pa_cons (pe_lc (own := [("_law_over_here", 2)]) (wi := iList K (tVar 1)) (g := gName 2) (tt := tB (tCall (spOver K) [] E0 (tCons (tVar 0) (tCons (tVar 2) (tCons (tVar 3) tNil))))) (te := tVar 2) rfl nd (pi_list (pv 1)) (blkOk_by (N := NT) (by with_unfolding_all rfl)) (fun _ _ _ _ _ => pg_name (i := 2) nd rfl (Or.inl rfl)) (fun _ _ _ _ _ => pts_one (pt_val (pe_call G2 hr (by rfl) D2.gl D2.fn.kp D2.bd .nil pass0 (pa_cons (pv 0) (pa_cons (pv 2) (pa_cons (pv 3) pa_nil)))))) (fun _ _ _ _ _ => pv 2)) pa_nil))))) pa_nil))))), ?_⟩
  have few := hok.few
  refine ⟨_, rfl, F, none, es, rfl, hA, hok, fun t H1 rs s1 ht ris mem => ?_⟩
  have rl : rs.length ≤ 60 := Nat.le_trans (few_ints es.length (ris.imp fun h => by omega) fun k hk => ((mem k).mp hk).rng hok) few
  refine ⟨_, rfl, t, rfl, ⟨_, SqL.of ht⟩, fun Do hDo => lc_it (walk_list (xs := rs.map V.int)) (fun i H' => ∃ (ps : List Addr) (L : List (Int × Addr)), Same H1 H' ∧ H' Do = some (.lst (ps.map V.ref)) ∧ Paired (fun p (x : Int × Addr) => H' p = some (.tup [.int x.1, .ref x.2])) ps L ∧ L.map (·.1) = rs.take i ∧ ∀ x ∈ L, x.2 ≠ Do ∧ H' x.2 = some (.lst ((rowsI es rs x.1).map V.int)))
    ⟨[], [], same_new hDo, upd_same, .nil, rfl, fun x h => absurd h List.not_mem_nil⟩ (fun i H' _ h => by obtain ⟨_, _, s', _⟩ := h; exact SqL.of (s' _ _ ht)) ?_ ?_⟩
  · rintro i x H2 H3 hi ⟨ps, L, s2, d2, pp, hk, hv⟩ ⟨rfl, hx⟩
    rw [List.getElem?_map] at hx
    obtain ⟨k, hki, rfl⟩ := Option.map_eq_some_iff.mp hx
    have etk : rs.take (i + 1) = rs.take i ++ [k] := by rw [List.take_succ, hki]; rfl
    have ht2 := s2 _ _ ht
    have pl : ps.length ≤ 60 := by
      have h1 := pp.length
      have h2 : L.length ≤ rs.length := by
        rw [← List.length_map (f := (·.1)), hk]
        exact List.length_take_le' _ _
      omega
    refine ⟨rfl, yes_then ?_⟩
    refine (if_pos rfl).mpr ?_
    refine ⟨_, rfl, _, rfl, t, rfl, ⟨_, SqL.of ht2⟩, fun Di hDi => ?_⟩
    have nDi : Di ≠ Do := fun z => by rw [z, d2] at hDi; cases hDi
    refine lc_pure (walk_list (xs := rs.map V.int)) (fun j => domB es (rs.getD j 0) k) (fun j => V.int (rs.getD j 0)) hDi (fun _ h => SqL.of (h _ _ ht2)) (big_size (by rw [List.length_map]; omega)) ?_ ?_ ?_
    · intro j y H4 Q4 hj hy s4 q4
      rw [List.getElem?_map] at hy
      obtain ⟨o, ho, rfl⟩ := Option.map_eq_some_iff.mp hy
      rw [show rs.getD j 0 = o by rw [List.getD_eq_getElem?_getD, ho]; rfl] at q4
      exact ⟨_, rfl, _, rfl, _, rfl, F, o, k, es, rfl, hA.same (s1.trans (s2.trans s4)), hok, fun H5 s5 => ⟨_, rfl, q4 H5 s5⟩⟩
    · intro j y H4 Q4 hj hy _ s4 q4
      rw [List.getElem?_map] at hy
      obtain ⟨o, ho, rfl⟩ := Option.map_eq_some_iff.mp hy
      rw [show rs.getD j 0 = o by rw [List.getD_eq_getElem?_getD, ho]; rfl] at q4
      exact ⟨_, rfl, q4 H4 (Same.refl _)⟩
    · intro H4 s4 hDi4
      rw [List.length_map, range_filter (fun o => domB es o k) V.int 0 rs] at hDi4
      refine ⟨by show 2 ≤ sizeLine; decide, fun T hT => ?_⟩
      have sT := same_new (o := .tup [V.int k, .ref Di]) hT
      have eT : upd H4 T (.tup [V.int k, .ref Di]) T = some (.tup [V.int k, .ref Di]) := upd_same
      generalize upd H4 T (.tup [V.int k, .ref Di]) = H5 at sT eT
      have s45 := s4.trans sT
      have d5 := s45 _ _ d2
      have nT : ∀ {c : Addr} {xs : List V}, H5 c = some (.tup xs) → c ≠ Do := fun h z => by rw [z, d5] at h; cases h
      refine ⟨_, d5, by rw [List.length_map, sizeLine_eq]; omega, ps ++ [T], L ++ [(k, Di)], fun c o e => by rw [upd_ne (ne_of_none e hDo)]; exact s45 _ _ (s2 _ _ e), by rw [upd_same, List.map_append]; rfl, ?_, by rw [List.map_append, hk, etk]; rfl, ?_⟩
      · exact paired_snoc (by show upd H5 Do _ T = some (.tup [.int k, .ref Di]); rw [upd_ne (nT eT)]; exact eT) (paired_imp (fun c x r => by
          have r5 := s45 _ _ r
          rw [upd_ne (nT r5)]
          exact r5) pp)
      · intro x hx'
        rcases List.mem_append.mp hx' with hx' | hx'
        · exact ⟨(hv x hx').1, by rw [upd_ne (hv x hx').1]; exact s45 _ _ (hv x hx').2⟩
        · have : x = (k, Di) := by simpa using hx'
          subst this
          exact ⟨nDi, by rw [upd_ne nDi]; exact sT _ _ hDi4⟩
  rintro H2 ⟨ps, L, s2, d2, pp, hk, hv⟩
  rw [List.length_map, List.take_length] at hk
  refine ⟨Do, ps, akv L, rfl, SqL.of d2, paired_akv pp, fun d hd => ?_⟩
  have em : mergeK [] (akv L) = akv L := by
    have := merge_akv (L := L) (A := []) (by rw [List.nil_append, hk]; exact ris.imp fun h => by omega)
    rw [List.nil_append] at this
    exact this
  rw [em]
  have s3 := same_new (o := .dK (akv L)) hd
  refine q d _ rs (s1.trans (s2.trans s3)) ((s1.trans s2).free hd) ⟨⟨L, upd_same, hk, fun p hp => ?_⟩, ris, mem⟩
  have hp2 := (hv p hp).2
  exact ⟨ne_of_none hp2 hd, s3 _ _ hp2⟩
end
end Sw
set_option maxRecDepth 100000
set_option maxHeartbeats 4000000
namespace Sw
open PySem PySem.Spec PyProof.Rows L2
abbrev NLN : List Str := ["_law_rows", "_law_block", "_law_found", "_law_one", "_law_own", "_law_other"]
theorem dom_reached {es : List Ge} {o b : Int} (hb : Rch es none b) (h : ¬ Rch es (some o) b) : Rch es none o := by
  obtain ⟨w, hw, _⟩ := rch_rw hb
  obtain ⟨x, y, e⟩ := List.append_of_mem (dom_on h hw)
  rw [e] at hw
  exact rw_rch hw.suffix rfl fun _ _ => by simp
theorem mem_rowsI {es : List Ge} {rs : List Int} {o k : Int} : o ∈ rowsI es rs k ↔ o ∈ rs ∧ domB es o k = true := by
  unfold rowsI
  rw [List.mem_filter]
theorem rows_sdoms {es : List Ge} (hok : Gok es) {rs : List Int} (ris : rs.Pairwise (· < ·)) (mem : ∀ k, k ∈ rs ↔ Rch es none k) {b : Int} (hb : Rch es none b) : ((rowsI es rs b).filter fun o => decide (o ≠ b)) = sdoms es b := by
  refine rising_eq ((ris.filter _).filter _) ((domsI_rising es b).filter _) fun o => ?_
  unfold sdoms
  rw [List.mem_filter, List.mem_filter, mem_rowsI, mem]
  constructor
  · rintro ⟨⟨h1, h2⟩, h3⟩
    obtain ⟨o0, o1⟩ := h1.rng hok
    exact ⟨(mem_domsI o0 o1).mpr h2, h3⟩
  · rintro ⟨h1, h3⟩
    obtain ⟨o0, o1⟩ := domsI_rng h1
    have h2 := (mem_domsI o0 o1).mp h1
    exact ⟨⟨dom_reached hb (domB_iff.mp h2), h2⟩, h3⟩
section
variable {P : Program} {w : World} {K : PySem.W.Frag} {mg : Str → Option Value} {base : Heap}
def spLNear (K : PySem.W.Frag) : Sp := fun vs H Q _ => ∃ (d : Addr) (b : Int) (es : List Ge) (rs : List Int), vs = [.ref d, .int b] ∧ TabAt H d es rs ∧ Gok es ∧ ∀ H', Same H H' → Q (optV (nearI es b)) H'
theorem sc_lnear : FnScope NLN ["_law_rows", "_law_block"] (defScope (topS 24)) := ⟨rfl, rfl, rfl, by decide +kernel, rfl, by decide +kernel, by decide +kernel⟩
theorem ok_lnear {f : Addr} {fd : FuncData} (D : Df K mg "_law_nearest" (topS 24) ["_law_rows", "_law_block"] f fd) (B : Bt mg) : FnOk P w K mg base CX0 1 f fd ["_law_rows", "_law_block"] (spLNear K) := by
  refine D.fn.ok sc_lnear (fun vs H Q E h => ?_) (fun cdv A outer s H vs Q E hr h => ?_)
  · obtain ⟨d, b, es, rs, rfl, _⟩ := h
    rfl
  obtain ⟨d, b, es, rs, rfl, hT, hok, q⟩ := h
  have nd := sc_lnear.nd
  have hu := hr.units
  have hu1 := Nat.lt_of_le_of_lt (Nat.add_le_add_left (by decide : 1 ≤ 64) _) hu
  refine ⟨_, (pss_cons (ps_set (i := 2) nd rfl (Or.inr rfl) (pe_lc (own := [("_law_one", 3)]) (g := gName 3) (tt := tTest (tOp rNe (tVar 3) (tVar 1))) rfl nd (pi_list (pe_dget2 hu1 (pv 0) (pv 1) (pe_lst pa_nil) ⟨rfl, rfl, rfl, rfl⟩)) (blkOk_by (N := NLN) (sc := defScope (topS 24)) (by decide +kernel)) (fun _ _ _ _ _ => pg_name (i := 3) nd rfl (Or.inl rfl)) (fun _ _ _ _ _ => (pts_one (pt_cmpR op_ne (pv 3) (pv 1) (nomark _)))) (fun _ _ _ _ _ => (pv 3))))
    (pss_cons (ps_setLc (i := 4) (own := [("_law_one", 3)]) (g := gName 3) rfl nd rfl rfl (sw_true rfl rfl rfl (by decide +kernel)) (pi_list (pv 2)) (blkOk_by (N := NLN) (sc := defScope (topS 24)) (by decide +kernel)) (fun _ _ _ _ _ => pg_name (i := 3) nd rfl (Or.inr rfl)) (fun _ _ _ _ _ => (pts_one (pt_cmpR (r := rEqD K) (op_eqD hu) (pe_lc (own := [("_law_other", 5)]) (wi := iList K (tVar 2)) (g := gName 5) (tt := tTest (tOp (rIn K true) (tVar 5) (tDGet (tVar 0) (tVar 3)))) (te := tVar 5) rfl nd (pi_list (pv 2)) (blkOk_by (N := NLN) (by with_unfolding_all rfl)) (fun _ _ _ _ _ => pg_name (i := 5) nd rfl (Or.inl rfl)) (fun _ _ _ _ _ => pts_one (pt_cmpR (r := rIn K true) op_notIn_seq (pv 5) (pe_dget hu1 (pv 0) (pv 3) (fun _ _ => rfl)) (by with_unfolding_all rfl))) (fun _ _ _ _ _ => pv 5)) (pe_lst pa_nil) (nomark _)))) (fun _ _ _ _ _ => (pv 3)))
    (pss_one (ps_ret (pe_ifExp (pt_cmpR (op_neD hu) (pv 4) (pe_lst pa_nil) (nomark _)) (pe_ix (r := rIxL K) ix_list (pv 4) pe_int (fun _ _ => rfl)) pe_non))))), ?_⟩
  have few := hok.few
  have ris := hT.ris
  have mem := hT.mem
  have rl : rs.length ≤ 60 := Nat.le_trans (few_ints es.length (ris.imp fun h => by omega) fun k hk => ((mem k).mp hk).rng hok) few
  obtain ⟨L, hd, hk, hv⟩ := hT.ex
  have row : ∀ {H' : Hp}, Same H H' → ∀ k, k ∈ rs → ∃ Aa, DGet H' d (.int k) (some (.ref Aa)) ∧ H' Aa = some (.lst ((rowsI es rs k).map V.int)) := fun s' k hkm => by
    obtain ⟨Aa, h1, h2⟩ := akv_get (L := L) (k := k) (by rw [hk]; exact hkm)
    exact ⟨Aa, .inl ⟨_, Sum.inl k, .inl (s' _ _ hd), rfl, h2.symm⟩, s' _ _ (hv _ h1).2⟩
  refine ⟨_, rfl, d, rfl, .inl ⟨_, .inl hd⟩, _, rfl, Nat.zero_le _, fun N hN => ?_⟩
  have sN := same_new (o := .lst []) hN
  have eN : upd H N (.lst []) N = some (.lst (([] : List Int).map V.int)) := upd_same
  generalize upd H N (.lst []) = H1 at sN eN
  obtain ⟨o, Xa, rb, hg, ho, hX, hrb, hrl⟩ : ∃ (o : Option V) (Xa : Addr) (rb : List Int), DGet H1 d (.int b) o ∧ o.getD (.ref N) = .ref Xa ∧ H1 Xa = some (.lst (rb.map V.int)) ∧ ((b ∈ rs ∧ rb = rowsI es rs b) ∨ (b ∉ rs ∧ rb = [])) ∧ rb.length ≤ 60 := by
    by_cases hb : b ∈ rs
    · obtain ⟨Aa, h1, h2⟩ := row sN b hb
      exact ⟨_, Aa, _, h1, rfl, h2, .inl ⟨hb, rfl⟩, Nat.le_trans (List.length_filter_le _ _) rl⟩
    · refine ⟨none, N, [], .inl ⟨_, Sum.inl b, .inl (sN _ _ hd), rfl, ?_⟩, rfl, eN, .inr ⟨hb, rfl⟩, Nat.zero_le _⟩
      have := akv_has L b
      rw [hk, decide_eq_false hb] at this
      cases hvv : valV (akv L) (Sum.inl b) with
      | none => rfl
      | some v => rw [hvv] at this; cases this
  refine ⟨o, hg, ?_⟩
  rw [ho]
  refine ⟨Xa, rfl, ⟨_, SqL.of hX⟩, fun Fd hFd => ?_⟩
  refine lc_pure (walk_list (xs := rb.map V.int)) (fun i => decide (rb.getD i 0 ≠ b)) (fun i => V.int (rb.getD i 0)) hFd (fun _ h => SqL.of (h _ _ hX)) (big_size (by rw [List.length_map]; omega)) ?_ ?_ ?_
  · intro i x H2 Q2 hi hx s2 q2
    rw [List.getElem?_map] at hx
    obtain ⟨k, hki, rfl⟩ := Option.map_eq_some_iff.mp hx
    rw [show rb.getD i 0 = k by rw [List.getD_eq_getElem?_getD, hki]; rfl] at q2
    refine ⟨_, rfl, _, rfl, rfl, _, rfl, ?_⟩
    have e : (!decide (V.int k = V.int b)) = decide (k ≠ b) := by
      rw [← decide_not, decide_eq_decide]
      exact ⟨fun z y => z (by rw [y]), fun z y => z (by injection y)⟩
    rw [e]
    exact q2 H2 (Same.refl _)
  · intro i x H2 Q2 hi hx _ s2 q2
    rw [List.getElem?_map] at hx
    obtain ⟨k, hki, rfl⟩ := Option.map_eq_some_iff.mp hx
    rw [show rb.getD i 0 = k by rw [List.getD_eq_getElem?_getD, hki]; rfl] at q2
    exact ⟨_, rfl, q2 H2 (Same.refl _)⟩
  intro H2 s2 hF2
  rw [List.length_map, range_filter (fun k => decide (k ≠ b)) V.int 0 rb] at hF2
  have hsd : ∀ o ∈ (rb.filter fun k => decide (k ≠ b)), o ∈ rs := fun o ho' => by
    rcases hrb with ⟨_, rfl⟩ | ⟨_, rfl⟩
    · exact (mem_rowsI.mp (List.mem_filter.mp ho').1).1
    · cases ho'
  have hnr : nearI es b = ((rb.filter fun k => decide (k ≠ b)).filter fun one => (rb.filter fun k => decide (k ≠ b)).all fun other => domB es other one).head? := by
    rcases hrb with ⟨hb, rfl⟩ | ⟨hb, rfl⟩
    · rw [rows_sdoms hok ris mem ((mem b).mp hb), nearI_of ((mem b).mp hb), List.head?_filter]
    · rw [nearI_not fun h => hb ((mem b).mpr h)]
      rfl
  have sdl : (rb.filter fun k => decide (k ≠ b)).length ≤ 60 := Nat.le_trans (List.length_filter_le _ _) hrl
  generalize (rb.filter fun k => decide (k ≠ b)) = sd at hF2 hsd hnr sdl
  have s02 := sN.trans s2
  refine ⟨_, rfl, Fd, rfl, ⟨_, SqL.of hF2⟩, fun Ow hOw => ?_⟩
  refine lc_pure (walk_list (xs := sd.map V.int)) (fun i => sd.all fun other => domB es other (sd.getD i 0)) (fun i => V.int (sd.getD i 0)) hOw (fun _ h => SqL.of (h _ _ hF2)) (big_size (by rw [List.length_map]; omega)) ?_ ?_ ?_
  · intro i x H3 Q3 hi hx s3 q3
    rw [List.getElem?_map] at hx
    obtain ⟨one, hone, rfl⟩ := Option.map_eq_some_iff.mp hx
    rw [show sd.getD i 0 = one by rw [List.getD_eq_getElem?_getD, hone]; rfl] at q3
    have h1rs := hsd one (List.mem_of_getElem? hone)
    refine ⟨_, rfl, Fd, rfl, ⟨_, SqL.of (s3 _ _ hF2)⟩, fun Di hDi => ?_⟩
    refine lc_pure (walk_list (xs := sd.map V.int)) (fun j => !decide (sd.getD j 0 ∈ rowsI es rs one)) (fun j => V.int (sd.getD j 0)) hDi (fun _ h => SqL.of (h _ _ (s3 _ _ hF2))) (big_size (by rw [List.length_map]; omega)) ?_ ?_ ?_
    · intro j y H4 Q4 hj hy s4 q4
      rw [List.getElem?_map] at hy
      obtain ⟨oth, hoth, rfl⟩ := Option.map_eq_some_iff.mp hy
      rw [show sd.getD j 0 = oth by rw [List.getD_eq_getElem?_getD, hoth]; rfl] at q4
      obtain ⟨Aa, g1, g2⟩ := row (s02.trans (s3.trans s4)) one h1rs
      refine ⟨_, rfl, _, rfl, _, rfl, d, _, rfl, g1, Aa, _, rfl, .inl (SqL.of g2), rfl, flat_ints _, _, rfl, ?_⟩
      rw [if_pos rfl, inV_ints]
      exact q4 H4 (Same.refl _)
    · intro j y H4 Q4 hj hy _ s4 q4
      rw [List.getElem?_map] at hy
      obtain ⟨oth, hoth, rfl⟩ := Option.map_eq_some_iff.mp hy
      rw [show sd.getD j 0 = oth by rw [List.getD_eq_getElem?_getD, hoth]; rfl] at q4
      exact ⟨_, rfl, q4 H4 (Same.refl _)⟩
    · intro H4 s4 hDi4
      rw [List.length_map, range_filter (fun oth => !decide (oth ∈ rowsI es rs one)) V.int 0 sd] at hDi4
      refine ⟨Nat.zero_le _, fun N2 hN2 => ?_⟩
      have sN2 := same_new (o := .lst []) hN2
      refine ⟨_, .list [], ints_list (sN2 _ _ hDi4), .lst (SqL.of upd_same) .nil, ints_shaped _, nil_shaped, _, rfl, ?_⟩
      rw [eqv_nil_list]
      have e : ((sd.filter fun oth => !decide (oth ∈ rowsI es rs one)).map PyData.int).isEmpty = sd.all fun other => domB es other one := by
        rw [Bool.eq_iff_iff, List.isEmpty_iff, List.map_eq_nil_iff, List.filter_eq_nil_iff, List.all_eq_true]
        constructor
        · intro h oth ho'
          have := h oth ho'
          simp at this
          exact (mem_rowsI.mp this).2
        · intro h oth ho'
          have : oth ∈ rowsI es rs one := mem_rowsI.mpr ⟨hsd oth ho', h oth ho'⟩
          simp [this]
      rw [e]
      exact q3 _ (s4.trans sN2)
  · intro i x H3 Q3 hi hx _ s3 q3
    rw [List.getElem?_map] at hx
    obtain ⟨k, hki, rfl⟩ := Option.map_eq_some_iff.mp hx
    rw [show sd.getD i 0 = k by rw [List.getD_eq_getElem?_getD, hki]; rfl] at q3
    exact ⟨_, rfl, q3 H3 (Same.refl _)⟩
  intro H3 s3 hO3
  rw [List.length_map, range_filter (fun one => sd.all fun other => domB es other one) V.int 0 sd] at hO3
  generalize (sd.filter fun one => sd.all fun other => domB es other one) = ow at hO3 hnr
  have s03 := s02.trans s3
  refine ⟨_, rfl, Nat.zero_le _, fun N3 hN3 => ?_⟩
  have sN3 := same_new (o := .lst []) hN3
  refine ⟨_, .list [], ints_list (sN3 _ _ hO3), .lst (SqL.of upd_same) .nil, ints_shaped _, nil_shaped, _, rfl, ?_⟩
  have s04 := s03.trans sN3
  have hO4 := sN3 _ _ hO3
  generalize upd H3 N3 (.lst []) = H4 at s04 hO4
  rw [eqv_nil_list]
  have q' := q H4 s04
  rw [hnr] at q'
  cases ow with
  | nil => exact iteF q'
  | cons x xs =>
    refine iteT ?_
    exact ⟨_, rfl, Ow, _, 0, _, rfl, rfl, SqL.of hO4, atI_nat (j := 0) rfl, q'⟩
end
end Sw
set_option maxRecDepth 100000
set_option maxHeartbeats 4000000
namespace Sw
open PySem PySem.Spec PyProof.Rows L2
abbrev NLF : List Str := ["_law_arrows_here", "_law_rows", "_law_block", "_law_found", "_law_after", "_law_strict", "_law_ahead", "_law_one"]
theorem and_V {t : TE} {σ : L2.St} {H : Hp} {Q : V → Hp → Prop} {c c2 : Bool} (hv : ∀ Q' : V → Hp → Prop, Q' (.bl c2) H → t σ H Q') (h : Q (.bl (c && c2)) H) : if c = true then t σ H Q else Q (.bl false) H := by
  cases c with
  | true => exact (if_pos rfl).mpr (hv Q h)
  | false => exact (if_neg (by simp)).mpr h
noncomputable def frB (es : List Ge) (b k : Int) : Bool := @decide (FrP es b k) (Classical.propDecidable _)
theorem frB_iff {es : List Ge} {b k : Int} : frB es b k = true ↔ FrP es b k := ⟨fun h => @of_decide_eq_true _ (Classical.propDecidable _) h, fun h => @decide_eq_true _ (Classical.propDecidable _) h⟩
theorem rows_fr {es : List Ge} {rs : List Int} (mem : ∀ k, k ∈ rs ↔ Rch es none k) {b k : Int} (hk : k ∈ rs) {c st : Bool} (hc : c = true ↔ ∃ o ∈ rs, k ∈ arr es o ∧ b ∈ rowsI es rs o) (hst : st = true ↔ b ∈ rowsI es rs k ∧ b ≠ k) : (c && !st) = frB es b k := by
  rw [Bool.eq_iff_iff, Bool.and_eq_true, hc, frB_iff, Bool.not_eq_true', ← Bool.not_eq_true, hst]
  constructor
  · rintro ⟨⟨o, ho, hko, hb⟩, hn⟩
    obtain ⟨hb1, hb2⟩ := mem_rowsI.mp hb
    refine ⟨⟨o, (mem o).mp ho, domB_iff.mp hb2, hko⟩, ?_⟩
    by_cases e : k = b
    · exact .inl e
    · refine .inr (Classical.byContradiction fun z => hn ⟨mem_rowsI.mpr ⟨hb1, domB_iff.mpr z⟩, fun y => e y.symm⟩)
  · rintro ⟨⟨o, ho, hd, hko⟩, h⟩
    have hb1 := (mem b).mpr (dom_reached ho hd)
    refine ⟨⟨o, (mem o).mpr ho, hko, mem_rowsI.mpr ⟨hb1, domB_iff.mpr hd⟩⟩, ?_⟩
    rintro ⟨h1, h2⟩
    rcases h with h | h
    · exact h2 h.symm
    · exact domB_iff.mp (mem_rowsI.mp h1).2 h
theorem filter_frI {es : List Ge} (hok : Gok es) {rs : List Int} (ris : rs.Pairwise (· < ·)) (mem : ∀ k, k ∈ rs ↔ Rch es none k) (b : Int) : rs.filter (frB es b) = frI es b := by
  refine rising_eq (ris.filter _) (frI_rising es b) fun k => ?_
  rw [List.mem_filter, mem_frI hok, frB_iff, mem]
  refine ⟨fun h => h.2, fun h => ⟨?_, h⟩⟩
  obtain ⟨⟨o, ho, _, hk⟩, _⟩ := h
  exact .step ho hk (by simp)
section
variable {P : Program} {w : World} {K : PySem.W.Frag} {mg : Str → Option Value} {base : Heap}
def spLFront (K : PySem.W.Frag) : Sp := fun vs H Q _ => ∃ (F d : Addr) (b : Int) (es : List Ge) (rs : List Int), vs = [.ref F, .ref d, .int b] ∧ ArrAt H F es ∧ TabAt H d es rs ∧ Gok es ∧ ∀ t H', Same H H' → H' t = some (.tup ((frI es b).map V.int)) → Q (.ref t) H'
theorem sc_lfront : FnScope NLF ["_law_arrows_here", "_law_rows", "_law_block"] (defScope (topS 25)) := ⟨rfl, rfl, rfl, by decide +kernel, rfl, by decide +kernel, by decide +kernel⟩
theorem ok_lfront {f : Addr} {fd : FuncData} (D : Df K mg "_law_front" (topS 25) ["_law_arrows_here", "_law_rows", "_law_block"] f fd) (B : Bt mg) (bI : mg "int" = none) : FnOk P w K mg base CX0 1 f fd ["_law_arrows_here", "_law_rows", "_law_block"] (spLFront K) := by
  refine D.fn.ok sc_lfront (fun vs H Q E h => ?_) (fun cdv A outer s H vs Q E hr h => ?_)
  · obtain ⟨F, d, b, es, rs, rfl, _⟩ := h
    rfl
  obtain ⟨F, d, b, es, rs, rfl, hA, hT, hok, q⟩ := h
  have nd := sc_lfront.nd
  have hu := hr.units
  have hu1 := Nat.lt_of_le_of_lt (Nat.add_le_add_left (by decide : 1 ≤ 64) _) hu
  refine ⟨_, (pss_cons (ps_set (i := 3) nd rfl (Or.inl rfl) (pe_lst pa_nil))
    (pss_cons (ps_lock (ps_for PassesOwn.never rfl (pi_keys (pv 1)) (pg_name (i := 4) nd rfl (Or.inr rfl))
    (C8.pss_cut (ps_set (i := 5) nd rfl (Or.inl rfl) (pe_and (pe_cmpR (r := rIn K false) op_in_seq (pv 2) (pe_dget hu1 (pv 1) (pv 4) (fun _ _ => rfl)) (by with_unfolding_all rfl)) (pe_one (pe_cmpR op_ne (pv 2) (pv 4) (nomark _)))))
    (C8.pss_cut (ps_setLc (i := 6) (own := [("_law_one", 7)]) (g := gName 7) (tt := tAnd (tTest (tOp (rIn K false) (tVar 4) (tOp (rIxL K) (tVar 0) (tVar 7)))) (tTest (tOp (rIn K false) (tVar 2) (tDGet (tVar 1) (tVar 7))))) rfl nd rfl rfl (sw_true rfl rfl rfl (by decide +kernel)) (pi_keys (pv 1)) (blkOk_by (N := NLF) (sc := defScope (topS 25)) (by decide +kernel)) (fun _ _ _ _ _ => pg_name (i := 7) nd rfl (Or.inl rfl)) (fun _ _ _ _ _ => (pts_one (PW.pt (pw_and (pt_cmpR (r := rIn K false) op_in_seq (pv 4) (pe_ix (r := rIxL K) ix_list (pv 0) (pv 7) (fun _ _ => rfl)) (by with_unfolding_all rfl)) (pw_and1 (pt_cmpR (r := rIn K false) op_in_seq (pv 2) (pe_dget hu1 (pv 1) (pv 7) (fun _ _ => rfl)) (by with_unfolding_all rfl))))))) (fun _ _ _ _ _ => (pv 7)))
    (pss_one (ps_set (i := 3) nd rfl (Or.inl rfl) (pe_op op_cat (pv 3) (pe_op op_rep (pe_lst (pa_cons (pv 4) pa_nil)) (pe_callTy call_int1 (by rfl) bI (by decide +kernel) (pa_cons (pe_and (pe_cmpR (op_neD hu) (pv 6) (pe_lst pa_nil) (nomark _)) (pe_one (pe_not (pv 5)))) pa_nil))))))))))
    (pss_one (ps_ret (pe_callTy call_tuple_of (by rfl) B.tuple (by decide +kernel) (pa_cons (pe_callB cr_sorted (by rfl) B.sorted (by decide +kernel) (pa_cons (pv 3) pa_nil)) pa_nil)))))), ?_⟩
  have few := hok.few
  have ris := hT.ris
  have mem := hT.mem
  have rl : rs.length ≤ 60 := Nat.le_trans (few_ints es.length (ris.imp fun h => by omega) fun k hk => ((mem k).mp hk).rng hok) few
  obtain ⟨L, hd, hk, hv⟩ := hT.ex
  have ak : (akv L).map (·.1) = rs.map Sum.inl := by
    rw [← hk]
    show (L.map _).map _ = _
    rw [List.map_map, List.map_map]
    rfl
  have al : (akv L).length = rs.length := by rw [← List.length_map (f := (·.1)), ak, List.length_map]
  refine ⟨Nat.zero_le _, fun Lf hLf => ?_⟩
  refine ⟨d, _, same_new hLf _ _ hd, trivial, fun od => ?_⟩
  have nF : d ≠ Lf := ne_of_none hd hLf
  have low : ∀ {H' : Hp}, (∀ c o, c ≠ d → H c = some o → H' c = some o) → Same H (upd H' d (.dK (akv L))) := fun h c o e => by
    by_cases z : c = d
    · subst z
      rw [upd_same, ← hd, e]
    · rw [upd_ne z]
      exact h c o z e
  have row : ∀ {H' : Hp}, (∀ c o, c ≠ d → H c = some o → H' c = some o) → H' d = some (.frz od (.dK (akv L))) → ∀ k, k ∈ rs → ∃ Aa, DGet H' d (.int k) (some (.ref Aa)) ∧ H' Aa = some (.lst ((rowsI es rs k).map V.int)) := fun s' f' k hkm => by
    obtain ⟨Aa, h1, h2⟩ := akv_get (L := L) (k := k) (by rw [hk]; exact hkm)
    exact ⟨Aa, .inl ⟨_, Sum.inl k, .inr ⟨od, f'⟩, rfl, h2.symm⟩, s' _ _ (hv _ h1).1 (hv _ h1).2⟩
  refine ⟨_, rfl, d, od, rfl, .inl ⟨_, upd_same, for_it (walk_keys ak) (fun i σ H' => ∃ (Lc : Addr) (x4 x5 x6 : Option V), σ = [some (.ref F), some (.ref d), some (.int b), some (.ref Lc), x4, x5, x6, none] ∧ (∀ c o, c ≠ d → H c = some o → H' c = some o) ∧ H' d = some (.frz od (.dK (akv L))) ∧ H' Lc = some (.lst (((rs.take i).filter (frB es b)).map V.int)))
    ⟨Lf, none, none, none, rfl, fun c o hn e => by rw [upd_ne hn]; exact same_new hLf _ _ e, upd_same, by rw [upd_ne (Ne.symm nF)]; exact upd_same⟩ (fun i σ H' _ h => by obtain ⟨_, _, _, _, _, _, h', _⟩ := h; exact h') ?_ ?_⟩⟩
  · rintro i x σ H4 H5 hi ⟨Lc, x4, x5, x6, rfl, s4, f4, l4⟩ ⟨he5, hx⟩
    subst he5
    rw [List.getElem?_map] at hx
    obtain ⟨k, hki, rfl⟩ := Option.map_eq_some_iff.mp hx
    have hkm := List.mem_of_getElem? hki
    have etk : rs.take (i + 1) = rs.take i ++ [k] := by rw [List.take_succ, hki]; rfl
    have tl : ((rs.take i).filter (frB es b)).length ≤ 60 := Nat.le_trans (List.length_filter_le _ _) (Nat.le_trans (List.length_take_le' _ _) rl)
    refine ⟨fun σ H' => ∃ st : Bool, σ = [some (.ref F), some (.ref d), some (.int b), some (.ref Lc), some (.int k), some (.bl st), x6, none] ∧ H' = H5 ∧ (st = true ↔ b ∈ rowsI es rs k ∧ b ≠ k), ?_, ?_⟩
    · obtain ⟨Aa, g1, g2⟩ := row s4 f4 k hkm
      refine ⟨_, rfl, _, rfl, _, rfl, d, _, rfl, g1, Aa, _, rfl, .inl (SqL.of g2), rfl, flat_ints _, _, rfl, ?_⟩
      rw [if_neg (show ¬ (false = true) by simp), inV_ints]
      refine and_V (c2 := !decide (V.int b = V.int k)) (fun Q' q' => ⟨_, rfl, _, rfl, rfl, q'⟩) ?_
      refine ⟨_, rfl, rfl, ?_⟩
      rw [Bool.and_eq_true, decide_eq_true_iff]
      refine and_congr_right fun _ => ?_
      rw [Bool.not_eq_true', decide_eq_false_iff_not]
      exact ⟨fun z y => z (by rw [y]), fun z y => z (by injection y)⟩
    rintro σ5 H5' ⟨st, rfl, he, hst⟩
    subst he
    refine ⟨fun σ H' => ∃ (Ow : Addr) (ns : List Int), σ = [some (.ref F), some (.ref d), some (.int b), some (.ref Lc), some (.int k), some (.bl st), some (.ref Ow), none] ∧ Same H5' H' ∧ H' Ow = some (.lst (ns.map V.int)) ∧ (ns ≠ [] ↔ ∃ o ∈ rs, k ∈ arr es o ∧ b ∈ rowsI es rs o), ?_, ?_⟩
    · refine ⟨_, rfl, d, od, rfl, .inl ⟨_, f4, fun Ow hOw => ?_⟩⟩
      refine lc_pure (walk_keys ak) (fun j => decide (k ∈ arr es (rs.getD j 0)) && decide (b ∈ rowsI es rs (rs.getD j 0))) (fun j => V.int (rs.getD j 0)) hOw (fun H' h => h _ _ f4) (big_size (by omega)) ?_ ?_ ?_
      · intro j y H6 Q6 hj hy s6 q6
        rw [List.getElem?_map] at hy
        obtain ⟨o, ho, rfl⟩ := Option.map_eq_some_iff.mp hy
        rw [show rs.getD j 0 = o by rw [List.getD_eq_getElem?_getD, ho]; rfl] at q6
        have hom := List.mem_of_getElem? ho
        obtain ⟨y0, y1⟩ := ((mem o).mp hom).rng hok
        obtain ⟨as, a, ea, eb, ec, _⟩ := hA.at y0 y1
        have nl : ∀ {c : Addr} {xs : List V}, H c = some (.lst xs) → c ≠ d := fun h z => by rw [z, hd] at h; cases h
        have s46 : ∀ c o, c ≠ d → H c = some o → H6 c = some o := fun c o hn e => s6 _ _ (s4 c o hn e)
        have ea6 := s46 _ _ (nl ea) ea
        have ec6 := s46 _ _ (nl ec) ec
        obtain ⟨Aa, g1, g2⟩ := row s46 (s6 _ _ f4) o hom
        refine ⟨_, rfl, _, rfl, _, rfl, F, _, _, _, rfl, rfl, SqL.of ea6, eb, a, _, rfl, .inl (SqL.of ec6), rfl, flat_ints _, _, rfl, ?_⟩
        rw [if_neg (by simp), inV_ints]
        cases hc1 : decide (k ∈ arr es o) with
        | false =>
          rw [hc1, Bool.false_and] at q6
          exact (if_neg (by simp)).mpr (q6 H6 (Same.refl _))
        | true =>
          rw [hc1, Bool.true_and] at q6
          refine (if_pos rfl).mpr ⟨_, rfl, _, rfl, _, rfl, d, _, rfl, g1, Aa, _, rfl, .inl (SqL.of g2), rfl, flat_ints _, _, rfl, ?_⟩
          rw [if_neg (by simp), inV_ints]
          exact q6 H6 (Same.refl _)
      · intro j y H6 Q6 hj hy _ s6 q6
        rw [List.getElem?_map] at hy
        obtain ⟨o, ho, rfl⟩ := Option.map_eq_some_iff.mp hy
        rw [show rs.getD j 0 = o by rw [List.getD_eq_getElem?_getD, ho]; rfl] at q6
        exact ⟨_, rfl, q6 H6 (Same.refl _)⟩
      · intro H6 s6 hO6
        rw [al, range_filter (fun o => decide (k ∈ arr es o) && decide (b ∈ rowsI es rs o)) V.int 0 rs] at hO6
        refine ⟨Ow, _, rfl, s6, hO6, ?_⟩
        rw [Ne, List.filter_eq_nil_iff]
        constructor
        · intro h
          refine Classical.byContradiction fun z => h fun o ho y => z ⟨o, ho, ?_⟩
          simpa using y
        · rintro ⟨o, ho, h1, h2⟩ h
          exact h o ho (by simp [h1, h2])
    rintro σ6 H6 ⟨Ow, ns, rfl, s6, hO6, hns⟩
    refine ⟨_, rfl, _, rfl, by show 1 ≤ sizeLine; decide, fun N1 hN1 => ?_⟩
    have sN1 := same_new (o := .lst [V.int k]) hN1
    have eN1 : upd H6 N1 (.lst [V.int k]) N1 = some (.lst [V.int k]) := upd_same
    generalize upd H6 N1 (.lst [V.int k]) = H7 at sN1 eN1
    refine ⟨_, rfl, Nat.zero_le _, fun N2 hN2 => ?_⟩
    have sN2 := same_new (o := .lst []) hN2
    refine ⟨.list (ns.map PyData.int), .list [], ints_list (sN2 _ _ (sN1 _ _ hO6)), .lst (SqL.of upd_same) .nil, ints_shaped _, nil_shaped, _, rfl, ?_⟩
    have s58 := s6.trans (sN1.trans sN2)
    have eN18 := sN2 _ _ eN1
    generalize upd H7 N2 (.lst []) = H8 at s58 eN18
    rw [eqv_nil_list]
    refine and_V (c2 := !st) (fun Q' q' => ⟨_, rfl, _, rfl, q'⟩) ?_
    have hcc : (!(ns.map PyData.int).isEmpty) = true ↔ ∃ o ∈ rs, k ∈ arr es o ∧ b ∈ rowsI es rs o := by
      rw [← hns]
      cases ns <;> simp
    rw [rows_fr mem hkm hcc hst]
    have hrep : (List.replicate (if frB es b k = true then (1 : Int) else 0).toNat [V.int k]).flatten = ([k].filter (frB es b)).map V.int := by
      cases hf : frB es b k <;> simp [hf]
    refine .inr ⟨_, rfl, N1, _, _, rfl, rfl, eN18, ?_, ?_, ?_, fun p hp => ?_⟩
    · split <;> decide
    · split <;> decide
    · rw [sizeLine_eq]
      split <;> simp
    rw [hrep]
    have sp := same_new (o := .lst (([k].filter (frB es b)).map V.int)) hp
    have l8 := sp _ _ (s58 _ _ l4)
    have f8 := sp _ _ (s58 _ _ f4)
    have s8 := s58.trans sp
    have e8 : upd H8 p (.lst (([k].filter (frB es b)).map V.int)) p = _ := upd_same
    generalize upd H8 p (.lst (([k].filter (frB es b)).map V.int)) = H9 at l8 f8 s8 e8
    refine ⟨Lc, p, _, _, rfl, rfl, l8, e8, ?_, fun p2 hp2 => ?_⟩
    · have := List.length_filter_le (frB es b) [k]
      rw [List.length_map, List.length_map, sizeLine_eq]
      rw [List.length_singleton] at this
      omega
    have sp2 := same_new (o := .lst (((rs.take i).filter (frB es b)).map V.int ++ ([k].filter (frB es b)).map V.int)) hp2
    refine ⟨p2, _, _, _, rfl, fun c o hn e => sp2 _ _ (s8 _ _ (s4 c o hn e)), sp2 _ _ f8, ?_⟩
    rw [upd_same, etk, List.filter_append, List.map_append]
  · rintro σ H4 ⟨Lc, x4, x5, x6, rfl, s4, f4, l4⟩
    refine ⟨f4, ?_⟩
    rw [al, List.take_length, filter_frI hok ris mem b] at l4
    have nL : Lc ≠ d := fun z => by rw [z, f4] at l4; cases l4
    have s5 := low s4
    have l5 : upd H4 d (.dK (akv L)) Lc = some (.lst ((frI es b).map V.int)) := by rw [upd_ne nL]; exact l4
    generalize upd H4 d (.dK (akv L)) = H5 at s5 l5
    have fl := frI_len es b
    refine ⟨_, rfl, Lc, frI es b, rfl, SqL.of l5, by omega, fun ns' p perm ris' new => ?_⟩
    have e : ns' = frI es b := rising_eq (rising_of ris' (perm.nodup_iff.mpr ((frI_rising es b).imp fun h => by omega))) (frI_rising es b) fun k => perm.mem_iff
    subst e
    refine ⟨p, _, rfl, .inl ⟨SqL.of upd_same, fun t ht => ?_⟩⟩
    exact q t _ (s5.trans ((same_new new).trans (same_new ht))) upd_same
end
end Sw
set_option maxRecDepth 100000
set_option maxHeartbeats 4000000
namespace Sw
open PySem PySem.Spec PyProof.Rows L2
abbrev NLA : List Str := ["_law_fronts", "_law_blocks", "_law_found", "_law_turn", "_law_block", "_law_after"]
/-- the law's fronts -/
structure FrAt (H : Hp) (F : Addr) (es : List Ge) : Prop where
  ex : ∃ as : List Addr, H F = some (.lst (as.map V.ref)) ∧ as.length = es.length ∧ ∀ (i : Nat) (a : Addr), as[i]? = some a → H a = some (.tup ((frI es (i : Int)).map V.int))
theorem FrAt.same {H H' : Hp} {F : Addr} {es : List Ge} (h : FrAt H F es) (s : Same H H') : FrAt H' F es := by
  obtain ⟨as, h1, h2, h3⟩ := h.ex
  exact ⟨as, s _ _ h1, h2, fun i a e => s _ _ (h3 i a e)⟩
/-- nothing more comes -/
def CloA (es : List Ge) (bs fs : List Int) : Prop := ∀ b ∈ bs ++ fs, ∀ k ∈ frI es b, k ∈ fs
theorem CloA.all {es : List Ge} {bs fs : List Int} (h : CloA es bs fs) {k : Int} (a : Ag es bs k) : k ∈ fs := by
  induction a with
  | one hb hk => exact h _ (List.mem_append_left _ hb) _ hk
  | on _ hk ih => exact h _ (List.mem_append_right _ ih) _ hk
structure RndA (es : List Ge) (bs fs0 pr fs : List Int) : Prop where
  nd : fs.Nodup
  ag : ∀ k ∈ fs, Ag es bs k
  gr : fs = fs0 ∨ fs0.length < fs.length
  cl : CloA es bs fs0 → fs = fs0
  got : ∀ b ∈ pr, ∀ k ∈ frI es b, k ∈ fs
theorem RndA.few {es : List Ge} {bs fs0 pr fs : List Int} (h : RndA es bs fs0 pr fs) : fs.length ≤ es.length := few_ints es.length h.nd fun x hx => (h.ag x hx).rng
theorem RndA.step {es : List Ge} {bs fs0 pr fs : List Int} {b : Int} (h : RndA es bs fs0 pr fs) (hag : ∀ k ∈ fs0, Ag es bs k) (hb : b ∈ bs ++ fs0) : RndA es bs fs0 (pr ++ [b]) (fs ++ (frI es b).filter fun k => !decide (k ∈ fs)) := by
  have hnew : ∀ k ∈ frI es b, Ag es bs k := fun k hk => by
    rcases List.mem_append.mp hb with hb | hb
    · exact .one hb hk
    · exact .on (hag b hb) hk
  refine ⟨List.nodup_append.mpr ⟨h.nd, List.Pairwise.filter _ ((frI_rising es b).imp fun h => by omega), fun a ha c hc e => ?_⟩, fun k hk => ?_, ?_, fun c => ?_, fun b' hb' k hk => ?_⟩
  · subst e
    have := (List.mem_filter.mp hc).2
    simp at this
    exact this ha
  · rcases List.mem_append.mp hk with hk | hk
    · exact h.ag k hk
    · exact hnew k (List.mem_filter.mp hk).1
  · cases hf : (frI es b).filter (fun k => !decide (k ∈ fs)) with
    | nil => rw [List.append_nil]; exact h.gr
    | cons x xs =>
      refine .inr ?_
      rw [List.length_append, List.length_cons]
      rcases h.gr with e | e
      · rw [e]; omega
      · omega
  · have e := h.cl c
    subst e
    have : (frI es b).filter (fun k => !decide (k ∈ fs)) = [] := by
      rw [List.filter_eq_nil_iff]
      intro k hk
      simp [c b hb k hk]
    rw [this, List.append_nil]
  · rcases List.mem_append.mp hb' with hb' | hb'
    · exact List.mem_append_left _ (h.got b' hb' k hk)
    · have : b' = b := by simpa using hb'
      subst this
      by_cases z : k ∈ fs
      · exact List.mem_append_left _ z
      · exact List.mem_append_right _ (List.mem_filter.mpr ⟨hk, by simp [z]⟩)
section
variable {P : Program} {w : World} {K : PySem.W.Frag} {mg : Str → Option Value} {base : Heap}
def spLAgain (K : PySem.W.Frag) : Sp := fun vs H Q _ => ∃ (F tb : Addr) (bs : List Int) (es : List Ge), vs = [.ref F, .ref tb] ∧ FrAt H F es ∧ SqT K H tb (bs.map V.int) ∧ bs.length ≤ 60 ∧ es.length ≤ 60 ∧ (∀ b ∈ bs, 0 ≤ b ∧ b < (es.length : Int)) ∧ ∀ (t : Addr) (H' : Hp) (ns : List Int), Same H H' → H' t = some (.tup (ns.map V.int)) → ns.Pairwise (· < ·) → (∀ k, k ∈ ns ↔ Ag es bs k) → Q (.ref t) H'
theorem sc_lagain : FnScope NLA ["_law_fronts", "_law_blocks"] (defScope (topS 26)) := ⟨rfl, rfl, rfl, by decide +kernel, rfl, by decide +kernel, by decide +kernel⟩
theorem ok_lagain {f : Addr} {fd : FuncData} (D : Df K mg "_law_again" (topS 26) ["_law_fronts", "_law_blocks"] f fd) (B : Bt mg) : FnOk P w K mg base CX0 1 f fd ["_law_fronts", "_law_blocks"] (spLAgain K) := by
  refine D.fn.ok sc_lagain (fun vs H Q E h => ?_) (fun cdv A outer s H vs Q E hr h => ?_)
  · obtain ⟨F, tb, bs, es, rfl, _⟩ := h
    rfl
  obtain ⟨F, tb, bs, es, rfl, hF, htb, hbl, few, hbs, q⟩ := h
  have nd := sc_lagain.nd
  have hu := hr.units
  refine ⟨_, (pss_cons (ps_set (i := 2) nd rfl (Or.inr rfl) (pe_lst pa_nil))
    (pss_cons (ps_for PassesOwn.never rfl (pi_range1 (by rfl) B.range (pa_cons (pe_op op_add (pe_callB call_len_seq (by rfl) B.len PySem.boot_len (pa_cons (pv 0) pa_nil)) pe_int) pa_nil)) (pg_name (i := 3) nd rfl (Or.inl rfl))
    (pss_one (ps_for PassesOwn.never rfl (pi_list (pe_op op_cat (pe_callTy call_list_of (by rfl) B.list (by decide +kernel) (pa_cons (pv 1) pa_nil)) (pv 2))) (pg_name (i := 4) nd rfl (Or.inl rfl))
    (pss_one (ps_set (i := 2) nd rfl (Or.inr rfl) (pe_op op_cat (pv 2) (pe_lc (own := [("_law_after", 5)]) (g := gName 5) (tt := tTest (tOp (rIn K true) (tVar 5) (tVar 2))) rfl nd (pi_tup (pe_ix (r := rIxL K) ix_list (pv 0) (pv 4) (fun _ _ => rfl))) (blkOk_by (N := NLA) (sc := defScope (topS 26)) (by decide +kernel)) (fun _ _ _ _ _ => pg_name (i := 5) nd rfl (Or.inl rfl)) (fun _ _ _ _ _ => (pts_one (pt_cmpR (r := rIn K true) op_notIn_seq (pv 5) (pv 2) (by with_unfolding_all rfl)))) (fun _ _ _ _ _ => (pv 5)))))))))
    (pss_one (ps_ret (pe_callTy call_tuple_of (by rfl) B.tuple (by decide +kernel) (pa_cons (pe_callB cr_sorted (by rfl) B.sorted (by decide +kernel) (pa_cons (pv 2) pa_nil)) pa_nil)))))), ?_⟩
  obtain ⟨as, F0, la, ha⟩ := hF.ex
  have las : (as.map V.ref).length = es.length := by rw [List.length_map]; exact la
  refine ⟨Nat.zero_le _, fun L0 hL0 => ?_⟩
  have s0 := same_new (o := .lst []) hL0
  have e0 : upd H L0 (.lst []) L0 = some (.lst (([] : List Int).map V.int)) := upd_same
  generalize upd H L0 (.lst []) = H0 at s0 e0
  refine ⟨_, rfl, F, _, rfl, .inl (SqL.of (s0 _ _ F0)), _, _, rfl, rfl, _, rfl, ?_⟩
  rw [las]
  refine ⟨by omega, by omega, ?_⟩
  rw [show ((es.length : Int) + 1).toNat = es.length + 1 by omega]
  refine for_it walk_rangeA (fun t σ H' => ∃ (Lc : Addr) (fs : List Int) (x3 x4 : Option V), σ = [some (.ref F), some (.ref tb), some (.ref Lc), x3, x4, none] ∧ Same H H' ∧ H' Lc = some (.lst (fs.map V.int)) ∧ fs.Nodup ∧ (∀ k ∈ fs, Ag es bs k) ∧ (CloA es bs fs ∨ t ≤ fs.length))
    ⟨L0, [], none, none, rfl, s0, e0, List.nodup_nil, fun k h => absurd h List.not_mem_nil, .inr (Nat.zero_le _)⟩ (fun _ _ _ _ _ => trivial) ?_ ?_
  · rintro t x σ H2 H3 ht ⟨Lc, fs0, x3, x4, rfl, s2, l2, nd2, ag2, cl2⟩ ⟨he, hx⟩
    subst he
    obtain ⟨rfl, _⟩ := ivs_at hx
    have fl0 : fs0.length ≤ es.length := few_ints es.length nd2 fun x hx => (ag2 x hx).rng
    refine ⟨_, rfl, tb, _, rfl, .inr (sameT s2 htb), fun Lb hLb => ?_⟩
    have sb := same_new (o := .lst (bs.map V.int)) hLb
    have eb : upd H3 Lb (.lst (bs.map V.int)) Lb = some (.lst (bs.map V.int)) := upd_same
    generalize upd H3 Lb (.lst (bs.map V.int)) = H4 at sb eb
    refine ⟨_, rfl, Lb, Lc, _, _, rfl, rfl, eb, sb _ _ l2, ?_, fun W hW => ?_⟩
    · rw [List.length_map, List.length_map, sizeLine_eq]
      omega
    rw [← List.map_append]
    have sW := same_new (o := .lst ((bs ++ fs0).map V.int)) hW
    have eW : upd H4 W (.lst ((bs ++ fs0).map V.int)) W = some (.lst ((bs ++ fs0).map V.int)) := upd_same
    have l4 := sW _ _ (sb _ _ l2)
    have s4 := s2.trans (sb.trans sW)
    generalize upd H4 W (.lst ((bs ++ fs0).map V.int)) = H5 at sW eW l4 s4
    refine ⟨W, rfl, ⟨_, SqL.of eW⟩, for_it (walk_list (xs := (bs ++ fs0).map V.int)) (fun j σ H' => ∃ (Lc : Addr) (fs : List Int) (x4 : Option V), σ = [some (.ref F), some (.ref tb), some (.ref Lc), some (.int (t : Int)), x4, none] ∧ Same H H' ∧ H' Lc = some (.lst (fs.map V.int)) ∧ H' W = some (.lst ((bs ++ fs0).map V.int)) ∧ RndA es bs fs0 ((bs ++ fs0).take j) fs)
      ⟨Lc, fs0, _, rfl, s4, l4, eW, nd2, ag2, .inl rfl, fun _ => rfl, fun b hb => absurd hb (by simp)⟩ (fun j σ H' _ h => by obtain ⟨_, _, _, _, _, _, h', _⟩ := h; exact SqL.of h') ?_ ?_⟩
    · rintro j x σ H6 H7 hj ⟨L6, fs, x4', rfl, s6, l6, w6, R⟩ ⟨he, hx⟩
      subst he
      rw [List.getElem?_map] at hx
      obtain ⟨b, hb, rfl⟩ := Option.map_eq_some_iff.mp hx
      have hbm := List.mem_of_getElem? hb
      have etk : (bs ++ fs0).take (j + 1) = (bs ++ fs0).take j ++ [b] := by rw [List.take_succ, hb]; rfl
      have fl := R.few
      have R' := R.step ag2 hbm
      rw [← etk] at R'
      have fl' := R'.few
      obtain ⟨b0, b1⟩ : 0 ≤ b ∧ b < (es.length : Int) := by
        rcases List.mem_append.mp hbm with h | h
        · exact hbs b h
        · exact (ag2 b h).rng
      obtain ⟨n, rfl⟩ : ∃ n : Nat, b = (n : Int) := ⟨b.toNat, by omega⟩
      have hn : n < as.length := by omega
      have han := ha n as[n] (List.getElem?_eq_getElem hn)
      have ean : (as.map V.ref)[n]? = some (.ref as[n]) := by rw [List.getElem?_map, List.getElem?_eq_getElem hn]; rfl
      have frl := frI_len es (n : Int)
      have hF6 := s6 _ _ F0
      have ha6 := s6 _ _ han
      refine ⟨_, rfl, _, rfl, _, rfl, F, _, _, _, rfl, rfl, SqL.of hF6, atI_nat ean, as[n], rfl, ⟨_, SqT.of ha6⟩, fun Dn hDn => ?_⟩
      refine lc_pure (walk_tup (xs := (frI es (n : Int)).map V.int)) (fun i => !decide ((frI es (n : Int)).getD i 0 ∈ fs)) (fun i => V.int ((frI es (n : Int)).getD i 0)) hDn (fun _ h => SqT.of (h _ _ ha6)) (big_size (by rw [List.length_map]; omega)) ?_ ?_ ?_
      · intro i y H8 Q8 hi hy s8 q8
        rw [List.getElem?_map] at hy
        obtain ⟨k, hki, rfl⟩ := Option.map_eq_some_iff.mp hy
        rw [show (frI es (n : Int)).getD i 0 = k by rw [List.getD_eq_getElem?_getD, hki]; rfl] at q8
        refine ⟨_, rfl, _, rfl, L6, _, rfl, .inl (SqL.of (s8 _ _ l6)), rfl, flat_ints _, _, rfl, ?_⟩
        rw [if_pos rfl, inV_ints]
        exact q8 H8 (Same.refl _)
      · intro i y H8 Q8 hi hy _ s8 q8
        rw [List.getElem?_map] at hy
        obtain ⟨k, hki, rfl⟩ := Option.map_eq_some_iff.mp hy
        rw [show (frI es (n : Int)).getD i 0 = k by rw [List.getD_eq_getElem?_getD, hki]; rfl] at q8
        exact ⟨_, rfl, q8 H8 (Same.refl _)⟩
      · intro H8 s8 hD8
        rw [List.length_map, range_filter (fun k => !decide (k ∈ fs)) V.int 0 (frI es (n : Int))] at hD8
        refine ⟨L6, Dn, _, _, rfl, rfl, s8 _ _ l6, hD8, ?_, fun p hp => ?_⟩
        · rw [List.length_append] at fl'
          rw [List.length_map, List.length_map, sizeLine_eq]
          omega
        rw [← List.map_append]
        have sp := same_new (o := .lst ((fs ++ (frI es (n : Int)).filter fun k => !decide (k ∈ fs)).map V.int)) hp
        exact ⟨p, _, _, rfl, s6.trans (s8.trans sp), upd_same, sp _ _ (s8 _ _ w6), R'⟩
    · rintro σ H6 ⟨L6, fs, x4', rfl, s6, l6, w6, R⟩
      rw [List.length_map, List.take_length] at R
      refine ⟨L6, fs, _, _, rfl, s6, l6, R.nd, R.ag, ?_⟩
      rcases cl2 with h | h
      · rw [R.cl h]
        exact .inl h
      · rcases R.gr with e | e
        · subst e
          exact .inl fun b hb k hk => R.got b hb k hk
        · exact .inr (by omega)
  · rintro σ H2 ⟨Lc, fs, x3, x4, rfl, s2, l2, nd2, ag2, cl2⟩
    have fl : fs.length ≤ es.length := few_ints es.length nd2 fun x hx => (ag2 x hx).rng
    have clo : CloA es bs fs := cl2.elim id fun h => by omega
    refine ⟨_, rfl, Lc, fs, rfl, SqL.of l2, by omega, fun ns' p perm ris' new => ?_⟩
    refine ⟨p, _, rfl, .inl ⟨SqL.of upd_same, fun t ht => ?_⟩⟩
    exact q t _ ns' (s2.trans ((same_new new).trans (same_new ht))) upd_same (rising_of ris' (perm.nodup_iff.mpr nd2)) fun k => (perm.mem_iff).trans ⟨ag2 k, fun h => clo.all h⟩
end
end Sw
set_option maxRecDepth 100000
set_option maxHeartbeats 4000000
namespace Sw
open PySem PySem.Spec PyProof.Rows L2
section
variable {prog : Program} {w : World} {A : Around} {E : Value → Shared → Prop} {s : Shared}
theorem rev_places (n : Nat) : Builtin.Slice.slicePlaces ((n : Int) - 1) (-1) (-1) = n := by
  unfold Builtin.Slice.slicePlaces
  simp
  omega
theorem applied_rev {sl : Addr} {vl vu vs : Value} {n : Nat} {Q : Int × Int × Nat → Shared → Prop} (hs : s.heap.IsSliceOf sl vl vu vs) (pl : IsPart vl none) (pu : IsPart vu none) (ps : IsPart vs (some (-1)))
    (h : Q ((n : Int) - 1, -1, n) s) : wpAny (model prog w) A (Builtin.Slice.sliceApplied (.ref sl) (pure (n : Int))) Q E s := by
  obtain ⟨os, hos, hcs, hds⟩ := id hs
  unfold Builtin.Slice.sliceApplied Builtin.Slice.sliceFields
  refine wpAny_bind (wpAny_bind (wpAny_field hos hds (x := vl) rfl (wpAny_bind (wpAny_field hos hds (x := vu) rfl (wpAny_bind (wpAny_field hos hds (x := vs) rfl (wpAny_pure ?_)))))))
  refine wpAny_bind (HT.slicePart_ ps ?_)
  show wpAny _ _ (if ((-1 : Int) == 0) = true then _ else _) _ _ s
  rw [if_neg (by decide)]
  refine wpAny_bind (HT.slicePart_ pl (wpAny_bind (HT.slicePart_ pu (wpAny_bind (wpAny_pure ?_)))))
  have e : Builtin.Slice.sliceAdjust none none (-1) (n : Int) = ((n : Int) - 1, -1) := by
    unfold Builtin.Slice.sliceAdjust
    simp
  show wpAny _ _ (match Builtin.Slice.sliceAdjust none none (-1) (n : Int) with | (lo, hi) => pure (lo, (-1 : Int), Builtin.Slice.slicePlaces lo hi (-1))) _ _ s
  rw [e]
  show wpAny _ _ (pure ((n : Int) - 1, (-1 : Int), Builtin.Slice.slicePlaces ((n : Int) - 1) (-1) (-1))) _ _ s
  rw [rev_places]
  exact wpAny_pure h
theorem fm_map {α β : Type} (f : α → Option β) (g : α → β) : ∀ l : List α, (∀ k ∈ l, f k = some (g k)) → l.filterMap f = l.map g
  | [], _ => rfl
  | k :: l, h => by
    rw [List.filterMap_cons, h k List.mem_cons_self, List.map_cons]
    dsimp only
    rw [fm_map f g l fun j hj => h j (List.mem_cons_of_mem _ hj)]
theorem rev_pick (xs : Array Value) : ((List.range xs.size).filterMap fun (k : Nat) => xs[(((xs.size : Int) - 1) + (k : Int) * (-1)).toNat]?) = xs.toList.reverse := by
  have e : ((List.range xs.size).filterMap fun (k : Nat) => xs[(((xs.size : Int) - 1) + (k : Int) * (-1)).toNat]?) = (List.range xs.size).map fun k => xs.toList.reverse.getD k .none := by
    refine fm_map _ _ _ fun k hk => ?_
    have hk' : k < xs.size := List.mem_range.mp hk
    have e1 : (((xs.size : Int) - 1) + (k : Int) * (-1)).toNat = xs.size - 1 - k := by omega
    have e2 : xs.size - 1 - k < xs.size := by omega
    rw [e1, Array.getElem?_eq_getElem e2]
    simp [List.getD, List.getElem?_reverse, hk']
  rw [e]
  apply List.ext_getElem?
  intro i
  rw [List.getElem?_map]
  by_cases h : i < xs.size
  · rw [List.getElem?_range h]
    have : i < xs.toList.reverse.length := by simpa using h
    rw [List.getElem?_eq_getElem this]
    simp [List.getD, List.getElem?_eq_getElem this]
  · rw [List.getElem?_eq_none (by simpa using h), List.getElem?_eq_none (by simpa using h)]
    rfl
theorem tuple_rev {t sl : Addr} {items : Array Value} {vl vu vs : Value} {Q : Value → Shared → Prop} (ht : IsTup s.heap t items) (hs : s.heap.IsSliceOf sl vl vu vs) (pl : IsPart vl none) (pu : IsPart vu none) (ps : IsPart vs (some (-1)))
    (h : Q (.ref s.heap.objs.size) { s with heap := s.heap.push { cls := .type "tuple", data := .seq items.toList.reverse.toArray } }) (hsz : items.size ≤ sizeLine) : wpAny (model prog w) A (getItem (.ref t) (.ref sl)) Q E s := by
  obtain ⟨os, hos, hcs, hds⟩ := id hs
  have hTs : s.TypeIs (.ref sl) "slice" := ⟨os, hos, hcs⟩
  have htake : sizeOk (.seq items.toList.reverse.toArray) := by
    show items.toList.reverse.toArray.size ≤ sizeLine
    simpa using hsz
  unfold getItem
  try with_reducible refine wpAny_holding ?_
  first | refine wpAny_bind (wpAny_pure ?_) | skip
  refine wpAny_bind (wpAny_sequenceKey ht.typeIs (by decide) ?_)
  refine wpAny_bind (wpAny_callSpecial?_slot (name := Str.ofString "__getitem__") ht.typeIs PyProof.Rows.slot_tuple_getitem (wpAny_call_entry PyProof.Rows.slot_tuple_getitem ht.typeIs entry_tuple_getitem ?_ (args_tuple_getitem _ _)))
  show wpAny _ _ (Builtin.Tuple.tupleItemsOf (.ref t) >>= _) _ _ s
  refine wpAny_bind (tupleItemsOf_ ht (wpAny_bind (wpAny_typeOf hTs ?_)))
  rw [if_pos (by decide)]
  refine wpAny_bind (applied_rev hs pl pu ps ?_)
  show wpAny _ _ (if ((((items.size : Int) - 1) == 0 && (-1 : Int) == 1 && items.size == items.size) = true) then _ else _) _ _ s
  rw [if_neg (by simp), rev_pick]
  first
    | exact wpAny_bind (m := Builtin.Tuple.tupleExact _) (wpAny_newObj_type (wpAny_pure ⟨_, rfl, wpAny_pure h⟩) htake)
    | exact wpAny_bind (m := Builtin.Tuple.tupleExact _) (wpAny_newObj_type (wpAny_bind (wpAny_pure (wpAny_pure ⟨_, rfl, wpAny_pure h⟩))) htake)
    | exact wpAny_bind (wpAny_bind (m := Builtin.Tuple.tupleExact _) (wpAny_newObj_type (wpAny_pure (wpAny_pure ⟨_, rfl, wpAny_pure h⟩)) htake))
    | exact wpAny_bind (wpAny_bind (m := Builtin.Tuple.tupleExact _) (wpAny_newObj_type (wpAny_pure ⟨_, rfl, wpAny_pure h⟩) htake))
end
section
variable {X : Cx}
/-- t[::-1] -/
def tRevT (K : PySem.W.Frag) (te : TE) : TE := fun σ H Q => te σ H fun x H1 => ∃ a xs, x = .ref a ∧ SqT K H1 a xs ∧ ∀ p, H1 p = none → Q (.ref p) (upd H1 p (.tup xs.reverse))
theorem pe_revT {e : Expr} {te : TE} {k : Nat} {p1 p2 p3 pos : Pos} (he : PE X e te) : PE X (.Subscript e (.Slice none none (some (.UnaryOp .USub (.Constant (.int 1) k p1) p2)) p3) pos) (tRevT X.K te) := by
  refine ⟨fun pins s σ H Q I h => Subscript_ (thn (he.run pins s σ H _ I h) fun v s1 ⟨x, H1, I1, r1, q1⟩ => ?_)⟩
  obtain ⟨a, xs, ex, hx, q⟩ := q1
  subst ex
  cases r1
  have hst : PO X (some (.UnaryOp .USub (.Constant (.int 1) k p1) p2)) (tPart (tUn (rU fun i => .int (-i)) (tC (.int 1)))) := po_some (pe_un un_neg pe_int)
  refine wpAny_Slice (thn (po_none.run pins s1 σ H1 (fun o G => o = none ∧ G = H1) I1 ⟨rfl, rfl⟩) fun vl s2 hl2 => ?_)
  obtain ⟨_, _, I2, pl, rfl, rfl⟩ := hl2
  refine thn (po_none.run pins s2 σ _ (fun o G => o = none ∧ G = _) I2 ⟨rfl, rfl⟩) fun vu s3 hl3 => ?_
  obtain ⟨_, _, I3, pu, rfl, rfl⟩ := hl3
  refine thn (hst.run pins s3 σ _ (fun o G => o = some (-1) ∧ G = _) I3 ⟨1, rfl, -1, rfl, rfl, rfl⟩) fun vs s4 hl4 => ?_
  obtain ⟨_, H4, I4, ps, rfl, rfl⟩ := hl4
  have I5 : Inv X pins σ H4 { s4 with heap := s4.heap.push { cls := .type "slice", data := .fields #[vl, vu, vs] } } := I4.kept (t' := s4.toks) fun b ob q => Heap.get?_push_of_some _ q
  obtain ⟨its, r, ht, hz⟩ := I5.tuple hx
  have hlen := r.length
  show wpAny (model X.prog X.w) X.A (subscriptTail e (.Slice none none (some (.UnaryOp .USub (.Constant (.int 1) k p1) p2)) p3) (.ref a) (.ref s4.heap.objs.size)) (EP X pins σ Q) X.xe { s4 with heap := s4.heap.push { cls := .type "slice", data := .fields #[vl, vu, vs] } }
  refine tail_any (ops := [.ref a, .ref s4.heap.objs.size]) ht.typeIs (PyProof.Rows.slot_tuple_getitem.lookup) ?_ (by with_unfolding_all rfl)
  refine tuple_rev ht (Heap.IsSliceOf.new _ vl vu vs) pl pu ps ?_ (by rw [List.size_toArray]; omega)
  have e : its.toArray.toList.reverse = its.reverse := by simp
  rw [e]
  refine ⟨.ref _, _, I5.laid (t' := s4.toks) (o := .tup xs.reverse) (fun b ob q => Heap.get?_push_of_some _ q) (Nat.le_refl _) ?_, rfl, q _ (I5.hok.fresh (Nat.le_refl _))⟩
  exact ⟨by rw [List.length_reverse]; exact hz, its.reverse, r.reverse, ⟨_, Heap.get?_push_size _ rfl, rfl, _, rfl⟩⟩
end
end Sw
set_option maxRecDepth 100000
set_option maxHeartbeats 4000000
namespace Sw
open PySem PySem.Spec PyProof.Rows L2
abbrev NLR : List Str := ["_law_feed_here", "_law_code", "_law_arrows_here", "_law_rows", "_law_every", "_law_fronts", "_law_block", "_law_told", "_law_some", "_law_blocks"]
def evI (n : Nat) : List Int := (List.range n).map fun i : Nat => (i : Int)
theorem rg_ev (n : Nat) : rgV 0 (n : Int) = (evI n).map V.int := by
  unfold rgV evI
  rw [Int.sub_zero, Int.toNat_natCast, List.map_map]
  refine List.map_congr_left fun i _ => ?_
  show V.int (0 + (i : Int)) = V.int (i : Int)
  rw [Int.zero_add]
theorem ev_len (n : Nat) : (evI n).length = n := by unfold evI; rw [List.length_map, List.length_range]
theorem ev_at {n i : Nat} {k : Int} (h : (evI n)[i]? = some k) : k = (i : Int) := by
  unfold evI at h
  rw [List.getElem?_map] at h
  obtain ⟨j, hj, rfl⟩ := Option.map_eq_some_iff.mp h
  obtain ⟨h1, h2⟩ := List.getElem?_eq_some_iff.mp hj
  rw [List.getElem_range] at h2
  rw [h2]
theorem ev_rng {n : Nat} {k : Int} (h : k ∈ evI n) : 0 ≤ k ∧ k < (n : Int) := by
  unfold evI at h
  obtain ⟨i, hi, rfl⟩ := List.mem_map.mp h
  have := List.mem_range.mp hi
  exact ⟨by omega, by omega⟩
def optD : Option Int → PyData
  | none => .none
  | some i => .int i
theorem Dp_opt2 {K : PySem.W.Frag} {H : Hp} (o : Option Int) : Dp K H (optV o) (optD o) := by
  cases o with
  | none => exact .non
  | some i => exact .int i
theorem nearI_rng {es : List Ge} {b k : Int} (h : nearI es b = some k) : 0 ≤ k ∧ k < (es.length : Int) := by
  by_cases hb : Rch es none b
  · rw [nearI_of hb] at h
    have := List.mem_of_find?_eq_some h
    unfold sdoms at this
    exact domsI_rng (List.mem_filter.mp this).1
  · rw [nearI_not hb] at h
    cases h
theorem told_fit {es : List Ge} (few : es.length ≤ 60) (b : Int) : Fit 100 60 2 50000 (.tuple [optD (nearI es b), .tuple ((frI es b).map PyData.int)]) := by
  refine (Fit.all (ds := [optD (nearI es b), .tuple ((frI es b).map PyData.int)]) (l := 60) (n := 1) (B := 20000) (k := 2) (fun d hd => ?_) (by show 2 ≤ 2; decide) (by decide)).mono (Nat.le_refl _) (Nat.le_refl _) (by decide) (by decide)
  simp only [List.mem_cons, List.not_mem_nil, or_false] at hd
  rcases hd with rfl | rfl
  · cases hn : nearI es b with
    | none => exact ⟨rfl, rfl, by simp [optD, PyData.depth], by show 5 ≤ 20000; decide⟩
    | some k =>
      have := nearI_rng hn
      exact (fit_int this.1 (by omega)).mono (Nat.le_refl _) (Nat.le_refl _) (by decide) (by decide)
  · exact ints_fit (Nat.le_trans (frI_len es b) few) fun k hk => ⟨(frI_rng hk).1, by have := (frI_rng hk).2; omega⟩
theorem cat_any {K : PySem.W.Frag} {H : Hp} {Q : VK} {a b : Addr} {xs ys : List V} (ha : SqT K H a xs) (hb : SqT K H b ys) (hl : xs.length + ys.length ≤ sizeLine) (q : ∀ c H', Same H H' → SqT K H' c (xs ++ ys) → Q (.ref c) H') : rCatA K (.ref a) (.ref b) H Q :=
  ⟨a, b, xs, ys, rfl, rfl, ha, hb, hl, fun e => q b H (Same.refl _) (by rw [e]; exact hb), fun _ e => q a H (Same.refl _) (by rw [e, List.append_nil]; exact ha), fun _ _ p hp => q p _ (same_new hp) (SqT.of upd_same)⟩
theorem sl_any {K : PySem.W.Frag} {H : Hp} {Q : VK} {a : Addr} {ns : List Int} {lo hi : Option Int} (ha : SqT K H a (ns.map V.int)) (q : ∀ c H' (ms : List Int), Same H H' → SqT K H' c (ms.map V.int) → (∀ k ∈ ms, k ∈ ns) → ms.length ≤ ns.length → Q (.ref c) H') : rSlA K (.ref a) lo hi H Q :=
  ⟨a, _, rfl, ha, fun _ => q a H ns (Same.refl _) ha (fun _ h => h) (Nat.le_refl _), fun _ p hp => by
    have e : cutV (ns.map V.int) lo hi = ((ns.drop (HT.sIx ns.length 0 lo)).take (HT.sIx ns.length ns.length hi - HT.sIx ns.length 0 lo)).map V.int := by
      unfold cutV
      rw [List.length_map, List.map_take, List.map_drop]
    rw [e]
    refine q p _ _ (same_new hp) (SqT.of upd_same) (fun k hk => List.mem_of_mem_drop (List.mem_of_mem_take hk)) ?_
    rw [List.length_take, List.length_drop]
    omega⟩
theorem sl_anyN {K : PySem.W.Frag} {σ : L2.St} {H : Hp} {Q : VK} {a : Addr} {ns : List Int} {lo : Option Int} (ha : SqT K H a (ns.map V.int)) (q : ∀ c H' (ms : List Int), Same H H' → SqT K H' c (ms.map V.int) → (∀ k ∈ ms, k ∈ ns) → ms.length ≤ ns.length → Q (.ref c) H') : tNoPart σ H fun u H3 => rSlA K (.ref a) lo u H3 Q := sl_any ha q
/-- a tuple of blocks -/
def TI (K : PySem.W.Frag) (H : Hp) (n : Nat) (v : V) : Prop := ∃ (a : Addr) (bs : List Int), v = .ref a ∧ SqT K H a (bs.map V.int) ∧ bs.length ≤ 60 ∧ ∀ b ∈ bs, 0 ≤ b ∧ b < (n : Int)
theorem TI.same {K : PySem.W.Frag} {H H' : Hp} {n : Nat} {v : V} (h : TI K H n v) (s : Same H H') : TI K H' n v := by
  obtain ⟨a, bs, h1, h2, h3⟩ := h
  exact ⟨a, bs, h1, sameT s h2, h3⟩
section
variable {P : Program} {w : World} {K : PySem.W.Frag} {mg : Str → Option Value} {base : Heap}
def spLRight (K : PySem.W.Frag) : Sp := fun vs H Q _ => ∃ (p fq : Addr) (vc : V) (es : List Ge) (b : Nat), vs = [.ref p, vc] ∧ FeedAt H p fq b ∧ b + 100 ≤ 100000000 ∧ Dp K (del H p) vc (codeD [("main", es)]) ∧ Gok es ∧ es.length ≤ 6 ∧ ∀ H', Same (del H p) (del H' p) → FeedAt H' p fq (b + 10) → Q (.bl true) H'
theorem sc_lright : FnScope NLR ["_law_feed_here", "_law_code"] (defScope (topS 27)) := ⟨rfl, rfl, rfl, by decide +kernel, rfl, by decide +kernel, by decide +kernel⟩
theorem ok_lright {f f1 f2 f3 f4 f5 f6 f7 f8 f9 : Addr} {fd fd1 fd2 fd3 fd4 fd5 fd6 fd7 fd8 fd9 : FuncData} (D : Df K mg "_law_right" (topS 27) ["_law_feed_here", "_law_code"] f fd)
    (D1 : Df K mg "_law_arrows" (topS 20) ["_law_code"] f1 fd1) (D2 : Df K mg "_law_tables" (topS 23) ["_law_arrows_here"] f2 fd2) (D3 : Df K mg "_law_front" (topS 25) ["_law_arrows_here", "_law_rows", "_law_block"] f3 fd3)
    (D4 : Df K mg "nearest" (topS 13) ["code", "name", "block"] f4 fd4) (D5 : Df K mg "frontier" (topS 14) ["code", "name", "block"] f5 fd5) (D6 : Df K mg "_law_nearest" (topS 24) ["_law_rows", "_law_block"] f6 fd6)
    (D7 : Df K mg "_law_draw" (topS 18) ["_law_feed_here", "_law_many"] f7 fd7) (D8 : Df K mg "frontier_again" (topS 15) ["code", "name", "blocks"] f8 fd8) (D9 : Df K mg "_law_again" (topS 26) ["_law_fronts", "_law_blocks"] f9 fd9) (B : Bt mg)
    (G1 : FnOk P w K mg base CX0 1 f1 fd1 ["_law_code"] (spArrows K)) (G2 : FnOk P w K mg base CX0 3 f2 fd2 ["_law_arrows_here"] (spTables K)) (G3 : FnOk P w K mg base CX0 1 f3 fd3 ["_law_arrows_here", "_law_rows", "_law_block"] (spLFront K))
    (G4 : FnOk P w K mg base CX0 6 f4 fd4 ["code", "name", "block"] (spNear K)) (G5 : FnOk P w K mg base CX0 5 f5 fd5 ["code", "name", "block"] (spFront K)) (G6 : FnOk P w K mg base CX0 1 f6 fd6 ["_law_rows", "_law_block"] (spLNear K))
    (G7 : FnOk P w K mg base CX0 1 f7 fd7 ["_law_feed_here", "_law_many"] spDraw) (G8 : FnOk P w K mg base CX0 6 f8 fd8 ["code", "name", "blocks"] (spAgain K)) (G9 : FnOk P w K mg base CX0 1 f9 fd9 ["_law_fronts", "_law_blocks"] (spLAgain K)) :
    FnG P w K mg base 7 f fd ["_law_feed_here", "_law_code"] (spLRight K) := by
  refine fun_okG D.fn sc_lright (fun vs H Q E h => ?_) (fun cdv A outer s H vs Q E hg hr h => ?_)
  · obtain ⟨p, fq, vc, es, b, rfl, _⟩ := h
    rfl
  obtain ⟨p, fq, vc, es, b, rfl, hF, hb, hcd, hok, few6, q⟩ := h
  have nd := sc_lright.nd
  have hu := hr.units
  have hg2 : (A.deeper (envOfC "_law_right" (defScope (topS 27)) s.heap.objs.size f cdv)).guards = some [] := hg
  refine ⟨_, (pss_cons (ps_set (i := 2) nd rfl (Or.inr rfl) (pe_call G1 (hr.mono (by decide)) (by rfl) D1.gl D1.fn.kp D1.bd .nil pass0 (pa_cons (pv 1) pa_nil)))
    (pss_cons (ps_set (i := 3) nd rfl (Or.inr rfl) (pe_call G2 (hr.mono (by decide)) (by rfl) D2.gl D2.fn.kp D2.bd .nil pass0 (pa_cons (pv 2) pa_nil)))
    (pss_cons (ps_set (i := 4) nd rfl (Or.inl rfl) (pe_tupRg rfl (by rfl) B.tuple (prg_1 (by rfl) B.range (pe_callB call_len_seq (by rfl) B.len PySem.boot_len (pa_cons (pv 2) pa_nil)))))
    (pss_cons (ps_setLc (i := 5) (own := [("_law_block", 6)]) (g := gName 6) (tt := tYes) (te := tCall (spLFront K) [] E0 (tCons (tVar 2) (tCons (tVar 3) (tCons (tVar 6) tNil)))) rfl nd rfl rfl (sw_true rfl rfl rfl (by decide +kernel)) (pi_tup (pv 4)) (blkOk_by (N := NLR) (sc := defScope (topS 27)) (by decide +kernel)) (fun _ _ _ _ _ => pg_name (i := 6) nd rfl (Or.inl rfl)) (fun _ _ _ _ _ => pts_nil) (fun _ _ _ _ _ => (pe_call G3 (hr.mono (by decide)) (by rfl) D3.gl D3.fn.kp D3.bd .nil pass0 (pa_cons (pv 2) (pa_cons (pv 3) (pa_cons (pv 6) pa_nil))))))
    (pss_cons (ps_for PassesOwn.never rfl (pi_tup (pv 4)) (pg_name (i := 6) nd rfl (Or.inl rfl))
    (pss_cons (ps_set (i := 7) nd rfl (Or.inl rfl) (pe_tup (pa_cons (pe_call G4 hr (by rfl) D4.gl D4.fn.kp D4.bd .nil pass0 (pa_cons (pv 1) (pa_cons pe_str (pa_cons (pv 6) pa_nil)))) (pa_cons (pe_call G5 (hr.mono (by decide)) (by rfl) D5.gl D5.fn.kp D5.bd .nil pass0 (pa_cons (pv 1) (pa_cons pe_str (pa_cons (pv 6) pa_nil)))) pa_nil))))
    (pss_one (ps_if (pt_cmpR op_ne (pe_callB (call_repr hg2 hu) (by rfl) B.repr (by decide +kernel) (pa_cons (pv 7) pa_nil)) (pe_callB (call_repr hg2 hu) (by rfl) B.repr (by decide +kernel) (pa_cons (pe_tup (pa_cons (pe_call G6 (hr.mono (by decide)) (by rfl) D6.gl D6.fn.kp D6.bd .nil pass0 (pa_cons (pv 3) (pa_cons (pv 6) pa_nil))) (pa_cons (pe_ix (r := rIxL K) ix_list (pv 5) (pv 6) (fun _ _ => rfl)) pa_nil))) pa_nil)) (nomark _)) pss_never pss_nil))))
    (pss_cons (ps_set (i := 8) nd rfl (Or.inl rfl) (pe_callTy call_tuple_of (by rfl) B.tuple (by decide +kernel) (pa_cons (pe_lc (own := [("_law_block", 6)]) (g := gName 6) (tt := tTest (tOp rEq (tCall spDraw [] E0 (tCons (tVar 0) (tCons (tC (.int 2)) tNil))) (tC (.int 0)))) rfl nd (pi_tup (pv 4)) (blkOk_by (N := NLR) (sc := defScope (topS 27)) (by decide +kernel)) (fun _ _ _ _ _ => pg_name (i := 6) nd rfl (Or.inl rfl)) (fun _ _ _ _ _ => (pts_one (pt_cmpR op_eq (pe_call G7 (hr.mono (by decide)) (by rfl) D7.gl D7.fn.kp D7.bd .nil pass0 (pa_cons (pv 0) (pa_cons pe_int pa_nil))) pe_int (nomark _)))) (fun _ _ _ _ _ => (pv 6))) pa_nil)))
    (pss_cons (ps_for PassesOwn.never rfl (pi_tup (pe_tup (pa_cons (pe_tup pa_nil) (pa_cons (pv 4) (pa_cons (pe_revT (pv 4)) (pa_cons (pv 8) (pa_cons (pe_op op_catA (pv 8) (pv 8)) (pa_cons (pe_slice sl_tupA (pv 4) (po_some (pe_un un_neg pe_int)) po_none) (pa_cons (pe_tup (pa_cons pe_int pa_nil)) pa_nil))))))))) (pg_name (i := 9) nd rfl (Or.inl rfl))
    (pss_one (ps_if (pt_cmpR op_ne (pe_callB (call_repr hg2 hu) (by rfl) B.repr (by decide +kernel) (pa_cons (pe_call G8 hr (by rfl) D8.gl D8.fn.kp D8.bd .nil pass0 (pa_cons (pv 1) (pa_cons pe_str (pa_cons (pv 9) pa_nil)))) pa_nil)) (pe_callB (call_repr hg2 hu) (by rfl) B.repr (by decide +kernel) (pa_cons (pe_call G9 (hr.mono (by decide)) (by rfl) D9.gl D9.fn.kp D9.bd .nil pass0 (pa_cons (pv 5) (pa_cons (pv 9) pa_nil))) pa_nil)) (nomark _)) pss_never pss_nil)))
    (pss_one (ps_ret pe_bl))))))))), ?_⟩
  have few := hok.few
  have hc := Dp_same (del_same H p) hcd
  have mkC : ∀ {H' : Hp}, Dp K H' vc (codeD [("main", es)]) → CodeOf K H' vc "main" es := fun h => ⟨⟨_, h, by show (if ("main" : Str) = "main" then _ else _) = _; rw [if_pos rfl]⟩, hok⟩
  have hC := mkC hc
  refine ⟨_, rfl, vc, "main", es, [], rfl, hc, few, fun F H1 s1 A1 => ?_⟩
  refine ⟨_, rfl, F, es, rfl, A1, hok, fun d H2 rs s2 _ T2 => ?_⟩
  have A2 := A1.same s2
  obtain ⟨as0, F2, p2⟩ := A2.ex
  have las : (as0.map V.ref).length = es.length := by rw [List.length_map]; exact p2.length
  refine ⟨_, rfl, F, _, rfl, .inl (SqL.of F2), ?_⟩
  rw [las]
  refine ⟨_, rfl, RgOk.of_le (by omega) (by omega) (by omega) (by omega), fun t4 ht4 => ?_⟩
  rw [rg_ev]
  have s3 := same_new (o := .tup ((evI es.length).map V.int)) ht4
  have e3 : upd H2 t4 (.tup ((evI es.length).map V.int)) t4 = some (.tup ((evI es.length).map V.int)) := upd_same
  generalize upd H2 t4 (.tup ((evI es.length).map V.int)) = H3 at s3 e3
  have s03 := s1.trans (s2.trans s3)
  have A3 := A2.same s3
  have T3 := T2.same s3
  have evl := ev_len es.length
  obtain ⟨up, hup⟩ := hF.there
  refine ⟨_, rfl, t4, rfl, ⟨_, SqT.of e3⟩, fun Do hDo => lc_it (walk_tup (xs := (evI es.length).map V.int)) (fun i H' => ∃ (as : List Addr), Same H3 H' ∧ H' Do = some (.lst (as.map V.ref)) ∧ as.length = i ∧ ∀ (j : Nat) (a : Addr), as[j]? = some a → H' a = some (.tup ((frI es (j : Int)).map V.int)))
    ⟨[], same_new hDo, upd_same, rfl, fun j a h => by simp at h⟩ (fun i H' _ h => by obtain ⟨_, s', _⟩ := h; exact SqT.of (s' _ _ e3)) ?_ ?_⟩
  · rintro i x H4 H5 hi ⟨as, s4, d4, la, ha⟩ ⟨he, hx⟩
    subst he
    rw [List.getElem?_map] at hx
    obtain ⟨k, hki, rfl⟩ := Option.map_eq_some_iff.mp hx
    have ek := ev_at hki
    subst ek
    rw [List.length_map, evl] at hi
    refine ⟨rfl, yes_then ?_⟩
    refine (if_pos rfl).mpr ?_
    refine ⟨_, rfl, _, rfl, _, rfl, F, d, (i : Int), es, rs, rfl, A3.same s4, T3.same s4, hok, fun t H5' s5 ht => ?_⟩
    have d5 := s5 _ _ d4
    have nT : ∀ {c : Addr} {xs : List V}, H5' c = some (.tup xs) → c ≠ Do := fun h z => by rw [z, d5] at h; cases h
    refine ⟨_, d5, by rw [List.length_map, sizeLine_eq]; omega, as ++ [t], fun c o e => by rw [upd_ne (ne_of_none e hDo)]; exact s5 _ _ (s4 _ _ e), by rw [upd_same, List.map_append]; rfl, by rw [List.length_append, la]; rfl, fun j a hj => ?_⟩
    by_cases hjl : j < as.length
    · rw [List.getElem?_append_left hjl] at hj
      have h5 := s5 _ _ (ha j a hj)
      rw [upd_ne (nT h5)]
      exact h5
    · rw [List.getElem?_append_right (by omega)] at hj
      obtain ⟨h1, h2⟩ := List.getElem?_eq_some_iff.mp hj
      rw [List.length_singleton] at h1
      have ej : j = i := by omega
      subst ej
      have et : t = a := by
        rw [← h2]
        simp
      subst et
      rw [upd_ne (nT ht)]
      exact ht
  rintro H4 ⟨as, s4, d4, la, ha⟩
  rw [List.length_map, evl] at la
  have FR4 : FrAt H4 Do es := ⟨as, d4, la, ha⟩
  have s04 := s03.trans s4
  have hDo0 : H Do = none := s03.free hDo
  have nDo : Do ≠ p := Ne.symm (ne_of_none hup hDo0)
  have e4 := s4 _ _ e3
  have T4 := T3.same s4
  have FD4 := hF.same s04
  refine ⟨_, rfl, t4, rfl, ⟨_, SqT.of e4⟩, for_it (walk_tup (xs := (evI es.length).map V.int)) (fun k σ H' => ∃ (x6 x7 : Option V), σ = [some (.ref p), some vc, some (.ref F), some (.ref d), some (.ref t4), some (.ref Do), x6, x7, none, none] ∧ Same H4 H') ⟨_, none, rfl, Same.refl _⟩ (fun k σ H' _ h => by obtain ⟨_, _, _, s'⟩ := h; exact SqT.of (s' _ _ e4)) ?_ ?_⟩
  · rintro i x σ H5 H6 hi ⟨x6, x7, rfl, s5⟩ ⟨he, hx⟩
    subst he
    rw [List.getElem?_map] at hx
    obtain ⟨k, hki, rfl⟩ := Option.map_eq_some_iff.mp hx
    have ek := ev_at hki
    subst ek
    rw [List.length_map, evl] at hi
    obtain ⟨r1, r2, r3, r4⟩ := repr_ok (told_fit few (i : Int)) (by decide) (by decide) (by decide)
    refine ⟨_, rfl, _, rfl, vc, "main", (i : Int), es, rfl, hC.same (s04.trans s5), fun H6' s6 => ?_⟩
    refine ⟨_, rfl, _, rfl, vc, "main", (i : Int), es, rfl, hC.same (s04.trans (s5.trans s6)), fun t H7 s7 ht => ?_⟩
    refine ⟨by show 2 ≤ sizeLine; decide, fun T hT => ?_⟩
    have s8 := same_new (o := .tup [optV (nearI es (i : Int)), .ref t]) hT
    have dT : Dp K (upd H7 T (.tup [optV (nearI es (i : Int)), .ref t])) (.ref T) (.tuple [optD (nearI es (i : Int)), .tuple ((frI es (i : Int)).map PyData.int)]) := .tup (SqT.of upd_same) (.cons (Dp_opt2 _) (.cons (ints_tup (s8 _ _ ht)) .nil))
    have s48 := s5.trans (s6.trans (s7.trans s8))
    generalize upd H7 T (.tup [optV (nearI es (i : Int)), .ref t]) = H8 at dT s48
    refine ⟨_, rfl, T, _, rfl, dT, r1, r2, r3, r4, ?_⟩
    refine ⟨_, rfl, _, rfl, d, (i : Int), es, rs, rfl, T4.same s48, hok, fun H9 s9 => ?_⟩
    have hi' : i < as.length := by omega
    have han := ha i as[i] (List.getElem?_eq_getElem hi')
    have ean : (as.map V.ref)[i]? = some (.ref as[i]) := by rw [List.getElem?_map, List.getElem?_eq_getElem hi']; rfl
    have s49 := s48.trans s9
    refine ⟨_, rfl, _, rfl, Do, _, _, _, rfl, rfl, SqL.of (s49 _ _ d4), atI_nat ean, ?_⟩
    refine ⟨by show 2 ≤ sizeLine; decide, fun T2 hT2 => ?_⟩
    have s10 := same_new (o := .tup [optV (nearI es (i : Int)), .ref as[i]]) hT2
    have dT2 : Dp K (upd H9 T2 (.tup [optV (nearI es (i : Int)), .ref as[i]])) (.ref T2) (.tuple [optD (nearI es (i : Int)), .tuple ((frI es (i : Int)).map PyData.int)]) := .tup (SqT.of upd_same) (.cons (Dp_opt2 _) (.cons (ints_tup (s10 _ _ (s49 _ _ han))) .nil))
    refine ⟨T2, _, rfl, dT2, r1, r2, r3, r4, rfl, _, rfl, ?_⟩
    rw [decide_eq_true rfl]
    refine iteF ?_
    exact ⟨_, _, rfl, s49.trans s10⟩
  rintro σ5 H5 ⟨x6, x7, rfl, s5⟩
  have FR5 := FR4.same s5
  have e5 := s5 _ _ e4
  have FD5 := FD4.same s5
  have sd5 : Same (del H p) (del H5 p) := same_del (s04.trans s5)
  have hp5 := (s04.trans s5) _ _ hup
  have nt4 : t4 ≠ p := fun z => by
    obtain ⟨_, _, _, _, g1, _⟩ := FD5.ex
    rw [z, g1] at e5
    cases e5
  have keep : ∀ {H' : Hp}, Same (del H5 p) (del H' p) → FrAt H' Do es ∧ H' t4 = some (.tup ((evI es.length).map V.int)) := fun s' => by
    obtain ⟨as', h1, h2, h3⟩ := FR5.ex
    refine ⟨⟨as', (of_del (s' _ _ (del_some h1 nDo))).1, h2, fun j a hj => ?_⟩, (of_del (s' _ _ (del_some e5 nt4))).1⟩
    have h := h3 j a hj
    refine (of_del (s' _ _ (del_some h fun z => ?_))).1
    obtain ⟨_, _, _, _, g1, _⟩ := FD5.ex
    rw [z, g1] at h
    cases h
  refine ⟨_, rfl, t4, rfl, ⟨_, SqT.of e5⟩, fun Dm hDm => lc_it (walk_tup (xs := (evI es.length).map V.int)) (fun i H' => ∃ (ms : List Int), Same (del H5 p) (del H' p) ∧ FeedAt H' p fq (b + i) ∧ H' Dm = some (.lst (ms.map V.int)) ∧ ms.length ≤ i ∧ ∀ k ∈ ms, k ∈ evI es.length)
    ⟨[], same_del (same_new hDm), FD5.same (same_new hDm), upd_same, Nat.zero_le _, fun k h => absurd h List.not_mem_nil⟩ (fun i H' _ h => by obtain ⟨_, s', _⟩ := h; exact SqT.of (keep s').2) ?_ ?_⟩
  · rintro i x H6 H7 hi ⟨ms, s6, F6, d6, lm, hm⟩ ⟨he, hx⟩
    subst he
    rw [List.getElem?_map] at hx
    obtain ⟨k, hki, rfl⟩ := Option.map_eq_some_iff.mp hx
    have hkm := List.mem_of_getElem? hki
    rw [List.length_map, evl] at hi
    have nDm := (FD5.ne hDm)
    refine ⟨rfl, ?_⟩
    refine ⟨_, rfl, p, fq, 2, b + i, rfl, F6, by omega, by decide, by decide, fun r H8 r0 r1 s8 F8 => ?_⟩
    refine ⟨rfl, _, rfl, ?_⟩
    have d8 := (of_del (s8 _ _ (del_some d6 nDm.1))).1
    have s68 := s6.trans s8
    refine ite2 (fun c => ?_) (fun c => ?_)
    · refine ⟨_, rfl, _, d8, by rw [List.length_map, sizeLine_eq]; omega, ms ++ [k], fun c o e => ?_, F8.upd nDm.1 nDm.2, by rw [upd_same, List.map_append]; rfl, by rw [List.length_append, List.length_singleton]; omega, fun k' hk' => ?_⟩
      · have h1 := s68 _ _ e
        have hn : c ≠ Dm := ne_of_none (of_del e).1 hDm
        exact del_some (by rw [upd_ne hn]; exact (of_del h1).1) (of_del e).2
      · rcases List.mem_append.mp hk' with h | h
        · exact hm k' h
        · have : k' = k := by simpa using h
          rw [this]
          exact hkm
    · exact ⟨ms, s68, F8, d8, by omega, hm⟩
  rintro H6 ⟨ms, s6, F6, d6, lm, hm⟩
  rw [List.length_map, evl] at F6 lm
  refine ⟨Dm, _, rfl, .inl ⟨SqL.of d6, fun t8 ht8 => ?_⟩⟩
  have s7 := same_new (o := .tup (ms.map V.int)) ht8
  have e7 : upd H6 t8 (.tup (ms.map V.int)) t8 = some (.tup (ms.map V.int)) := upd_same
  have sd7 := s6.trans (same_del (p := p) s7)
  have F7 := F6.same s7
  generalize upd H6 t8 (.tup (ms.map V.int)) = H7 at s7 e7 sd7 F7
  obtain ⟨FR7, t47⟩ := keep sd7
  have C7 := mkC (Dp_same (del_same H7 p) (Dp_same (sd5.trans sd7) hcd))
  have mrng : ∀ k ∈ ms, 0 ≤ k ∧ k < (es.length : Int) := fun k hk => ev_rng (hm k hk)
  have q7 : ∀ H', Same H7 H' → Q (.bl true) H' := fun H' s' => q H' (sd5.trans (sd7.trans (same_del s'))) ((F7.same s').mono (by omega))
  clear q keep s6 F6 d6 hcd hF FD4 FD5 T4 T3 A3
  -- the tuples
  refine ⟨Nat.zero_le _, fun a0 h0 => ?_⟩
  have s8 := same_new (o := .tup []) h0
  have e8 : upd H7 a0 (.tup []) a0 = some (.tup (([] : List Int).map V.int)) := upd_same
  generalize upd H7 a0 (.tup []) = H8 at s8 e8
  refine ⟨_, rfl, ?_⟩
  refine ⟨_, rfl, t4, _, rfl, SqT.of (s8 _ _ t47), fun a2 h2 => ?_⟩
  rw [← List.map_reverse]
  have s9 := same_new (o := .tup ((evI es.length).reverse.map V.int)) h2
  have e9 : upd H8 a2 (.tup ((evI es.length).reverse.map V.int)) a2 = some (.tup ((evI es.length).reverse.map V.int)) := upd_same
  generalize upd H8 a2 (.tup ((evI es.length).reverse.map V.int)) = H9 at s9 e9
  refine ⟨_, rfl, ?_⟩
  have t89 := s9 _ _ (s8 _ _ e7)
  refine ⟨_, rfl, _, rfl, cat_any (SqT.of t89) (SqT.of t89) (by rw [List.length_map, sizeLine_eq]; omega) fun a4 H10 s10 h4 => ?_⟩
  rw [← List.map_append] at h4
  refine ⟨_, rfl, 1, rfl, -1, rfl, ?_⟩
  refine sl_anyN (SqT.of (s10 _ _ (s9 _ _ (s8 _ _ t47)))) fun a5 H11 zs s11 h5 hz1 hz2 => ?_
  refine ⟨by show 1 ≤ sizeLine; decide, fun a6 h6 => ?_⟩
  have s12 := same_new (o := .tup [V.int 0]) h6
  have e12 : upd H11 a6 (.tup [V.int 0]) a6 = some (.tup (([0] : List Int).map V.int)) := upd_same
  generalize upd H11 a6 (.tup [V.int 0]) = H12 at s12 e12
  refine ⟨by show 7 ≤ sizeLine; decide, fun TT hTT => ?_⟩
  have s13 := same_new (o := .tup [V.ref a0, .ref t4, .ref a2, .ref t8, .ref a4, .ref a5, .ref a6]) hTT
  have e13 : upd H12 TT (.tup [V.ref a0, .ref t4, .ref a2, .ref t8, .ref a4, .ref a5, .ref a6]) TT = _ := upd_same
  generalize upd H12 TT (.tup [V.ref a0, .ref t4, .ref a2, .ref t8, .ref a4, .ref a5, .ref a6]) = H13 at s13 e13
  have s912 := s10.trans (s11.trans s12)
  have s713 := s8.trans (s9.trans (s912.trans s13))
  have hall : ∀ v ∈ [V.ref a0, .ref t4, .ref a2, .ref t8, .ref a4, .ref a5, .ref a6], TI K H13 es.length v := by
    intro v hv
    simp only [List.mem_cons, List.not_mem_nil, or_false] at hv
    rcases hv with rfl | rfl | rfl | rfl | rfl | rfl | rfl
    · exact ⟨_, [], rfl, SqT.of ((s9.trans (s912.trans s13)) _ _ e8), Nat.zero_le _, fun b hb => absurd hb List.not_mem_nil⟩
    · exact ⟨_, _, rfl, SqT.of (s713 _ _ t47), by rw [evl]; omega, fun b hb => ev_rng hb⟩
    · exact ⟨_, _, rfl, SqT.of ((s912.trans s13) _ _ e9), by rw [List.length_reverse, evl]; omega, fun b hb => ev_rng (List.mem_reverse.mp hb)⟩
    · exact ⟨_, _, rfl, SqT.of (s713 _ _ e7), by omega, mrng⟩
    · exact ⟨_, _, rfl, sameT (s11.trans (s12.trans s13)) h4, by rw [List.length_append]; omega, fun b hb => (List.mem_append.mp hb).elim (mrng b) (mrng b)⟩
    · exact ⟨_, _, rfl, sameT (s12.trans s13) h5, by rw [evl] at hz2; omega, fun b hb => ev_rng (hz1 b hb)⟩
    · exact ⟨_, [0], rfl, SqT.of (s13 _ _ e12), by show 1 ≤ 60; decide, fun b hb => by
        have : b = 0 := by simpa using hb
        have := hok.pos
        omega⟩
  have FR13 := FR7.same s713
  have C13 := C7.same s713
  have q13 : ∀ H', Same H13 H' → Q (.bl true) H' := fun H' s' => q7 H' (s713.trans s')
  refine ⟨TT, rfl, ⟨_, SqT.of e13⟩, for_it (walk_tup (xs := [V.ref a0, .ref t4, .ref a2, .ref t8, .ref a4, .ref a5, .ref a6])) (fun k σ H' => ∃ (x9 : Option V), σ = [some (.ref p), some vc, some (.ref F), some (.ref d), some (.ref t4), some (.ref Do), x6, x7, some (.ref t8), x9] ∧ Same H13 H') ⟨_, rfl, Same.refl _⟩ (fun k σ H' _ h => by obtain ⟨_, _, s'⟩ := h; exact SqT.of (s' _ _ e13)) ?_ ?_⟩
  · rintro i x σ H14 H15 hi ⟨x9, rfl, s14⟩ ⟨he, hx⟩
    subst he
    obtain ⟨a, bs, rfl, hbs, lbs, rbs⟩ := (hall x (List.mem_of_getElem? hx)).same s14
    refine ⟨_, rfl, _, rfl, vc, "main", a, bs, es, rfl, C13.same s14, hbs, lbs, fun t H16 ns s16 ht ris mem => ?_⟩
    have nl : ns.length ≤ 60 := Nat.le_trans (few_ints es.length (ris.imp fun h => by omega) fun k hk => ((mem k).mp hk).rng) few
    obtain ⟨r1, r2, r3, r4⟩ := repr_ok (ints_fit nl fun k hk => ⟨((mem k).mp hk).rng.1, by have := ((mem k).mp hk).rng.2; omega⟩) (by decide) (by decide) (by decide)
    refine ⟨t, _, rfl, ints_tup ht, r1, r2, r3, r4, ?_⟩
    refine ⟨_, rfl, _, rfl, Do, a, bs, es, rfl, FR13.same (s14.trans s16), sameT s16 hbs, lbs, few, rbs, fun t2 H17 ns2 s17 ht2 ris2 mem2 => ?_⟩
    have e : ns2 = ns := rising_eq ris2 ris fun k => (mem2 k).trans (mem k).symm
    subst e
    refine ⟨t2, _, rfl, ints_tup ht2, r1, r2, r3, r4, rfl, _, rfl, ?_⟩
    rw [decide_eq_true rfl]
    refine iteF ?_
    exact ⟨_, rfl, s14.trans (s16.trans s17)⟩
  · rintro σ H14 ⟨x9, rfl, s14⟩
    exact q13 H14 s14
end
end Sw
set_option maxRecDepth 100000
set_option maxHeartbeats 4000000
namespace Sw
open PySem PySem.Spec PyProof.Rows L2
theorem rch_m1 {es : List Ge} (hok : Gok es) {k : Int} : Rch es (some (-1)) k ↔ Rch es none k := by
  refine ⟨fun h => h.free2, fun h => ?_⟩
  induction h with
  | zero _ => exact .zero (by decide)
  | step _ hk _ ih =>
    refine .step ih hk fun z => ?_
    have := (arr_rng hok hk).1
    have e := Option.some.inj z
    omega
def oksC (es : List Ge) : Bool := okC es (-1) && (List.range es.length).all fun i : Nat => okC es (i : Int)
theorem oks_at {es : List Ge} (h : oksC es = true) {o : Int} (h0 : 0 ≤ o) (h1 : o < (es.length : Int)) (k : Int) : (cloC es o es.length).contains k = true ↔ Rch es (some o) k := by
  unfold oksC at h
  rw [Bool.and_eq_true] at h
  have := List.all_eq_true.mp h.2 o.toNat (List.mem_range.mpr (by omega))
  rw [Int.toNat_of_nonneg h0] at this
  rw [List.contains_iff_mem]
  exact cloC_iff this k
theorem oks_m1 {es : List Ge} (hok : Gok es) (h : oksC es = true) (k : Int) : (cloC es (-1) es.length).contains k = true ↔ Rch es none k := by
  unfold oksC at h
  rw [Bool.and_eq_true] at h
  rw [List.contains_iff_mem, ← rch_m1 hok]
  exact cloC_iff h.1 k
def sdC (es : List Ge) (b : Int) : List Int := (domsC es b).filter fun o => decide (o ≠ b)
def nearC (es : List Ge) (b : Int) : Option Int := if (cloC es (-1) es.length).contains b then (sdC es b).find? fun one => (sdC es b).all fun other => !(cloC es other es.length).contains one else none
theorem find_congr {α : Type} {p q : α → Bool} : ∀ {xs : List α}, (∀ x ∈ xs, p x = q x) → xs.find? p = xs.find? q
  | [], _ => rfl
  | x :: xs, h => by
    rw [List.find?_cons, List.find?_cons, h x List.mem_cons_self, find_congr fun y hy => h y (List.mem_cons_of_mem _ hy)]
theorem all_congr2 {α : Type} {p q : α → Bool} : ∀ {xs : List α}, (∀ x ∈ xs, p x = q x) → xs.all p = xs.all q
  | [], _ => rfl
  | x :: xs, h => by
    rw [List.all_cons, List.all_cons, h x List.mem_cons_self, all_congr2 fun y hy => h y (List.mem_cons_of_mem _ hy)]
theorem nearC_eq {es : List Ge} (hok : Gok es) (h : oksC es = true) (b : Int) : nearI es b = nearC es b := by
  have hs : sdoms es b = sdC es b := by
    unfold sdoms sdC
    have h' := h
    unfold oksC at h'
    rw [Bool.and_eq_true] at h'
    rw [domsC_eq h'.2]
  have hr : ∀ o ∈ sdC es b, 0 ≤ o ∧ o < (es.length : Int) := fun o ho => by
    rw [← hs] at ho
    exact domsI_rng (List.mem_filter.mp ho).1
  unfold nearC
  by_cases hb : Rch es none b
  · rw [nearI_of hb, if_pos ((oks_m1 hok h b).mpr hb), hs]
    refine find_congr fun one _ => all_congr2 fun other ho => ?_
    refine (domB_of ?_).symm
    rw [← oks_at h (hr other ho).1 (hr other ho).2]
    simp
  · rw [nearI_not hb, if_neg fun z => hb ((oks_m1 hok h b).mp z)]
def frPC (es : List Ge) (b : Int) (i : Nat) : Bool := ((List.range es.length).any fun o : Nat => (cloC es (-1) es.length).contains (o : Int) && !(cloC es b es.length).contains (o : Int) && (arr es (o : Int)).contains (i : Int)) && (decide ((i : Int) = b) || (cloC es b es.length).contains (i : Int))
def frC (es : List Ge) (b : Int) : List Int := ((List.range es.length).filter (frPC es b)).map fun i : Nat => (i : Int)
theorem frC_eq {es : List Ge} (hok : Gok es) (h : oksC es = true) {b : Int} (b0 : 0 ≤ b) (b1 : b < (es.length : Int)) : frI es b = frC es b := by
  unfold frI frC
  congr 1
  refine List.filter_congr fun i hi => ?_
  refine Eq.trans (b := frB es b (i : Int)) rfl ?_
  rw [Bool.eq_iff_iff, frB_iff]
  unfold frPC FrP
  rw [Bool.and_eq_true, List.any_eq_true, Bool.or_eq_true, oks_at h b0 b1, decide_eq_true_iff]
  refine and_congr_left fun _ => ?_
  constructor
  · rintro ⟨o, h1, h2, h3⟩
    obtain ⟨o0, o1⟩ := h1.rng hok
    refine ⟨o.toNat, List.mem_range.mpr (by omega), ?_⟩
    rw [Int.toNat_of_nonneg o0, Bool.and_eq_true, Bool.and_eq_true, oks_m1 hok h, List.contains_iff_mem, Bool.not_eq_true', ← Bool.not_eq_true, oks_at h b0 b1]
    exact ⟨⟨h1, h2⟩, h3⟩
  · rintro ⟨o, _, ho⟩
    rw [Bool.and_eq_true, Bool.and_eq_true, oks_m1 hok h, List.contains_iff_mem, Bool.not_eq_true', ← Bool.not_eq_true, oks_at h b0 b1] at ho
    exact ⟨(o : Int), ho.1.1, ho.1.2, ho.2⟩
abbrev Case4 := List Ge × Int × Option Int × List Int
def caseD4 (c : Case4) : PyData := .tuple [.tuple (c.1.map endD), .int c.2.1, optD c.2.2.1, .tuple (c.2.2.2.map PyData.int)]
def gLoop : List Ge := [.go 1, .iff 1 2, .back, .go 1]
def gInner : List Ge := [.go 1, .iff 2 4, .iff 2 3, .go 1, .back]
def casesA : List Case4 := [(gMeet, 3, some 0, []), (gMeet, 1, some 0, [3]), (gMeet, 4, some 3, []), (gLoop, 1, some 0, [1]), (gLoop, 2, some 1, [])]
def casesB : List Case4 := [(gLoop, 3, none, [])]
def casesC : List Case4 := [(gInner, 2, some 1, [1, 2]), (gInner, 3, some 2, [1]), (gInner, 1, some 0, [1]), (gInner, 4, some 1, [])]
def casesD : List Case4 := [(gInner, 0, none, [])]
def casesZ : List Case4 := casesA ++ casesB ++ casesC ++ casesD
def caseB4 (c : Case4) : Bool := gokB c.1 && decide (c.1.length ≤ 6) && oksC c.1 && decide (0 ≤ c.2.1) && decide (c.2.1 < (c.1.length : Int)) && decide (nearC c.1 c.2.1 = c.2.2.1) && decide (frC c.1 c.2.1 = c.2.2.2)
theorem casesZ_ok : (casesZ.all caseB4) = true := by decide +kernel
structure CaseOk4 (c : Case4) : Prop where
  ok : Gok c.1
  few : c.1.length ≤ 6
  b0 : 0 ≤ c.2.1
  b1 : c.2.1 < (c.1.length : Int)
  near : nearI c.1 c.2.1 = c.2.2.1
  front : frI c.1 c.2.1 = c.2.2.2
theorem case_ok4 {c : Case4} (h : c ∈ casesZ) : CaseOk4 c := by
  have := List.all_eq_true.mp casesZ_ok c h
  unfold caseB4 at this
  simp only [Bool.and_eq_true, decide_eq_true_eq] at this
  obtain ⟨⟨⟨⟨⟨⟨h1, h2⟩, h3⟩, h4⟩, h5⟩, h6⟩, h7⟩ := this
  exact ⟨gokB_ok h1, h2, h4, h5, (nearC_eq (gokB_ok h1) h3 _).trans h6, (frC_eq (gokB_ok h1) h3 h4 h5).trans h7⟩
theorem px_non {X : Cx} {K : PySem.W.Frag} {G : L2.St → Hp → Prop} {k : Nat} {pos : Pos} : PE X (.Constant .none k pos) (tE K G .none) := pe_imp pe_non fun σ H Q q => q.2 _ H (Same.refl H) .non
end Sw
set_option maxRecDepth 100000
set_option maxHeartbeats 4000000
namespace Sw
open PySem PySem.Spec PyProof.Rows L2
abbrev NH4 : List Str := ["_law_meet", "_law_loop", "_law_inner", "_law_cases", "_law_ends", "_law_block", "_law_due", "_law_front_here", "_law_code", "_law_end", "_law_other"]
theorem Dp_optD {K : PySem.W.Frag} {H : Hp} {v : V} {o : Option Int} (h : Dp K H v (optD o)) : v = optV o := by
  cases o with
  | none => cases h; rfl
  | some i => cases h; rfl
theorem scal_oo (o : Option Int) : scal (optV o) (optV o) = true := by cases o <;> rfl
abbrev VD : List PyData := [.tuple (gMeet.map endD), .tuple (gLoop.map endD), .tuple (gInner.map endD)]
theorem three {K : PySem.W.Frag} {H : Hp} {v0 v1 v2 : V} (h : DpAll K (tps H) [v0, v1, v2] VD) : Dp K H v0 (.tuple (gMeet.map endD)) ∧ Dp K H v1 (.tuple (gLoop.map endD)) ∧ Dp K H v2 (.tuple (gInner.map endD)) := by
  cases h with
  | cons a r => cases r with
    | cons b r => cases r with
      | cons c r => exact ⟨Dp_same tps_sub a, Dp_same tps_sub b, Dp_same tps_sub c⟩
section
variable {P : Program} {w : World} {K : PySem.W.Frag} {mg : Str → Option Value} {base : Heap}
theorem sc_hand4 : FnScope NH4 [] (defScope (topS 29)) := ⟨rfl, rfl, rfl, by decide +kernel, rfl, by decide +kernel, by decide +kernel⟩
theorem ok_hand4 {f f1 f2 f3 f5 : Addr} {fd fd1 fd2 fd3 fd5 : FuncData} (D : Df K mg "_law_by_hand" (topS 29) [] f fd) (D5 : Df K mg "_law_beside" (topS 28) ["_law_code"] f5 fd5)
    (D1 : Df K mg "nearest" (topS 13) ["code", "name", "block"] f1 fd1) (D2 : Df K mg "frontier" (topS 14) ["code", "name", "block"] f2 fd2) (D3 : Df K mg "frontier_again" (topS 15) ["code", "name", "blocks"] f3 fd3) (B : Bt mg)
    (G5 : FnOk P w K mg base CX0 1 f5 fd5 ["_law_code"] (spBeside K)) (G1 : FnOk P w K mg base CX0 6 f1 fd1 ["code", "name", "block"] (spNear K)) (G2 : FnOk P w K mg base CX0 5 f2 fd2 ["code", "name", "block"] (spFront K)) (G3 : FnOk P w K mg base CX0 6 f3 fd3 ["code", "name", "blocks"] (spAgain K)) :
    FnG P w K mg base 7 f fd [] spHand := by
  refine fun_okG D.fn sc_hand4 (fun vs H Q E h => ?_) (fun cdv A outer s H vs Q E hg hr h => ?_)
  · obtain ⟨rfl, _⟩ := h
    rfl
  obtain ⟨rfl, q⟩ := h
  have nd := sc_hand4.nd
  have hu := hr.units
  have C0 : Kp (fun (_ : L2.St) (_ : Hp) => True) := ⟨fun g _ => g⟩
  have C1 : Kp (fun (σ : L2.St) H' => (∃ v, σ[0]? = some (some v) ∧ Dp K H' v (.tuple (gMeet.map endD))) ∧ (∃ v, σ[1]? = some (some v) ∧ Dp K H' v (.tuple (gLoop.map endD))) ∧ ∃ v, σ[2]? = some (some v) ∧ Dp K H' v (.tuple (gInner.map endD))) :=
    ⟨fun ⟨⟨v0, a0, b0⟩, ⟨v1, a1, b1⟩, v2, a2, b2⟩ s => ⟨⟨v0, a0, Dp_same s b0⟩, ⟨v1, a1, Dp_same s b1⟩, v2, a2, Dp_same s b2⟩⟩
  refine ⟨_, (pss_cons (ps_set (i := 0) nd rfl (Or.inl rfl) (px_tup (K := K) (pxs_cons C0 (px_tup (K := K) (pxs_cons C0 px_str (pxs_cons C0 px_str (pxs_cons C0 px_int (pxs_cons C0 px_int pxs_nil))))) (pxs_cons C0 (px_tup (K := K) (pxs_cons C0 px_str (pxs_cons C0 px_int pxs_nil))) (pxs_cons C0 (px_tup (K := K) (pxs_cons C0 px_str (pxs_cons C0 px_int pxs_nil))) (pxs_cons C0 (px_tup (K := K) (pxs_cons C0 px_str (pxs_cons C0 px_int pxs_nil))) (pxs_cons C0 (px_tup (K := K) (pxs_cons C0 px_str pxs_nil)) pxs_nil)))))))
    (pss_cons (ps_set (i := 1) nd rfl (Or.inl rfl) (px_tup (K := K) (pxs_cons C0 (px_tup (K := K) (pxs_cons C0 px_str (pxs_cons C0 px_int pxs_nil))) (pxs_cons C0 (px_tup (K := K) (pxs_cons C0 px_str (pxs_cons C0 px_str (pxs_cons C0 px_int (pxs_cons C0 px_int pxs_nil))))) (pxs_cons C0 (px_tup (K := K) (pxs_cons C0 px_str pxs_nil)) (pxs_cons C0 (px_tup (K := K) (pxs_cons C0 px_str (pxs_cons C0 px_int pxs_nil))) pxs_nil))))))
    (pss_cons (ps_set (i := 2) nd rfl (Or.inl rfl) (px_tup (K := K) (pxs_cons C0 (px_tup (K := K) (pxs_cons C0 px_str (pxs_cons C0 px_int pxs_nil))) (pxs_cons C0 (px_tup (K := K) (pxs_cons C0 px_str (pxs_cons C0 px_str (pxs_cons C0 px_int (pxs_cons C0 px_int pxs_nil))))) (pxs_cons C0 (px_tup (K := K) (pxs_cons C0 px_str (pxs_cons C0 px_str (pxs_cons C0 px_int (pxs_cons C0 px_int pxs_nil))))) (pxs_cons C0 (px_tup (K := K) (pxs_cons C0 px_str (pxs_cons C0 px_int pxs_nil))) (pxs_cons C0 (px_tup (K := K) (pxs_cons C0 px_str pxs_nil)) pxs_nil)))))))
    (pss_cons (ps_set (i := 3) nd rfl (Or.inl rfl) (px_lst (K := K) (pxs_cons C1 (px_tup (K := K) (pxs_cons C1 (px_var (d := .tuple (gMeet.map endD)) (pv 0) (fun σ H g => g.1)) (pxs_cons C1 px_int (pxs_cons C1 px_int (pxs_cons C1 (px_tup (K := K) pxs_nil) pxs_nil))))) (pxs_cons C1 (px_tup (K := K) (pxs_cons C1 (px_var (d := .tuple (gMeet.map endD)) (pv 0) (fun σ H g => g.1)) (pxs_cons C1 px_int (pxs_cons C1 px_int (pxs_cons C1 (px_tup (K := K) (pxs_cons C1 px_int pxs_nil)) pxs_nil))))) (pxs_cons C1 (px_tup (K := K) (pxs_cons C1 (px_var (d := .tuple (gMeet.map endD)) (pv 0) (fun σ H g => g.1)) (pxs_cons C1 px_int (pxs_cons C1 px_int (pxs_cons C1 (px_tup (K := K) pxs_nil) pxs_nil))))) (pxs_cons C1 (px_tup (K := K) (pxs_cons C1 (px_var (d := .tuple (gLoop.map endD)) (pv 1) (fun σ H g => g.2.1)) (pxs_cons C1 px_int (pxs_cons C1 px_int (pxs_cons C1 (px_tup (K := K) (pxs_cons C1 px_int pxs_nil)) pxs_nil))))) (pxs_cons C1 (px_tup (K := K) (pxs_cons C1 (px_var (d := .tuple (gLoop.map endD)) (pv 1) (fun σ H g => g.2.1)) (pxs_cons C1 px_int (pxs_cons C1 px_int (pxs_cons C1 (px_tup (K := K) pxs_nil) pxs_nil))))) pxs_nil)))))))
    (pss_cons (ps_expr (pe_bm PySem.F.plainAttrs_list PySem.F.slot_list_append PySem.F.type_list_append mt_append (pv 3) (pa_cons (px_tup (K := K) (pxs_cons C1 (px_var (d := .tuple (gLoop.map endD)) (pv 1) (fun σ H g => g.2.1)) (pxs_cons C1 px_int (pxs_cons C1 px_non (pxs_cons C1 (px_tup (K := K) pxs_nil) pxs_nil))))) pa_nil)))
    (pss_cons (ps_expr (pe_bm PySem.F.plainAttrs_list PySem.F.slot_list_extend PySem.F.type_list_extend mt_extend (pv 3) (pa_cons (px_lst (K := K) (pxs_cons C1 (px_tup (K := K) (pxs_cons C1 (px_var (d := .tuple (gInner.map endD)) (pv 2) (fun σ H g => g.2.2)) (pxs_cons C1 px_int (pxs_cons C1 px_int (pxs_cons C1 (px_tup (K := K) (pxs_cons C1 px_int (pxs_cons C1 px_int pxs_nil))) pxs_nil))))) (pxs_cons C1 (px_tup (K := K) (pxs_cons C1 (px_var (d := .tuple (gInner.map endD)) (pv 2) (fun σ H g => g.2.2)) (pxs_cons C1 px_int (pxs_cons C1 px_int (pxs_cons C1 (px_tup (K := K) (pxs_cons C1 px_int pxs_nil)) pxs_nil))))) (pxs_cons C1 (px_tup (K := K) (pxs_cons C1 (px_var (d := .tuple (gInner.map endD)) (pv 2) (fun σ H g => g.2.2)) (pxs_cons C1 px_int (pxs_cons C1 px_int (pxs_cons C1 (px_tup (K := K) (pxs_cons C1 px_int pxs_nil)) pxs_nil))))) (pxs_cons C1 (px_tup (K := K) (pxs_cons C1 (px_var (d := .tuple (gInner.map endD)) (pv 2) (fun σ H g => g.2.2)) (pxs_cons C1 px_int (pxs_cons C1 px_int (pxs_cons C1 (px_tup (K := K) pxs_nil) pxs_nil))))) pxs_nil))))) pa_nil)))
    (pss_cons (ps_expr (pe_bm PySem.F.plainAttrs_list PySem.F.slot_list_append PySem.F.type_list_append mt_append (pv 3) (pa_cons (px_tup (K := K) (pxs_cons C1 (px_var (d := .tuple (gInner.map endD)) (pv 2) (fun σ H g => g.2.2)) (pxs_cons C1 px_int (pxs_cons C1 px_non (pxs_cons C1 (px_tup (K := K) pxs_nil) pxs_nil))))) pa_nil)))
    (pss_cons (ps_for PassesOwn.never rfl (pi_list (pv 3)) (pg_tup rfl (pgs_cons (pg_name (i := 4) nd rfl (Or.inl rfl)) (pgs_cons (pg_name (i := 5) nd rfl (Or.inl rfl)) (pgs_cons (pg_name (i := 6) nd rfl (Or.inl rfl)) (pgs_cons (pg_name (i := 7) nd rfl (Or.inl rfl)) pgs_nil)))))
    (pss_cons (ps_set (i := 8) nd rfl (Or.inl rfl) (pe_tup (pa_cons (pe_tup (pa_cons (pe_tup (pa_cons pe_str (pa_cons pe_int pa_nil))) pa_nil)) (pa_cons (pe_tup (pa_cons (pe_tup (pa_cons pe_str (pa_cons (pe_callTy call_tuple_of (by rfl) B.tuple (by decide +kernel) (pa_cons (pe_lc (own := [("_law_end", 9)]) (g := gName 9) (tt := tYes) rfl nd (pi_tup (pv 4)) (blkOk_by (N := NH4) (sc := defScope (topS 29)) (by decide +kernel)) (fun _ _ _ _ _ => pg_name (i := 9) nd rfl (Or.inl rfl)) (fun _ _ _ _ _ => pts_nil) (fun _ _ _ _ _ => (pe_tup (pa_cons (pe_tup pa_nil) (pa_cons (pv 9) pa_nil))))) pa_nil)) pa_nil))) pa_nil)) pa_nil))))
    (pss_cons (ps_if (PW.pt (pw_or (pt_cmpR op_ne (pe_call G1 hr (by rfl) D1.gl D1.fn.kp D1.bd .nil pass0 (pa_cons (pv 8) (pa_cons pe_str (pa_cons (pv 5) pa_nil)))) (pv 6) (nomark _)) (pw_or1 (pt_cmpR (op_neD hu) (pe_call G2 (hr.mono (by decide)) (by rfl) D2.gl D2.fn.kp D2.bd .nil pass0 (pa_cons (pv 8) (pa_cons pe_str (pa_cons (pv 5) pa_nil)))) (pv 7) (nomark _))))) pss_never pss_nil)
    (pss_cons (ps_set (i := 10) nd rfl (Or.inl rfl) (pe_call G5 (hr.mono (by decide)) (by rfl) D5.gl D5.fn.kp D5.bd .nil pass0 (pa_cons (pv 8) pa_nil)))
    (pss_cons (ps_if (PW.pt (pw_or (pt_cmpR op_ne (pe_call G1 hr (by rfl) D1.gl D1.fn.kp D1.bd .nil pass0 (pa_cons (pv 10) (pa_cons pe_str (pa_cons (pv 5) pa_nil)))) (pv 6) (nomark _)) (pw_or1 (pt_cmpR (op_neD hu) (pe_call G2 (hr.mono (by decide)) (by rfl) D2.gl D2.fn.kp D2.bd .nil pass0 (pa_cons (pv 10) (pa_cons pe_str (pa_cons (pv 5) pa_nil)))) (pv 7) (nomark _))))) pss_never pss_nil)
    (pss_one (ps_if (pt_cmpR (op_neD hu) (pe_call G3 hr (by rfl) D3.gl D3.fn.kp D3.bd .nil pass0 (pa_cons (pv 10) (pa_cons pe_str (pa_cons (pe_tup (pa_cons (pv 5) (pa_cons pe_int pa_nil))) pa_nil)))) (pe_call G3 hr (by rfl) D3.gl D3.fn.kp D3.bd .nil pass0 (pa_cons (pv 8) (pa_cons pe_str (pa_cons (pe_tup (pa_cons (pv 5) (pa_cons pe_int pa_nil))) pa_nil)))) (nomark _)) pss_never pss_nil)))))))
    (pss_one (ps_ret pe_bl)))))))))), ?_⟩
  refine ⟨trivial, fun v0 H1 s1 d1 => ?_⟩
  refine ⟨trivial, fun v1 H2 s2 d2 => ?_⟩
  refine ⟨trivial, fun v2 H3 s3 d3 => ?_⟩
  have tv3 : DpAll K (tps H3) [v0, v1, v2] VD := DpAll_tps (.cons (Dp_same (s2.trans s3) d1) (.cons (Dp_same s3 d2) (.cons d3 .nil))) (by decide +kernel)
  have s03 := s1.trans (s2.trans s3)
  clear d1 d2 d3 s1 s2 s3
  obtain ⟨g0, g1, g2⟩ := three tv3
  refine ⟨⟨⟨v0, rfl, g0⟩, ⟨v1, rfl, g1⟩, v2, rfl, g2⟩, fun L us1 H4 s4 hL l4 dl4 => ?_⟩
  have hL0 : H L = none := s03.free hL
  have t4 : DpAll K (tps H4) us1 (casesA.map caseD4) := DpAll_tps dl4 (by decide +kernel)
  have tv4 := DpAll_same (tps_same s4) tv3
  have s04 := s03.trans s4
  have len1 : us1.length = 5 := DpAll_len t4
  clear dl4 s4 s03 tv3 g0 g1 g2
  -- append
  obtain ⟨g0, g1, g2⟩ := three tv4
  refine ⟨_, rfl, .inl ⟨rfl, _, SqL.of l4⟩, ⟨⟨v0, rfl, g0⟩, ⟨v1, rfl, g1⟩, v2, rfl, g2⟩, fun vb H5 s5 d5 => ?_⟩
  have l5 := s5 _ _ l4
  refine ⟨L, _, _, rfl, rfl, l5, by rw [sizeLine_eq]; omega, ?_⟩
  have t5 : DpAll K (tps H5) (us1 ++ [vb]) ((casesA ++ casesB).map caseD4) := DpAll_append (DpAll_same (tps_same s5) t4) (DpAll_tps (ds := casesB.map caseD4) (.cons d5 .nil) (by decide +kernel))
  have l6 : upd H5 L (.lst (us1 ++ [vb])) L = some (.lst (us1 ++ [vb])) := upd_same
  have t6 := DpAll_same (tps_lst (ys := us1 ++ [vb]) l5) t5
  have tv6 := DpAll_same (tps_lst (ys := us1 ++ [vb]) l5) (DpAll_same (tps_same s5) tv4)
  have s06 : Same H (upd H5 L (.lst (us1 ++ [vb]))) := fun c o e => by rw [upd_ne (ne_of_none e hL0)]; exact s5 _ _ (s04 _ _ e)
  generalize upd H5 L (.lst (us1 ++ [vb])) = H6 at l6 t6 tv6 s06
  have len6 : (us1 ++ [vb]).length = 6 := by rw [List.length_append, len1]; rfl
  clear g0 g1 g2 s5 d5 l5 t5 t4 tv4 s04 l4
  generalize us1 ++ [vb] = us6 at l6 t6 len6
  -- extend
  obtain ⟨g0, g1, g2⟩ := three tv6
  refine ⟨_, rfl, .inl ⟨rfl, _, SqL.of l6⟩, ⟨⟨v0, rfl, g0⟩, ⟨v1, rfl, g1⟩, v2, rfl, g2⟩, fun L2 us2 H7 s7 hL2 l7 dl7 => ?_⟩
  have t7 : DpAll K (tps H7) us2 (casesC.map caseD4) := DpAll_tps dl7 (by decide +kernel)
  have len7 : us2.length = 4 := DpAll_len t7
  have l67 := s7 _ _ l6
  refine ⟨L, L2, us6, us2, rfl, rfl, l67, l7, by rw [sizeLine_eq]; omega, ?_⟩
  have t8 : DpAll K (tps (upd H7 L (.lst (us6 ++ us2)))) (us6 ++ us2) ((casesA ++ casesB ++ casesC).map caseD4) := by
    rw [List.map_append]
    exact DpAll_same (tps_lst l67) (DpAll_append (DpAll_same (tps_same s7) t6) t7)
  have l8 : upd H7 L (.lst (us6 ++ us2)) L = some (.lst (us6 ++ us2)) := upd_same
  have tv8 := DpAll_same (tps_lst (ys := us6 ++ us2) l67) (DpAll_same (tps_same s7) tv6)
  have s08 : Same H (upd H7 L (.lst (us6 ++ us2))) := fun c o e => by rw [upd_ne (ne_of_none e hL0)]; exact s7 _ _ (s06 _ _ e)
  generalize upd H7 L (.lst (us6 ++ us2)) = H8 at l8 t8 tv8 s08
  have len8 : (us6 ++ us2).length = 10 := by rw [List.length_append, len6, len7]
  clear g0 g1 g2 s7 dl7 l7 l67 t7 t6 tv6 s06 l6 hL2
  generalize us6 ++ us2 = us8 at l8 t8 len8
  -- append
  obtain ⟨g0, g1, g2⟩ := three tv8
  refine ⟨_, rfl, .inl ⟨rfl, _, SqL.of l8⟩, ⟨⟨v0, rfl, g0⟩, ⟨v1, rfl, g1⟩, v2, rfl, g2⟩, fun vd H9 s9 d9 => ?_⟩
  have l9 := s9 _ _ l8
  refine ⟨L, _, _, rfl, rfl, l9, by rw [sizeLine_eq]; omega, ?_⟩
  have t9 : DpAll K (tps (upd H9 L (.lst (us8 ++ [vd])))) (us8 ++ [vd]) (casesZ.map caseD4) := by
    unfold casesZ
    rw [List.map_append]
    exact DpAll_same (tps_lst l9) (DpAll_append (DpAll_same (tps_same s9) t8) (DpAll_tps (ds := casesD.map caseD4) (.cons d9 .nil) (by decide +kernel)))
  have l10 : upd H9 L (.lst (us8 ++ [vd])) L = some (.lst (us8 ++ [vd])) := upd_same
  have s10 : Same H (upd H9 L (.lst (us8 ++ [vd]))) := fun c o e => by rw [upd_ne (ne_of_none e hL0)]; exact s9 _ _ (s08 _ _ e)
  generalize upd H9 L (.lst (us8 ++ [vd])) = H10 at l10 t9 s10
  clear g0 g1 g2 s9 d9 l9 t8 tv8 s08 l8
  have lu : (us8 ++ [vd]).length = casesZ.length := by rw [DpAll_len t9, List.length_map]
  generalize us8 ++ [vd] = us at l10 t9 lu
  refine ⟨_, rfl, L, rfl, ⟨_, SqL.of l10⟩, for_it (walk_list (xs := us)) (fun n σ H' => ∃ (x4 x5 x6 x7 x8 x10 : Option V), σ = [some v0, some v1, some v2, some (.ref L), x4, x5, x6, x7, x8, none, x10] ∧ Same H10 H')
    ⟨none, none, none, none, none, none, rfl, Same.refl _⟩ (fun n σ H' _ h => by obtain ⟨_, _, _, _, _, _, _, s'⟩ := h; exact SqL.of (s' _ _ l10)) ?_ ?_⟩
  · rintro n x σ H7 H8 hn ⟨x4, x5, x6, x7, x8, x10, rfl, s7⟩ ⟨he, hxn⟩
    subst he
    obtain ⟨d, hd1, hd2⟩ := DpAll_get t9 hxn
    have hn' : n < casesZ.length := by omega
    rw [List.getElem?_map, List.getElem?_eq_getElem hn'] at hd1
    cases hd1
    have CO := case_ok4 (List.getElem_mem hn')
    generalize casesZ[n] = c at hd2 CO
    obtain ⟨es, b, due, fr⟩ := c
    have hd3 := Dp_same (tps_sub.trans s7) hd2
    obtain ⟨ax, ys, rfl, hax, hys⟩ := Dp_tup hd3
    cases hys with
    | cons q0 r => cases r with
      | cons q1 r => cases r with
        | cons q2 r => cases r with
          | cons q3 r =>
          cases r
          cases Dp_int q1
          cases Dp_optD q2
          obtain ⟨ae, vs, rfl, hae, hvs⟩ := Dp_tup q0
          have hok := CO.ok
          have few6 : es.length ≤ 6 := CO.few
          have hnear : nearI es b = due := CO.near
          have hfront : frI es b = fr := CO.front
          have lvs : vs.length = es.length := by rw [DpAll_len hvs, List.length_map]
          refine ⟨ax, _, rfl, hax, rfl, _, _, rfl, _, _, rfl, _, _, rfl, _, _, rfl, rfl, ?_⟩
          -- the code
          refine ⟨by show 2 ≤ sizeLine; decide, fun a1 h1 => ?_⟩
          have sa := same_new (o := .tup [V.str "a", .int 1]) h1
          have ea : upd H8 a1 (.tup [V.str "a", .int 1]) a1 = some (.tup [V.str "a", .int 1]) := upd_same
          generalize upd H8 a1 (.tup [V.str "a", .int 1]) = H9 at sa ea
          refine ⟨by show 1 ≤ sizeLine; decide, fun a2 h2 => ?_⟩
          have sb := same_new (o := .tup [V.ref a1]) h2
          have dO : Dp K (upd H9 a2 (.tup [V.ref a1])) (.ref a2) objD := .tup (SqT.of upd_same) (.cons (.tup (SqT.of (sb _ _ ea)) (.cons (.str _) (.cons (.int _) .nil))) .nil)
          generalize upd H9 a2 (.tup [V.ref a1]) = H10' at sb dO
          have s10' := sa.trans sb
          refine ⟨_, rfl, ae, rfl, ⟨_, sameT s10' hae⟩, fun D2 hD2 => lc_it (walk_tup (xs := vs)) (fun j H' => ∃ (us' : List V), Same H10' H' ∧ H' D2 = some (.lst us') ∧ DpAll K (tps H') us' ((es.take j).map blkD) ∧ us'.length = j)
            ⟨[], same_new hD2, upd_same, .nil, rfl⟩ (fun j H' _ h => by obtain ⟨_, s', _⟩ := h; exact sameT (s10'.trans s') hae) ?_ ?_⟩
          · rintro j y H11 H12 hj ⟨us', s11, l11, dd11, ln11⟩ ⟨he, hy⟩
            subst he
            have hj' : j < es.length := by omega
            obtain ⟨dj, hdj1, hdj2⟩ := DpAll_get hvs hy
            rw [List.getElem?_map, List.getElem?_eq_getElem hj'] at hdj1
            cases hdj1
            have etk : es.take (j + 1) = es.take j ++ [es[j]] := by rw [List.take_succ, List.getElem?_eq_getElem hj']; rfl
            generalize es[j] = e at hdj2 etk
            refine ⟨rfl, yes_then ?_⟩
            refine (if_pos rfl).mpr ?_
            refine ⟨Nat.zero_le _, fun ta hta => ?_⟩
            have st := same_new (o := .tup []) hta
            have et : upd H12 ta (.tup []) ta = some (.tup []) := upd_same
            generalize upd H12 ta (.tup []) = H13 at st et
            refine ⟨_, rfl, by show 2 ≤ sizeLine; decide, fun tb htb => ?_⟩
            have su := same_new (o := .tup [V.ref ta, y]) htb
            have du : Dp K (upd H13 tb (.tup [V.ref ta, y])) (.ref tb) (blkD e) := .tup (SqT.of upd_same) (.cons (.tup (SqT.of (su _ _ et)) .nil) (.cons (Dp_same (s10'.trans (s11.trans (st.trans su))) hdj2) .nil))
            generalize upd H13 tb (.tup [V.ref ta, y]) = H14 at su du
            have l14 := su _ _ (st _ _ l11)
            refine ⟨us', l14, by rw [sizeLine_eq]; omega, us' ++ [.ref tb], fun c o ee => by rw [upd_ne (ne_of_none ee hD2)]; exact su _ _ (st _ _ (s11 _ _ ee)), upd_same, ?_, by rw [List.length_append, ln11]; rfl⟩
            rw [etk, List.map_append]
            exact DpAll_append (DpAll_same ((tps_same (st.trans su)).trans (tps_lst l14)) dd11) (.cons (Dp_same (tps_lst l14) (Dp_tps du (blkD_noL e))) .nil)
          · rintro H11 ⟨us', s11, l11, dd11, ln11⟩
            rw [lvs, List.take_length] at dd11
            refine ⟨D2, _, rfl, .inl ⟨SqL.of l11, fun a3 h3 => ?_⟩⟩
            have sc := same_new (o := .tup us') h3
            have dB : Dp K (upd H11 a3 (.tup us')) (.ref a3) (.tuple (es.map blkD)) := .tup (SqT.of upd_same) (DpAll_same (tps_sub.trans sc) dd11)
            generalize upd H11 a3 (.tup us') = H12 at sc dB
            refine ⟨by show 2 ≤ sizeLine; decide, fun a4 h4 => ?_⟩
            have sd := same_new (o := .tup [V.str "main", .ref a3]) h4
            have dR : Dp K (upd H12 a4 (.tup [V.str "main", .ref a3])) (.ref a4) (rtD ("main", es)) := .tup (SqT.of upd_same) (.cons (.str _) (.cons (Dp_same sd dB) .nil))
            generalize upd H12 a4 (.tup [V.str "main", .ref a3]) = H13 at sd dR
            refine ⟨by show 1 ≤ sizeLine; decide, fun a5 h5 => ?_⟩
            have se := same_new (o := .tup [V.ref a4]) h5
            have dRs : Dp K (upd H13 a5 (.tup [V.ref a4])) (.ref a5) (.tuple [rtD ("main", es)]) := .tup (SqT.of upd_same) (.cons (Dp_same se dR) .nil)
            generalize upd H13 a5 (.tup [V.ref a4]) = H14 at se dRs
            refine ⟨by show 2 ≤ sizeLine; decide, fun a6 h6 => ?_⟩
            have sf := same_new (o := .tup [V.ref a2, .ref a5]) h6
            have dC : Dp K (upd H14 a6 (.tup [V.ref a2, .ref a5])) (.ref a6) (codeD [("main", es)]) := .tup (SqT.of upd_same) (.cons (Dp_same (s11.trans (sc.trans (sd.trans (se.trans sf)))) dO) (.cons (Dp_same sf dRs) .nil))
            have s14 := s10'.trans (s11.trans (sc.trans (sd.trans (se.trans sf))))
            generalize upd H14 a6 (.tup [V.ref a2, .ref a5]) = H15 at sf dC s14
            clear sa sb sc sd se sf dO dB dR dRs dd11 l11 s11 s10' h1 h2 h3 h4 h5 h6 hD2 ea
            have hC : CodeOf K H15 (.ref a6) "main" es := ⟨⟨_, dC, by show (if ("main" : Str) = "main" then _ else _) = _; rw [if_pos rfl]⟩, hok⟩
            have few := hok.few
            have shp : SeqAt.shaped (.tuple ((frI es b).map PyData.int)) = true := (ints_fit (Nat.le_trans (frI_len es b) few) fun k hk => ⟨(frI_rng hk).1, by have := (frI_rng hk).2; omega⟩).shaped (by decide)
            have q3' := Dp_same s14 q3
            rw [show (fr.map PyData.int) = ((frI es b).map PyData.int) by rw [hfront]] at q3'
            subst hnear
            refine ⟨_, rfl, _, rfl, .ref a6, "main", b, es, rfl, hC, fun H16 s16 => ?_⟩
            refine ⟨_, rfl, scal_oo _, _, rfl, ?_⟩
            rw [decide_eq_true rfl]
            refine iteF ?_
            refine ⟨_, rfl, _, rfl, .ref a6, "main", b, es, rfl, hC.same s16, fun t H17 s17 ht => ?_⟩
            have sg := s16.trans s17
            refine ⟨_, rfl, _, _, ints_tup ht, Dp_same sg q3', shp, shp, _, rfl, ?_⟩
            rw [eqv_same shp]
            refine iteF ?_
            refine ⟨_, rfl, .ref a6, "main", es, [], rfl, Dp_same sg dC, fun vo H18 s18 dV => ?_⟩
            have hO : CodeOf K H18 vo "sub" es := ⟨⟨_, dV, by
              show (if ("main" : Str) = "sub" then _ else (if ("sub" : Str) = "sub" then _ else _)) = _
              rw [if_neg (by decide +kernel), if_pos rfl]⟩, hok⟩
            have sh := sg.trans s18
            refine ⟨_, rfl, _, rfl, vo, "sub", b, es, rfl, hO, fun H19 s19 => ?_⟩
            refine ⟨_, rfl, scal_oo _, _, rfl, ?_⟩
            rw [decide_eq_true rfl]
            refine iteF ?_
            refine ⟨_, rfl, _, rfl, vo, "sub", b, es, rfl, hO.same s19, fun t' H20 s20 ht' => ?_⟩
            have si := s19.trans s20
            refine ⟨_, rfl, _, _, ints_tup ht', Dp_same (sh.trans si) q3', shp, shp, _, rfl, ?_⟩
            rw [eqv_same shp]
            refine iteF ?_
            refine ⟨_, rfl, _, rfl, by show 2 ≤ sizeLine; decide, fun ta hta => ?_⟩
            have sj := same_new (o := .tup [V.int b, .int 0]) hta
            refine ⟨vo, "sub", ta, [b, 0], es, rfl, hO.same (si.trans sj), SqT.of upd_same, by show 2 ≤ 60; decide, fun t1 H21 ns s21 ht1 ris mem => ?_⟩
            have sk := sh.trans (si.trans (sj.trans s21))
            refine ⟨_, rfl, _, rfl, by show 2 ≤ sizeLine; decide, fun tb htb => ?_⟩
            have sl := same_new (o := .tup [V.int b, .int 0]) htb
            refine ⟨.ref a6, "main", tb, [b, 0], es, rfl, hC.same (sk.trans sl), SqT.of upd_same, by show 2 ≤ 60; decide, fun t2 H22 ns2 s22 ht2 ris2 mem2 => ?_⟩
            have e : ns2 = ns := rising_eq ris2 ris fun k => (mem2 k).trans (mem k).symm
            subst e
            have nl : ns2.length ≤ 60 := Nat.le_trans (few_ints es.length (ris.imp fun h => by omega) fun k hk => ((mem k).mp hk).rng) few
            have shn : SeqAt.shaped (.tuple (ns2.map PyData.int)) = true := (ints_fit nl fun k hk => ⟨((mem k).mp hk).rng.1, by have := ((mem k).mp hk).rng.2; omega⟩).shaped (by decide)
            refine ⟨_, _, ints_tup (s22 _ _ (sl _ _ ht1)), ints_tup ht2, shn, shn, _, rfl, ?_⟩
            rw [eqv_same shn]
            refine iteF ?_
            exact ⟨_, _, _, _, _, _, rfl, s7.trans (s14.trans (sk.trans (sl.trans s22)))⟩
  · rintro σ H7 ⟨x4, x5, x6, x7, x8, x10, rfl, s7⟩
    exact q H7 (s10.trans s7)
end
end Sw
set_option maxRecDepth 100000
set_option maxHeartbeats 4000000
namespace Sw
open PySem PySem.Spec PyProof.Rows L2
section
variable {P : Program} {w : World} {K : PySem.W.Frag} {mg : Str → Option Value} {base : Heap}
theorem sc_law : FnScope N22 ["_law_script"] (defScope (topS 30)) := ⟨rfl, rfl, rfl, by decide +kernel, rfl, by decide +kernel, by decide +kernel⟩
theorem ok_law {f f1 f2 f3 f4 : Addr} {fd fd1 fd2 fd3 fd4 : FuncData} (D : Df K mg "law" (topS 30) ["_law_script"] f fd) (D1 : Df K mg "_law_feed" (topS 17) ["_law_script"] f1 fd1) (D2 : Df K mg "_law_graph" (topS 19) ["_law_feed_here", "_law_most"] f2 fd2)
    (D3 : Df K mg "_law_right" (topS 27) ["_law_feed_here", "_law_code"] f3 fd3) (D4 : Df K mg "_law_by_hand" (topS 29) [] f4 fd4) (B : Bt mg)
    (G1 : FnOk P w K mg base CX0 1 f1 fd1 ["_law_script"] (spFeed K)) (G2 : FnOk P w K mg base CX0 2 f2 fd2 ["_law_feed_here", "_law_most"] (spGraph K)) (G3 : FnG P w K mg base 7 f3 fd3 ["_law_feed_here", "_law_code"] (spLRight K)) (G4 : FnG P w K mg base 7 f4 fd4 [] spHand) :
    FnG P w K mg base 8 f fd ["_law_script"] (spLaw K) := by
  refine fun_okG D.fn sc_law (fun vs H Q E h => ?_) (fun cdv A outer s H vs Q E hg hr h => ?_)
  · obtain ⟨a, ns, rfl, _⟩ := h
    rfl
  obtain ⟨a, ns, rfl, hS, hn, q⟩ := h
  have nd := sc_law.nd
  have hu := hr.units
  have hg2 : (A.deeper (envOfC "law" (defScope (topS 30)) s.heap.objs.size f cdv)).guards = some [] := hg
  refine ⟨_, (pss_cons (ps_set (i := 1) nd rfl (Or.inl rfl) (pe_call G1 (hr.mono (by decide)) (by rfl) D1.gl D1.fn.kp D1.bd .nil pass0 (pa_cons (pv 0) pa_nil)))
    (pss_cons (ps_for PassesOwn.never rfl (pi_range1 (by rfl) B.range (pa_cons pe_int pa_nil)) (pg_name (i := 2) nd rfl (Or.inl rfl))
    (pss_cons (ps_set (i := 3) nd rfl (Or.inl rfl) (pe_call G2 (hr.mono (by decide)) (by rfl) D2.gl D2.fn.kp D2.bd .nil pass0 (pa_cons (pv 1) (pa_cons pe_int pa_nil))))
    (pss_cons (ps_set (i := 4) nd rfl (Or.inl rfl) (pe_callB (call_repr hg2 hu) (by rfl) B.repr (by decide +kernel) (pa_cons (pv 3) pa_nil)))
    (pss_one (ps_if (PW.pt (pw_or (pt_not (pt_val (pe_callG hg2 G3 hr (by rfl) D3.gl D3.fn.kp D3.bd pass0 (pa_cons (pv 1) (pa_cons (pv 3) pa_nil))))) (pw_or1 (pt_cmpR op_ne (pe_callB (call_repr hg2 hu) (by rfl) B.repr (by decide +kernel) (pa_cons (pv 3) pa_nil)) (pv 4) (nomark _))))) pss_never pss_nil)))))
    (pss_one (ps_ret (pe_callG0 hg2 G4 hr (by rfl) D4.gl D4.fn.kp D4.bd pass0))))), ?_⟩
  refine ⟨_, rfl, a, ns, rfl, hS, hn, fun p fq H1 s1 hp F1 => ?_⟩
  refine ⟨5, rfl, by decide, by decide, ?_⟩
  refine for_it walk_range (fun k σ H' => ∃ (x2 x3 x4 : Option V), σ = [some (.ref a), some (.ref p), x2, x3, x4] ∧ FeedAt H' p fq (200 * k)) ⟨none, none, none, rfl, F1⟩ (fun _ _ _ _ _ => trivial) ?_ ?_
  · rintro k x σ H2 H3 hk ⟨x2, x3, x4, rfl, F2⟩ ⟨rfl, rfl⟩
    have hk5 : k < 5 := hk
    refine ⟨_, rfl, p, fq, 6, _, rfl, F2, by omega, by decide, by decide, fun v H4 es s4 F4 hok few6 dC => ?_⟩
    have dC' := Dp_same (del_same H4 p) dC
    obtain ⟨av, xs, rfl, _, _⟩ := Dp_tup dC'
    obtain ⟨r1, r2, r3, r4⟩ := repr_ok (codeD_fit hok) (by decide) (by decide) (by decide)
    refine ⟨_, rfl, av, _, rfl, dC', r1, r2, r3, r4, ?_⟩
    refine ⟨_, rfl, _, rfl, p, fq, .ref av, es, _, rfl, F4, by omega, dC, hok, few6, fun H5 s5 F5 => ⟨_, rfl, ?_⟩⟩
    refine iteF ?_
    refine ⟨_, rfl, av, _, rfl, Dp_same (del_same H5 p) (Dp_same s5 dC), r1, r2, r3, r4, _, rfl, rfl, _, rfl, ?_⟩
    rw [decide_eq_true rfl]
    refine iteF ?_
    exact ⟨_, _, _, rfl, F5.mono (by omega)⟩
  · rintro σ H2 ⟨x2, x3, x4, rfl, F2⟩
    exact ⟨rfl, fun H' _ => q H'⟩
end
end Sw
set_option maxRecDepth 100000
set_option maxHeartbeats 4000000
namespace Sw
open PySem PySem.Spec PyProof.Rows L2
theorem all_mk {l : PySem.W.OpenLaw} {w : World} {K : PySem.W.Frag} {h : Heap} {mg : Str → Option Value} {fa f4 f6 f7 f8 f9 f11 f12 f13 f14 f15 f17 f18 f19 f20 f21 f22 f23 f24 f25 f26 f27 f28 f29 f30 : Addr} (X : K.In h) (G : h.Ns mainGlobals mg) (hfa : mg "law" = some (.ref fa))
    {od4 od6 od7 od8 od9 od11 od12 od13 od14 od15 od17 od18 od19 od20 od21 od22 od23 od24 od25 od26 od27 od28 od29 od30 an4 an6 an7 an8 an9 an11 an12 an13 an14 an15 an17 an18 an19 an20 an21 an22 an23 an24 an25 an26 an27 an28 an29 an30 : Option Addr} {sl4 sl6 sl7 sl8 sl9 sl11 sl12 sl13 sl14 sl15 sl17 sl18 sl19 sl20 sl21 sl22 sl23 sl24 sl25 sl26 sl27 sl28 sl29 sl30 : Array (Option Value)} {oc4 oc6 oc7 oc8 oc9 oc11 oc12 oc13 oc14 oc15 oc17 oc18 oc19 oc20 oc21 oc22 oc23 oc24 oc25 oc26 oc27 oc28 oc29 oc30 kV4 kV6 kV7 kV8 kV9 kV11 kV12 kV13 kV14 kV15 kV17 kV18 kV19 kV20 kV21 kV22 kV23 kV24 kV25 kV26 kV27 kV28 kV29 kV30 dc4 dc6 dc7 dc8 dc9 dc11 dc12 dc13 dc14 dc15 dc17 dc18 dc19 dc20 dc21 dc22 dc23 dc24 dc25 dc26 dc27 dc28 dc29 dc30 pm4 pm6 pm7 pm8 pm9 pm11 pm12 pm13 pm14 pm15 pm17 pm18 pm19 pm20 pm21 pm22 pm23 pm24 pm25 pm26 pm27 pm28 pm29 pm30 cd4 cd6 cd7 cd8 cd9 cd11 cd12 cd13 cd14 cd15 cd17 cd18 cd19 cd20 cd21 cd22 cd23 cd24 cd25 cd26 cd27 cd28 cd29 cd30 ct4 ct6 ct7 ct8 ct9 ct11 ct12 ct13 ct14 ct15 ct17 ct18 ct19 ct20 ct21 ct22 ct23 ct24 ct25 ct26 ct27 ct28 ct29 ct30 : Value}
    (a4 : PySem.W.nsIn K mainGlobals "blocks_of" = some (some (.ref f4))) (l4 : K.lookup f4 = some ⟨oc4, od4, .func (PySem.W.fnOf "blocks_of" "blocks_of" (defArgs (topS 4)) (defBody (topS 4)) (defScope (topS 4)) .none kV4 dc4 pm4 an4 cd4 ct4), sl4⟩) (c4 : PySem.W.codeIn K cd4 "blocks_of" = true) (k4 : PySem.W.keepIn K (.ref f4) = true)
    (a6 : PySem.W.nsIn K mainGlobals "goals" = some (some (.ref f6))) (l6 : K.lookup f6 = some ⟨oc6, od6, .func (PySem.W.fnOf "goals" "goals" (defArgs (topS 6)) (defBody (topS 6)) (defScope (topS 6)) .none kV6 dc6 pm6 an6 cd6 ct6), sl6⟩) (c6 : PySem.W.codeIn K cd6 "goals" = true) (k6 : PySem.W.keepIn K (.ref f6) = true)
    (a7 : PySem.W.nsIn K mainGlobals "nexts" = some (some (.ref f7))) (l7 : K.lookup f7 = some ⟨oc7, od7, .func (PySem.W.fnOf "nexts" "nexts" (defArgs (topS 7)) (defBody (topS 7)) (defScope (topS 7)) .none kV7 dc7 pm7 an7 cd7 ct7), sl7⟩) (c7 : PySem.W.codeIn K cd7 "nexts" = true) (k7 : PySem.W.keepIn K (.ref f7) = true)
    (a8 : PySem.W.nsIn K mainGlobals "led_around" = some (some (.ref f8))) (l8 : K.lookup f8 = some ⟨oc8, od8, .func (PySem.W.fnOf "led_around" "led_around" (defArgs (topS 8)) (defBody (topS 8)) (defScope (topS 8)) .none kV8 dc8 pm8 an8 cd8 ct8), sl8⟩) (c8 : PySem.W.codeIn K cd8 "led_around" = true) (k8 : PySem.W.keepIn K (.ref f8) = true)
    (a9 : PySem.W.nsIn K mainGlobals "reached" = some (some (.ref f9))) (l9 : K.lookup f9 = some ⟨oc9, od9, .func (PySem.W.fnOf "reached" "reached" (defArgs (topS 9)) (defBody (topS 9)) (defScope (topS 9)) .none kV9 dc9 pm9 an9 cd9 ct9), sl9⟩) (c9 : PySem.W.codeIn K cd9 "reached" = true) (k9 : PySem.W.keepIn K (.ref f9) = true)
    (a11 : PySem.W.nsIn K mainGlobals "dominates" = some (some (.ref f11))) (l11 : K.lookup f11 = some ⟨oc11, od11, .func (PySem.W.fnOf "dominates" "dominates" (defArgs (topS 11)) (defBody (topS 11)) (defScope (topS 11)) .none kV11 dc11 pm11 an11 cd11 ct11), sl11⟩) (c11 : PySem.W.codeIn K cd11 "dominates" = true) (k11 : PySem.W.keepIn K (.ref f11) = true)
    (a12 : PySem.W.nsIn K mainGlobals "dominators" = some (some (.ref f12))) (l12 : K.lookup f12 = some ⟨oc12, od12, .func (PySem.W.fnOf "dominators" "dominators" (defArgs (topS 12)) (defBody (topS 12)) (defScope (topS 12)) .none kV12 dc12 pm12 an12 cd12 ct12), sl12⟩) (c12 : PySem.W.codeIn K cd12 "dominators" = true) (k12 : PySem.W.keepIn K (.ref f12) = true)
    (a13 : PySem.W.nsIn K mainGlobals "nearest" = some (some (.ref f13))) (l13 : K.lookup f13 = some ⟨oc13, od13, .func (PySem.W.fnOf "nearest" "nearest" (defArgs (topS 13)) (defBody (topS 13)) (defScope (topS 13)) .none kV13 dc13 pm13 an13 cd13 ct13), sl13⟩) (c13 : PySem.W.codeIn K cd13 "nearest" = true) (k13 : PySem.W.keepIn K (.ref f13) = true)
    (a14 : PySem.W.nsIn K mainGlobals "frontier" = some (some (.ref f14))) (l14 : K.lookup f14 = some ⟨oc14, od14, .func (PySem.W.fnOf "frontier" "frontier" (defArgs (topS 14)) (defBody (topS 14)) (defScope (topS 14)) .none kV14 dc14 pm14 an14 cd14 ct14), sl14⟩) (c14 : PySem.W.codeIn K cd14 "frontier" = true) (k14 : PySem.W.keepIn K (.ref f14) = true)
    (a15 : PySem.W.nsIn K mainGlobals "frontier_again" = some (some (.ref f15))) (l15 : K.lookup f15 = some ⟨oc15, od15, .func (PySem.W.fnOf "frontier_again" "frontier_again" (defArgs (topS 15)) (defBody (topS 15)) (defScope (topS 15)) .none kV15 dc15 pm15 an15 cd15 ct15), sl15⟩) (c15 : PySem.W.codeIn K cd15 "frontier_again" = true) (k15 : PySem.W.keepIn K (.ref f15) = true)
    (a17 : PySem.W.nsIn K mainGlobals "_law_feed" = some (some (.ref f17))) (l17 : K.lookup f17 = some ⟨oc17, od17, .func (PySem.W.fnOf "_law_feed" "_law_feed" (defArgs (topS 17)) (defBody (topS 17)) (defScope (topS 17)) .none kV17 dc17 pm17 an17 cd17 ct17), sl17⟩) (c17 : PySem.W.codeIn K cd17 "_law_feed" = true) (k17 : PySem.W.keepIn K (.ref f17) = true)
    (a18 : PySem.W.nsIn K mainGlobals "_law_draw" = some (some (.ref f18))) (l18 : K.lookup f18 = some ⟨oc18, od18, .func (PySem.W.fnOf "_law_draw" "_law_draw" (defArgs (topS 18)) (defBody (topS 18)) (defScope (topS 18)) .none kV18 dc18 pm18 an18 cd18 ct18), sl18⟩) (c18 : PySem.W.codeIn K cd18 "_law_draw" = true) (k18 : PySem.W.keepIn K (.ref f18) = true)
    (a19 : PySem.W.nsIn K mainGlobals "_law_graph" = some (some (.ref f19))) (l19 : K.lookup f19 = some ⟨oc19, od19, .func (PySem.W.fnOf "_law_graph" "_law_graph" (defArgs (topS 19)) (defBody (topS 19)) (defScope (topS 19)) .none kV19 dc19 pm19 an19 cd19 ct19), sl19⟩) (c19 : PySem.W.codeIn K cd19 "_law_graph" = true) (k19 : PySem.W.keepIn K (.ref f19) = true)
    (a20 : PySem.W.nsIn K mainGlobals "_law_arrows" = some (some (.ref f20))) (l20 : K.lookup f20 = some ⟨oc20, od20, .func (PySem.W.fnOf "_law_arrows" "_law_arrows" (defArgs (topS 20)) (defBody (topS 20)) (defScope (topS 20)) .none kV20 dc20 pm20 an20 cd20 ct20), sl20⟩) (c20 : PySem.W.codeIn K cd20 "_law_arrows" = true) (k20 : PySem.W.keepIn K (.ref f20) = true)
    (a21 : PySem.W.nsIn K mainGlobals "_law_comes" = some (some (.ref f21))) (l21 : K.lookup f21 = some ⟨oc21, od21, .func (PySem.W.fnOf "_law_comes" "_law_comes" (defArgs (topS 21)) (defBody (topS 21)) (defScope (topS 21)) .none kV21 dc21 pm21 an21 cd21 ct21), sl21⟩) (c21 : PySem.W.codeIn K cd21 "_law_comes" = true) (k21 : PySem.W.keepIn K (.ref f21) = true)
    (a22 : PySem.W.nsIn K mainGlobals "_law_over" = some (some (.ref f22))) (l22 : K.lookup f22 = some ⟨oc22, od22, .func (PySem.W.fnOf "_law_over" "_law_over" (defArgs (topS 22)) (defBody (topS 22)) (defScope (topS 22)) .none kV22 dc22 pm22 an22 cd22 ct22), sl22⟩) (c22 : PySem.W.codeIn K cd22 "_law_over" = true) (k22 : PySem.W.keepIn K (.ref f22) = true)
    (a23 : PySem.W.nsIn K mainGlobals "_law_tables" = some (some (.ref f23))) (l23 : K.lookup f23 = some ⟨oc23, od23, .func (PySem.W.fnOf "_law_tables" "_law_tables" (defArgs (topS 23)) (defBody (topS 23)) (defScope (topS 23)) .none kV23 dc23 pm23 an23 cd23 ct23), sl23⟩) (c23 : PySem.W.codeIn K cd23 "_law_tables" = true) (k23 : PySem.W.keepIn K (.ref f23) = true)
    (a24 : PySem.W.nsIn K mainGlobals "_law_nearest" = some (some (.ref f24))) (l24 : K.lookup f24 = some ⟨oc24, od24, .func (PySem.W.fnOf "_law_nearest" "_law_nearest" (defArgs (topS 24)) (defBody (topS 24)) (defScope (topS 24)) .none kV24 dc24 pm24 an24 cd24 ct24), sl24⟩) (c24 : PySem.W.codeIn K cd24 "_law_nearest" = true) (k24 : PySem.W.keepIn K (.ref f24) = true)
    (a25 : PySem.W.nsIn K mainGlobals "_law_front" = some (some (.ref f25))) (l25 : K.lookup f25 = some ⟨oc25, od25, .func (PySem.W.fnOf "_law_front" "_law_front" (defArgs (topS 25)) (defBody (topS 25)) (defScope (topS 25)) .none kV25 dc25 pm25 an25 cd25 ct25), sl25⟩) (c25 : PySem.W.codeIn K cd25 "_law_front" = true) (k25 : PySem.W.keepIn K (.ref f25) = true)
    (a26 : PySem.W.nsIn K mainGlobals "_law_again" = some (some (.ref f26))) (l26 : K.lookup f26 = some ⟨oc26, od26, .func (PySem.W.fnOf "_law_again" "_law_again" (defArgs (topS 26)) (defBody (topS 26)) (defScope (topS 26)) .none kV26 dc26 pm26 an26 cd26 ct26), sl26⟩) (c26 : PySem.W.codeIn K cd26 "_law_again" = true) (k26 : PySem.W.keepIn K (.ref f26) = true)
    (a27 : PySem.W.nsIn K mainGlobals "_law_right" = some (some (.ref f27))) (l27 : K.lookup f27 = some ⟨oc27, od27, .func (PySem.W.fnOf "_law_right" "_law_right" (defArgs (topS 27)) (defBody (topS 27)) (defScope (topS 27)) .none kV27 dc27 pm27 an27 cd27 ct27), sl27⟩) (c27 : PySem.W.codeIn K cd27 "_law_right" = true) (k27 : PySem.W.keepIn K (.ref f27) = true)
    (a28 : PySem.W.nsIn K mainGlobals "_law_beside" = some (some (.ref f28))) (l28 : K.lookup f28 = some ⟨oc28, od28, .func (PySem.W.fnOf "_law_beside" "_law_beside" (defArgs (topS 28)) (defBody (topS 28)) (defScope (topS 28)) .none kV28 dc28 pm28 an28 cd28 ct28), sl28⟩) (c28 : PySem.W.codeIn K cd28 "_law_beside" = true) (k28 : PySem.W.keepIn K (.ref f28) = true)
    (a29 : PySem.W.nsIn K mainGlobals "_law_by_hand" = some (some (.ref f29))) (l29 : K.lookup f29 = some ⟨oc29, od29, .func (PySem.W.fnOf "_law_by_hand" "_law_by_hand" (defArgs (topS 29)) (defBody (topS 29)) (defScope (topS 29)) .none kV29 dc29 pm29 an29 cd29 ct29), sl29⟩) (c29 : PySem.W.codeIn K cd29 "_law_by_hand" = true) (k29 : PySem.W.keepIn K (.ref f29) = true)
    (a30 : PySem.W.nsIn K mainGlobals "law" = some (some (.ref f30))) (l30 : K.lookup f30 = some ⟨oc30, od30, .func (PySem.W.fnOf "law" "law" (defArgs (topS 30)) (defBody (topS 30)) (defScope (topS 30)) .none kV30 dc30 pm30 an30 cd30 ct30), sl30⟩) (c30 : PySem.W.codeIn K cd30 "law" = true) (k30 : PySem.W.keepIn K (.ref f30) = true)
    (z0 : PySem.W.nsIn K mainGlobals "isinstance" = some none) (z1 : PySem.W.nsIn K mainGlobals "int" = some none) (z2 : PySem.W.nsIn K mainGlobals "bool" = some none) (z3 : PySem.W.nsIn K mainGlobals "str" = some none) (z4 : PySem.W.nsIn K mainGlobals "tuple" = some none) (z5 : PySem.W.nsIn K mainGlobals "list" = some none) (z6 : PySem.W.nsIn K mainGlobals "len" = some none) (z7 : PySem.W.nsIn K mainGlobals "all" = some none) (z8 : PySem.W.nsIn K mainGlobals "zip" = some none) (z9 : PySem.W.nsIn K mainGlobals "range" = some none) (z10 : PySem.W.nsIn K mainGlobals "ord" = some none) (z11 : PySem.W.nsIn K mainGlobals "sorted" = some none) (z12 : PySem.W.nsIn K mainGlobals "set" = some none) (z13 : PySem.W.nsIn K mainGlobals "repr" = some none) (z14 : PySem.W.nsIn K mainGlobals "dict" = some none) :
    ∃ fd : FuncData, (∀ (s : Shared) (v : Value), BindsTo s fd ⟨[v], []⟩ [("_law_script", v)]) ∧ ∀ base : Heap, K.In base → base.Ns mainGlobals mg → FnG l.prog w K mg base 8 fa fd ["_law_script"] (spLaw K) := by
  have e := hfa.symm.trans (PySem.W.mg_of X G a30)
  cases e
  have B : Bt mg := ⟨PySem.W.mg_none_of X G z0, PySem.W.mg_none_of X G z1, PySem.W.mg_none_of X G z2, PySem.W.mg_none_of X G z3, PySem.W.mg_none_of X G z4, PySem.W.mg_none_of X G z5, PySem.W.mg_none_of X G z6, PySem.W.mg_none_of X G z7, PySem.W.mg_none_of X G z8, PySem.W.mg_none_of X G z9, PySem.W.mg_none_of X G z10, PySem.W.mg_none_of X G z11, PySem.W.mg_none_of X G z12, PySem.W.mg_none_of X G z13⟩
  have b_dict : mg "dict" = none := PySem.W.mg_none_of X G z14
  have F4 := fun_mk (st := topS 4) l4 c4 k4
  have D4 : Df K mg "blocks_of" (topS 4) ["code", "name"] f4 _ := ⟨F4, F4.binds (ps := ["code", "name"]) fun _ _ _ _ _ _ us hl => match us, hl with | [_, _], _ => rfl, PySem.W.mg_of X G a4⟩
  have F6 := fun_mk (st := topS 6) l6 c6 k6
  have D6 : Df K mg "goals" (topS 6) ["end"] f6 _ := ⟨F6, F6.binds (ps := ["end"]) fun _ _ _ _ _ _ us hl => match us, hl with | [_], _ => rfl, PySem.W.mg_of X G a6⟩
  have F7 := fun_mk (st := topS 7) l7 c7 k7
  have D7 : Df K mg "nexts" (topS 7) ["code", "name", "block"] f7 _ := ⟨F7, F7.binds (ps := ["code", "name", "block"]) fun _ _ _ _ _ _ us hl => match us, hl with | [_, _, _], _ => rfl, PySem.W.mg_of X G a7⟩
  have F8 := fun_mk (st := topS 8) l8 c8 k8
  have D8 : Df K mg "led_around" (topS 8) ["code", "name", "over"] f8 _ := ⟨F8, F8.binds (ps := ["code", "name", "over"]) fun _ _ _ _ _ _ us hl => match us, hl with | [_, _, _], _ => rfl, PySem.W.mg_of X G a8⟩
  have F9 := fun_mk (st := topS 9) l9 c9 k9
  have D9 : Df K mg "reached" (topS 9) ["code", "name"] f9 _ := ⟨F9, F9.binds (ps := ["code", "name"]) fun _ _ _ _ _ _ us hl => match us, hl with | [_, _], _ => rfl, PySem.W.mg_of X G a9⟩
  have F11 := fun_mk (st := topS 11) l11 c11 k11
  have D11 : Df K mg "dominates" (topS 11) ["code", "name", "over", "under"] f11 _ := ⟨F11, F11.binds (ps := ["code", "name", "over", "under"]) fun _ _ _ _ _ _ us hl => match us, hl with | [_, _, _, _], _ => rfl, PySem.W.mg_of X G a11⟩
  have F12 := fun_mk (st := topS 12) l12 c12 k12
  have D12 : Df K mg "dominators" (topS 12) ["code", "name", "block"] f12 _ := ⟨F12, F12.binds (ps := ["code", "name", "block"]) fun _ _ _ _ _ _ us hl => match us, hl with | [_, _, _], _ => rfl, PySem.W.mg_of X G a12⟩
  have F13 := fun_mk (st := topS 13) l13 c13 k13
  have D13 : Df K mg "nearest" (topS 13) ["code", "name", "block"] f13 _ := ⟨F13, F13.binds (ps := ["code", "name", "block"]) fun _ _ _ _ _ _ us hl => match us, hl with | [_, _, _], _ => rfl, PySem.W.mg_of X G a13⟩
  have F14 := fun_mk (st := topS 14) l14 c14 k14
  have D14 : Df K mg "frontier" (topS 14) ["code", "name", "block"] f14 _ := ⟨F14, F14.binds (ps := ["code", "name", "block"]) fun _ _ _ _ _ _ us hl => match us, hl with | [_, _, _], _ => rfl, PySem.W.mg_of X G a14⟩
  have F15 := fun_mk (st := topS 15) l15 c15 k15
  have D15 : Df K mg "frontier_again" (topS 15) ["code", "name", "blocks"] f15 _ := ⟨F15, F15.binds (ps := ["code", "name", "blocks"]) fun _ _ _ _ _ _ us hl => match us, hl with | [_, _, _], _ => rfl, PySem.W.mg_of X G a15⟩
  have F17 := fun_mk (st := topS 17) l17 c17 k17
  have D17 : Df K mg "_law_feed" (topS 17) ["_law_script"] f17 _ := ⟨F17, F17.binds (ps := ["_law_script"]) fun _ _ _ _ _ _ us hl => match us, hl with | [_], _ => rfl, PySem.W.mg_of X G a17⟩
  have F18 := fun_mk (st := topS 18) l18 c18 k18
  have D18 : Df K mg "_law_draw" (topS 18) ["_law_feed_here", "_law_many"] f18 _ := ⟨F18, F18.binds (ps := ["_law_feed_here", "_law_many"]) fun _ _ _ _ _ _ us hl => match us, hl with | [_, _], _ => rfl, PySem.W.mg_of X G a18⟩
  have F19 := fun_mk (st := topS 19) l19 c19 k19
  have D19 : Df K mg "_law_graph" (topS 19) ["_law_feed_here", "_law_most"] f19 _ := ⟨F19, F19.binds (ps := ["_law_feed_here", "_law_most"]) fun _ _ _ _ _ _ us hl => match us, hl with | [_, _], _ => rfl, PySem.W.mg_of X G a19⟩
  have F20 := fun_mk (st := topS 20) l20 c20 k20
  have D20 : Df K mg "_law_arrows" (topS 20) ["_law_code"] f20 _ := ⟨F20, F20.binds (ps := ["_law_code"]) fun _ _ _ _ _ _ us hl => match us, hl with | [_], _ => rfl, PySem.W.mg_of X G a20⟩
  have F21 := fun_mk (st := topS 21) l21 c21 k21
  have D21 : Df K mg "_law_comes" (topS 21) ["_law_arrows_here", "_law_over_here"] f21 _ := ⟨F21, F21.binds (ps := ["_law_arrows_here", "_law_over_here"]) fun _ _ _ _ _ _ us hl => match us, hl with | [_, _], _ => rfl, PySem.W.mg_of X G a21⟩
  have F22 := fun_mk (st := topS 22) l22 c22 k22
  have D22 : Df K mg "_law_over" (topS 22) ["_law_arrows_here", "_law_over_here", "_law_under"] f22 _ := ⟨F22, F22.binds (ps := ["_law_arrows_here", "_law_over_here", "_law_under"]) fun _ _ _ _ _ _ us hl => match us, hl with | [_, _, _], _ => rfl, PySem.W.mg_of X G a22⟩
  have F23 := fun_mk (st := topS 23) l23 c23 k23
  have D23 : Df K mg "_law_tables" (topS 23) ["_law_arrows_here"] f23 _ := ⟨F23, F23.binds (ps := ["_law_arrows_here"]) fun _ _ _ _ _ _ us hl => match us, hl with | [_], _ => rfl, PySem.W.mg_of X G a23⟩
  have F24 := fun_mk (st := topS 24) l24 c24 k24
  have D24 : Df K mg "_law_nearest" (topS 24) ["_law_rows", "_law_block"] f24 _ := ⟨F24, F24.binds (ps := ["_law_rows", "_law_block"]) fun _ _ _ _ _ _ us hl => match us, hl with | [_, _], _ => rfl, PySem.W.mg_of X G a24⟩
  have F25 := fun_mk (st := topS 25) l25 c25 k25
  have D25 : Df K mg "_law_front" (topS 25) ["_law_arrows_here", "_law_rows", "_law_block"] f25 _ := ⟨F25, F25.binds (ps := ["_law_arrows_here", "_law_rows", "_law_block"]) fun _ _ _ _ _ _ us hl => match us, hl with | [_, _, _], _ => rfl, PySem.W.mg_of X G a25⟩
  have F26 := fun_mk (st := topS 26) l26 c26 k26
  have D26 : Df K mg "_law_again" (topS 26) ["_law_fronts", "_law_blocks"] f26 _ := ⟨F26, F26.binds (ps := ["_law_fronts", "_law_blocks"]) fun _ _ _ _ _ _ us hl => match us, hl with | [_, _], _ => rfl, PySem.W.mg_of X G a26⟩
  have F27 := fun_mk (st := topS 27) l27 c27 k27
  have D27 : Df K mg "_law_right" (topS 27) ["_law_feed_here", "_law_code"] f27 _ := ⟨F27, F27.binds (ps := ["_law_feed_here", "_law_code"]) fun _ _ _ _ _ _ us hl => match us, hl with | [_, _], _ => rfl, PySem.W.mg_of X G a27⟩
  have F28 := fun_mk (st := topS 28) l28 c28 k28
  have D28 : Df K mg "_law_beside" (topS 28) ["_law_code"] f28 _ := ⟨F28, F28.binds (ps := ["_law_code"]) fun _ _ _ _ _ _ us hl => match us, hl with | [_], _ => rfl, PySem.W.mg_of X G a28⟩
  have F29 := fun_mk (st := topS 29) l29 c29 k29
  have D29 : Df K mg "_law_by_hand" (topS 29) [] f29 _ := ⟨F29, F29.binds (ps := []) fun _ _ _ _ _ _ us hl => match us, hl with | [], _ => rfl, PySem.W.mg_of X G a29⟩
  have F30 := fun_mk (st := topS 30) l30 c30 k30
  have D30 : Df K mg "law" (topS 30) ["_law_script"] fa _ := ⟨F30, F30.binds (ps := ["_law_script"]) fun _ _ _ _ _ _ us hl => match us, hl with | [_], _ => rfl, PySem.W.mg_of X G a30⟩
  refine ⟨PySem.W.fnOf "law" "law" (defArgs (topS 30)) (defBody (topS 30)) (defScope (topS 30)) .none kV30 dc30 pm30 an30 cd30 ct30, fun s v => .of_eq rfl, fun base _ _ => ?_⟩
  have GB := ok_blocks (P := l.prog) (w := w) (base := base) D4 B
  have GG := ok_goals (P := l.prog) (w := w) (base := base) D6 B
  have GN := ok_nexts D7 D4 D6 B GB GG
  have GL := ok_led D8 D7 B GN
  have GE := ok_reached D9 D8 B GL
  have GM := ok_dom D11 D8 B GL
  have GO := ok_doms D12 D4 D11 B GB GM
  have GNr := ok_near D13 D9 D12 D8 B GE GO GL
  have GFr := ok_front D14 D8 D9 D7 B GL GE GN
  have GAg := ok_again D15 D14 B GFr
  have GF := ok_feed (P := l.prog) (w := w) (base := base) D17
  have GD := ok_draw (P := l.prog) (w := w) (base := base) D18 B
  have GR := ok_graph D19 D18 B GD
  have GA := ok_arrows (P := l.prog) (w := w) (base := base) D20 B
  have GC := ok_comes (P := l.prog) (w := w) (base := base) D21 B
  have GCo := ok_comesO (P := l.prog) (w := w) (base := base) D21 B
  have GV := ok_over D22 D21 B GC
  have GT := ok_tables D23 D21 D22 B b_dict GCo GV
  have GLn := ok_lnear (P := l.prog) (w := w) (base := base) D24 B
  have GLf := ok_lfront (P := l.prog) (w := w) (base := base) D25 B B.int
  have GLa := ok_lagain (P := l.prog) (w := w) (base := base) D26 B
  have GRt := ok_lright D27 D20 D23 D25 D13 D14 D24 D18 D15 D26 B GA GT GLf GNr GFr GLn GD GAg GLa
  have GBe := ok_beside (P := l.prog) (w := w) (base := base) D28 B
  have GH := ok_hand4 D29 D28 D13 D14 D15 B GBe GNr GFr GAg
  exact ok_law D30 D17 D19 D27 D29 B GF GR GRt GH
theorem walk {l : PySem.W.OpenLaw} {q : Program} {loose : List Str} {XP : (Str → Option Value) → Heap → Prop} {YP : World → Heap → Prop} {d : DefRec} {K : Params → PySem.W.Frag} (hn : l.most = some 63) (hdf : d.params.defaults = [])
    (hY : ∀ (w : World) (h : Heap), YP w h → (K w.params).In h)
    (F : ∀ (w : World) (mg : Str → Option Value) (fa : Addr) (h : Heap), (K w.params).In h → h.Ns mainGlobals mg → mg d.name = some (.ref fa) →
      ∃ fd : FuncData, (∀ (s : Shared) (u : Value), BindsTo s fd ⟨[u], []⟩ [("_law_script", u)]) ∧ ∀ base : Heap, (K w.params).In base → base.Ns mainGlobals mg → FnG l.prog w (K w.params) mg base 8 fa fd ["_law_script"] (spLaw (K w.params))) :
    PySem.W.WalkO q loose XP YP l.row.toRowW d [] (fun f vs => PySem.call f vs) :=
  walkG (n := 63) (k := 8) (x := "_law_script") (sp := spLaw) hn (by decide) hdf ⟨rfl, by decide, by decide⟩ hY F (fun K H a ns hl _ hS => ⟨a, ns, rfl, hS, hl, fun _ => rfl⟩)
end Sw
open PySem PySem.W PyProof.Rows
set_option maxRecDepth 100000 in
set_option maxHeartbeats 0 in
theorem PySem.Challenge.cw_storeways_k10_nearest_and_frontiers_holds : PySem.Challenge.rw_storeways_k10_nearest_and_frontiers.Holds := by
  w_on; o_law; k_head; (case hw => w_witness2)
  k_fill
  refine Sw.walk (l := PySem.Challenge.rw_storeways_k10_nearest_and_frontiers) rfl rfl (fun w h Y => PySem.W.kIn_of Y) ?F
  case F =>
    intro w mg fa h KX G hmg
    refine' Sw.all_mk KX G hmg ?a4 ?l4 ?c4 ?k4 ?a6 ?l6 ?c6 ?k6 ?a7 ?l7 ?c7 ?k7 ?a8 ?l8 ?c8 ?k8 ?a9 ?l9 ?c9 ?k9 ?a11 ?l11 ?c11 ?k11 ?a12 ?l12 ?c12 ?k12 ?a13 ?l13 ?c13 ?k13 ?a14 ?l14 ?c14 ?k14 ?a15 ?l15 ?c15 ?k15 ?a17 ?l17 ?c17 ?k17 ?a18 ?l18 ?c18 ?k18 ?a19 ?l19 ?c19 ?k19 ?a20 ?l20 ?c20 ?k20 ?a21 ?l21 ?c21 ?k21 ?a22 ?l22 ?c22 ?k22 ?a23 ?l23 ?c23 ?k23 ?a24 ?l24 ?c24 ?k24 ?a25 ?l25 ?c25 ?k25 ?a26 ?l26 ?c26 ?k26 ?a27 ?l27 ?c27 ?k27 ?a28 ?l28 ?c28 ?k28 ?a29 ?l29 ?c29 ?k29 ?a30 ?l30 ?c30 ?k30 ?z0 ?z1 ?z2 ?z3 ?z4 ?z5 ?z6 ?z7 ?z8 ?z9 ?z10 ?z11 ?z12 ?z13 ?z14
    (case a4 => k_is); (case l4 => k_is); (case c4 => k_is); (case k4 => k_is); (case a6 => k_is); (case l6 => k_is); (case c6 => k_is); (case k6 => k_is)
    (case a7 => k_is); (case l7 => k_is); (case c7 => k_is); (case k7 => k_is); (case a8 => k_is); (case l8 => k_is); (case c8 => k_is); (case k8 => k_is)
    (case a9 => k_is); (case l9 => k_is); (case c9 => k_is); (case k9 => k_is); (case a11 => k_is); (case l11 => k_is); (case c11 => k_is); (case k11 => k_is)
    (case a12 => k_is); (case l12 => k_is); (case c12 => k_is); (case k12 => k_is); (case a13 => k_is); (case l13 => k_is); (case c13 => k_is); (case k13 => k_is)
    (case a14 => k_is); (case l14 => k_is); (case c14 => k_is); (case k14 => k_is); (case a15 => k_is); (case l15 => k_is); (case c15 => k_is); (case k15 => k_is)
    (case a17 => k_is); (case l17 => k_is); (case c17 => k_is); (case k17 => k_is); (case a18 => k_is); (case l18 => k_is); (case c18 => k_is); (case k18 => k_is)
    (case a19 => k_is); (case l19 => k_is); (case c19 => k_is); (case k19 => k_is); (case a20 => k_is); (case l20 => k_is); (case c20 => k_is); (case k20 => k_is)
    (case a21 => k_is); (case l21 => k_is); (case c21 => k_is); (case k21 => k_is); (case a22 => k_is); (case l22 => k_is); (case c22 => k_is); (case k22 => k_is)
    (case a23 => k_is); (case l23 => k_is); (case c23 => k_is); (case k23 => k_is); (case a24 => k_is); (case l24 => k_is); (case c24 => k_is); (case k24 => k_is)
    (case a25 => k_is); (case l25 => k_is); (case c25 => k_is); (case k25 => k_is); (case a26 => k_is); (case l26 => k_is); (case c26 => k_is); (case k26 => k_is)
    (case a27 => k_is); (case l27 => k_is); (case c27 => k_is); (case k27 => k_is); (case a28 => k_is); (case l28 => k_is); (case c28 => k_is); (case k28 => k_is)
    (case a29 => k_is); (case l29 => k_is); (case c29 => k_is); (case k29 => k_is); (case a30 => k_is); (case l30 => k_is); (case c30 => k_is); (case k30 => k_is)
    (case z0 => k_is); (case z1 => k_is); (case z2 => k_is); (case z3 => k_is); (case z4 => k_is); (case z5 => k_is); (case z6 => k_is); (case z7 => k_is)
    (case z8 => k_is); (case z9 => k_is); (case z10 => k_is); (case z11 => k_is); (case z12 => k_is); (case z13 => k_is); (case z14 => k_is)
