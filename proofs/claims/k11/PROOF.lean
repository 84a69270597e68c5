import PyProof.Rows.All
import Wide.All
import OpenK.AllK
import Wide.FinOn
import HandS.ForMost
import HandS.IsInst
import HandS.EndBits
import PyProof.ReprRoads
import HandS.Walk
import HandS.TupAny
import HandS.Style
import HandS.Zip
import HandS.Set
import HandS.SetFor
import PyProof.Rows.SortShellAny
import HandS.Codes
import HandS.Flow
import HandS.More
import HandS.Strs
import HandS.Iter
import KE.GoesEnum
import HandS.Evl
import PyProof.P3Eq
import HandS.DictComp
import HandS.AnyAll
import PyProof.SetRoads
import PyProof.AutoSeq1
import HandS.Conv
import PySem.Challenge.RW_storeways_k11_whole_frontiers
set_option Elab.async false
set_option linter.all false
set_option maxRecDepth 100000
set_option maxHeartbeats 4000000
namespace Sw
open PySem PySem.Spec PyProof.Rows L2

/-- repr of data at a place, where no repr is under way -/
def rRepr (K : PySem.W.Frag) : List V → Hp → VK → Prop := fun xs H Q =>
  ∃ (a : Addr) (d : PyData), xs = [.ref a] ∧ Dp K H (.ref a) d ∧ d.showable = true ∧ d.hasDict = false ∧ d.depth ≤ 60 ∧ d.shown.length ≤ sizeLine ∧ Q (.str d.shown) H
theorem call_repr {X : Cx} (hg : X.A.guards = some []) (hu : X.A.units + 64 < cLine) : CallR X (.builtin "repr") (rRepr X.K) := by
  intro pins s σ H xs us Q I r h
  obtain ⟨a, d, rfl, hd, h1, h2, h3, h4, q⟩ := h
  cases r with
  | cons r0 r1 =>
    cases r1
    cases (show _ = Value.ref a from r0)
    obtain ⟨as, rd⟩ := Dp.reads I d _ _ hd rfl
    exact repr_of_reads' rd h1 (PyData.noDict_hsm h2) hg (by omega) (fun b o e => e) (fun h' u tk k => ⟨.str d.shown, H, I.kept k, ⟨u, rfl⟩, q⟩) h4

/-- a promise that is kept where no repr is under way -/
structure FnG (P : Program) (w : World) (K : PySem.W.Frag) (mg : Str → Option Value) (base : Heap) (k : Nat) (f : Addr) (fd : FuncData) (ps : List Str) (sp : Sp) : Prop where
  size : ∀ vs H Q E, sp vs H Q E → vs.length = ps.length
  goes : ∀ (A : Around) (outer : List Env) (s : Shared) (H : Hp) (args : Args) (us : List Value) (vs : List V) (Q : VK) (E : XK), A.guards = some [] →
    Room k A → Env0 P w K mg base A outer s H → BindsTo s fd args (ps.zip us) → Vals vs us → sp vs H Q E → codeAny (model P w) A (.call (.ref f) args) (CR CX0 outer P w H s Q E) s
section
variable {P : Program} {w : World} {K : PySem.W.Frag} {mg : Str → Option Value} {base : Heap}
theorem fun_okG {x qual : Str} {st : Stmt} {f : Addr} {fd : FuncData} {N ps : List Str} {k : Nat} {sp : Sp} (F : Fun K x qual st f fd) (S : FnScope N ps (defScope st))
    (len : ∀ vs H Q E, sp vs H Q E → vs.length = ps.length)
    (hb : ∀ (cdv : Value) (A : Around) (outer : List Env) (s : Shared) (H : Hp) (vs : List V) (Q : VK) (E : XK), A.guards = some [] → Room k (A.deeper (envOfC qual (defScope st) s.heap.objs.size f cdv)) → sp vs H Q E →
      ∃ t, PSs (cxOf CX0 P w K mg base N qual (defScope st) f cdv A outer s H E).nox (defBody st) t ∧
        t { nx := fun _ H' => Q .non H', rt := Q } (start N vs) H) : FnG P w K mg base (k + 1) f fd ps sp := by
  refine ⟨len, fun A outer s H args us vs Q E hg => ?_⟩
  obtain ⟨oc, od, kV, doc, pm, an, cdv, ct, osl, rfl, lk, hcd⟩ := F.ex
  intro hr e0 bd r hsp
  obtain ⟨t, ht0, hq⟩ := hb cdv A outer s H vs Q E hg (hr.deeper _) hsp
  have ht := ht0.nox
  have kin : K.In s.heap := e0.mod.kin.keeps fun b o e => (e0.bs b o e).1
  refine codeAny_call_function hr.depth (kin _ _ lk) rfl S.co S.gen rfl (PySem.W.codeRec_of kin hcd) (bd _ _ _ _ ?_)
  refine wpAny_newFunctionEnv_cells S.kind ?_ fun env he s1 x => ?_
  · rintro ⟨n, v⟩ hy
    rcases S.par n (List.of_mem_zip hy).1 with q | q
    · exact .inl q
    · exact .inr ⟨q, PySem.W.cellsFrom_some _ _ _ (.inl q)⟩
  · subst he
    refine ⟨(e0.mod.nolimit.keeps fun b o e => (e0.bs b o e).1).keeps x.toInCall.keep, codeAny_func ?_⟩
    refine wpAny_mono (ht.run [] s1 (start N vs) H _ (inv_start S hr.hd e0 (len _ _ _ _ hsp) r x) hq) (fun fl s' hs => ?_) fun e s' hs => hs
    cases fl with
    | ret u =>
      obtain ⟨v, σ', H', J, rv, q⟩ := hs
      exact ⟨v, H', J.os, J.bare, J.base, J.hok, rv, q⟩
    | next =>
      obtain ⟨σ', H', J, q⟩ := hs
      exact ⟨V.non, H', J.os, J.bare, J.base, J.hok, rfl, q⟩
    | brk =>
      obtain ⟨_, _, _, q⟩ := hs
      exact q.elim
    | cont =>
      obtain ⟨_, _, _, q⟩ := hs
      exact q.elim
end
/-- the law's own call, from the promise of its def: the script is locked, or it is one of the module's own objects -/
theorem law_goes {P : Program} {w : World} {K : PySem.W.Frag} {mg mb : Str → Option Value} {k : Nat} {fa a : Addr} {fd : FuncData} {x : Str} {sp : Sp} {s : Shared} {vs : List Value} {ns : List Int}
    (kin : K.In s.heap) (g : s.heap.Ns mainGlobals mg) (b : s.heap.Ns builtinsNs mb) (hbb : ∀ y : Str, y ≠ "__name__" → mb y = bootBuiltins y) (nl : s.heap.NoLimit) (gn : s.gens = #[])
    (ha : s.heap.get? a = some { cls := .type "list", data := .seq vs.toArray }) (hi : IntsAre vs ns) (hl : ns.length ≤ sizeLine) (hr : Room k callerA)
    (F : ∀ base : Heap, K.In base → base.Ns mainGlobals mg → FnG P w K mg base k fa fd [x] sp) (bd : ∀ (s : Shared) (u : Value), BindsTo s fd ⟨[u], []⟩ [(x, u)])
    (hsp : ∀ H : Hp, SqL K H a (ns.map V.int) → sp [.ref a] H (fun v _ => v = .bl true) fun _ _ _ => False) :
    codeAny (model P w) callerA (.call (.ref fa) ⟨[.ref a], []⟩) (fun r s' => r = .ok (.ret (.bool true)) ∧ OldK s.heap s'.heap ∧ s'.os = s.os ∧ AllBare s'.gens) s := by
  have rv := vals_ints hi
  have step : ∀ H : Hp, SqL K H a (ns.map V.int) → HOk P w H s.heap → (∀ c u, H c = some u → c = a ∧ u = .frz { cls := .type "list", data := .seq vs.toArray } (.lst (ns.map V.int)) ∧ K.lookup a = none) →
      codeAny (model P w) callerA (.call (.ref fa) ⟨[.ref a], []⟩) (fun r s' => r = .ok (.ret (.bool true)) ∧ OldK s.heap s'.heap ∧ s'.os = s.os ∧ AllBare s'.gens) s := by
    intro H hS hok only
    have dictFree : ∀ {c : Addr} {o : Obj} {es : Array DictEntry} {ep : Nat}, s.heap.get? c = some o → o.data = .dict es ep → H c = none := by
      intro c o es ep e d
      cases q : H c with
      | none => rfl
      | some u =>
        obtain ⟨rfl, _, _⟩ := only c u q
        rw [ha] at e
        cases e
        cases d
    have ns2 : ∀ {c : Addr} {m : Str → Option Value}, s.heap.Ns c m → (hidT s.heap H).Ns c m := by
      rintro c m ⟨o, es, ep, e, d, r⟩
      exact ⟨o, es, ep, hidT_get e (dictFree e d), d, r⟩
    have kb : K.In (hidT s.heap H) := by
      intro c o e
      refine hidT_get (kin c o e) ?_
      cases q : H c with
      | none => rfl
      | some u =>
        obtain ⟨rfl, _, z⟩ := only c u q
        rw [z] at e
        cases e
    have md : Mod K mg (hidT s.heap H) := ⟨kb, ns2 g, ⟨mb, ns2 b, hbb⟩, by
      obtain ⟨mc, h1, h2⟩ := nl
      exact ⟨mc, ns2 h1, h2⟩⟩
    have e0 : Env0 P w K mg (hidT s.heap H) callerA [] s H := ⟨rfl, md, fun c o e => of_hidT e, Nat.le_of_eq (hidT_size _ _), trivial, fun c hc => (nomatch hc), hok, .of_eq gn⟩
    refine codeAny_mono ((F _ kb (ns2 g)).goes callerA [] s H ⟨[.ref a], []⟩ [.ref a] [.ref a] _ _ rfl hr e0 (bd s (.ref a)) (.cons rfl .nil) (hsp H hS)) ?_
    intro r s' h
    cases r with
    | error e => exact h.elim
    | ok fl =>
      cases fl with
      | ret u =>
        obtain ⟨v, H', os, bare, un, hok', r', q⟩ := h
        cases (show v = .bl true from q)
        cases (show u = Value.bool true from r')
        refine ⟨rfl, OldK.of_keep fun c o e => ?_, os, bare⟩
        cases q : H c with
        | none => exact un.keep c o e q (fun z => nomatch z) (fun z => nomatch z)
        | some u =>
          obtain ⟨rfl, rfl, _⟩ := only c u q
          obtain ⟨e2, _⟩ := hok' _ _ (un.frzs _ _ _ q)
          rw [ha] at e
          cases e
          exact e2
      | next => exact False.elim h
      | brk => exact False.elim h
      | cont => exact False.elim h
  cases hk : K.lookup a with
  | some o =>
    have e := kin a o hk
    rw [ha] at e
    cases e
    refine step (fun _ => none) (.inr ⟨_, vs.toArray, _, hk, rfl, rfl, rfl, ?_, by simpa using rv⟩) (fun c u z => nomatch z) (fun c u z => nomatch z)
    rw [List.size_toArray, hi.length]
    exact hl
  | none =>
    refine step (fun c => if c = a then some (.frz { cls := .type "list", data := .seq vs.toArray } (.lst (ns.map V.int))) else none) (.inl (.inr ⟨_, if_pos rfl⟩)) ?_ ?_
    · intro c u z
      by_cases hc : c = a
      · have z' := (if_pos hc).symm.trans z
        cases z'
        subst hc
        exact ⟨ha, by rw [List.length_map]; exact hl, vs, _, rv, ha⟩
      · have z' := (if_neg hc).symm.trans z
        cases z'
    · intro c u z
      by_cases hc : c = a
      · have z' := (if_pos hc).symm.trans z
        exact ⟨hc, (Option.some.inj z').symm, hk⟩
      · have z' := (if_neg hc).symm.trans z
        cases z'
/-- the goal that k_head leaves, from the promise of the law's def -/
theorem walkG {l : PySem.W.OpenLaw} {n k : Nat} {q : Program} {loose : List Str} {XP : (Str → Option Value) → Heap → Prop} {YP : World → Heap → Prop} {d : DefRec} {K : Params → PySem.W.Frag} {sp : PySem.W.Frag → Sp} {x : Str}
    (hn : l.most = some n) (hn2 : n ≤ sizeLine) (hdf : d.params.defaults = []) (hr : Room k callerA) (hY : ∀ (w : World) (h : Heap), YP w h → (K w.params).In h)
    (F : ∀ (w : World) (mg : Str → Option Value) (fa : Addr) (h : Heap), (K w.params).In h → h.Ns mainGlobals mg → mg d.name = some (.ref fa) →
      ∃ fd : FuncData, (∀ (s : Shared) (u : Value), BindsTo s fd ⟨[u], []⟩ [(x, u)]) ∧ ∀ base : Heap, (K w.params).In base → base.Ns mainGlobals mg → FnG l.prog w (K w.params) mg base k fa fd [x] (sp (K w.params)))
    (hsp : ∀ (K : PySem.W.Frag) (H : Hp) (a : Addr) (ns : List Int), ns.length ≤ n → (∀ z ∈ ns, Builtin.Int.intBits z ≤ 1048576) → SqL K H a (ns.map V.int) → sp K [.ref a] H (fun v _ => v = .bl true) fun _ _ _ => False) :
    PySem.W.WalkO q loose XP YP l.row.toRowW d [] (fun f vs => PySem.call f vs) := by
  refine Att.attach_callB hn hdf ?_
  intro w s₀ s₁ mg mb fa o pm cd doc a vs ns G Y ho hd hcd hmg hobj hints hlen hbits hg
  obtain ⟨fd, hb, hF⟩ := F w mg fa _ (hY w _ Y) G.T.g hmg
  exact law_goes (hY w _ Y) G.T.g G.T.b G.T.builtins G.T.nolimit hg hobj hints (Nat.le_trans hlen hn2) hr hF hb fun H hS => hsp _ H a ns hlen hbits hS
end Sw
set_option maxRecDepth 100000
set_option maxHeartbeats 4000000
namespace Sw
open PySem PySem.Spec PyProof.Rows L2

/-! ### heaps -/
theorem same_new {H : Hp} {p : Addr} {o : HO} (h : H p = none) : Same H (upd H p o) := fun b x e => by
  rw [upd_ne (ne_of_none e h)]
  exact e
theorem sameT {K : PySem.W.Frag} {H H' : Hp} {a : Addr} {xs : List V} (e : Same H H') (h : SqT K H a xs) : SqT K H' a xs := by
  rcases h with (h | ⟨o, h⟩) | h
  · exact .inl (.inl (e _ _ h))
  · exact .inl (.inr ⟨o, e _ _ h⟩)
  · exact .inr h
mutual
theorem Dp_same {K : PySem.W.Frag} {H H' : Hp} (e : Same H H') : ∀ {v : V} {d : PyData}, Dp K H v d → Dp K H' v d
  | _, _, .non => .non
  | _, _, .bl b => .bl b
  | _, _, .int i => .int i
  | _, _, .str x => .str x
  | _, _, .lst h r => .lst (e.seq h) (DpAll_same e r)
  | _, _, .tup h r => .tup (sameT e h) (DpAll_same e r)
theorem DpAll_same {K : PySem.W.Frag} {H H' : Hp} (e : Same H H') : ∀ {vs : List V} {ds : List PyData}, DpAll K H vs ds → DpAll K H' vs ds
  | _, _, .nil => .nil
  | _, _, .cons h r => .cons (Dp_same e h) (DpAll_same e r)
end
theorem DpAll_len {K : PySem.W.Frag} {H : Hp} : ∀ {vs : List V} {ds : List PyData}, DpAll K H vs ds → vs.length = ds.length
  | _, _, .nil => rfl
  | _, _, .cons _ r => by rw [List.length_cons, List.length_cons, DpAll_len r]
theorem DpAll_get {K : PySem.W.Frag} {H : Hp} : ∀ {vs : List V} {ds : List PyData} {i : Nat} {v : V}, DpAll K H vs ds → vs[i]? = some v → ∃ d, ds[i]? = some d ∧ Dp K H v d
  | _, _, _, _, .nil, e => by simp at e
  | _, _, 0, _, .cons h _, e => by simp at e; subst e; exact ⟨_, rfl, h⟩
  | _, _, i + 1, v, .cons _ r, e => by
    obtain ⟨d, h1, h2⟩ := DpAll_get (i := i) (v := v) r (by simpa using e)
    exact ⟨d, by simpa using h1, h2⟩
theorem DpAll_get' {K : PySem.W.Frag} {H : Hp} {vs : List V} {ds : List PyData} {i : Nat} {d : PyData} (h : DpAll K H vs ds) (e : ds[i]? = some d) : ∃ v, vs[i]? = some v ∧ Dp K H v d := by
  have hl := DpAll_len h
  obtain ⟨hi, _⟩ := List.getElem?_eq_some_iff.mp e
  have hv : i < vs.length := by omega
  obtain ⟨d', h1, h2⟩ := DpAll_get h (List.getElem?_eq_getElem hv)
  rw [e] at h1
  cases h1
  exact ⟨_, List.getElem?_eq_getElem hv, h2⟩
theorem DpAll_append {K : PySem.W.Frag} {H : Hp} : ∀ {vs us : List V} {ds es : List PyData}, DpAll K H vs ds → DpAll K H us es → DpAll K H (vs ++ us) (ds ++ es)
  | _, _, _, _, .nil, r => r
  | _, _, _, _, .cons h t, r => .cons h (DpAll_append t r)
theorem DpAll_of {K : PySem.W.Frag} {H : Hp} : ∀ {vs : List V} {ds : List PyData}, vs.length = ds.length → (∀ (i : Nat) v d, vs[i]? = some v → ds[i]? = some d → Dp K H v d) → DpAll K H vs ds
  | [], [], _, _ => .nil
  | v :: vs, d :: ds, hl, h => .cons (h 0 v d rfl rfl) (DpAll_of (by simpa using hl) fun i x y e1 e2 => h (i + 1) x y (by simpa using e1) (by simpa using e2))
  | [], _ :: _, hl, _ => by simp at hl
  | _ :: _, [], hl, _ => by simp at hl
theorem DpAll_strs {K : PySem.W.Frag} {H : Hp} : ∀ zs : List Str, DpAll K H (zs.map V.str) (zs.map PyData.str)
  | [] => .nil
  | z :: zs => .cons (.str z) (DpAll_strs zs)

/-! ### comprehensions over what stays: the tests and the items change nothing that stood -/
theorem lc_pure {J : It} {n : Nat} {G : Hp → Prop} {xs : List V} (w : Walk J n G (YAt xs)) {tt : TT} {te : TE} {j : Nat} {σ : L2.St} {H1 : Hp} {D : Addr} {Qd : Hp → Prop} (p : Nat → Bool) (f : Nat → V) (hD : H1 D = none)
    (hG : ∀ H, Same H1 H → G H) (hn : n < sizeLine)
    (ht : ∀ (i : Nat) x H (Q : Bool → Hp → Prop), i < n → xs[i]? = some x → Same H1 H → (∀ H', Same H H' → Q (p i) H') → tt ((wipe σ [j]).set j (some x)) H Q)
    (he : ∀ (i : Nat) x H (Q : VK), i < n → xs[i]? = some x → p i = true → Same H1 H → (∀ H', Same H H' → Q (f i) H') → te ((wipe σ [j]).set j (some x)) H Q)
    (hd : ∀ H', Same H1 H' → H' D = some (.lst (((List.range n).filter p).map f)) → Qd H') :
    ∃ W : Nat → Nat → Hp → Prop, (∃ m, W 0 m (upd H1 D (.lst []))) ∧ ∀ i m H, W i m H → (J.stop i H ∧ Qd H) ∨ (J.go i H ∧ ∃ Nx : Hp → Prop, (∀ H', Nx H' → ∃ m', m' < m ∧ W (i + 1) m' H') ∧
      ∀ x H', J.yld i H x H' → gName j x (wipe σ [j]) H' fun σ2 H2 => wipe σ2 [j] = wipe σ [j] ∧ tt σ2 H2 fun b H3 =>
        if b = true then te σ2 H3 fun y H4 => ∃ acc, H4 D = some (.lst acc) ∧ acc.length < sizeLine ∧ Nx (upd H4 D (.lst (acc ++ [y]))) else Nx H3) := by
  refine lc_it w (fun i H => Same H1 H ∧ H D = some (.lst (((List.range i).filter p).map f))) ⟨same_new hD, by rw [upd_same]; rfl⟩ (fun i H _ h => hG H h.1) ?_ (fun H h => hd H h.1 h.2)
  rintro i x H H' hi ⟨hs, hacc⟩ ⟨rfl, hx⟩
  refine ⟨?_, ?_⟩
  · show ((List.set (List.set σ j none) j (some x)).set j none) = List.set σ j none
    rw [List.set_set, List.set_set]
  have hr : (List.range (i + 1)).filter p = (List.range i).filter p ++ (if p i = true then [i] else []) := by
    rw [List.range_succ, List.filter_append]
    congr 1
    by_cases hp : p i = true <;> simp [hp]
  refine ht i x H' _ hi hx hs fun H2 h2 => ?_
  by_cases hp : p i = true
  · rw [hp]
    refine iteT ?_
    refine he i x H2 _ hi hx hp (hs.trans h2) fun H3 h3 => ?_
    have h3D := h3 _ _ (h2 _ _ hacc)
    refine ⟨_, h3D, ?_, ?_, ?_⟩
    · rw [List.length_map]
      have := List.length_filter_le p (List.range i)
      rw [List.length_range] at this
      omega
    · intro b o e
      rw [upd_ne (ne_of_none e hD)]
      exact h3 _ _ (h2 _ _ (hs _ _ e))
    · rw [upd_same, hr, if_pos hp, List.map_append]
      rfl
  · have hp' : p i = false := by simpa using hp
    rw [hp']
    refine iteF ?_
    refine ⟨hs.trans h2, ?_⟩
    rw [hr, if_neg hp, List.append_nil]
    exact h2 _ _ hacc
theorem range_all {n : Nat} {f : Nat → V} : ((List.range n).filter (fun _ => true)).map f = (List.range n).map f := by
  rw [List.filter_eq_self.mpr (by simp)]
/-- without tests -/
theorem lc_map {J : It} {n : Nat} {G : Hp → Prop} {xs : List V} (w : Walk J n G (YAt xs)) {te : TE} {j : Nat} {σ : L2.St} {H1 : Hp} {D : Addr} {Qd : Hp → Prop} (f : Nat → V) (hD : H1 D = none)
    (hG : ∀ H, Same H1 H → G H) (hn : n < sizeLine)
    (he : ∀ (i : Nat) x H (Q : VK), i < n → xs[i]? = some x → Same H1 H → (∀ H', Same H H' → Q (f i) H') → te ((wipe σ [j]).set j (some x)) H Q)
    (hd : ∀ H', Same H1 H' → H' D = some (.lst ((List.range n).map f)) → Qd H') :
    ∃ W : Nat → Nat → Hp → Prop, (∃ m, W 0 m (upd H1 D (.lst []))) ∧ ∀ i m H, W i m H → (J.stop i H ∧ Qd H) ∨ (J.go i H ∧ ∃ Nx : Hp → Prop, (∀ H', Nx H' → ∃ m', m' < m ∧ W (i + 1) m' H') ∧
      ∀ x H', J.yld i H x H' → gName j x (wipe σ [j]) H' fun σ2 H2 => wipe σ2 [j] = wipe σ [j] ∧ tYes σ2 H2 fun b H3 =>
        if b = true then te σ2 H3 fun y H4 => ∃ acc, H4 D = some (.lst acc) ∧ acc.length < sizeLine ∧ Nx (upd H4 D (.lst (acc ++ [y]))) else Nx H3) :=
  lc_pure w (tt := tYes) (fun _ => true) f hD hG hn (fun i x H Q _ _ _ q => q H (Same.refl H)) (fun i x H Q hi hx _ hs q => he i x H Q hi hx hs q) fun H' hs h => hd H' hs (by rw [h, range_all])
/-- a text's signs as its walk's items -/
theorem walk_signs {z : Str} : Walk (Its z) z.cps.size (fun _ => True) (YAt (z.cps.toList.map fun c => V.str ⟨#[c]⟩)) := by
  refine ⟨walk_str.goes, walk_str.stops, fun i H x H' hi hg y => ?_⟩
  obtain ⟨rfl, c, hc, rfl⟩ := walk_str.yields i H x H' hi hg y
  refine ⟨rfl, ?_⟩
  rw [List.getElem?_map, Array.getElem?_toList, hc]
  rfl
end Sw
set_option maxRecDepth 100000
set_option maxHeartbeats 4000000
namespace Sw
open PySem PySem.Spec PyProof.Rows L2

/-! ### how large data are -/
mutual
/-- leaves: ints at most M, texts of ASCII; no dict -/
def leaf (M : Nat) : PyData → Bool
  | .none | .bool _ => true
  | .int i => decide (i.natAbs ≤ M)
  | .str x => x.cps.toList.all (fun c => decide (c < 128))
  | .list xs | .tuple xs => leafAll M xs
  | .dict _ => false
def leafAll (M : Nat) : List PyData → Bool
  | [] => true
  | x :: xs => leaf M x && leafAll M xs
end
mutual
/-- no list or tuple in it is longer than l -/
def lens (l : Nat) : PyData → Bool
  | .none | .bool _ | .int _ | .str _ => true
  | .list xs | .tuple xs => decide (xs.length ≤ l) && lensAll l xs
  | .dict _ => false
def lensAll (l : Nat) : List PyData → Bool
  | [] => true
  | x :: xs => lens l x && lensAll l xs
end
mutual
/-- at least as much as its text is long -/
def wt : PyData → Nat
  | .none | .bool _ => 5
  | .int _ => 250
  | .str x => 10 * x.length + 5
  | .list xs | .tuple xs => wtAll xs + 5
  | .dict _ => 0
def wtAll : List PyData → Nat
  | [] => 0
  | x :: xs => wt x + 2 + wtAll xs
end
theorem leaf_str {M : Nat} {x : Str} : leaf M (.str x) = true ↔ ∀ c ∈ x.cps.toList, c < 128 := by
  simp only [leaf, List.all_eq_true, decide_eq_true_eq]
theorem leafAll_iff {M : Nat} : ∀ {xs : List PyData}, leafAll M xs = true ↔ ∀ x ∈ xs, leaf M x = true
  | [] => by simp [leafAll]
  | x :: xs => by simp [leafAll, leafAll_iff (xs := xs)]
theorem lensAll_iff {l : Nat} : ∀ {xs : List PyData}, lensAll l xs = true ↔ ∀ x ∈ xs, lens l x = true
  | [] => by simp [lensAll]
  | x :: xs => by simp [lensAll, lensAll_iff (xs := xs)]
theorem wtAll_append : ∀ xs ys : List PyData, wtAll (xs ++ ys) = wtAll xs + wtAll ys
  | [], ys => by simp [wtAll]
  | x :: xs, ys => by simp [wtAll, wtAll_append xs ys]; omega
theorem wt_mem : ∀ {xs : List PyData} {x : PyData}, x ∈ xs → wt x + 2 ≤ wtAll xs
  | y :: xs, x, h => by
    rcases List.mem_cons.mp h with rfl | h
    · simp [wtAll]
    · have := wt_mem h
      simp [wtAll]; omega
theorem wtAll_take (xs : List PyData) (k : Nat) : wtAll (xs.take k) ≤ wtAll xs := by
  have h := wtAll_append (xs.take k) (xs.drop k)
  rw [List.take_append_drop] at h
  omega
theorem wtAll_drop (xs : List PyData) (k : Nat) : wtAll (xs.drop k) ≤ wtAll xs := by
  have h := wtAll_append (xs.take k) (xs.drop k)
  rw [List.take_append_drop] at h
  omega
theorem depthAll_iff {n : Nat} : ∀ {xs : List PyData}, PyData.depthAll xs ≤ n ↔ ∀ x ∈ xs, x.depth ≤ n
  | [] => by simp [PyData.depthAll]
  | x :: xs => by simp [PyData.depthAll, depthAll_iff (xs := xs), Nat.max_le]
theorem depth_tuple {n : Nat} {xs : List PyData} : (PyData.tuple xs).depth ≤ n + 1 ↔ ∀ x ∈ xs, x.depth ≤ n := by
  simp [PyData.depth, depthAll_iff]
theorem depth_list {n : Nat} {xs : List PyData} : (PyData.list xs).depth ≤ n + 1 ↔ ∀ x ∈ xs, x.depth ≤ n := by
  simp [PyData.depth, depthAll_iff]

mutual
theorem leaf_noDict {M : Nat} : ∀ d : PyData, leaf M d = true → d.hasDict = false
  | .none, _ => by simp [PyData.hasDict]
  | .bool _, _ => by simp [PyData.hasDict]
  | .int _, _ => by simp [PyData.hasDict]
  | .str _, _ => by simp [PyData.hasDict]
  | .list xs, h => by simpa [PyData.hasDict] using leafAll_noDict xs (by simpa [leaf] using h)
  | .tuple xs, h => by simpa [PyData.hasDict] using leafAll_noDict xs (by simpa [leaf] using h)
  | .dict _, h => by simp [leaf] at h
theorem leafAll_noDict {M : Nat} : ∀ xs : List PyData, leafAll M xs = true → PyData.hasDictAll xs = false
  | [], _ => by simp [PyData.hasDictAll]
  | x :: xs, h => by
    have h' : leaf M x = true ∧ leafAll M xs = true := by simpa [leafAll] using h
    simp [PyData.hasDictAll, leaf_noDict x h'.1, leafAll_noDict xs h'.2]
end
mutual
theorem leaf_canLay {M : Nat} : ∀ d : PyData, leaf M d = true → d.canLay0 = true
  | .none, _ => by simp [PyData.canLay0]
  | .bool _, _ => by simp [PyData.canLay0]
  | .int _, _ => by simp [PyData.canLay0]
  | .str x, h => by
    have h' := leaf_str.mp h
    simp only [PyData.canLay0, PyData.strOk, Array.all_eq_true_iff_forall_mem, decide_eq_true_eq]
    intro c hc
    have := h' c (by simpa using hc)
    omega
  | .list xs, h => by simpa [PyData.canLay0] using leafAll_canLay xs (by simpa [leaf] using h)
  | .tuple xs, h => by simpa [PyData.canLay0] using leafAll_canLay xs (by simpa [leaf] using h)
  | .dict _, h => by simp [leaf] at h
theorem leafAll_canLay {M : Nat} : ∀ xs : List PyData, leafAll M xs = true → PyData.canLayAll0 xs = true
  | [], _ => by simp [PyData.canLayAll0]
  | x :: xs, h => by
    have h' : leaf M x = true ∧ leafAll M xs = true := by simpa [leafAll] using h
    simp [PyData.canLayAll0, leaf_canLay x h'.1, leafAll_canLay xs h'.2]
end
mutual
theorem leaf_shows {M : Nat} (hM : M < 2 ^ 1920) : ∀ d : PyData, leaf M d = true → d.showable = true
  | .none, _ => by simp [PyData.showable]
  | .bool _, _ => by simp [PyData.showable]
  | .int i, h => by
    have h' : i.natAbs ≤ M := by simpa [leaf] using h
    simp only [PyData.showable, decide_eq_true_eq]
    exact log2_small (Nat.lt_of_le_of_lt h' hM)
  | .str x, h => by simp [PyData.showable]
  | .list xs, h => by simpa [PyData.showable] using leafAll_shows hM xs (by simpa [leaf] using h)
  | .tuple xs, h => by simpa [PyData.showable] using leafAll_shows hM xs (by simpa [leaf] using h)
  | .dict _, h => by simp [leaf] at h
theorem leafAll_shows {M : Nat} (hM : M < 2 ^ 1920) : ∀ xs : List PyData, leafAll M xs = true → PyData.showableAll xs = true
  | [], _ => by simp [PyData.showableAll]
  | x :: xs, h => by
    have h' : leaf M x = true ∧ leafAll M xs = true := by simpa [leafAll] using h
    simp [PyData.showableAll, leaf_shows hM x h'.1, leafAll_shows hM xs h'.2]
end
mutual
theorem shown_wt {M : Nat} (hM : M < 10 ^ 240) : ∀ d : PyData, leaf M d = true → d.shown.length ≤ wt d
  | .none, _ => by simp only [PyData.shown, wt]; decide +kernel
  | .bool b, _ => by cases b <;> (simp only [PyData.shown, wt]; decide +kernel)
  | .int i, h => by
    have h' : i.natAbs ≤ M := by simpa [leaf] using h
    have e := int_text_length_le10 (k := 240) (by decide) (Nat.lt_of_le_of_lt h' hM)
    simp only [PyData.shown, wt]
    rw [PySem.ofString_length]
    omega
  | .str x, h => by
    have h' := leaf_str.mp h
    have e := StrLaws.reprText_len x (fun c hc => by have := h' c hc; omega)
    simp only [PyData.shown, wt]
    omega
  | .list xs, h => by
    have e1 := listText_len_le (PyData.shownAll xs)
    have e2 := shownAll_wt hM xs (by simpa [leaf] using h)
    rw [PyData.shownAll_length] at e1
    simp only [PyData.shown, wt]
    omega
  | .tuple xs, h => by
    have e1 := tupleText_len_le (PyData.shownAll xs)
    have e2 := shownAll_wt hM xs (by simpa [leaf] using h)
    rw [PyData.shownAll_length] at e1
    simp only [PyData.shown, wt]
    omega
  | .dict _, h => by simp [leaf] at h
theorem shownAll_wt {M : Nat} (hM : M < 10 ^ 240) : ∀ xs : List PyData, leafAll M xs = true → ((PyData.shownAll xs).map (·.length)).sum + 2 * xs.length ≤ wtAll xs
  | [], _ => by simp [PyData.shownAll, wtAll]
  | x :: xs, h => by
    have h' : leaf M x = true ∧ leafAll M xs = true := by simpa [leafAll] using h
    have e1 := shown_wt hM x h'.1
    have e2 := shownAll_wt hM xs h'.2
    simp only [PyData.shownAll, wtAll, List.map_cons, List.sum_cons, List.length_cons]
    omega
end
mutual
theorem leaf_mono {M N : Nat} (h : M ≤ N) : ∀ d : PyData, leaf M d = true → leaf N d = true
  | .none, _ => by simp [leaf]
  | .bool _, _ => by simp [leaf]
  | .int i, e => by
    have e' : i.natAbs ≤ M := by simpa [leaf] using e
    simp only [leaf, decide_eq_true_eq]; omega
  | .str _, e => by simpa [leaf] using e
  | .list xs, e => by simpa [leaf] using leafAll_mono h xs (by simpa [leaf] using e)
  | .tuple xs, e => by simpa [leaf] using leafAll_mono h xs (by simpa [leaf] using e)
  | .dict _, e => by simp [leaf] at e
theorem leafAll_mono {M N : Nat} (h : M ≤ N) : ∀ xs : List PyData, leafAll M xs = true → leafAll N xs = true
  | [], _ => by simp [leafAll]
  | x :: xs, e => by
    have e' : leaf M x = true ∧ leafAll M xs = true := by simpa [leafAll] using e
    simp [leafAll, leaf_mono h x e'.1, leafAll_mono h xs e'.2]
end
mutual
theorem lens_mono {k l : Nat} (h : k ≤ l) : ∀ d : PyData, lens k d = true → lens l d = true
  | .none, _ => by simp [lens]
  | .bool _, _ => by simp [lens]
  | .int _, _ => by simp [lens]
  | .str _, _ => by simp [lens]
  | .list xs, e => by
    have e' : xs.length ≤ k ∧ lensAll k xs = true := by simpa [lens] using e
    simp only [lens, Bool.and_eq_true, decide_eq_true_eq]
    exact ⟨by omega, lensAll_mono h xs e'.2⟩
  | .tuple xs, e => by
    have e' : xs.length ≤ k ∧ lensAll k xs = true := by simpa [lens] using e
    simp only [lens, Bool.and_eq_true, decide_eq_true_eq]
    exact ⟨by omega, lensAll_mono h xs e'.2⟩
  | .dict _, e => by simp [lens] at e
theorem lensAll_mono {k l : Nat} (h : k ≤ l) : ∀ xs : List PyData, lensAll k xs = true → lensAll l xs = true
  | [], _ => by simp [lensAll]
  | x :: xs, e => by
    have e' : lens k x = true ∧ lensAll k xs = true := by simpa [lensAll] using e
    simp [lensAll, lens_mono h x e'.1, lensAll_mono h xs e'.2]
end

/-- data of this size: ints at most M, sequences at most l long, n deep, B heavy -/
structure Fit (M l n B : Nat) (d : PyData) : Prop where
  lf : leaf M d = true
  ln : lens l d = true
  dp : d.depth ≤ n
  wg : wt d ≤ B
theorem Fit.mono {M l n B M' l' n' B' : Nat} {d : PyData} (h : Fit M l n B d) (h1 : M ≤ M') (h2 : l ≤ l') (h3 : n ≤ n') (h4 : B ≤ B') : Fit M' l' n' B' d :=
  ⟨leaf_mono h1 d h.lf, lens_mono h2 d h.ln, Nat.le_trans h.dp h3, Nat.le_trans h.wg h4⟩
theorem Fit.none {M l n B : Nat} (h : 5 ≤ B) : Fit M l n B .none := ⟨rfl, rfl, Nat.zero_le _, h⟩
theorem Fit.bool {M l n B : Nat} {b : Bool} (h : 5 ≤ B) : Fit M l n B (.bool b) := ⟨rfl, rfl, Nat.zero_le _, h⟩
theorem Fit.int {M l n B : Nat} {i : Int} (hi : i.natAbs ≤ M) (h : 250 ≤ B) : Fit M l n B (.int i) := ⟨by simpa [leaf] using hi, rfl, Nat.zero_le _, h⟩
theorem Fit.str {M l n B : Nat} {x : Str} (hx : ∀ c ∈ x.cps.toList, c < 128) (h : 10 * x.length + 5 ≤ B) : Fit M l n B (.str x) := ⟨leaf_str.mpr hx, rfl, Nat.zero_le _, h⟩
theorem Fit.tup {M l n B : Nat} {xs : List PyData} (hl : xs.length ≤ l) (h : ∀ x ∈ xs, leaf M x = true ∧ lens l x = true ∧ x.depth ≤ n) (hw : wtAll xs + 5 ≤ B) : Fit M l (n + 1) B (.tuple xs) :=
  ⟨by simpa [leaf] using leafAll_iff.mpr fun x hx => (h x hx).1, by simp only [lens, Bool.and_eq_true, decide_eq_true_eq]; exact ⟨hl, lensAll_iff.mpr fun x hx => (h x hx).2.1⟩, depth_tuple.mpr fun x hx => (h x hx).2.2, by simpa [wt] using hw⟩
theorem Fit.lst {M l n B : Nat} {xs : List PyData} (hl : xs.length ≤ l) (h : ∀ x ∈ xs, leaf M x = true ∧ lens l x = true ∧ x.depth ≤ n) (hw : wtAll xs + 5 ≤ B) : Fit M l (n + 1) B (.list xs) :=
  ⟨by simpa [leaf] using leafAll_iff.mpr fun x hx => (h x hx).1, by simp only [lens, Bool.and_eq_true, decide_eq_true_eq]; exact ⟨hl, lensAll_iff.mpr fun x hx => (h x hx).2.1⟩, depth_list.mpr fun x hx => (h x hx).2.2, by simpa [wt] using hw⟩
theorem Fit.inTup {M l n B : Nat} {xs : List PyData} (h : Fit M l n B (.tuple xs)) : xs.length ≤ l ∧ 1 ≤ n ∧ wtAll xs + 5 ≤ B ∧ ∀ x ∈ xs, Fit M l (n - 1) B x := by
  have h2 : xs.length ≤ l ∧ lensAll l xs = true := by simpa [lens] using h.ln
  have h3 : PyData.depthAll xs + 1 ≤ n := by simpa [PyData.depth] using h.dp
  have h4 : wtAll xs + 5 ≤ B := by simpa [wt] using h.wg
  refine ⟨h2.1, by omega, h4, fun x hx => ⟨leafAll_iff.mp (by simpa [leaf] using h.lf) x hx, lensAll_iff.mp h2.2 x hx, (depthAll_iff (n := n - 1)).mp (by omega) x hx, ?_⟩⟩
  have := wt_mem hx
  omega
theorem Fit.inLst {M l n B : Nat} {xs : List PyData} (h : Fit M l n B (.list xs)) : xs.length ≤ l ∧ 1 ≤ n ∧ wtAll xs + 5 ≤ B ∧ ∀ x ∈ xs, Fit M l (n - 1) B x := by
  have h2 : xs.length ≤ l ∧ lensAll l xs = true := by simpa [lens] using h.ln
  have h3 : PyData.depthAll xs + 1 ≤ n := by simpa [PyData.depth] using h.dp
  have h4 : wtAll xs + 5 ≤ B := by simpa [wt] using h.wg
  refine ⟨h2.1, by omega, h4, fun x hx => ⟨leafAll_iff.mp (by simpa [leaf] using h.lf) x hx, lensAll_iff.mp h2.2 x hx, (depthAll_iff (n := n - 1)).mp (by omega) x hx, ?_⟩⟩
  have := wt_mem hx
  omega
theorem Fit.shaped {M l n B : Nat} {d : PyData} (h : Fit M l n B d) (hn : n ≤ 64) : SeqAt.shaped d = true := by
  unfold SeqAt.shaped
  rw [leaf_canLay d h.lf, Bool.true_and, decide_eq_true_eq]
  exact Nat.le_trans h.dp hn
end Sw
set_option maxRecDepth 100000
set_option maxHeartbeats 4000000
namespace Sw
open PySem PySem.Spec PyProof.Rows L2

/-- a def of the text, how it binds, where it stands -/
structure Df (K : PySem.W.Frag) (mg : Str → Option Value) (x : Str) (st : Stmt) (ps : List Str) (f : Addr) (fd : FuncData) : Prop where
  fn : Fun K x x st f fd
  bd : Binds K fd ps []
  gl : mg x = some (.ref f)

/-! ### isinstance of data -/
def isaInt : PyData → Bool
  | .int _ => true
  | .bool _ => true
  | _ => false
def isaBool : PyData → Bool
  | .bool _ => true
  | _ => false
def isaStr : PyData → Bool
  | .str _ => true
  | _ => false
def isaTup : PyData → Bool
  | .tuple _ => true
  | _ => false
theorem ty_list {K : PySem.W.Frag} {H : Hp} {a : Addr} {xs : List V} (h : SqL K H a xs) : TyX K H (.ref a) (.type "list") := by
  rcases h with (h | ⟨o, h⟩) | ⟨o, its, n, h, hc, _⟩
  · exact .base (.lst h)
  · exact .base (.frz h)
  · exact .kList h hc
theorem ty_tup {K : PySem.W.Frag} {H : Hp} {a : Addr} {xs : List V} (h : SqT K H a xs) : TyX K H (.ref a) (.type "tuple") := by
  rcases h with (h | ⟨o, h⟩) | ⟨o, its, n, h, hc, _⟩
  · exact .base (.tup h)
  · exact .fTuple h
  · exact .kTuple h hc
theorem isa_data {K : PySem.W.Frag} {H : Hp} {v : V} {d : PyData} {T : String} {g : PyData → Bool} (h : Dp K H v d)
    (k0 : kitB "NoneType" T = some (g .none)) (k1 : ∀ b, kitB "bool" T = some (g (.bool b))) (k2 : ∀ i, kitB "int" T = some (g (.int i))) (k3 : ∀ x, kitB "str" T = some (g (.str x)))
    (k4 : ∀ xs, kitB "list" T = some (g (.list xs))) (k5 : ∀ xs, kitB "tuple" T = some (g (.tuple xs))) : ∃ t, TyX K H v t ∧ PySem.W.kitOne K t (.type T) = some (g d) := by
  cases h with
  | non => exact ⟨_, .base .non, kit_ty k0⟩
  | bl b => exact ⟨_, .base (.bl b), kit_ty (k1 b)⟩
  | int i => exact ⟨_, .base (.int i), kit_ty (k2 i)⟩
  | str x => exact ⟨_, .base (.str x), kit_ty (k3 x)⟩
  | lst h _ => exact ⟨_, ty_list h, kit_ty (k4 _)⟩
  | tup h _ => exact ⟨_, ty_tup h, kit_ty (k5 _)⟩
theorem isa_int {K : PySem.W.Frag} {H : Hp} {v : V} {d : PyData} (h : Dp K H v d) : ∃ t, TyX K H v t ∧ PySem.W.kitOne K t (.type "int") = some (isaInt d) :=
  isa_data (g := isaInt) h (by decide +kernel) (fun _ => by show _ = some true; decide +kernel) (fun _ => by show _ = some true; decide +kernel) (fun _ => by show _ = some false; decide +kernel) (fun _ => by show _ = some false; decide +kernel) (fun _ => by show _ = some false; decide +kernel)
theorem isa_bool {K : PySem.W.Frag} {H : Hp} {v : V} {d : PyData} (h : Dp K H v d) : ∃ t, TyX K H v t ∧ PySem.W.kitOne K t (.type "bool") = some (isaBool d) :=
  isa_data (g := isaBool) h (by decide +kernel) (fun _ => by show _ = some true; decide +kernel) (fun _ => by show _ = some false; decide +kernel) (fun _ => by show _ = some false; decide +kernel) (fun _ => by show _ = some false; decide +kernel) (fun _ => by show _ = some false; decide +kernel)
theorem isa_str {K : PySem.W.Frag} {H : Hp} {v : V} {d : PyData} (h : Dp K H v d) : ∃ t, TyX K H v t ∧ PySem.W.kitOne K t (.type "str") = some (isaStr d) :=
  isa_data (g := isaStr) h (by decide +kernel) (fun _ => by show _ = some false; decide +kernel) (fun _ => by show _ = some false; decide +kernel) (fun _ => by show _ = some true; decide +kernel) (fun _ => by show _ = some false; decide +kernel) (fun _ => by show _ = some false; decide +kernel)
theorem isa_tup {K : PySem.W.Frag} {H : Hp} {v : V} {d : PyData} (h : Dp K H v d) : ∃ t, TyX K H v t ∧ PySem.W.kitOne K t (.type "tuple") = some (isaTup d) :=
  isa_data (g := isaTup) h (by decide +kernel) (fun _ => by show _ = some false; decide +kernel) (fun _ => by show _ = some false; decide +kernel) (fun _ => by show _ = some false; decide +kernel) (fun _ => by show _ = some false; decide +kernel) (fun _ => by show _ = some true; decide +kernel)

/-! ### what a look promises -/
def dNum : PyData → Bool
  | .int _ => true
  | _ => false
def okSign (c : Nat) : Bool := decide (97 ≤ c) && decide (c ≤ 122)
def wordS (z : Str) : Bool := decide (1 ≤ z.length) && decide (z.length ≤ 8) && z.cps.toList.all okSign
def dWord : PyData → Bool
  | .str z => wordS z
  | _ => false
def dOper (d : PyData) : Bool := dNum d || dWord d
def dPair : PyData → Bool
  | .tuple ds => decide (ds.length = 2)
  | _ => false
def dPos : PyData → Bool
  | .int i => decide (1 ≤ i)
  | _ => false
def dObj : PyData → Bool
  | .tuple [a, b] => dWord a && dPos b
  | _ => false
def fstS : PyData → Str
  | .tuple (.str z :: _) => z
  | _ => Str.empty
def rises : List Str → Bool
  | a :: b :: r => decide (a.cps.toList < b.cps.toList) && rises (b :: r)
  | _ => true
def dObjs : PyData → Bool
  | .tuple ds => !ds.isEmpty && ds.all dObj && rises (ds.map fstS)
  | _ => false
/-- a look at data: its answer, all that stood stands -/
def spLook (K : PySem.W.Frag) (g : PyData → Bool) : Sp := fun vs H Q _ => ∃ (v : V) (d : PyData), vs = [v] ∧ Dp K H v d ∧ (∃ M, Fit M 60 60 1000000 d) ∧ ∀ H', Same H H' → Q (.bl (g d)) H'
theorem big_size {n : Nat} (h : n ≤ 1000000) : n < sizeLine := by rw [sizeLine_eq]; omega
theorem fit_strlen {M l n B : Nat} {x : Str} (h : Fit M l n B (.str x)) (hB : B ≤ 1000000) : x.length ≤ sizeLine := by
  have h1 : 10 * x.length + 5 ≤ B := by simpa [wt] using h.wg
  rw [sizeLine_eq]; omega
theorem isi_dNum (d : PyData) : (isaInt d && !isaBool d) = dNum d := by cases d <;> rfl
end Sw
set_option maxRecDepth 100000
set_option maxHeartbeats 4000000
namespace Sw
open PySem PySem.Spec PyProof.Rows L2
def topS (i : Nat) : Stmt := PySem.Challenge.pw_storeways_k11_whole_frontiers.main.body.getD i (.Pass ⟨0, 0, 0, 0⟩)
/-- built-in names that the text leaves alone -/
structure Bt (mg : Str → Option Value) : Prop where
  isi : mg "isinstance" = none
  int : mg "int" = none
  bool : mg "bool" = none
  str : mg "str" = none
  tuple : mg "tuple" = none
  list : mg "list" = none
  len : mg "len" = none
  all : mg "all" = none
  zip : mg "zip" = none
  range : mg "range" = none
  ord : mg "ord" = none
  sorted : mg "sorted" = none
  set : mg "set" = none
  repr : mg "repr" = none
section
variable {P : Program} {w : World} {K : PySem.W.Frag} {mg : Str → Option Value} {base : Heap}
theorem sign_lo (c : Nat) : (!decide (([c] : List Nat) < ("a" : Str).cps.toList)) = decide (97 ≤ c) := by
  show (!decide (([c] : List Nat) < [97])) = decide (97 ≤ c)
  by_cases h : 97 ≤ c
  · have : ¬ (([c] : List Nat) < [97]) := by intro z; have := List.cons_lt_cons_iff.mp z; simp at this; omega
    simp [h, this]
  · have : ([c] : List Nat) < [97] := List.cons_lt_cons_iff.mpr (.inl (by omega))
    simp [h, this]
theorem sign_hi (c : Nat) : (!decide (("z" : Str).cps.toList < ([c] : List Nat))) = decide (c ≤ 122) := by
  show (!decide (([122] : List Nat) < [c])) = decide (c ≤ 122)
  by_cases h : c ≤ 122
  · have : ¬ (([122] : List Nat) < [c]) := by intro z; have := List.cons_lt_cons_iff.mp z; simp at this; omega
    simp [h, this]
  · have : ([122] : List Nat) < [c] := List.cons_lt_cons_iff.mpr (.inl (by omega))
    simp [h, this]
theorem all_range {z : Str} : ((List.range z.cps.size).map fun i => V.bl (okSign (z.cps.toList.getD i 0))) = (z.cps.toList.map okSign).map V.bl := by
  apply List.ext_getElem?
  intro i
  simp only [List.getElem?_map, List.getElem?_range']
  by_cases h : i < z.cps.size
  · rw [List.getElem?_range h, List.getElem?_eq_getElem (by simpa using h)]
    simp [List.getD, List.getElem?_eq_getElem, h]
  · rw [List.getElem?_eq_none (by simpa using h), List.getElem?_eq_none (by simpa using h)]
    rfl
end
end Sw
set_option maxRecDepth 100000
set_option maxHeartbeats 4000000
namespace Sw
open PySem PySem.Spec PyProof.Rows L2
section
variable {P : Program} {w : World} {K : PySem.W.Frag} {mg : Str → Option Value} {base : Heap}
theorem q_of {Q : VK} {b c : Bool} {H : Hp} (e : b = c) (h : Q (.bl b) H) : Q (.bl c) H := e ▸ h
theorem int_two {n : Nat} : decide (V.int (n : Int) = V.int 2) = decide (n = 2) := by
  by_cases h : n = 2
  · subst h; simp
  · have : ¬ (V.int (n : Int) = V.int 2) := fun z => h (by injection z with z; omega)
    simp [h, this]
end
end Sw
set_option maxRecDepth 100000
set_option maxHeartbeats 4000000
namespace Sw
open PySem PySem.Spec PyProof.Rows L2
theorem cut_one (xs : List V) : cutV xs (some 1) none = xs.drop 1 := by
  unfold cutV
  rw [show HT.sIx xs.length 0 (some 1) = min 1 xs.length from HT.sIx_nat xs.length 0 1, HT.sIx_none]
  cases xs with
  | nil => rfl
  | cons x r =>
    have e : min 1 (x :: r).length = 1 := by rw [List.length_cons]; omega
    rw [e]
    show (List.take ((x :: r).length - 1) r) = r
    rw [List.length_cons, Nat.add_sub_cancel, List.take_length]
theorem obj_parts {K : PySem.W.Frag} {H : Hp} {v : V} {d : PyData} (h : Dp K H v d) (o : dObj d = true) : ∃ (p : Addr) (z : Str) (k : Int), v = .ref p ∧ SqT K H p [.str z, .int k] ∧ fstS d = z ∧ d = .tuple [.str z, .int k] := by
  unfold dObj at o
  split at o
  · rename_i a b
    rw [Bool.and_eq_true] at o
    cases a with
    | str z =>
      cases b with
      | int k =>
        cases h with
        | tup hs r =>
          cases r with
          | cons h0 r =>
            cases r with
            | cons h1 r =>
              cases r
              cases h0
              cases h1
              exact ⟨_, z, k, rfl, hs, rfl, rfl⟩
      | _ => simp [dPos] at o
    | _ => simp [dWord] at o
  · cases o
theorem rises_range : ∀ zs : List Str, ((List.range (zs.length - 1)).map fun i => decide ((zs.getD i Str.empty).cps.toList < (zs.getD (i + 1) Str.empty).cps.toList)).all id = rises zs
  | [] => rfl
  | [_] => rfl
  | a :: b :: r => by
    have ih := rises_range (b :: r)
    have e : (a :: b :: r).length - 1 = (b :: r).length - 1 + 1 := by simp
    rw [e, List.range_succ_eq_map, List.map_cons, List.map_map, List.all_cons]
    show (decide (a.cps.toList < b.cps.toList) && _) = (decide (a.cps.toList < b.cps.toList) && rises (b :: r))
    rw [← ih]
    rfl
section
variable {P : Program} {w : World} {K : PySem.W.Frag} {mg : Str → Option Value} {base : Heap}
def spRise (K : PySem.W.Frag) : Sp := fun vs H Q _ => ∃ (v : V) (ds : List PyData), vs = [v] ∧ Dp K H v (.tuple ds) ∧ ds.length ≤ 60 ∧ ds.all dObj = true ∧ ∀ H', Same H H' → Q (.bl (rises (ds.map fstS))) H'
end
end Sw
set_option maxRecDepth 100000
set_option maxHeartbeats 4000000
namespace Sw
open PySem PySem.Spec PyProof.Rows L2

/-! ### sets of texts -/
def Mem1 (w : World) (e : Int × Value) (x : Str) : Prop := ∃ t, e.2 = Value.str x t ∧ e.1 = hashStr w x
/-- the set at a holds the texts L, none twice -/
def TxtSet (w : World) (h : Heap) (a : Addr) (L : List Str) : Prop :=
  ∃ o es ep t, h.get? a = some o ∧ o.ExactSet ∧ o.data = .set es ep t ∧ Paired (Mem1 w) es.toList L ∧ L.Nodup ∧ es.size < scanBound ∧ t.fits es.size = true ∧ Ris t.place.toList ∧
    (w.params.followText "set-order" = true ∨ t.led = true)
theorem TxtSet.at {w : World} {h h' : Heap} {a : Addr} {L : List Str} (R : TxtSet w h a L) (k : ∀ o, h.get? a = some o → h'.get? a = some o) : TxtSet w h' a L := by
  obtain ⟨o, es, ep, t, ho, r⟩ := R
  exact ⟨o, es, ep, t, k o ho, r⟩
theorem paired_perm {α β : Type} {R : α → β → Prop} : ∀ {l l' : List α}, l'.Perm l → ∀ {L : List β}, Paired R l L → ∃ L', Paired R l' L' ∧ L'.Perm L := by
  intro l l' p
  induction p with
  | nil => intro L h; cases h; exact ⟨[], .nil, .nil⟩
  | cons x p ih =>
    intro L h
    cases h with
    | cons r t =>
      obtain ⟨L', h1, h2⟩ := ih t
      exact ⟨_ :: L', .cons r h1, h2.cons _⟩
  | swap x y l =>
    intro L h
    cases h with
    | cons r1 t =>
      cases t with
      | cons r2 t => exact ⟨_ :: _ :: _, .cons r2 (.cons r1 t), .swap _ _ _⟩
  | trans p q ih1 ih2 =>
    intro L h
    obtain ⟨L1, h1, h2⟩ := ih2 h
    obtain ⟨L2, h3, h4⟩ := ih1 h1
    exact ⟨L2, h3, h4.trans h2⟩
theorem mem_elems {P : Program} {w : World} : ∀ {l : List (Int × Value)} {L : List Str}, Paired (Mem1 w) l L → ElemsOf (strKind P w) l
  | _, _, .nil, _, he => by simp at he
  | _, _, .cons r t, e, he => by
    rcases List.mem_cons.mp he with rfl | he
    · obtain ⟨tk, h1, h2⟩ := r
      exact ⟨⟨_, by rw [h1]; exact strKind_is P w _ tk, h2⟩, by rw [h1]; rfl⟩
    · exact mem_elems t e he
theorem is_iff {P : Program} {w : World} {x y : Str} {t : Tok} : (strKind P w).is x (.str y t) = true ↔ y = x := by
  show Value.isStrOf x (.str y t) = true ↔ _
  simp [Value.isStrOf]
theorem found_mem {P : Program} {w : World} {x : Str} : ∀ {l : List (Int × Value)} {L : List Str}, Paired (Mem1 w) l L → ((∃ e ∈ l, (strKind P w).is x e.2 = true) ↔ x ∈ L)
  | _, _, .nil => by simp
  | _, _, .cons (a := e0) (b := y) r t => by
    have ih := found_mem (P := P) (w := w) (x := x) t
    obtain ⟨tk, h1, _⟩ := r
    constructor
    · rintro ⟨e, he, h⟩
      rcases List.mem_cons.mp he with rfl | he
      · rw [h1, is_iff] at h
        rw [h]
        exact List.mem_cons_self
      · exact List.mem_cons_of_mem _ (ih.mp ⟨e, he, h⟩)
    · intro h
      rcases List.mem_cons.mp h with rfl | h
      · exact ⟨e0, List.mem_cons_self, by rw [h1, is_iff]⟩
      · obtain ⟨e, he, h⟩ := ih.mpr h
        exact ⟨e, List.mem_cons_of_mem _ he, h⟩
section
variable {P : Program} {w : World} {A : Around} {E : Value → Shared → Prop} {s : Shared} {a : Addr} {L : List Str}
theorem txt_store {g : Bool → Sem Unit} (hg : ∀ (b : Bool) (s₁ : Shared) (Q' : Unit → Shared → Prop), Q' () s₁ → wpAny (model P w) A (g b) Q' E s₁)
    {o : Obj} {es es1 : Array (Int × Value)} {ep : Nat} {t t2 : SetTable} (ho : s.heap.get? a = some o) (hex : o.ExactSet) (hd : o.data = .set es ep t) (pr : Paired (Mem1 w) es1.toList L) (nd : L.Nodup)
    (hb : es1.size < scanBound) (hf : t2.fits es1.size = true) (hr : Ris t2.place.toList) (hl : w.params.followText "set-order" = true ∨ t2.led = true) {dm : Bool} {R : Option Bool → Shared → Prop}
    (hR : ∀ h' L', Heap.SameBut a s.heap h' → TxtSet w h' a L' → L'.Perm L → R (some true) { s with heap := h' }) :
    wpAny (model P w) A (do
        storeSet a es1 t2
        if (!dm && t2.tooFull) = true then do
            g (relayAll t2 es1 (SetTable.grown es1.size)).2.2
            storeSet a (relayAll t2 es1 (SetTable.grown es1.size)).1 (relayAll t2 es1 (SetTable.grown es1.size)).2.1
            pure (some true)
          else pure (some true)) R E s := by
  refine wpAny_bind (wpAny_storeSet_of ho hd ?_ (fits_of_scanBound hb))
  have o1 := store_at (es' := es1) (t' := t2) ho hd
  have sb := Heap.SameBut.update s.heap a (Obj.putSet es1 t2)
  split
  · have p1 := relayAll_perm t2 es1 (SetTable.grown es1.size)
    have p2 := relayAll_fits t2 es1 (SetTable.grown es1.size)
    have p3 := relayAll_ris t2 es1 (SetTable.grown es1.size)
    have p4 := relayAll_led t2 es1 (SetTable.grown es1.size)
    generalize relayAll t2 es1 (SetTable.grown es1.size) = Z at p1 p2 p3 p4 ⊢
    obtain ⟨es2, t3, gv⟩ := Z
    dsimp only at p1 p2 p3 p4 ⊢
    obtain ⟨L', q1, q2⟩ := paired_perm p1 pr
    have sz : es2.size = es1.size := by
      have := p1.length_eq
      simpa using this
    have hb2 : es2.size < scanBound := by omega
    refine wpAny_bind (hg gv _ _ ?_)
    refine wpAny_bind (wpAny_storeSet_of o1 rfl ?_ (fits_of_scanBound hb2))
    refine wpAny_pure (hR _ L' (sb.trans (Heap.SameBut.update _ a _)) ?_ q2)
    exact ⟨_, es2, _, t3, store_at (es' := es2) (t' := t3) o1 rfl, hex, rfl, q1, q2.nodup_iff.mpr nd, hb2, p2, p3, hl.imp id fun z => by rw [p4]; exact z⟩
  · exact wpAny_pure (hR _ L sb ⟨_, es1, _, t2, o1, hex, rfl, pr, nd, hb, hf, hr, hl⟩ (.refl _))
theorem txt_add {x : Str} {tk : Tok} {Q : Bool → Shared → Prop} (R : TxtSet w s.heap a L) (room : L.length + 1 < scanBound)
    (hQ : ∀ b h' L', Heap.SameBut a s.heap h' → TxtSet w h' a L' → (x ∈ L ∧ L' = L ∨ x ∉ L ∧ L'.Perm (x :: L)) → Q b { s with heap := h' }) :
    wpAny (model P w) A (setAddHashed a (.str x tk) ((strKind P w).hash x)) Q E s := by
  obtain ⟨o, es, ep, t, ho, hex, hd, pr, nd, hb, hf, hr, hl⟩ := R
  have el : ElemsOf (strKind P w) es.toList := mem_elems pr
  have sc : (Value.str x tk).scannable = true := rfl
  have key : (strKind P w).is x (.str x tk) = true := strKind_is P w x tk
  have hlen : es.size = L.length := by have := pr.length; simpa using this
  unfold setAddHashed setAddHashedIn
  refine wpAny_holding (wpAny_bind (wpAny_setState_of ho hd hf ?_))
  dsimp only
  rw [byScan_of sc hb el]
  simp only [↓reduceIte]
  unfold setAddByScan
  refine wpAny_bind (wpAny_bind (wpAny_rule (wpAny_bind (wpAny_setScan_of key ho hd hf el ?_))))
  cases hfi : List.findIdx? (fun e => (strKind P w).is x e.2) es.toList with
  | some j =>
    obtain ⟨hj, pj, _⟩ := List.findIdx?_eq_some_iff_getElem.mp hfi
    have hx : x ∈ L := (found_mem (P := P) pr).mp ⟨_, List.getElem_mem hj, pj⟩
    exact wpAny_pure (wpAny_pure (hQ _ s.heap L (Heap.SameBut.refl a s.heap) ⟨o, es, ep, t, ho, hex, hd, pr, nd, hb, hf, hr, hl⟩ (.inl ⟨hx, rfl⟩)))
  | none =>
    dsimp only
    have hx : x ∉ L := fun z => by
      obtain ⟨e, he, q⟩ := (found_mem (P := P) pr).mpr z
      have c := List.findIdx?_eq_none_iff.mp hfi e he
      rw [q] at c
      cases c
    have gw : ∀ (b : Bool) {s₁ : Shared} {Q' : Unit → Shared → Prop}, Q' () s₁ → wpAny (model P w) A (match b with | true => rule "set.scan.the-table-gave-way" | false => pure ()) Q' E s₁ := by
      intro b s₁ Q' q
      cases b
      · exact wpAny_pure q
      · exact wpAny_rule q
    have p1 := layNew_perm t es ((strKind P w).hash x) (.str x tk)
    have p2 := layNew_fits t es ((strKind P w).hash x) (.str x tk)
    have p3 := layNew_ris t es ((strKind P w).hash x) (.str x tk) hr
    have p4 := layNew_led t es ((strKind P w).hash x) (.str x tk)
    generalize layNew t es ((strKind P w).hash x) (.str x tk) = Z at p1 p2 p3 p4 ⊢
    obtain ⟨es1, t1, dm, gv⟩ := Z
    dsimp only at p1 p2 p3 p4 ⊢
    rw [Array.toList_push] at p1
    have pr1 : Paired (Mem1 w) (((strKind P w).hash x, Value.str x tk) :: es.toList) (x :: L) := .cons ⟨tk, rfl, rfl⟩ pr
    obtain ⟨L1, q1, q2⟩ := paired_perm (p1.trans (List.perm_append_singleton _ _)) pr1
    have nd1 : L1.Nodup := q2.nodup_iff.mpr (List.nodup_cons.mpr ⟨hx, nd⟩)
    have sz1 : es1.size = L.length + 1 := by
      have h1 := q1.length
      have h2 := q2.length_eq
      simp at h1 h2
      omega
    have hb1 : es1.size < scanBound := by omega
    have hl1 : w.params.followText "set-order" = true ∨ t1.led = true := hl.imp id fun z => by rw [p4]; exact z
    have fin : ∀ h' L', Heap.SameBut a s.heap h' → TxtSet w h' a L' → L'.Perm L1 → Q true { s with heap := h' } := fun h' L' sb r pm => hQ true h' L' sb r (.inr ⟨hx, pm.trans q2⟩)
    refine wpAny_bind (gw _ ?_)
    split
    · refine wpAny_bind ?_
      rw [hashByValue_scannable 8 sc]
      refine wpAny_pure ?_
      refine txt_store (L := L1) ?_ ho hex hd q1 nd1 hb1 ?_ ?_ ?_ ?_
      · intro b s₁ Q' q; cases b <;> first | exact wpAny_pure q | exact wpAny_rule q
      · first | (split <;> first | exact p2 | exact SetTable.fits_plain_off p2) | exact p2
      · first | (split <;> exact p3) | exact p3
      · first | (split <;> exact hl1) | exact hl1
      · intro h' L' sb r pm; dsimp only; exact wpAny_pure (fin h' L' sb r pm)
    · refine wpAny_bind (wpAny_pure ?_)
      simp only [↓reduceIte]
      refine txt_store (L := L1) ?_ ho hex hd q1 nd1 hb1 p2 p3 hl1 ?_
      · intro b s₁ Q' q; cases b <;> first | exact wpAny_pure q | exact wpAny_rule q
      · intro h' L' sb r pm; dsimp only; exact wpAny_pure (fin h' L' sb r pm)
end
end Sw
set_option maxRecDepth 100000
set_option maxHeartbeats 4000000
namespace Sw
open PySem PySem.Spec PyProof.Rows L2
/-- L: what is met in the first i of xs -/
def Met (xs : List Str) (i : Nat) (L : List Str) : Prop := L.length ≤ i ∧ ∀ x, x ∈ L ↔ x ∈ xs.take i
theorem Met.step {xs L L' : List Str} {i : Nat} {x : Str} (g : Met xs i L) (hx : xs[i]? = some x) (h : x ∈ L ∧ L' = L ∨ x ∉ L ∧ L'.Perm (x :: L)) : Met xs (i + 1) L' := by
  have et : xs.take (i + 1) = xs.take i ++ [x] := by rw [List.take_add_one, hx]; rfl
  rcases h with ⟨hm, rfl⟩ | ⟨hm, pm⟩
  · refine ⟨Nat.le_succ_of_le g.1, fun y => ?_⟩
    rw [et, List.mem_append, ← g.2 y]
    constructor
    · exact .inl
    · rintro (h | h)
      · exact h
      · rw [List.mem_singleton.mp h]; exact hm
  · refine ⟨by rw [pm.length_eq, List.length_cons]; exact Nat.succ_le_succ g.1, fun y => ?_⟩
    rw [pm.mem_iff, et, List.mem_append, ← g.2 y, List.mem_cons, List.mem_singleton]
    exact Or.comm
section
variable {P : Program} {w : World} {A : Around} {E : Value → Shared → Prop} {s : Shared}
theorem txt_update {I : Addr} {fp wr : List Addr} {G : Array GenState → Array GenState → Prop} {n : Nat} {Pv : Nat → Value → Prop} {St : Nat → Shared → Prop} {R : Result → Shared → Prop} (W : WalksS P w A.in1 I fp wr G n Pv St)
    (S : Addr) (hSf : S ∉ fp) (xs : List Str) (hn : n = xs.length) (few : n + 1 < scanBound) (hval : ∀ i v, Pv i v → ∃ x t, xs[i]? = some x ∧ v = .str x t) :
    ∀ (k i : Nat) (s : Shared), n - i = k → i ≤ n → St i s → (∃ L, TxtSet w s.heap S L ∧ Met xs i L) → (∀ s' L, Moved (S :: wr) G s s' → TxtSet w s'.heap S L → Met xs n L → R (.ok (.ret .none)) s') →
      codeAny (model P w) A (.builtin "set.update.loop" ⟨[.ref S, .ref I], []⟩) R s := by
  have nw : S ∉ wr := fun h => hSf (W.sub _ h)
  have up : ∀ b ∈ wr, b ∈ S :: wr := fun b hb => List.mem_cons_of_mem _ hb
  intro k
  induction k with
  | zero =>
    rintro i s hk hi st ⟨L, hS, g⟩ hR
    obtain rfl : i = n := by omega
    refine codeAny_builtin PyProof.Rows.F.entry_set_update_loop ?_; rw [Around.under_plainId PyProof.Rows.F.plain_set_update_loop _]
    show wpAny _ A.in1 (pyNext (.ref I) >>= _) _ _ s
    refine wpAny_bind (W.done s _ _ st ?_)
    intro s' hm
    show wpAny _ A.in1 (ret Value.none) _ _ s'
    exact wpAny_pure (hR s' L (hm.mono up) (hS.at fun o e => hm.heap S o nw e) g)
  | succ k ih =>
    rintro i s hk hi st ⟨L, hS, g⟩ hR
    have lt : i < n := by omega
    refine codeAny_builtin PyProof.Rows.F.entry_set_update_loop ?_; rw [Around.under_plainId PyProof.Rows.F.plain_set_update_loop _]
    show wpAny _ A.in1 (pyNext (.ref I) >>= _) _ _ s
    refine wpAny_bind (W.item i s _ _ lt st ?_)
    intro v s' hP st' hm
    obtain ⟨x, t, hx, rfl⟩ := hval i v hP
    have hS' : TxtSet w s'.heap S L := hS.at fun o e => hm.heap S o nw e
    show wpAny _ A.in1 (holding [Value.str x t] (setAdd S (.str x t)) >>= _) _ _ s'
    refine wpAny_bind (wpAny_holding ?_)
    unfold setAdd
    refine wpAny_holding (wpAny_bind ((strKind P w).pyHash (k := x) (strKind_is P w x t) ?_))
    refine txt_add (s := { s' with toks := s'.toks + 1 }) hS' (by have := g.1; omega) ?_
    intro b h' L' sb hS2 hL
    refine wpAny_pure ⟨plainId_quiet PyProof.Rows.F.plain_set_update_loop _, ih (i + 1) _ (by omega) lt (W.frame _ s' _ _ st' (Nat.le_succ _) ?_) ⟨L', hS2, g.step hx hL⟩ ?_⟩
    · intro c hc o e
      rw [sb.2 c (fun z : c = S => hSf (z ▸ hc))]
      exact e
    · intro s'' L2 hm2 hS3 g3
      refine hR s'' L2 (Moved.trans W.gtrans ((hm.mono up).then_heap (Nat.le_succ _) ?_) hm2) hS3 g3
      intro c o hc e
      rw [sb.2 c (fun z : c = S => hc (by rw [z]; exact List.mem_cons_self))]
      exact e
/-- the object that set.__new__ lays -/
abbrev newSetO (w : World) : Obj := { cls := .type "set", dict := none, data := .set #[] 0 (.fresh 0 0 (!w.params.followText "set-order")) }
theorem txt_fresh {h : Heap} {a : Addr} (e : h.get? a = some (newSetO w)) : TxtSet w h a [] := by
  refine ⟨_, #[], 0, _, e, ⟨rfl, rfl, rfl⟩, rfl, .nil, List.nodup_nil, by decide, by rfl, List.Pairwise.nil, ?_⟩
  show _ ∨ (!w.params.followText "set-order") = true
  cases w.params.followText "set-order"
  · exact .inr rfl
  · exact .inl rfl
theorem call_set_txts {l : Addr} {items : Array Value} (xs : List Str) {Q : Value → Shared → Prop} (hh : A.handled = none) (hl : s.heap.IsList l items) (hit : StrsAre items.toList xs) (few : xs.length + 1 < scanBound)
    (h : ∀ (h' : Heap) (tk : Nat) L, TxtSet w h' s.heap.objs.size L → Met xs xs.length L → (∀ b o, s.heap.get? b = some o → h'.get? b = some o) → Q (.ref s.heap.objs.size) { s with heap := h', toks := tk }) :
    wpAny (model P w) A (call (.type "set") [.ref l]) Q E s := by
  have isz : items.size = xs.length := by have := hit.length; simpa using this
  obtain ⟨c, tl, hmro⟩ := F.called_set.mro
  have hmade := F.called_set.made
  have hsub := F.called_set.sub
  refine wpAny_call (codeAny_of_tree ?_)
  show wpAny _ _ (callAny (.type "set") _) _ _ _
  refine wpAny_pure ⟨Code.quiet_builtin _ (by decide +kernel), codeAny_builtin F.entry_type_call ?_⟩
  rw [Around.under_plain (weight_type_call_type "set" [.ref l] []) rfl]
  have h1 := F.called_set.notType
  have h2 := F.called_set.canCreate
  have hct := F.typeCall_set_1 (.ref l)
  repeat (any_goals (first | assumption | wp_step))
  refine codeAny_mono (code_set_led1 (.ref l) (E := E) (Q₁ := fun obj s1 => obj = .ref s.heap.objs.size ∧ s1 = { s with heap := s.heap.push (newSetO w) }) ⟨rfl, rfl⟩) ?_
  intro r s1 hr
  cases r with
  | error e => exact hr
  | ok fl =>
    cases fl with
    | ret obj =>
      obtain ⟨rfl, rfl⟩ := hr
      have hS : (s.heap.push (newSetO w)).get? s.heap.objs.size = some (newSetO w) := Heap.get?_push_size _ rfl
      have hT : Shared.TypeIs { s with heap := s.heap.push (newSetO w) } (.ref s.heap.objs.size) "set" := ⟨_, hS, rfl⟩
      have hli := F.called_set.init.lookup
      have hbi := F.called_set.init.bind (.ref s.heap.objs.size)
      repeat (any_goals (first | assumption | wp_step))
      refine codeAny_mono (codeAny_call_builtin (R := wants (fun r s2 => r = .none ∧ ∃ h' tk L, s2 = { s with heap := h', toks := tk } ∧ TxtSet w h' s.heap.objs.size L ∧ Met xs xs.length L ∧
          (∀ b o, s.heap.get? b = some o → h'.get? b = some o)) E) F.called_set.init.plain F.entry_set_init (check_set_init_1 hT ?_)) ?_
      · obtain ⟨ol, hol, hcl, nl, hdl⟩ := hl
        obtain ⟨ocls, odict, odata, oslots⟩ := ol
        simp only at hcl hdl
        subst hcl
        subst hdl
        have hol' : (s.heap.push (newSetO w)).get? l = some { cls := .type "list", dict := odict, data := .seq items nl, slots := oslots } := Heap.get?_push_of_some _ hol
        have hsls := F.sub_list_set
        have hslf := F.sub_list_frozenset
        have hne : (Value.type "list" == Value.type "dict") = false := by decide
        have hl1 : (s.heap.push (newSetO w)).IsList l items := ⟨_, hol', rfl, nl, rfl⟩
        unfold Builtin.«set.__init__» noKeywords Builtin.Frozenset.updateFrom
        generalize hPI : pyIter = PI
        wp_walk
        subst hPI
        refine wpAny_pyIter_list hl1 (wpAny_bind (wpAny_runValue ?_))
        have hlS : l < s.heap.objs.size := Heap.lt_size hol
        have zp : (s.heap.push (newSetO w)).objs.size = s.heap.objs.size + 1 := Heap.size_push ..
        have neI : l ≠ (s.heap.push (newSetO w)).objs.size := by rw [zp]; exact Nat.ne_of_lt (Nat.lt_succ_of_lt hlS)
        have nS : s.heap.objs.size ∉ [(s.heap.push (newSetO w)).objs.size, l] := by
          rw [zp]
          simp only [List.mem_cons, List.not_mem_nil, or_false, not_or]
          exact ⟨Nat.ne_of_lt (Nat.lt_succ_self _), Nat.ne_of_gt hlS⟩
        have hval : ∀ (i : Nat) (v : Value), items[i]? = some v → ∃ x t, xs[i]? = some x ∧ v = .str x t := fun i v hv => by
          obtain ⟨y, t, e1, e2⟩ := hit.item i v (by rw [Array.getElem?_toList]; exact hv)
          exact ⟨y, t, e2, e1⟩
        refine txt_update ((Walks.list (by simp [hh]) _ l neI items).toS) s.heap.objs.size nS xs isz (by omega) hval (items.size - 0) 0 _ (by omega) (Nat.zero_le _)
          ⟨⟨_, Heap.get?_push_size _ rfl, rfl, rfl⟩, (hl1.push _)⟩ ⟨[], txt_fresh (Heap.get?_push_of_some _ hS), Nat.le_refl _, by simp⟩ ?_
        intro s' L hm hS' g'
        obtain ⟨h', g2, d', tk', os'⟩ := s'
        have eg : g2 = s.gens := hm.gens
        have ed : d' = s.drawn := hm.drawn
        have eo : os' = s.os := hm.os
        subst eg ed eo
        show wpAny _ _ _ _ _ _
        refine wpAny_pure ?_
        show wpAny _ _ (ret Value.none) _ _ _
        rw [isz] at g'
        refine wpAny_pure ⟨rfl, h', tk', L, rfl, hS', g', fun c o e => ?_⟩
        have lc : c < s.heap.objs.size := Heap.lt_size e
        refine hm.heap c o ?_ (Heap.get?_push_of_some _ (Heap.get?_push_of_some _ e))
        simp only [List.mem_cons, List.not_mem_nil, or_false, not_or]
        refine ⟨Nat.ne_of_lt lc, ?_⟩
        rw [zp]
        exact Nat.ne_of_lt (Nat.lt_succ_of_lt lc)
      · intro r2 s2 hr2
        cases r2 with
        | error e => exact hr2
        | ok fl2 =>
          cases fl2 with
          | ret r =>
            obtain ⟨rfl, h', tk, L, rfl, hS', g', hk'⟩ := hr2
            repeat (any_goals (first | assumption | wp_step))
            exact h _ _ _ hS' g' hk'
          | _ => exact hr2.elim
    | _ => exact hr.elim
end
end Sw
set_option maxRecDepth 100000
set_option maxHeartbeats 4000000
namespace Sw
open PySem PySem.Spec PyProof.Rows L2
theorem strs_of_mem {w : World} : ∀ {l : List (Int × Value)} {L : List Str}, Paired (Mem1 w) l L → Paired (fun v x => ∃ t, v = Value.str x t) (l.map (·.2)) L
  | _, _, .nil => .nil
  | _, _, .cons ⟨t, h, _⟩ r => .cons ⟨t, h⟩ (strs_of_mem r)
theorem strs_of_paired : ∀ {l : List Value} {L : List Str}, Paired (fun v x => ∃ t, v = Value.str x t) l L → StrsAre l L
  | _, _, .nil => .nil
  | _, _, .cons ⟨t, h⟩ r => by
    subst h
    exact .cons _ t (strs_of_paired r)
section
variable {P : Program} {w : World} {A : Around} {E : Value → Shared → Prop} {s : Shared}
theorem sorted_txts {a : Addr} {L : List Str} {Q : Value → Shared → Prop} (R : TxtSet w s.heap a L) (hh : A.handled = none) (h64 : L.length < 64)
    (hQ : ∀ s' p (out : Array Value) (c : Nat) (ys : List Str), (∀ b o, s.heap.get? b = some o → s'.heap.get? b = some o) → s'.gens = s.gens → s'.os = s.os → s.heap.objs.size ≤ p →
      s'.heap.get? p = some (seqObj "list" out c) → StrsAre out.toList ys → ys.Perm L → sortedS ys = true → Q (.ref p) s') : wpAny (model P w) A (call (.builtin "sorted") [.ref a]) Q E s := by
  obtain ⟨o, es, ep, t, ho, hex, hd, pr, nd, hb, hf, hr, hl⟩ := R
  refine Calls.call_function_entry kind_sorted plain_sorted entry_sorted (args_sorted1 _) ?_
  unfold Builtin.«sorted»
  refine wpAny_bind (m := checkCount "sorted" 1 1 _) (wpAny_pure ?_)
  refine wpAny_bind (collect_set (A := A.in1) hh ⟨o, ho, hex.1, hd⟩ hf hb hr hl ?_)
  intro s1 vs k1 hz g1 o1 pm
  obtain ⟨L1, q1, q2⟩ := paired_perm pm (strs_of_mem pr)
  have hS := strs_of_paired q1
  have hvl : vs.length = L.length := by rw [q1.length, q2.length_eq]
  refine wpAny_bind (wpAny_newList ?_ (by rw [hvl, sizeLine_eq]; omega))
  have hoL : (s1.heap.push (seqObj "list" vs.toArray 0)).get? s1.heap.objs.size = some (seqObj "list" vs.toArray 0) := Heap.get?_push_size _ rfl
  refine wpAny_bind (wpAny_holding (wpAny_call_entry slot_list_sort ⟨_, hoL, rfl⟩ entry_list_sort (list_sort_treeK PyProof.Rows.strKind_oneLt hoL hS.keysOf (fun v₁ v₂ rest e => keyKind_strs (by rw [← e]; exact hS)) (by rw [hvl]; exact h64) ?_) (args_list_sort _)))
  intro st' hp hs
  obtain ⟨ys, a1, a2, a3⟩ := sorted_out_str hS hp hs
  generalize (arrOf st').map (·.2) = out at a1
  refine ⟨_, rfl, ?_⟩
  obtain ⟨c, hc⟩ := sortedHeap_at (vs := vs) (out := out) hoL
  refine wpAny_pure ⟨_, rfl, hQ _ s1.heap.objs.size out c ys ?_ g1 o1 hz hc a1 (a2.trans q2) a3⟩
  intro b u e
  have q := k1 b u e
  have lt := Heap.lt_size q
  show (sortedHeap (s1.heap.push (seqObj "list" vs.toArray 0)) s1.heap.objs.size vs out).get? b = some u
  rw [sortedHeap_old (Nat.ne_of_lt lt) (by rw [size_push']; exact Nat.lt_succ_of_lt lt)]
  exact Heap.get?_push_of_some _ q
end
/-- a set of texts as a thing of the abstract heap -/
def SetSO (w : World) (a : Addr) (L : List Str) : HO := .ext fun h => TxtSet w h a L
theorem setSO_ok {P : Program} {w : World} {H : Hp} {h : Heap} {a : Addr} {L : List Str} (R : TxtSet w h a L) : ObjOk P w H h a (SetSO w a L) := by
  refine ⟨R, ?_, fun h1 h2 r k => r.at k⟩
  obtain ⟨o, _, _, _, ho, _⟩ := R
  exact ⟨o, ho⟩
section
variable {X : Cx}
def rSetS (K : PySem.W.Frag) (w : World) : List V → Hp → VK → Prop := fun vs H Q => ∃ (l : Addr) (xs : List Str), vs = [.ref l] ∧ SqL K H l (xs.map V.str) ∧ xs.length ≤ 1000 ∧
  ∀ a L, H a = none → L.length ≤ xs.length → (∀ x, x ∈ L ↔ x ∈ xs) → Q (.ref a) (upd H a (SetSO w a L))
theorem cr_setS (hc : X.calm = true) : CallR X (.type "set") (rSetS X.K X.w) := by
  intro pins s σ H vs us Q I r h
  obtain ⟨l, xs, rfl, hl, hn, q⟩ := h
  obtain ⟨its, rv, hp, _⟩ := I.list hl
  rw [Vals.ref1 r]
  refine call_set_txts xs (I.ok.hd hc) hp.isList (by simpa using rv.strs) (by unfold scanBound; omega) ?_
  intro h' tk L hS g k
  have hf : H s.heap.objs.size = none := I.hok.fresh (Nat.le_refl _)
  refine ⟨.ref s.heap.objs.size, _, I.laid (t' := tk) (o := SetSO X.w s.heap.objs.size L) k (Nat.le_refl _) (setSO_ok hS), rfl, q _ L hf g.1 ?_⟩
  intro x
  have := g.2 x
  rwa [List.take_length] at this
def rSortedSS (w : World) : List V → Hp → VK → Prop := fun vs H Q => ∃ (a : Addr) (L : List Str), vs = [.ref a] ∧ H a = some (SetSO w a L) ∧ L.length < 64 ∧
  ∀ (ys : List Str) (p : Addr), ys.Perm L → L.Nodup → sortedS ys = true → H p = none → Q (.ref p) (upd H p (.lst (ys.map V.str)))
theorem cr_sortedSS (hc : X.calm = true) : CallR X (.builtin "sorted") (rSortedSS X.w) := by
  intro pins s σ H vs us Q I r h
  obtain ⟨a, L, rfl, ha, h64, q⟩ := h
  have R : TxtSet X.w s.heap a L := (I.hok a _ ha).1
  have nd : L.Nodup := by
    obtain ⟨_, _, _, _, _, _, _, _, nd, _⟩ := R
    exact nd
  rw [Vals.ref1 r]
  refine sorted_txts R (I.ok.hd hc) h64 ?_
  intro s' p out c ys k g o hp hg hi pm hs
  have hlen : (ys.map V.str).length ≤ sizeLine := by rw [List.length_map, pm.length_eq, sizeLine_eq]; omega
  have hn : H p = none := I.hok.fresh hp
  have J : Inv X pins σ (upd H p (.lst (ys.map V.str))) { s with heap := s'.heap, gens := s'.gens, drawn := s'.drawn, toks := s'.toks } :=
    I.call (ch := []) (Un.laid k hp hn) (I.hok.laid k hp ⟨hlen, out.toList, c, vals_of_strs hi, hg⟩) (by rw [g]; exact I.bare) (fun _ z => nomatch z)
  have e : s' = { s with heap := s'.heap, gens := s'.gens, drawn := s'.drawn, toks := s'.toks } := by
    cases s'; cases s; cases o; rfl
  rw [e]
  exact ⟨.ref p, _, J, rfl, q ys p pm nd hs hn⟩
end
end Sw
set_option maxRecDepth 100000
set_option maxHeartbeats 4000000
namespace Sw
open PySem PySem.Spec PyProof.Rows L2
def LtS (a b : Str) : Prop := a.cps.toList < b.cps.toList
theorem LtS.trans {a b c : Str} (h1 : LtS a b) (h2 : LtS b c) : LtS a c := List.lt_trans h1 h2
theorem LtS.irr {a : Str} : ¬ LtS a a := List.lt_irrefl _
theorem LtS.tri {a b : Str} (h : ¬ LtS b a) (hne : a ≠ b) : LtS a b := by
  have h1 : a.cps.toList ≤ b.cps.toList := h
  rcases List.le_iff_lt_or_eq.mp h1 with h2 | h2
  · exact h2
  · exfalso
    apply hne
    cases a with
    | mk x =>
      cases b with
      | mk y =>
        have : x = y := by
          have := congrArg List.toArray h2
          simpa using this
        rw [this]
theorem rises_pw : ∀ zs : List Str, rises zs = true ↔ zs.Pairwise LtS
  | [] => by simp [rises]
  | [_] => by simp [rises]
  | a :: b :: r => by
    have ih := rises_pw (b :: r)
    rw [show rises (a :: b :: r) = (decide (a.cps.toList < b.cps.toList) && rises (b :: r)) from rfl, Bool.and_eq_true, decide_eq_true_eq, ih]
    constructor
    · rintro ⟨h1, h2⟩
      refine List.pairwise_cons.mpr ⟨fun x hx => ?_, h2⟩
      rcases List.mem_cons.mp hx with rfl | hx
      · exact h1
      · exact LtS.trans h1 ((List.pairwise_cons.mp h2).1 x hx)
    · intro h
      obtain ⟨h1, h2⟩ := List.pairwise_cons.mp h
      exact ⟨h1 b List.mem_cons_self, h2⟩
theorem sorted_pw : ∀ (p : Str) (r : List Str), risingS p r = true → (p :: r).Nodup → (p :: r).Pairwise LtS
  | p, [], _, _ => by simp
  | p, x :: r, h, nd => by
    have h' : (!ltCps x.cps.toList p.cps.toList && risingS x r) = true := h
    rw [Bool.and_eq_true, ltCps_eq] at h'
    obtain ⟨n1, n2⟩ := List.nodup_cons.mp nd
    have ih := sorted_pw x r h'.2 n2
    have hx : LtS p x := LtS.tri (fun z => by have z2 := h'.1; rw [decide_eq_true (show x.cps.toList < p.cps.toList from z)] at z2; cases z2) (fun e => n1 (by rw [e]; exact List.mem_cons_self))
    refine List.pairwise_cons.mpr ⟨fun y hy => ?_, ih⟩
    rcases List.mem_cons.mp hy with rfl | hy
    · exact hx
    · exact LtS.trans hx ((List.pairwise_cons.mp ih).1 y hy)
theorem pw_unique : ∀ {ys zs : List Str}, ys.Pairwise LtS → zs.Pairwise LtS → (∀ x, x ∈ ys ↔ x ∈ zs) → ys = zs
  | [], [], _, _, _ => rfl
  | [], z :: zs, _, _, h => absurd ((h z).mpr List.mem_cons_self) List.not_mem_nil
  | y :: ys, [], _, _, h => absurd ((h y).mp List.mem_cons_self) List.not_mem_nil
  | y :: ys, z :: zs, h1, h2, h => by
    obtain ⟨a1, a2⟩ := List.pairwise_cons.mp h1
    obtain ⟨b1, b2⟩ := List.pairwise_cons.mp h2
    have e : y = z := by
      rcases List.mem_cons.mp ((h y).mp List.mem_cons_self) with e | m1
      · exact e
      · rcases List.mem_cons.mp ((h z).mpr List.mem_cons_self) with e | m2
        · exact e.symm
        · exact absurd ((b1 y m1).trans (a1 z m2)) LtS.irr
    subst e
    rw [pw_unique a2 b2]
    intro x
    constructor
    · intro hx
      rcases List.mem_cons.mp ((h x).mp (List.mem_cons_of_mem _ hx)) with e | m
      · subst e
        exact absurd (a1 x hx) LtS.irr
      · exact m
    · intro hx
      rcases List.mem_cons.mp ((h x).mpr (List.mem_cons_of_mem _ hx)) with e | m
      · subst e
        exact absurd (b1 x hx) LtS.irr
      · exact m
theorem eqvAll_strs : ∀ ys zs : List Str, PyData.eqvAll (ys.map .str) (zs.map .str) = decide (ys = zs)
  | [], [] => by simp [PyData.eqvAll]
  | [], _ :: _ => by simp [PyData.eqvAll]
  | _ :: _, [] => by simp [PyData.eqvAll]
  | y :: ys, z :: zs => by
    simp only [List.map_cons, PyData.eqvAll, PyData.eqv, eqvAll_strs ys zs]
    by_cases h1 : y = z <;> by_cases h2 : ys = zs <;> simp [h1, h2]
theorem eqv_strs (ys zs : List Str) : PyData.eqv (.list (ys.map .str)) (.list (zs.map .str)) = decide (ys = zs) := by
  simp only [PyData.eqv, eqvAll_strs]
theorem sorted_set_is {ys L zs : List Str} (pm : ys.Perm L) (nd : L.Nodup) (hs : sortedS ys = true) (hm : ∀ x, x ∈ L ↔ x ∈ zs) : decide (ys = zs) = rises zs := by
  have ndy : ys.Nodup := pm.nodup_iff.mpr nd
  have py : ys.Pairwise LtS := by
    cases ys with
    | nil => exact .nil
    | cons p r => exact sorted_pw p r hs ndy
  by_cases h : rises zs = true
  · rw [h, decide_eq_true_eq]
    exact pw_unique py ((rises_pw zs).mp h) fun x => by rw [pm.mem_iff, hm]
  · have h' : rises zs = false := by simpa using h
    rw [h', decide_eq_false_iff_not]
    intro e
    subst e
    exact h ((rises_pw _).mpr py)
end Sw
set_option maxRecDepth 100000
set_option maxHeartbeats 4000000
namespace Sw
open PySem PySem.Spec PyProof.Rows L2
/-- x is not True, x is not False, x an int or a bool -/
def rNotB2 : R2 := fun x y H Q => ∃ b : Bool, y = .bl b ∧ ((∃ i, x = .int i ∧ Q (.bl true) H) ∨ ∃ a, x = .bl a ∧ Q (.bl (!decide (a = b))) H)
theorem op_notB2 {X : Cx} : OpR X (compareOp .IsNot) rNotB2 := by
  intro pins s σ H x y v u Q I rx ry h
  obtain ⟨b, rfl, h⟩ := h
  cases (show u = Value.bool b from ry)
  rcases h with ⟨i, rfl, q⟩ | ⟨a, rfl, q⟩
  · obtain ⟨t, rfl⟩ := rx
    exact wpAny_isNot_other rfl (fun z => by cases z) ⟨.bl true, H, I, rfl, q⟩
  · cases (show v = Value.bool a from rx)
    by_cases e : a = b
    · subst e
      exact wpAny_isNot_self rfl ⟨.bl false, H, I, rfl, by simpa using q⟩
    · exact wpAny_isNot_other rfl (fun z => e (Value.bool.inj z)) ⟨.bl true, H, I, rfl, by simpa [e] using q⟩
section
variable {P : Program} {w : World} {K : PySem.W.Frag} {mg : Str → Option Value} {base : Heap}
/-- the signs that spoil a word -/
def bad (z : Str) : List Nat := z.cps.toList.filter fun c => !okSign c
theorem bad_nil (z : Str) : (bad z).isEmpty = z.cps.toList.all okSign := by
  unfold bad
  generalize z.cps.toList = l
  induction l with
  | nil => rfl
  | cons c l ih =>
    by_cases h : okSign c = true
    · simp [h, ← ih]
    · have h' : okSign c = false := by simpa using h
      simp [h']
theorem filter_signs {z : Str} : ((List.range z.cps.size).filter fun i => !okSign (z.cps.toList.getD i 0)).map (fun i => V.str ⟨#[z.cps.toList.getD i 0]⟩) = ((bad z).map fun c => (⟨#[c]⟩ : Str)).map V.str := by
  unfold bad
  have e : z.cps.toList = (List.range z.cps.size).map fun i => z.cps.toList.getD i 0 := by
    apply List.ext_getElem?
    intro i
    simp only [List.getElem?_map]
    by_cases h : i < z.cps.size
    · rw [List.getElem?_range h, List.getElem?_eq_getElem (by simpa using h)]
      simp [List.getD, List.getElem?_eq_getElem, h]
    · rw [List.getElem?_eq_none (by simpa using h), List.getElem?_eq_none (by simpa using h)]
      rfl
  conv => rhs; rw [e]
  rw [List.filter_map, List.map_map, List.map_map]
  rfl
theorem eqv_nil_list (xs : List PyData) : PyData.eqv (.list xs) (.list []) = xs.isEmpty := by
  cases xs <;> simp [PyData.eqv, PyData.eqvAll]
theorem eqv_nil_tup (xs : List PyData) : PyData.eqv (.tuple xs) (.tuple []) = xs.isEmpty := by
  cases xs <;> simp [PyData.eqv, PyData.eqvAll]
theorem strs_shaped {zs : List Str} (h : ∀ z ∈ zs, ∀ c ∈ z.cps.toList, c < 128) : SeqAt.shaped (.list (zs.map PyData.str)) = true := by
  have hf : leaf 0 (.list (zs.map PyData.str)) = true := by
    simp only [leaf]
    refine leafAll_iff.mpr fun x hx => ?_
    obtain ⟨z, hz, rfl⟩ := List.mem_map.mp hx
    exact leaf_str.mpr (h z hz)
  unfold SeqAt.shaped
  rw [leaf_canLay _ hf, Bool.true_and, decide_eq_true_eq]
  have : (PyData.list (zs.map PyData.str)).depth ≤ 0 + 1 := depth_list.mpr fun x hx => by
    obtain ⟨z, _, rfl⟩ := List.mem_map.mp hx
    simp [PyData.depth]
  omega
theorem nil_shaped : SeqAt.shaped (.list []) = true := by decide +kernel
theorem nilT_shaped : SeqAt.shaped (.tuple []) = true := by decide +kernel
theorem bad_sign (c : Nat) : (decide ((c : Int) < 97) || decide ((c : Int) > 122)) = !okSign c := by
  unfold okSign
  by_cases h1 : 97 ≤ c <;> by_cases h2 : c ≤ 122 <;> simp [h1, h2] <;> omega
end
end Sw
set_option maxRecDepth 100000
set_option maxHeartbeats 4000000
namespace Sw
open PySem PySem.Spec PyProof.Rows L2
section
variable {P : Program} {w : World} {K : PySem.W.Frag} {mg : Str → Option Value} {base : Heap}
/-- pairs whose first things are words -/
def dWp : PyData → Bool
  | .tuple [a, _] => dWord a
  | _ => false
def dPairs : PyData → Bool
  | .tuple ds => !ds.isEmpty && ds.all dWp && rises (ds.map fstS)
  | _ => false
theorem wp_parts {K : PySem.W.Frag} {H : Hp} {v : V} {d : PyData} (h : Dp K H v d) (o : dWp d = true) : ∃ (p : Addr) (z : Str) (v1 : V) (e : PyData), v = .ref p ∧ SqT K H p [.str z, v1] ∧ Dp K H v1 e ∧ fstS d = z ∧ d = .tuple [.str z, e] := by
  unfold dWp at o
  split at o
  · rename_i a b
    cases a with
    | str z =>
      cases h with
      | tup hs r =>
        cases r with
        | cons h0 r =>
          cases r with
          | cons h1 r =>
            cases r
            cases h0
            exact ⟨_, z, _, _, rfl, hs, h1, rfl, rfl⟩
    | _ => simp [dWord] at o
  · cases o
theorem isEmpty_len {α β : Type} {l : List α} {m : List β} (h : l.length = m.length) : l.isEmpty = m.isEmpty := by
  cases l <;> cases m <;> simp at h ⊢
theorem filter_none {α : Type} (l : List α) (p : α → Bool) : (l.filter fun x => !p x).isEmpty = l.all p := by
  induction l with
  | nil => rfl
  | cons c l ih =>
    by_cases h : p c = true
    · simp [h, ← ih]
    · have h' : p c = false := by simpa using h
      simp [h']
theorem range_filter_all {ds : List PyData} (p : PyData → Bool) : ((List.range ds.length).filter fun i => !p (ds.getD i .none)).isEmpty = ds.all p := by
  rw [filter_none]
  have e : ds = (List.range ds.length).map fun i => ds.getD i .none := by
    apply List.ext_getElem?
    intro i
    simp only [List.getElem?_map]
    by_cases h : i < ds.length
    · rw [List.getElem?_range h, List.getElem?_eq_getElem h]
      simp [List.getD, h]
    · rw [List.getElem?_eq_none (by omega), List.getElem?_eq_none (by simp; omega)]
      rfl
  conv => rhs; rw [e]
  rw [List.all_map]
  rfl
theorem fit_shaped {M l n B : Nat} {ds : List PyData} (h : ∀ d ∈ ds, Fit M l n B d) (hn : n ≤ 63) : SeqAt.shaped (.list ds) = true := by
  have hf : leaf M (.list ds) = true := by simp only [leaf]; exact leafAll_iff.mpr fun x hx => (h x hx).lf
  unfold SeqAt.shaped
  rw [leaf_canLay _ hf, Bool.true_and, decide_eq_true_eq]
  have : (PyData.list ds).depth ≤ n + 1 := depth_list.mpr fun x hx => (h x hx).dp
  omega
theorem obj_all : ∀ (ds : List PyData), ds.all dObj = true → ds.all dWp = true := by
  intro ds h
  refine List.all_eq_true.mpr fun d hd => ?_
  have o := List.all_eq_true.mp h d hd
  unfold dObj at o
  split at o
  · rw [Bool.and_eq_true] at o
    exact o.1
  · cases o
end
end Sw
set_option maxRecDepth 100000
set_option maxHeartbeats 4000000
namespace Sw
open PySem PySem.Spec PyProof.Rows L2
/-! ### a heap without one place -/
def del (H : Hp) (p : Addr) : Hp := fun c => if c = p then none else H c
theorem del_some {H : Hp} {p c : Addr} {o : HO} (h : H c = some o) (hc : c ≠ p) : del H p c = some o := by unfold del; rw [if_neg hc]; exact h
theorem of_del {H : Hp} {p c : Addr} {o : HO} (h : del H p c = some o) : H c = some o ∧ c ≠ p := by
  unfold del at h
  by_cases hc : c = p
  · rw [if_pos hc] at h; cases h
  · rw [if_neg hc] at h; exact ⟨h, hc⟩
theorem del_same (H : Hp) (p : Addr) : Same (del H p) H := fun c o h => (of_del h).1
theorem same_del {H H' : Hp} {p : Addr} (h : Same H H') : Same (del H p) (del H' p) := fun c o e => del_some (h _ _ (of_del e).1) (of_del e).2
theorem del_upd {H : Hp} {p : Addr} {o : HO} : Same (del H p) (del (upd H p o) p) := fun c u e => del_some (by rw [upd_ne (of_del e).2]; exact (of_del e).1) (of_del e).2
theorem del_new {H : Hp} {p a : Addr} {o : HO} (ha : H a = none) : Same (del H p) (del (upd H a o) p) := same_del (same_new ha)
theorem new_del {H : Hp} {p a : Addr} {o u : HO} (hp : H p = some u) (ha : H a = none) : del (upd H a o) p a = some o := del_some upd_same (fun e => by rw [e, hp] at ha; cases ha)
/-! ### what the draws stand on -/
structure FeedAt (H : Hp) (p fq : Addr) (b : Nat) : Prop where
  ex : ∃ (ns : List Int) (i j k : Int), H p = some (.lst [.ref fq, .int i, .int j, .int k]) ∧ H fq = some (.lst (ns.map V.int)) ∧ p ≠ fq ∧ 0 ≤ i ∧ 0 ≤ j ∧ 0 ≤ k ∧ k ≤ (b : Int) ∧ ns.length ≤ 63
theorem FeedAt.there {H : Hp} {p fq : Addr} {b : Nat} (h : FeedAt H p fq b) : ∃ u, H p = some u := by
  obtain ⟨ns, i, j, k, hp, _⟩ := h.ex
  exact ⟨_, hp⟩
theorem FeedAt.mono {H : Hp} {p fq : Addr} {b c : Nat} (h : FeedAt H p fq b) (hb : b ≤ c) : FeedAt H p fq c := by
  obtain ⟨ns, i, j, k, h1, h2, h3, h4, h5, h6, h7, h8⟩ := h.ex
  exact ⟨ns, i, j, k, h1, h2, h3, h4, h5, h6, by omega, h8⟩
theorem FeedAt.same {H H' : Hp} {p fq : Addr} {b : Nat} (h : FeedAt H p fq b) (s : Same H H') : FeedAt H' p fq b := by
  obtain ⟨ns, i, j, k, h1, h2, h3⟩ := h.ex
  exact ⟨ns, i, j, k, s _ _ h1, s _ _ h2, h3⟩
/-- another list changes -/
theorem FeedAt.upd {H : Hp} {p fq a : Addr} {b : Nat} {o : HO} (h : FeedAt H p fq b) (h1 : a ≠ p) (h2 : a ≠ fq) : FeedAt (upd H a o) p fq b := by
  obtain ⟨ns, i, j, k, g1, g2, g3⟩ := h.ex
  exact ⟨ns, i, j, k, by rw [upd_ne (Ne.symm h1)]; exact g1, by rw [upd_ne (Ne.symm h2)]; exact g2, g3⟩
theorem FeedAt.ne {H : Hp} {p fq a : Addr} {b : Nat} (h : FeedAt H p fq b) (ha : H a = none) : a ≠ p ∧ a ≠ fq := by
  obtain ⟨ns, i, j, k, g1, g2, g3⟩ := h.ex
  exact ⟨Ne.symm (ne_of_none g1 ha), Ne.symm (ne_of_none g2 ha)⟩
/-- xs[i], for xs[i] += e -/
theorem get_list {X : Cx} : PGet X (fun o i H Q => ∃ p xs k v, o = .ref p ∧ i = .int k ∧ 0 ≤ k ∧ SqL X.K H p xs ∧ xs[k.toNat]? = some v ∧ Q v H) := by
  intro pins s σ H o i ov iv Q I ro ri h
  obtain ⟨p, xs, k, v, rfl, rfl, h0, hq, he, q⟩ := h
  cases ro
  obtain ⟨t, rfl⟩ := ri
  obtain ⟨its, r, pl, hz⟩ := I.list hq
  obtain ⟨u, eu, ru⟩ := r.get he
  have hl := (List.getElem?_eq_some_iff.mp he).1
  have hn := line63
  exact wpAny_getItem_list pl.isList h0 (by omega) (by simpa using eu) ⟨v, H, I, ru, q⟩
theorem ints_shaped (ns : List Int) : SeqAt.shaped (.list (ns.map PyData.int)) = true := by
  have hf : PyData.canLayAll0 (ns.map PyData.int) = true := by
    induction ns with
    | nil => simp [PyData.canLayAll0]
    | cons n ns ih => simp [PyData.canLayAll0, PyData.canLay0, ih]
  unfold SeqAt.shaped
  rw [show (PyData.list (ns.map PyData.int)).canLay0 = true by simpa [PyData.canLay0] using hf, Bool.true_and, decide_eq_true_eq]
  have : (PyData.list (ns.map PyData.int)).depth ≤ 0 + 1 := depth_list.mpr fun x hx => by
    obtain ⟨z, _, rfl⟩ := List.mem_map.mp hx
    simp [PyData.depth]
  omega
theorem DpAll_ints {K : PySem.W.Frag} {H : Hp} : ∀ ns : List Int, DpAll K H (ns.map V.int) (ns.map PyData.int)
  | [] => .nil
  | n :: ns => .cons (.int n) (DpAll_ints ns)
theorem md {x A : Int} (h : 0 < A) (hA : A ≤ 4294967296) : -(2 ^ 64) < x % A ∧ x % A < 2 ^ 64 := by
  have h1 := Int.emod_nonneg x (by omega : A ≠ 0)
  have h2 := Int.emod_lt_of_pos x h
  constructor <;> omega
section
variable {P : Program} {w : World} {K : PySem.W.Frag} {mg : Str → Option Value} {base : Heap}
def spDraw : Sp := fun vs H Q _ => ∃ (p fq : Addr) (m : Int) (b : Nat), vs = [.ref p, .int m] ∧ FeedAt H p fq b ∧ b ≤ 1000000000 ∧ 1 ≤ m ∧ m ≤ 1000000 ∧
  ∀ (r : Int) (H' : Hp), 0 ≤ r → r < m → Same (del H p) (del H' p) → FeedAt H' p fq (b + 1) → Q (.int r) H'
theorem sc_draw : FnScope ["_law_feed_here", "_law_many", "_law_told", "_law_cell", "_law_turn", "_law_mixed"] ["_law_feed_here", "_law_many"] (defScope (topS 19)) := ⟨rfl, rfl, rfl, by decide +kernel, rfl, by decide +kernel, by decide +kernel⟩
theorem ok_draw {f : Addr} {fd : FuncData} (D : Df K mg "_law_draw" (topS 19) ["_law_feed_here", "_law_many"] f fd) (B : Bt mg) : FnOk P w K mg base CX0 1 f fd ["_law_feed_here", "_law_many"] spDraw := by
  refine D.fn.ok sc_draw (fun vs H Q E h => ?_) (fun cdv A outer s H vs Q E hr h => ?_)
  · obtain ⟨p, qa, m, b, rfl, _⟩ := h
    rfl
  obtain ⟨p, qa, m, b, rfl, hF, hb, hm1, hm2, q⟩ := h
  obtain ⟨ns, i, j, k, hp, hq, hne, hi, hj, hk, hkb, hn⟩ := hF.ex
  have hu := hr.units
  have nd := sc_draw.nd
  refine ⟨_, pss_cons (ps_augS (pv 0) pe_int get_list pe_int ip_add set_list)
    (pss_cons (ps_if (pt_cmpR op_gt (pe_ix ix_list (pv 0) pe_int (fun _ _ => rfl)) pe_int (nomark _))
      (pss_cons (ps_set (i := 2) nd rfl (Or.inl rfl) (pe_op op_mod (pe_ix ix_list (pv 0) pe_int (fun _ _ => rfl)) (pv 1)))
      (pss_cons (ps_asg (pe_op op_fdiv (pe_ix ix_list (pv 0) pe_int (fun _ _ => rfl)) (pv 1)) (pg_sub (pv 0) pe_int set_list))
      (pss_one (ps_ret (pv 2))))) pss_nil)
    (pss_cons (ps_set (i := 3) nd rfl (Or.inl rfl) (pe_ifExp (pt_cmpR (op_eqD hu) (pe_ix ix_list (pv 0) pe_int (fun _ _ => rfl)) (pe_lst pa_nil) (nomark _)) pe_int
      (pe_ix ix_list (pe_ix ix_list (pv 0) pe_int (fun _ _ => rfl)) (pe_op op_mod (pe_ix ix_list (pv 0) pe_int (fun _ _ => rfl)) (pe_callB call_len_seq (by rfl) B.len PySem.boot_len (pa_cons (pe_ix ix_list (pv 0) pe_int (fun _ _ => rfl)) pa_nil))) (fun _ _ => rfl))))
    (pss_cons (ps_augS (pv 0) pe_int get_list pe_int ip_add set_list)
    (pss_cons (ps_if (PW.pt (pw_and (pt_cmpR op_ge (pv 3) (pe_op op_pow pe_int pe_int) (nomark _)) (pw_and1 (pt_cmpR op_le (pe_ix ix_list (pv 0) pe_int (fun _ _ => rfl)) (pe_callB call_len_seq (by rfl) B.len PySem.boot_len (pa_cons (pe_ix ix_list (pv 0) pe_int (fun _ _ => rfl)) pa_nil)) (nomark _)))))
      (pss_cons (ps_asg (pe_op op_fdiv (pv 3) (pv 1)) (pg_sub (pv 0) pe_int set_list))
      (pss_one (ps_ret (pe_op op_mod (pv 3) (pv 1))))) pss_nil)
    (pss_cons (ps_set (i := 4) nd rfl (Or.inl rfl) (pe_ix ix_list (pv 0) pe_int (fun _ _ => rfl)))
    (pss_cons (ps_set (i := 5) nd rfl (Or.inl rfl) (pe_op op_mod (pe_op op_add (pe_op op_add (pe_op op_mod (pv 3) pe_int) (pe_op op_mul (pe_op op_mul pe_int (pv 4)) (pv 4))) (pe_op op_mul pe_int (pv 4))) pe_int))
    (pss_cons (ps_set (i := 5) nd rfl (Or.inl rfl) (pe_op op_mod (pe_op op_add (pe_op op_mul (pv 5) (pv 5)) (pe_op op_mul pe_int (pv 4))) pe_int))
    (pss_cons (ps_set (i := 5) nd rfl (Or.inl rfl) (pe_op op_mod (pe_op op_add (pe_op op_mul (pv 5) (pv 5)) (pe_op op_mul pe_int (pv 4))) pe_int))
    (pss_one (ps_ret (pe_op op_mod (pe_op op_fdiv (pe_op op_mod (pe_op op_add (pe_op op_mul (pv 5) (pv 5)) (pv 4)) pe_int) pe_int) (pv 1)))))))))))), ?_⟩
  -- feed[3] += 1
  refine ⟨_, rfl, p, _, 3, _, rfl, rfl, by decide, SqL.of hp, rfl, k, 1, rfl, rfl, p, _, 3, 3, rfl, rfl, hp, rfl, ?_⟩
  generalize hH1 : upd H p (HO.lst ([V.ref qa, V.int i, V.int j, V.int k].set 3 (V.int ((fun i j => i + j) k 1)))) = H1
  have hp1 : H1 p = some (.lst [.ref qa, .int i, .int j, .int (k + 1)]) := by rw [← hH1]; exact upd_same
  have hq1 : H1 qa = some (.lst (ns.map V.int)) := by rw [← hH1, upd_ne (Ne.symm hne)]; exact hq
  have d1 : Same (del H p) (del H1 p) := by rw [← hH1]; exact del_upd
  clear hH1
  -- if feed[2] > 0
  refine ⟨_, rfl, p, _, 2, _, rfl, rfl, SqL.of hp1, atI_nat (j := 2) rfl, j, 0, rfl, rfl, _, rfl, ?_⟩
  refine ite2 (fun c => ?_) (fun c => ?_)
  · refine ⟨_, rfl, p, _, 2, _, rfl, rfl, SqL.of hp1, atI_nat (j := 2) rfl, _, rfl, j, m, rfl, rfl, (by show (0 : Int) < m; omega), ?_⟩
    refine ⟨_, rfl, p, _, 2, _, rfl, rfl, SqL.of hp1, atI_nat (j := 2) rfl, _, rfl, j, m, rfl, rfl, ⟨by omega, by omega⟩, _, rfl, p, _, 2, 2, rfl, rfl, hp1, rfl, ?_⟩
    refine ⟨_, rfl, q _ _ (Int.emod_nonneg _ (by omega)) (Int.emod_lt_of_pos _ (by omega)) (d1.trans del_upd) ⟨ns, i, j / m, k + 1, upd_same, ?_, hne, hi, Int.ediv_nonneg hj (by omega), by omega, by omega, hn⟩⟩
    rw [upd_ne (Ne.symm hne)]
    exact hq1
  -- the cell
  refine ⟨_, rfl, p, _, 0, _, rfl, rfl, SqL.of hp1, atI_nat (j := 0) rfl, Nat.zero_le _, fun N hN => ?_⟩
  have sN : Same H1 (upd H1 N (.lst [])) := same_new hN
  refine ⟨.list (ns.map PyData.int), .list [], .lst (SqL.of (sN _ _ hq1)) (DpAll_ints _), .lst (SqL.of upd_same) .nil, ints_shaped _, nil_shaped, _, rfl, ?_⟩
  have d2 : Same (del H p) (del (upd H1 N (.lst [])) p) := d1.trans (same_del sN)
  have hp2 := sN _ _ hp1
  have hq2 := sN _ _ hq1
  generalize upd H1 N (.lst []) = H2 at d2 hp2 hq2
  rw [eqv_nil_list]
  refine ite2 (fun c2 => ?_) (fun c2 => ?_)
  rotate_left
  · have hne0 : ns.length ≠ 0 := fun e => c2 (by rw [List.eq_nil_of_length_eq_zero e]; rfl)
    have hml : (ns.map V.int).length = ns.length := List.length_map _
    have e1 : 0 ≤ i % ((ns.map V.int).length : Int) := Int.emod_nonneg _ (by rw [hml]; omega)
    have e2 : i % ((ns.map V.int).length : Int) < ((ns.map V.int).length : Int) := Int.emod_lt_of_pos _ (by rw [hml]; omega)
    obtain ⟨t, ht⟩ : ∃ t : Nat, i % ((ns.map V.int).length : Int) = (t : Int) := ⟨_, (Int.toNat_of_nonneg e1).symm⟩
    have ht2 : t < ns.length := by rw [ht, hml] at e2; omega
    have hat : atI (ns.map V.int) (i % ((ns.map V.int).length : Int)) = some (V.int ns[t]) := by
      rw [ht]
      exact atI_nat (by rw [List.getElem?_map, List.getElem?_eq_getElem ht2]; rfl)
    refine ⟨_, rfl, p, _, 0, _, rfl, rfl, SqL.of hp2, atI_nat (j := 0) rfl, _, rfl, p, _, 1, _, rfl, rfl, SqL.of hp2, atI_nat (j := 1) rfl, _, rfl, p, _, 0, _, rfl, rfl, SqL.of hp2, atI_nat (j := 0) rfl, qa, _, rfl, .inl (SqL.of hq2), i, _, rfl, rfl, (by show (0 : Int) < _; rw [hml]; omega), qa, _, _, _, rfl, rfl, SqL.of hq2, hat, ?_⟩
    generalize ns[t] = cell
    refine ⟨_, rfl, p, _, 1, _, rfl, rfl, by decide, SqL.of hp2, rfl, i, 1, rfl, rfl, p, _, 1, 1, rfl, rfl, hp2, rfl, ?_⟩
    generalize hH3 : upd H2 p (HO.lst ([V.ref qa, V.int i, V.int j, V.int (k + 1)].set 1 (V.int ((fun i j => i + j) i 1)))) = H3
    have hp3 : H3 p = some (.lst [.ref qa, .int (i + 1), .int j, .int (k + 1)]) := by rw [← hH3]; exact upd_same
    have hq3 : H3 qa = some (.lst (ns.map V.int)) := by rw [← hH3, upd_ne (Ne.symm hne)]; exact hq2
    have d3 : Same (del H p) (del H3 p) := by rw [← hH3]; exact d2.trans del_upd
    clear hH3
    refine ⟨_, rfl, 10, 18, rfl, rfl, ⟨by decide, by decide, by decide⟩, _, _, rfl, rfl, _, rfl, ?_⟩
    refine ite2 (fun c3 => ?_) (fun c3 => ?_)
    · have c4 := of_decide_eq_true c3
      refine ⟨_, rfl, p, _, 1, _, rfl, rfl, SqL.of hp3, atI_nat (j := 1) rfl, _, rfl, p, _, 0, _, rfl, rfl, SqL.of hp3, atI_nat (j := 0) rfl, qa, _, rfl, .inl (SqL.of hq3), _, _, rfl, rfl, _, rfl, ?_⟩
      refine ite2 (fun c5 => ?_) (fun c5 => ?_)
      · refine ⟨_, rfl, _, rfl, _, m, rfl, rfl, ⟨by omega, by omega⟩, _, rfl, p, _, 2, 2, rfl, rfl, hp3, rfl, ?_⟩
        refine ⟨_, rfl, _, rfl, _, m, rfl, rfl, (by show (0 : Int) < m; omega), ?_⟩
        refine q _ _ (Int.emod_nonneg _ (by omega)) (Int.emod_lt_of_pos _ (by omega)) (d3.trans del_upd) ⟨ns, i + 1, _, k + 1, upd_same, ?_, hne, by omega, Int.ediv_nonneg (Int.le_trans (by decide) c4) (by omega), by omega, by omega, hn⟩
        rw [upd_ne (Ne.symm hne)]
        exact hq3
      · refine ⟨_, rfl, p, _, 3, _, rfl, rfl, SqL.of hp3, atI_nat (j := 3) rfl, ?_⟩
        refine ⟨_, rfl, _, 2147483629, rfl, rfl, (by show (0 : Int) < 2147483629; decide), _, rfl, 69621, k + 1, rfl, rfl, .inl ⟨by decide, by decide⟩, _, rfl, _, k + 1, rfl, rfl, .inr ⟨by omega, by omega⟩, _, _, rfl, rfl, _, rfl, 7, k + 1, rfl, rfl, .inl ⟨by decide, by decide⟩, _, _, rfl, rfl, _, 2147483629, rfl, rfl, (by show (0 : Int) < 2147483629; decide), ?_⟩
        refine ⟨_, rfl, _, rfl, _, _, rfl, rfl, .inl (md (by decide) (by decide)), _, rfl, 48271, k + 1, rfl, rfl, .inl ⟨by decide, by decide⟩, _, _, rfl, rfl, _, 2147483647, rfl, rfl, (by show (0 : Int) < 2147483647; decide), ?_⟩
        refine ⟨_, rfl, _, rfl, _, _, rfl, rfl, .inl (md (by decide) (by decide)), _, rfl, 16807, k + 1, rfl, rfl, .inl ⟨by decide, by decide⟩, _, _, rfl, rfl, _, 2147483587, rfl, rfl, (by show (0 : Int) < 2147483587; decide), ?_⟩
        refine ⟨_, rfl, _, rfl, _, _, rfl, rfl, .inl (md (by decide) (by decide)), _, rfl, _, k + 1, rfl, rfl, _, 2147483629, rfl, rfl, (by show (0 : Int) < 2147483629; decide), _, 131, rfl, rfl, ⟨by decide, by decide⟩, _, rfl, _, m, rfl, rfl, by show (0 : Int) < m; omega, ?_⟩
        exact q _ _ (Int.emod_nonneg _ (by omega)) (Int.emod_lt_of_pos _ (by omega)) d3 ⟨ns, i + 1, j, k + 1, hp3, hq3, hne, by omega, hj, by omega, by omega, hn⟩
    · refine iteF ?_
      refine ⟨_, rfl, p, _, 3, _, rfl, rfl, SqL.of hp3, atI_nat (j := 3) rfl, ?_⟩
      refine ⟨_, rfl, _, 2147483629, rfl, rfl, (by show (0 : Int) < 2147483629; decide), _, rfl, 69621, k + 1, rfl, rfl, .inl ⟨by decide, by decide⟩, _, rfl, _, k + 1, rfl, rfl, .inr ⟨by omega, by omega⟩, _, _, rfl, rfl, _, rfl, 7, k + 1, rfl, rfl, .inl ⟨by decide, by decide⟩, _, _, rfl, rfl, _, 2147483629, rfl, rfl, (by show (0 : Int) < 2147483629; decide), ?_⟩
      refine ⟨_, rfl, _, rfl, _, _, rfl, rfl, .inl (md (by decide) (by decide)), _, rfl, 48271, k + 1, rfl, rfl, .inl ⟨by decide, by decide⟩, _, _, rfl, rfl, _, 2147483647, rfl, rfl, (by show (0 : Int) < 2147483647; decide), ?_⟩
      refine ⟨_, rfl, _, rfl, _, _, rfl, rfl, .inl (md (by decide) (by decide)), _, rfl, 16807, k + 1, rfl, rfl, .inl ⟨by decide, by decide⟩, _, _, rfl, rfl, _, 2147483587, rfl, rfl, (by show (0 : Int) < 2147483587; decide), ?_⟩
      refine ⟨_, rfl, _, rfl, _, _, rfl, rfl, .inl (md (by decide) (by decide)), _, rfl, _, k + 1, rfl, rfl, _, 2147483629, rfl, rfl, (by show (0 : Int) < 2147483629; decide), _, 131, rfl, rfl, ⟨by decide, by decide⟩, _, rfl, _, m, rfl, rfl, by show (0 : Int) < m; omega, ?_⟩
      exact q _ _ (Int.emod_nonneg _ (by omega)) (Int.emod_lt_of_pos _ (by omega)) d3 ⟨ns, i + 1, j, k + 1, hp3, hq3, hne, by omega, hj, by omega, by omega, hn⟩
  · refine ⟨_, rfl, p, _, 1, _, rfl, rfl, by decide, SqL.of hp2, rfl, i, 1, rfl, rfl, p, _, 1, 1, rfl, rfl, hp2, rfl, ?_⟩
    generalize hH3 : upd H2 p (HO.lst ([V.ref qa, V.int i, V.int j, V.int (k + 1)].set 1 (V.int ((fun i j => i + j) i 1)))) = H3
    have hp3 : H3 p = some (.lst [.ref qa, .int (i + 1), .int j, .int (k + 1)]) := by rw [← hH3]; exact upd_same
    have hq3 : H3 qa = some (.lst (ns.map V.int)) := by rw [← hH3, upd_ne (Ne.symm hne)]; exact hq2
    have d3 : Same (del H p) (del H3 p) := by rw [← hH3]; exact d2.trans del_upd
    clear hH3
    refine ⟨_, rfl, 10, 18, rfl, rfl, ⟨by decide, by decide, by decide⟩, _, _, rfl, rfl, _, rfl, ?_⟩
    refine ite2 (fun c3 => ?_) (fun c3 => ?_)
    · have c4 := of_decide_eq_true c3
      refine ⟨_, rfl, p, _, 1, _, rfl, rfl, SqL.of hp3, atI_nat (j := 1) rfl, _, rfl, p, _, 0, _, rfl, rfl, SqL.of hp3, atI_nat (j := 0) rfl, qa, _, rfl, .inl (SqL.of hq3), _, _, rfl, rfl, _, rfl, ?_⟩
      refine ite2 (fun c5 => ?_) (fun c5 => ?_)
      · refine ⟨_, rfl, _, rfl, _, m, rfl, rfl, ⟨by omega, by omega⟩, _, rfl, p, _, 2, 2, rfl, rfl, hp3, rfl, ?_⟩
        refine ⟨_, rfl, _, rfl, _, m, rfl, rfl, (by show (0 : Int) < m; omega), ?_⟩
        refine q _ _ (Int.emod_nonneg _ (by omega)) (Int.emod_lt_of_pos _ (by omega)) (d3.trans del_upd) ⟨ns, i + 1, _, k + 1, upd_same, ?_, hne, by omega, Int.ediv_nonneg (Int.le_trans (by decide) c4) (by omega), by omega, by omega, hn⟩
        rw [upd_ne (Ne.symm hne)]
        exact hq3
      · refine ⟨_, rfl, p, _, 3, _, rfl, rfl, SqL.of hp3, atI_nat (j := 3) rfl, ?_⟩
        refine ⟨_, rfl, _, 2147483629, rfl, rfl, (by show (0 : Int) < 2147483629; decide), _, rfl, 69621, k + 1, rfl, rfl, .inl ⟨by decide, by decide⟩, _, rfl, _, k + 1, rfl, rfl, .inr ⟨by omega, by omega⟩, _, _, rfl, rfl, _, rfl, 7, k + 1, rfl, rfl, .inl ⟨by decide, by decide⟩, _, _, rfl, rfl, _, 2147483629, rfl, rfl, (by show (0 : Int) < 2147483629; decide), ?_⟩
        refine ⟨_, rfl, _, rfl, _, _, rfl, rfl, .inl (md (by decide) (by decide)), _, rfl, 48271, k + 1, rfl, rfl, .inl ⟨by decide, by decide⟩, _, _, rfl, rfl, _, 2147483647, rfl, rfl, (by show (0 : Int) < 2147483647; decide), ?_⟩
        refine ⟨_, rfl, _, rfl, _, _, rfl, rfl, .inl (md (by decide) (by decide)), _, rfl, 16807, k + 1, rfl, rfl, .inl ⟨by decide, by decide⟩, _, _, rfl, rfl, _, 2147483587, rfl, rfl, (by show (0 : Int) < 2147483587; decide), ?_⟩
        refine ⟨_, rfl, _, rfl, _, _, rfl, rfl, .inl (md (by decide) (by decide)), _, rfl, _, k + 1, rfl, rfl, _, 2147483629, rfl, rfl, (by show (0 : Int) < 2147483629; decide), _, 131, rfl, rfl, ⟨by decide, by decide⟩, _, rfl, _, m, rfl, rfl, by show (0 : Int) < m; omega, ?_⟩
        exact q _ _ (Int.emod_nonneg _ (by omega)) (Int.emod_lt_of_pos _ (by omega)) d3 ⟨ns, i + 1, j, k + 1, hp3, hq3, hne, by omega, hj, by omega, by omega, hn⟩
    · refine iteF ?_
      refine ⟨_, rfl, p, _, 3, _, rfl, rfl, SqL.of hp3, atI_nat (j := 3) rfl, ?_⟩
      refine ⟨_, rfl, _, 2147483629, rfl, rfl, (by show (0 : Int) < 2147483629; decide), _, rfl, 69621, k + 1, rfl, rfl, .inl ⟨by decide, by decide⟩, _, rfl, _, k + 1, rfl, rfl, .inr ⟨by omega, by omega⟩, _, _, rfl, rfl, _, rfl, 7, k + 1, rfl, rfl, .inl ⟨by decide, by decide⟩, _, _, rfl, rfl, _, 2147483629, rfl, rfl, (by show (0 : Int) < 2147483629; decide), ?_⟩
      refine ⟨_, rfl, _, rfl, _, _, rfl, rfl, .inl (md (by decide) (by decide)), _, rfl, 48271, k + 1, rfl, rfl, .inl ⟨by decide, by decide⟩, _, _, rfl, rfl, _, 2147483647, rfl, rfl, (by show (0 : Int) < 2147483647; decide), ?_⟩
      refine ⟨_, rfl, _, rfl, _, _, rfl, rfl, .inl (md (by decide) (by decide)), _, rfl, 16807, k + 1, rfl, rfl, .inl ⟨by decide, by decide⟩, _, _, rfl, rfl, _, 2147483587, rfl, rfl, (by show (0 : Int) < 2147483587; decide), ?_⟩
      refine ⟨_, rfl, _, rfl, _, _, rfl, rfl, .inl (md (by decide) (by decide)), _, rfl, _, k + 1, rfl, rfl, _, 2147483629, rfl, rfl, (by show (0 : Int) < 2147483629; decide), _, 131, rfl, rfl, ⟨by decide, by decide⟩, _, rfl, _, m, rfl, rfl, by show (0 : Int) < m; omega, ?_⟩
      exact q _ _ (Int.emod_nonneg _ (by omega)) (Int.emod_lt_of_pos _ (by omega)) d3 ⟨ns, i + 1, j, k + 1, hp3, hq3, hne, by omega, hj, by omega, by omega, hn⟩
end
end Sw
set_option maxRecDepth 100000
set_option maxHeartbeats 4000000
namespace Sw
open PySem PySem.Spec PyProof.Rows L2
/-! ### graphs as data -/
inductive Ge where
  | go (a : Int)
  | iff (a b : Int)
  | back
def endD : Ge → PyData
  | .go a => .tuple [.str "go", .int a]
  | .iff a b => .tuple [.str "if", .str "i", .int a, .int b]
  | .back => .tuple [.str "back"]
def allG : Ge → List Int
  | .go a => [a]
  | .iff a b => [a, b]
  | .back => []
def goalsI : Ge → List Int
  | .go a => [a]
  | .iff a b => if a < b then [a, b] else if b < a then [b, a] else [a]
  | .back => []
theorem mem_goalsI {e : Ge} {x : Int} : x ∈ goalsI e ↔ x ∈ allG e := by
  cases e with
  | go a => rfl
  | back => rfl
  | iff a b =>
    show x ∈ (if a < b then [a, b] else if b < a then [b, a] else [a]) ↔ x ∈ [a, b]
    by_cases h1 : a < b
    · rw [if_pos h1]
    · rw [if_neg h1]
      by_cases h2 : b < a
      · rw [if_pos h2]; simp only [List.mem_cons, List.not_mem_nil, or_false]; exact or_comm
      · rw [if_neg h2]
        have : a = b := by omega
        subst this
        simp
theorem goalsI_sorted (e : Ge) : (goalsI e).Pairwise (· < ·) := by
  cases e with
  | go a => exact List.pairwise_singleton _ _
  | back => exact List.Pairwise.nil
  | iff a b =>
    show (if a < b then [a, b] else if b < a then [b, a] else [a]).Pairwise (· < ·)
    by_cases h1 : a < b
    · rw [if_pos h1]; simp [h1]
    · rw [if_neg h1]
      by_cases h2 : b < a
      · rw [if_pos h2]; simp [h2]
      · rw [if_neg h2]; exact List.pairwise_singleton _ _
theorem goalsI_len (e : Ge) : (goalsI e).length ≤ 2 := by
  cases e with
  | go a => exact Nat.le_succ 1
  | back => exact Nat.zero_le _
  | iff a b =>
    show (if a < b then [a, b] else if b < a then [b, a] else [a]).length ≤ 2
    split
    · exact Nat.le_refl _
    · split
      · exact Nat.le_refl _
      · exact Nat.le_succ 1
/-- two rising lists of the same numbers are the same -/
theorem rising_eq : ∀ {xs ys : List Int}, xs.Pairwise (· < ·) → ys.Pairwise (· < ·) → (∀ k, k ∈ xs ↔ k ∈ ys) → xs = ys
  | [], [], _, _, _ => rfl
  | [], y :: ys, _, _, h => by have := (h y).mpr List.mem_cons_self; cases this
  | x :: xs, [], _, _, h => by have := (h x).mp List.mem_cons_self; cases this
  | x :: xs, y :: ys, px, py, h => by
    rw [List.pairwise_cons] at px py
    have e : x = y := by
      rcases List.mem_cons.mp ((h x).mp List.mem_cons_self) with e | e
      · exact e
      · rcases List.mem_cons.mp ((h y).mpr List.mem_cons_self) with e2 | e2
        · exact e2.symm
        · have := py.1 x e; have := px.1 y e2; omega
    subst e
    congr 1
    refine rising_eq px.2 py.2 fun k => ⟨fun hk => ?_, fun hk => ?_⟩
    · rcases List.mem_cons.mp ((h k).mp (List.mem_cons_of_mem _ hk)) with e2 | e2
      · have := px.1 k hk; omega
      · exact e2
    · rcases List.mem_cons.mp ((h k).mpr (List.mem_cons_of_mem _ hk)) with e2 | e2
      · have := py.1 k hk; omega
      · exact e2
def blkD (e : Ge) : PyData := .tuple [.tuple [], endD e]
def rtD (r : Str × List Ge) : PyData := .tuple [.str r.1, .tuple (r.2.map blkD)]
def objD : PyData := .tuple [.tuple [.str "a", .int 1]]
def codeD (rs : List (Str × List Ge)) : PyData := .tuple [objD, .tuple (rs.map rtD)]
def lk (nm : Str) : List (Str × List Ge) → Option (List Ge)
  | [] => none
  | r :: rs => if r.1 = nm then some r.2 else lk nm rs
/-- where a block goes -/
def arr (es : List Ge) (b : Int) : List Int := match es[b.toNat]? with
  | some e => allG e
  | none => []
structure Gok (es : List Ge) : Prop where
  pos : 1 ≤ es.length
  few : es.length ≤ 60
  rng : ∀ e ∈ es, ∀ g ∈ allG e, 0 ≤ g ∧ g < (es.length : Int)
theorem arr_rng {es : List Ge} (h : Gok es) {a b : Int} (hb : b ∈ arr es a) : 0 ≤ b ∧ b < (es.length : Int) := by
  unfold arr at hb
  split at hb
  · rename_i e he
    exact h.rng e (List.mem_of_getElem? he) b hb
  · cases hb
/-- to which blocks one comes without ov -/
inductive Rch (es : List Ge) (ov : Option Int) : Int → Prop
  | zero : ov ≠ some 0 → Rch es ov 0
  | step {a b : Int} : Rch es ov a → b ∈ arr es a → ov ≠ some b → Rch es ov b
theorem Rch.rng {es : List Ge} {ov : Option Int} (h : Gok es) {a : Int} (r : Rch es ov a) : 0 ≤ a ∧ a < (es.length : Int) := by
  cases r with
  | zero => have := h.pos; omega
  | step _ hb _ => exact arr_rng h hb
theorem Rch.ne {es : List Ge} {ov : Option Int} {a : Int} (r : Rch es ov a) : ov ≠ some a := by
  cases r with
  | zero h => exact h
  | step _ _ h => exact h
/-- what is known while one goes on -/
inductive Led (es : List Ge) (ov : Option Int) : List (Int × Option Int) → Prop
  | one : ov ≠ some 0 → Led es ov [(0, none)]
  | snoc {L : List (Int × Option Int)} {b g : Int} : Led es ov L → b ∈ L.map (·.1) → g ∈ arr es b → g ∉ L.map (·.1) → ov ≠ some g → Led es ov (L ++ [(g, some b)])
theorem Led.rch {es : List Ge} {ov : Option Int} {L : List (Int × Option Int)} (h : Led es ov L) : ∀ k ∈ L.map (·.1), Rch es ov k := by
  induction h with
  | one h => intro k hk; have : k = 0 := by simpa using hk
             rw [this]; exact .zero h
  | @snoc L b g _ hb hg hn ho ih =>
    intro k hk
    rw [List.map_append, List.mem_append] at hk
    rcases hk with hk | hk
    · exact ih k hk
    · have : k = g := by simpa using hk
      rw [this]
      exact .step (ih _ hb) hg ho
theorem Led.nodup {es : List Ge} {ov : Option Int} {L : List (Int × Option Int)} (h : Led es ov L) : (L.map (·.1)).Nodup := by
  induction h with
  | one h => simp
  | @snoc L b g _ hb hg hn ho ih =>
    rw [List.map_append]
    refine List.nodup_append.mpr ⟨ih, by simp, fun a ha b' hb2 => ?_⟩
    have : b' = g := by simpa using hb2
    rw [this]
    exact fun e => hn (e ▸ ha)
theorem Led.zero {es : List Ge} {ov : Option Int} {L : List (Int × Option Int)} (h : Led es ov L) : (0 : Int) ∈ L.map (·.1) := by
  induction h with
  | one h => simp
  | snoc _ _ _ _ _ ih => rw [List.map_append]; exact List.mem_append_left _ ih
theorem Led.no {es : List Ge} {ov : Option Int} {L : List (Int × Option Int)} (h : Led es ov L) : ov ≠ some 0 := by
  induction h with
  | one h => exact h
  | snoc _ _ _ _ _ ih => exact ih
/-- none twice and all below n: at most n -/
theorem few_ints : ∀ (n : Nat) {L : List Int}, L.Nodup → (∀ x ∈ L, 0 ≤ x ∧ x < (n : Int)) → L.length ≤ n
  | 0, [], _, _ => Nat.le_refl _
  | 0, x :: _, _, h => by have := h x List.mem_cons_self; omega
  | n + 1, L, nd, h => by
    have h1 : (L.erase (n : Int)).length ≤ n := few_ints n (nd.erase _) fun x hx => by
      have h2 := h x (List.mem_of_mem_erase hx)
      have h3 : x ≠ (n : Int) := fun e => by
        rw [e] at hx
        exact (List.Nodup.not_mem_erase nd) hx
      omega
    by_cases hm : (n : Int) ∈ L
    · rw [List.length_erase_of_mem hm] at h1
      omega
    · rw [List.erase_of_not_mem hm] at h1
      omega
theorem Led.few {es : List Ge} {ov : Option Int} (hg : Gok es) {L : List (Int × Option Int)} (h : Led es ov L) : L.length ≤ es.length := by
  have := few_ints es.length h.nodup fun x hx => (h.rch x hx).rng hg
  rwa [List.length_map] at this
theorem closed_all {es : List Ge} {ov : Option Int} {ks : List Int} (h0 : ov ≠ some 0 → (0 : Int) ∈ ks) (hc : ∀ b ∈ ks, ∀ g ∈ arr es b, ov ≠ some g → g ∈ ks) {k : Int} (r : Rch es ov k) : k ∈ ks := by
  induction r with
  | zero h => exact h0 h
  | step _ hb ho ih => exact hc _ ih _ hb ho
structure LedOk (es : List Ge) (ov : Option Int) (L : List (Int × Option Int)) : Prop where
  led : (L = [] ∧ ov = some 0) ∨ Led es ov L
  iff : ∀ k, k ∈ L.map (·.1) ↔ Rch es ov k
  nd : (L.map (·.1)).Nodup
  few : L.length ≤ es.length
/-! ### the dict of it -/
def optV : Option Int → V
  | none => .non
  | some i => .int i
def dkv (L : List (Int × Option Int)) : List (Key × V) := L.map fun p => (Sum.inl p.1, optV p.2)
theorem dkv_has (L : List (Int × Option Int)) (k : Int) : (valV (dkv L) (Sum.inl k)).isSome = decide (k ∈ L.map (·.1)) := by
  induction L with
  | nil => rfl
  | cons p L ih =>
    have e : dkv (p :: L) = (Sum.inl p.1, optV p.2) :: dkv L := rfl
    rw [e]
    by_cases h : p.1 = k
    · rw [valV_pos (show ((Sum.inl p.1, optV p.2) : Key × V).1 = Sum.inl k by rw [h])]
      simp [h]
    · rw [valV_neg (show ¬ ((Sum.inl p.1, optV p.2) : Key × V).1 = Sum.inl k from fun z => h (by injection z)), ih]
      have h' : ¬ k = p.1 := fun z => h z.symm
      simp [h']
theorem dkv_put {L : List (Int × Option Int)} {g b : Int} (h : g ∉ L.map (·.1)) : putK (dkv L) (Sum.inl g) (.int b) = dkv (L ++ [(g, some b)]) := by
  unfold putK
  have : ((dkv L).any fun kv => decide (kv.1 = Sum.inl g)) = false := by
    rw [valV_any, dkv_has]
    simpa using h
  rw [this, if_neg (by simp)]
  unfold dkv
  rw [List.map_append]
  rfl
theorem dkv_keys (L : List (Int × Option Int)) : (dkv L).map (·.1) = (L.map (·.1)).map Sum.inl := by
  unfold dkv
  rw [List.map_map, List.map_map]
  rfl
end Sw
set_option maxRecDepth 100000
set_option maxHeartbeats 4000000
namespace Sw
open PySem PySem.Spec PyProof.Rows L2
theorem pss_never {X : Cx} {st : List Stmt} : PSs X st (fun _ _ _ => False) := ⟨fun pins s σ H D I h => h.elim⟩
section
variable {X : Cx}
/-- set(t) of a tuple of numbers -/
def rSetIT (K : PySem.W.Frag) (w : World) : List V → Hp → VK → Prop := fun vs H Q => ∃ (l : Addr) (ns : List Int), vs = [.ref l] ∧ SqT K H l (ns.map V.int) ∧ ns.length ≤ 60 ∧
  ∀ a c, H a = none → c ≤ ns.length → Q (.ref a) (upd H a (SetO w a (fun j => decide (j ∈ ns)) c))
theorem cr_setIT (hc : X.calm = true) : CallR X (.type "set") (rSetIT X.K X.w) := by
  intro pins s σ H vs us Q I r h
  obtain ⟨l, ns, rfl, hl, hn, q⟩ := h
  obtain ⟨its, rv, hp, _⟩ := I.tuple hl
  rw [Vals.ref1 r]
  refine call_set_tupI ns (I.ok.hd hc) hp (by simpa using rv.ints) (by unfold scanBound; omega) ?_
  intro h' tk c hS hcl k
  exact ⟨.ref s.heap.objs.size, _, I.laid (t' := tk) (o := SetO X.w s.heap.objs.size (fun j => decide (j ∈ ns)) c) k (Nat.le_refl _) (setO_new hS), rfl, q _ c (I.hok.fresh (Nat.le_refl _)) hcl⟩
end
theorem Dp_tup {K : PySem.W.Frag} {H : Hp} {v : V} {ds : List PyData} (h : Dp K H v (.tuple ds)) : ∃ a vs, v = .ref a ∧ SqT K H a vs ∧ DpAll K H vs ds := by
  cases h with
  | tup h r => exact ⟨_, _, rfl, h, r⟩
theorem Dp_str {K : PySem.W.Frag} {H : Hp} {v : V} {z : Str} (h : Dp K H v (.str z)) : v = .str z := by cases h; rfl
theorem Dp_int {K : PySem.W.Frag} {H : Hp} {v : V} {i : Int} (h : Dp K H v (.int i)) : v = .int i := by cases h; rfl
theorem DpAll_two {K : PySem.W.Frag} {H : Hp} {vs : List V} {a b : PyData} (h : DpAll K H vs [a, b]) : ∃ x y, vs = [x, y] ∧ Dp K H x a ∧ Dp K H y b := by
  cases h with
  | cons h1 r => cases r with
    | cons h2 r => cases r; exact ⟨_, _, rfl, h1, h2⟩
theorem code_two {K : PySem.W.Frag} {H : Hp} {v : V} {rs : List (Str × List Ge)} (h : Dp K H v (codeD rs)) : ∃ a vo vr, v = .ref a ∧ SqT K H a [vo, vr] ∧ Dp K H vo objD ∧ Dp K H vr (.tuple (rs.map rtD)) := by
  obtain ⟨a, vs, rfl, h1, h2⟩ := Dp_tup h
  obtain ⟨x, y, rfl, h3, h4⟩ := DpAll_two h2
  exact ⟨a, x, y, rfl, h1, h3, h4⟩
section
variable {P : Program} {w : World} {K : PySem.W.Frag} {mg : Str → Option Value} {base : Heap}
def spBlocks (K : PySem.W.Frag) : Sp := fun vs H Q _ => ∃ (vc : V) (nm : Str) (rs : List (Str × List Ge)) (es : List Ge), vs = [vc, .str nm] ∧ Dp K H vc (codeD rs) ∧ lk nm rs = some es ∧ ∀ v, Dp K H v (.tuple (es.map blkD)) → Q v H
theorem sc_blocks : FnScope ["code", "name", "word", "blocks"] ["code", "name"] (defScope (topS 4)) := ⟨rfl, rfl, rfl, by decide +kernel, rfl, by decide +kernel, by decide +kernel⟩
theorem ok_blocks {f : Addr} {fd : FuncData} (D : Df K mg "blocks_of" (topS 4) ["code", "name"] f fd) (B : Bt mg) : FnOk P w K mg base CX0 1 f fd ["code", "name"] (spBlocks K) := by
  refine D.fn.ok sc_blocks (fun vs H Q E h => ?_) (fun cdv A outer s H vs Q E hr h => ?_)
  · obtain ⟨vc, nm, rs, es, rfl, _⟩ := h
    rfl
  obtain ⟨vc, nm, rs, es, rfl, hc, hl, q⟩ := h
  have nd := sc_blocks.nd
  refine ⟨_, pss_cons (ps_for PassesOwn.never rfl (pi_tup (pe_ix ix_tup (pv 0) pe_int (fun _ _ => rfl))) (pg_tup rfl (pgs_cons (pg_name (i := 2) nd rfl (Or.inl rfl)) (pgs_cons (pg_name (i := 3) nd rfl (Or.inl rfl)) pgs_nil)))
      (pss_one (ps_if (pt_cmpR op_eq (pv 2) (pv 1) (nomark _)) (pss_one (ps_ret (pv 3))) pss_nil))) pss_never, ?_⟩
  obtain ⟨a, vo, vr, rfl, ha, ho, hr2⟩ := code_two hc
  obtain ⟨ar, xs, rfl, hx, hd⟩ := Dp_tup hr2
  have hlen : xs.length = rs.length := by rw [DpAll_len hd, List.length_map]
  refine ⟨_, rfl, a, _, 1, _, rfl, rfl, ha, atI_nat (j := 1) rfl, ar, rfl, ⟨_, hx⟩, for_it (walk_tup (xs := xs)) (fun n σ H' => ∃ (x2 x3 : Option V), σ = [some (.ref a), some (.str nm), x2, x3] ∧ H' = H ∧ lk nm (rs.drop n) = some es)
    ⟨_, _, rfl, rfl, hl⟩ (fun n σ H' _ h => by obtain ⟨_, _, _, rfl, _⟩ := h; exact hx) ?_ ?_⟩
  · rintro n x σ H4 H5 hn ⟨x2, x3, rfl, rfl, hk⟩ ⟨rfl, hxn⟩
    obtain ⟨d, hd1, hd2⟩ := DpAll_get hd hxn
    have hn' : n < rs.length := by omega
    rw [List.getElem?_map, List.getElem?_eq_getElem hn'] at hd1
    cases hd1
    rw [List.drop_eq_getElem_cons hn'] at hk
    generalize rs[n] = r at hd2 hk
    obtain ⟨z, eb⟩ := r
    obtain ⟨at_, ys, rfl, hy, hy2⟩ := Dp_tup hd2
    obtain ⟨u1, u2, rfl, k1, k2⟩ := DpAll_two hy2
    cases Dp_str k1
    refine ⟨at_, _, rfl, hy, rfl, _, _, rfl, _, _, rfl, rfl, ?_⟩
    refine ⟨_, rfl, _, rfl, rfl, _, rfl, ?_⟩
    refine ite2 (fun c => ?_) (fun c => ?_)
    · have c' : z = nm := by simpa using c
      have e : lk nm ((z, eb) :: rs.drop (n + 1)) = some eb := by show (if z = nm then _ else _) = _; rw [if_pos c']
      rw [e] at hk
      cases hk
      exact ⟨_, rfl, q _ k2⟩
    · have c' : ¬ z = nm := by simpa using c
      have e : lk nm ((z, eb) :: rs.drop (n + 1)) = lk nm (rs.drop (n + 1)) := by show (if z = nm then _ else _) = _; rw [if_neg c']
      rw [e] at hk
      exact ⟨_, _, rfl, rfl, hk⟩
  · rintro σ H4 ⟨x2, x3, rfl, rfl, hk⟩
    rw [hlen, List.drop_length] at hk
    cases hk
def spGoals (K : PySem.W.Frag) : Sp := fun vs H Q _ => ∃ (v : V) (e : Ge), vs = [v] ∧ Dp K H v (endD e) ∧ ∀ t H', Same H H' → H' t = some (.tup ((goalsI e).map V.int)) → Q (.ref t) H'
theorem sc_goals : FnScope ["end"] ["end"] (defScope (topS 6)) := ⟨rfl, rfl, rfl, by decide +kernel, rfl, by decide +kernel, by decide +kernel⟩
theorem ok_goals {f : Addr} {fd : FuncData} (D : Df K mg "goals" (topS 6) ["end"] f fd) (B : Bt mg) : FnOk P w K mg base CX0 1 f fd ["end"] (spGoals K) := by
  refine D.fn.ok sc_goals (fun vs H Q E h => ?_) (fun cdv A outer s H vs Q E hr h => ?_)
  · obtain ⟨v, e, rfl, _⟩ := h
    rfl
  obtain ⟨v, e, rfl, hd, q⟩ := h
  refine ⟨_, pss_cons (ps_if (pt_cmpR op_eq (pe_ix ix_tup (pv 0) pe_int (fun _ _ => rfl)) pe_str (nomark _)) (pss_one (ps_ret (pe_tup (pa_cons (pe_ix ix_tup (pv 0) pe_int (fun _ _ => rfl)) pa_nil)))) pss_nil)
    (pss_cons (ps_if (pt_cmpR op_eq (pe_ix ix_tup (pv 0) pe_int (fun _ _ => rfl)) pe_str (nomark _))
      (pss_one (ps_ret (pe_callTy call_tuple_of (by rfl) B.tuple (by decide +kernel) (pa_cons (pe_callB (cr_sortedSet rfl) (by rfl) B.sorted (by decide +kernel) (pa_cons (pe_callTy (cr_setIT rfl) (by rfl) B.set (by decide +kernel) (pa_cons (pe_slice sl_tup (pv 0) (po_some pe_int) po_none) pa_nil)) pa_nil)) pa_nil)))) pss_nil)
    (pss_one (ps_ret (pe_tup pa_nil)))), ?_⟩
  cases e with
  | go a =>
    obtain ⟨p, xs, rfl, hp, hx⟩ := Dp_tup hd
    obtain ⟨x, y, rfl, h1, h2⟩ := DpAll_two hx
    cases Dp_str h1
    cases Dp_int h2
    refine ⟨_, rfl, p, _, 0, _, rfl, rfl, hp, atI_nat (j := 0) rfl, rfl, _, rfl, iteT ?_⟩
    exact ⟨_, rfl, p, _, 1, _, rfl, rfl, hp, atI_nat (j := 1) rfl, by show 1 ≤ sizeLine; decide, fun t ht => q t _ (same_new ht) upd_same⟩
  | back =>
    obtain ⟨p, xs, rfl, hp, hx⟩ := Dp_tup hd
    cases hx with
    | cons h1 r =>
      cases r
      cases Dp_str h1
      refine ⟨_, rfl, p, _, 0, _, rfl, rfl, hp, atI_nat (j := 0) rfl, rfl, _, rfl, iteF ?_⟩
      refine ⟨_, rfl, p, _, 0, _, rfl, rfl, hp, atI_nat (j := 0) rfl, rfl, _, rfl, iteF ?_⟩
      exact ⟨Nat.zero_le _, fun t ht => q t _ (same_new ht) upd_same⟩
  | iff a b =>
    obtain ⟨p, xs, rfl, hp, hx⟩ := Dp_tup hd
    cases hx with
    | cons h1 r => cases r with
      | cons h2 r => cases r with
        | cons h3 r => cases r with
          | cons h4 r =>
            cases r
            cases Dp_str h1
            cases Dp_int h3
            cases Dp_int h4
            refine ⟨_, rfl, p, _, 0, _, rfl, rfl, hp, atI_nat (j := 0) rfl, rfl, _, rfl, iteF ?_⟩
            refine ⟨_, rfl, p, _, 0, _, rfl, rfl, hp, atI_nat (j := 0) rfl, rfl, _, rfl, iteT ?_⟩
            refine ⟨_, rfl, 2, rfl, p, _, rfl, hp, (fun z => absurd z.1 (by show ¬ (2 : Nat) = 0; decide)), fun t1 ht1 => ?_⟩
            refine ⟨t1, [a, b], rfl, SqT.of upd_same, by show 2 ≤ 60; decide, fun t2 c ht2 hc2 => ?_⟩
            refine ⟨t2, _, c, rfl, upd_same, by have : c ≤ 2 := hc2; omega, fun ns t3 hs hm hl ht3 => ?_⟩
            refine ⟨t3, _, rfl, .inl ⟨SqL.of upd_same, fun t4 ht4 => ?_⟩⟩
            have en : ns = goalsI (.iff a b) := rising_eq hs (goalsI_sorted _) fun k => by rw [hm, mem_goalsI]; simp [allG]
            subst en
            exact q t4 _ ((((same_new ht1).trans (same_new ht2)).trans (same_new ht3)).trans (same_new ht4)) upd_same
end
end Sw
set_option maxRecDepth 100000
set_option maxHeartbeats 4000000
namespace Sw
open PySem PySem.Spec PyProof.Rows L2
/-- CODE at a value, with the routine of a name -/
structure CodeOf (K : PySem.W.Frag) (H : Hp) (v : V) (nm : Str) (es : List Ge) : Prop where
  ex : ∃ rs, Dp K H v (codeD rs) ∧ lk nm rs = some es
  ok : Gok es
theorem CodeOf.same {K : PySem.W.Frag} {H H' : Hp} {v : V} {nm : Str} {es : List Ge} (h : CodeOf K H v nm es) (s : Same H H') : CodeOf K H' v nm es := by
  obtain ⟨rs, h1, h2⟩ := h.ex
  exact ⟨⟨rs, Dp_same s h1, h2⟩, h.ok⟩
def tTru (K : PySem.W.Frag) (t : TE) : TT := fun σ H Q => t σ H fun x H' => ∃ k, TruV K x H' k ∧ Q k H'
theorem pt_tru {X : Cx} {a : Expr} {ta : TE} (ha : PE X a ta) (he : ∀ whole, isTrue a X.env whole = (do let v ← whole; standAt a.pos; holding [v] (truthy v)) := by intro _; rfl) : PT X a (tTru X.K ta) := pt_truth ha he
def goalsAt (es : List Ge) (b : Int) : List Int := match es[b.toNat]? with
  | some e => goalsI e
  | none => []
theorem mem_goalsAt {es : List Ge} {b x : Int} : x ∈ goalsAt es b ↔ x ∈ arr es b := by
  unfold goalsAt arr
  cases es[b.toNat]? with
  | some e => exact mem_goalsI
  | none => exact Iff.rfl
theorem no_rch0 {es : List Ge} {k : Int} (h : Rch es (some 0) k) : False := by
  induction h with
  | zero h => exact h rfl
  | step _ _ _ ih => exact ih
theorem goalsAt_len (es : List Ge) (b : Int) : (goalsAt es b).length ≤ 2 := by
  unfold goalsAt
  split
  · exact goalsI_len _
  · exact Nat.zero_le _
section
variable {P : Program} {w : World} {K : PySem.W.Frag} {mg : Str → Option Value} {base : Heap}
def spNexts (K : PySem.W.Frag) : Sp := fun vs H Q _ => ∃ (vc : V) (nm : Str) (b : Int) (es : List Ge), vs = [vc, .str nm, .int b] ∧ CodeOf K H vc nm es ∧ 0 ≤ b ∧ b < (es.length : Int) ∧ ∀ t H', Same H H' → H' t = some (.tup ((goalsAt es b).map V.int)) → Q (.ref t) H'
theorem sc_nexts : FnScope ["code", "name", "block", "rows", "end"] ["code", "name", "block"] (defScope (topS 7)) := ⟨rfl, rfl, rfl, by decide +kernel, rfl, by decide +kernel, by decide +kernel⟩
theorem ok_nexts {f f1 f2 : Addr} {fd fd1 fd2 : FuncData} (D : Df K mg "nexts" (topS 7) ["code", "name", "block"] f fd) (D1 : Df K mg "blocks_of" (topS 4) ["code", "name"] f1 fd1) (D2 : Df K mg "goals" (topS 6) ["end"] f2 fd2) (B : Bt mg)
    (G1 : FnOk P w K mg base CX0 1 f1 fd1 ["code", "name"] (spBlocks K)) (G2 : FnOk P w K mg base CX0 1 f2 fd2 ["end"] (spGoals K)) : FnOk P w K mg base CX0 2 f fd ["code", "name", "block"] (spNexts K) := by
  refine D.fn.ok sc_nexts (fun vs H Q E h => ?_) (fun cdv A outer s H vs Q E hr h => ?_)
  · obtain ⟨vc, nm, b, es, rfl, _⟩ := h
    rfl
  obtain ⟨vc, nm, b, es, rfl, hc, hb0, hb1, q⟩ := h
  have nd := sc_nexts.nd
  refine ⟨_, pss_cons (ps_asg (pe_ix ix_tup (pe_call G1 hr (by rfl) D1.gl D1.fn.kp D1.bd .nil pass0 (pa_cons (pv 0) (pa_cons (pv 1) pa_nil))) (pv 2) (fun _ _ => rfl)) (pg_tup rfl (pgs_cons (pg_name (i := 3) nd rfl (Or.inl rfl)) (pgs_cons (pg_name (i := 4) nd rfl (Or.inl rfl)) pgs_nil))))
    (pss_one (ps_ret (pe_call G2 hr (by rfl) D2.gl D2.fn.kp D2.bd .nil pass0 (pa_cons (pv 4) pa_nil)))), ?_⟩
  obtain ⟨rs, h1, h2⟩ := hc.ex
  refine ⟨_, rfl, _, rfl, vc, nm, rs, es, rfl, h1, h2, fun v hv => ?_⟩
  obtain ⟨a, xs, rfl, ha, hx⟩ := Dp_tup hv
  obtain ⟨n, rfl⟩ : ∃ n : Nat, b = (n : Int) := ⟨b.toNat, (Int.toNat_of_nonneg hb0).symm⟩
  have hn : n < es.length := by omega
  obtain ⟨u, hu, hd⟩ := DpAll_get' (i := n) hx (by rw [List.getElem?_map, List.getElem?_eq_getElem hn]; rfl)
  have eg : goalsAt es (n : Int) = goalsI es[n] := by
    unfold goalsAt
    rw [Int.toNat_natCast, List.getElem?_eq_getElem hn]
  rw [eg] at q
  generalize es[n] = e at hd q
  obtain ⟨p, ys, rfl, hp, hy⟩ := Dp_tup hd
  obtain ⟨x, y, rfl, _, k2⟩ := DpAll_two hy
  refine ⟨_, rfl, a, _, _, _, rfl, rfl, ha, atI_nat hu, p, _, rfl, hp, rfl, _, _, rfl, _, _, rfl, rfl, ?_⟩
  exact ⟨_, rfl, y, e, rfl, k2, q⟩
/-- over as it is handed in -/
def spLed (K : PySem.W.Frag) : Sp := fun vs H Q _ => ∃ (vc : V) (nm : Str) (ov : Option Int) (es : List Ge), vs = [vc, .str nm, optV ov] ∧ CodeOf K H vc nm es ∧ ∀ d H' L, Same H H' → H d = none → H' d = some (.dK (dkv L)) → LedOk es ov L → Q (.ref d) H'
theorem sc_led : FnScope ["code", "name", "over", "ahead", "todo", "block", "goal"] ["code", "name", "over"] (defScope (topS 9)) := ⟨rfl, rfl, rfl, by decide +kernel, rfl, by decide +kernel, by decide +kernel⟩
theorem Dp_opt {K : PySem.W.Frag} {H : Hp} (ov : Option Int) : Dp K H (optV ov) (match ov with | none => .none | some i => .int i) := by
  cases ov with
  | none => exact .non
  | some i => exact .int i
theorem opt_shaped (ov : Option Int) : SeqAt.shaped (match ov with | none => .none | some i => .int i) = true := by
  cases ov <;> rfl
theorem opt_eqv (ov : Option Int) (k : Int) : PyData.eqv (match ov with | none => .none | some i => .int i) (.int k) = decide (ov = some k) := by
  cases ov with
  | none => rfl
  | some i =>
    show (i == k) = _
    by_cases h : i = k
    · simp [h]
    · simp [h]
theorem opt_eqv' (ov : Option Int) (k : Int) : PyData.eqv (.int k) (match ov with | none => .none | some i => .int i) = decide (ov = some k) := by
  cases ov with
  | none => rfl
  | some i =>
    show (k == i) = _
    by_cases h : i = k
    · simp [h]
    · have : ¬ k = i := fun z => h z.symm
      simp [h, this]
/-- while one goes on: what is known, what is to be done yet -/
structure LedAt (es : List Ge) (ov : Option Int) (L : List (Int × Option Int)) (T : List Int) : Prop where
  led : Led es ov L
  sub : ∀ t ∈ T, t ∈ L.map (·.1)
  cls : ∀ b ∈ L.map (·.1), b ∉ T → ∀ g ∈ arr es b, ov ≠ some g → g ∈ L.map (·.1)
  few : T.length ≤ L.length
theorem ok_led {f f1 : Addr} {fd fd1 : FuncData} (D : Df K mg "led_around" (topS 9) ["code", "name", "over"] f fd) (D1 : Df K mg "nexts" (topS 7) ["code", "name", "block"] f1 fd1) (B : Bt mg)
    (G1 : FnOk P w K mg base CX0 2 f1 fd1 ["code", "name", "block"] (spNexts K)) : FnOk P w K mg base CX0 3 f fd ["code", "name", "over"] (spLed K) := by
  refine D.fn.ok sc_led (fun vs H Q E h => ?_) (fun cdv A outer s H vs Q E hr h => ?_)
  · obtain ⟨vc, nm, ov, es, rfl, _⟩ := h
    rfl
  obtain ⟨vc, nm, ov, es, rfl, hc, q⟩ := h
  have nd := sc_led.nd
  have hu := hr.units
  have hu1 := Nat.lt_of_le_of_lt (Nat.add_le_add_left (by decide : 1 ≤ 64) _) hu
  refine ⟨_, pss_cons (ps_if (pt_cmpR (op_eqD hu) (pv 2) pe_int (nomark _)) (pss_one (ps_ret pe_dnewK)) pss_nil)
    (pss_cons (ps_set (i := 3) nd rfl (Or.inl rfl) (pe_disp (pps_cons pe_int pe_non pps_nil) (by rfl) (by rfl) (fun z => by cases z) (by decide)))
    (pss_cons (ps_set (i := 4) nd rfl (Or.inl rfl) (pe_lst (pa_cons pe_int pa_nil)))
    (pss_cons (ps_while PassesOwn.never (pt_tru (pv 4))
      (pss_cons (ps_set (i := 5) nd rfl (Or.inl rfl) (pe_bm0 PySem.F.plainAttrs_list PySem.F.slot_list_pop PySem.F.type_list_pop mt_pop (pv 4)))
      (pss_one (ps_for PassesOwn.never rfl (pi_tup (pe_call G1 hr (by rfl) D1.gl D1.fn.kp D1.bd .nil pass0 (pa_cons (pv 0) (pa_cons (pv 1) (pa_cons (pv 5) pa_nil))))) (pg_name (i := 6) nd rfl (Or.inl rfl))
        (pss_one (ps_if (PW.pt (pw_and (pt_cmpR (op_neD hu) (pv 6) (pv 2) (nomark _)) (pw_and1 (pt_cmp (pc_dnotin hu1 (pv 6) (pv 3))))))
          (pss_cons (ps_dput hu1 (pv 3) (pv 6) (pv 5) rfl)
          (pss_one (ps_expr (pe_bm PySem.F.plainAttrs_list PySem.F.slot_list_append PySem.F.type_list_append mt_append (pv 4) (pa_cons (pv 6) pa_nil))))) pss_nil))))))
    (pss_one (ps_ret (pv 3)))))), ?_⟩
  refine ⟨_, rfl, _, .int 0, Dp_opt ov, .int 0, opt_shaped ov, rfl, _, rfl, ?_⟩
  rw [opt_eqv]
  refine ite2 (fun c => ?_) (fun c => ?_)
  · have c' : ov = some 0 := by simpa using c
    subst c'
    exact fun d hd => q d _ [] (same_new hd) hd upd_same ⟨.inl ⟨rfl, rfl⟩, fun k => ⟨fun h => absurd h List.not_mem_nil, fun h => (no_rch0 h).elim⟩, List.nodup_nil, Nat.zero_le _⟩
  have c' : ov ≠ some 0 := by simpa using c
  refine fun d hd => ?_
  refine ⟨upd_same, [(Sum.inl 0, .non)], rfl, by decide, ?_⟩
  have s1 : Same H (upd (upd H d (.dK [])) d (.dK [(Sum.inl 0, V.non)])) := fun b x e => by
    rw [upd_ne (ne_of_none e hd), upd_ne (ne_of_none e hd)]
    exact e
  have e1 : upd (upd H d (.dK [])) d (.dK [(Sum.inl 0, V.non)]) d = some (.dK (dkv [(0, none)])) := upd_same
  have q1 : (upd (upd H d (.dK [])) d (.dK (mergeK [] [(Sum.inl 0, V.non)]))) = upd (upd H d (.dK [])) d (.dK [(Sum.inl 0, V.non)]) := rfl
  rw [q1]
  generalize upd (upd H d (.dK [])) d (.dK [(Sum.inl 0, V.non)]) = H1 at s1 e1
  refine ⟨by show 1 ≤ sizeLine; decide, fun l hl => ?_⟩
  have s2 : Same H (upd H1 l (.lst [.int 0])) := s1.trans (same_new hl)
  have e2 : upd H1 l (.lst [.int 0]) d = some (.dK (dkv [(0, none)])) := (same_new hl) _ _ e1
  have e3 : upd H1 l (.lst [.int 0]) l = some (.lst (([0] : List Int).map V.int)) := upd_same
  have hl0 : H l = none := by
    cases hx : H l with
    | none => rfl
    | some o => rw [s1 _ _ hx] at hl; cases hl
  have ndl : d ≠ l := ne_of_none e1 hl
  generalize upd H1 l (.lst [.int 0]) = H2 at s2 e2 e3
  refine while_by (fun σ H' => ∃ (L : List (Int × Option Int)) (T : List Int) (x5 x6 : Option V), σ = [some vc, some (.str nm), some (optV ov), some (.ref d), some (.ref l), x5, x6] ∧ Same H H' ∧ H' d = some (.dK (dkv L)) ∧ H' l = some (.lst (T.map V.int)) ∧ LedAt es ov L T)
    (fun σ H' => match H' d, H' l with | some (.dK kvs), some (.lst ts) => 2 * (es.length - kvs.length) + ts.length | _, _ => 0)
    ⟨[(0, none)], [0], none, none, rfl, s2, e2, e3, ⟨.one c', by simp, fun b hb hn => absurd (by simpa using hb) (by simpa using hn), Nat.le_refl _⟩⟩ ?_ ?_
  · rintro σ H3 ⟨L, T, x5, x6, rfl, s3, d3, l3, I⟩
    refine ⟨_, rfl, _, .inl ⟨_, SqL.of l3, rfl⟩, ?_⟩
    cases hT : T with
    | nil =>
      subst hT
      refine iteF ?_
      refine ⟨_, rfl, q d H3 L s3 hd d3 ⟨.inr I.led, fun k => ⟨I.led.rch k, fun r => closed_all (fun _ => I.led.zero) (fun b hb g hg ho => I.cls b hb (by simp) g hg ho) r⟩, I.led.nodup, I.led.few hc.ok⟩⟩
    | cons t0 T0 =>
      rw [← hT]
      have hne : T ≠ [] := by rw [hT]; simp
      obtain ⟨T1, b, hTb⟩ : ∃ T1 b, T = T1 ++ [b] := ⟨T.dropLast, T.getLast hne, (List.dropLast_concat_getLast hne).symm⟩
      clear hT
      subst hTb
      have hemp : (!((T1 ++ [b]).map V.int).isEmpty) = true := by simp
      rw [hemp]
      refine iteT ?_
      refine ⟨_, rfl, .inl ⟨rfl, _, SqL.of l3⟩, l, _, .int b, rfl, rfl, l3, by simp, ?_⟩
      have s4 : Same H (upd H3 l (.lst ((T1 ++ [b]).map V.int).dropLast)) := fun c o e => by rw [upd_ne (ne_of_none e hl0)]; exact s3 _ _ e
      have d4 : upd H3 l (.lst ((T1 ++ [b]).map V.int).dropLast) d = some (.dK (dkv L)) := by rw [upd_ne ndl]; exact d3
      have l4 : upd H3 l (.lst ((T1 ++ [b]).map V.int).dropLast) l = some (.lst (T1.map V.int)) := by rw [upd_same, List.map_append]; simp
      generalize upd H3 l (.lst ((T1 ++ [b]).map V.int).dropLast) = H4 at s4 d4 l4
      have hbL : b ∈ L.map (·.1) := I.sub b (by simp)
      obtain ⟨hb0, hb1⟩ := (I.led.rch b hbL).rng hc.ok
      have fewL := I.led.few hc.ok
      have few0 := I.few
      rw [List.length_append, List.length_singleton] at few0
      refine ⟨_, rfl, _, rfl, _, rfl, vc, nm, b, es, rfl, hc.same s4, hb0, hb1, fun t H5 s5 t5 => ?_⟩
      have hg2 := goalsAt_len es b
      refine ⟨t, rfl, ⟨_, SqT.of t5⟩, for_it (walk_tup (xs := (goalsAt es b).map V.int)) (fun n σ H' => ∃ (L' : List (Int × Option Int)) (T' : List Int) (x6 : Option V), σ = [some vc, some (.str nm), some (optV ov), some (.ref d), some (.ref l), some (.int b), x6] ∧ Same H H' ∧ H' t = some (.tup ((goalsAt es b).map V.int)) ∧ H' d = some (.dK (dkv L')) ∧ H' l = some (.lst (T'.map V.int)) ∧ Led es ov L' ∧ (∀ k ∈ L.map (·.1), k ∈ L'.map (·.1)) ∧ (∀ k ∈ T', k ∈ L'.map (·.1)) ∧
          (∀ k ∈ L'.map (·.1), k ∉ T' → k ≠ b → ∀ g ∈ arr es k, ov ≠ some g → g ∈ L'.map (·.1)) ∧ (∀ g ∈ (goalsAt es b).take n, ov ≠ some g → g ∈ L'.map (·.1)) ∧ 2 * (es.length - L'.length) + T'.length ≤ 2 * (es.length - L.length) + T1.length ∧ T'.length ≤ L'.length)
        ⟨L, T1, _, rfl, s4.trans s5, t5, s5 _ _ d4, s5 _ _ l4, I.led, fun k h => h, fun k h => I.sub k (List.mem_append_left _ h), fun k h1 h2 h3 => I.cls k h1 (by simp [h2, h3]), fun g h => by simp at h, Nat.le_refl _, by omega⟩
        (fun n σ H' _ h => by obtain ⟨L', T', x6, _, _, ht, _⟩ := h; exact SqT.of ht) ?_ ?_⟩
      · rintro n x σ H6 H7 hn ⟨L', T', x6, rfl, s6, t6, d6, l6, led, inc, sub, cls, got, mu, few⟩ ⟨rfl, hxn⟩
        rw [List.length_map] at hn
        rw [List.getElem?_map, List.getElem?_eq_getElem hn] at hxn
        have hxn' : V.int (goalsAt es b)[n] = x := Option.some.inj hxn
        subst hxn'
        have hgm : (goalsAt es b)[n] ∈ arr es b := mem_goalsAt.mp (List.getElem_mem hn)
        have etk : (goalsAt es b).take (n + 1) = (goalsAt es b).take n ++ [(goalsAt es b)[n]] := by rw [List.take_succ, List.getElem?_eq_getElem hn]; rfl
        generalize (goalsAt es b)[n] = g at hgm etk
        have few' := led.few hc.ok
        refine ⟨_, rfl, _, rfl, .int g, _, .int g, Dp_opt ov, rfl, opt_shaped ov, _, rfl, ?_⟩
        rw [opt_eqv']
        refine ite2 (fun c1 => ?_) (fun c1 => ?_)
        · have c1' : ov ≠ some g := by simpa using c1
          refine ⟨_, rfl, _, rfl, d, _, rfl, DGet.k (k := Sum.inl g) d6, _, rfl, ?_⟩
          rw [dkv_has]
          refine ite2 (fun c2 => ?_) (fun c2 => ?_)
          · have c2' : g ∉ L'.map (·.1) := by simpa using c2
            have led' : Led es ov (L' ++ [(g, some b)]) := .snoc led (inc b hbL) hgm c2' c1'
            have few2 := led'.few hc.ok
            rw [List.length_append, List.length_singleton] at few2
            have fe := hc.ok.few
            have hdl : (dkv L').length = L'.length := List.length_map _
            refine ⟨_, rfl, _, rfl, _, rfl, d, _, rfl, DPut.k (k := Sum.inl g) d6 (by rw [hdl, sizeLine_eq]; omega), ?_⟩
            rw [dkv_put c2']
            have s7 : Same H (upd H7 d (.dK (dkv (L' ++ [(g, some b)])))) := fun c o e => by rw [upd_ne (ne_of_none e hd)]; exact s6 _ _ e
            have t7 : upd H7 d (.dK (dkv (L' ++ [(g, some b)]))) t = some (.tup ((goalsAt es b).map V.int)) := by
              rw [upd_ne (fun e => by rw [e, d6] at t6; cases t6)]
              exact t6
            have d7 : upd H7 d (.dK (dkv (L' ++ [(g, some b)]))) d = some (.dK (dkv (L' ++ [(g, some b)]))) := upd_same
            have l7 : upd H7 d (.dK (dkv (L' ++ [(g, some b)]))) l = some (.lst (T'.map V.int)) := by rw [upd_ne (Ne.symm ndl)]; exact l6
            generalize upd H7 d (.dK (dkv (L' ++ [(g, some b)]))) = H8 at s7 t7 d7 l7
            refine ⟨_, rfl, .inl ⟨rfl, _, SqL.of l7⟩, _, rfl, l, _, _, rfl, rfl, l7, by rw [List.length_map, sizeLine_eq]; omega, ?_⟩
            have mapk : (L' ++ [(g, some b)]).map (·.1) = L'.map (·.1) ++ [g] := by rw [List.map_append]; rfl
            refine ⟨L' ++ [(g, some b)], T' ++ [g], _, rfl, fun c o e => by rw [upd_ne (ne_of_none e hl0)]; exact s7 _ _ e, ?_, by rw [upd_ne ndl]; exact d7, by rw [upd_same, List.map_append]; rfl, led', ?_, ?_, ?_, ?_, ?_, ?_⟩
            · rw [upd_ne (fun e => by rw [e, l7] at t7; cases t7)]
              exact t7
            · intro k hk
              rw [mapk]
              exact List.mem_append_left _ (inc k hk)
            · intro k hk
              rw [mapk]
              rcases List.mem_append.mp hk with hk | hk
              · exact List.mem_append_left _ (sub k hk)
              · exact List.mem_append_right _ hk
            · intro k hk hn1 hn2 g' hg' ho'
              rw [mapk] at hk ⊢
              rw [List.mem_append, not_or] at hn1
              rcases List.mem_append.mp hk with hk | hk
              · exact List.mem_append_left _ (cls k hk hn1.1 hn2 g' hg' ho')
              · exact absurd hk hn1.2
            · intro g' hg' ho'
              rw [etk] at hg'
              rw [mapk]
              rcases List.mem_append.mp hg' with hk | hk
              · exact List.mem_append_left _ (got g' hk ho')
              · exact List.mem_append_right _ hk
            · rw [List.length_append, List.length_append, List.length_singleton, List.length_singleton]
              omega
            · rw [List.length_append, List.length_append, List.length_singleton, List.length_singleton]
              omega
          · have c2' : g ∈ L'.map (·.1) := by simpa using c2
            refine ⟨L', T', _, rfl, s6, t6, d6, l6, led, inc, sub, cls, fun g' hg' ho' => ?_, mu, few⟩
            rw [etk] at hg'
            rcases List.mem_append.mp hg' with hk | hk
            · exact got g' hk ho'
            · have : g' = g := by simpa using hk
              rw [this]; exact c2'
        · have c1' : ov = some g := by simpa using c1
          refine iteF ?_
          refine ⟨L', T', _, rfl, s6, t6, d6, l6, led, inc, sub, cls, fun g' hg' ho' => ?_, mu, few⟩
          rw [etk] at hg'
          rcases List.mem_append.mp hg' with hk | hk
          · exact got g' hk ho'
          · have : g' = g := by simpa using hk
            rw [this] at ho'; exact absurd c1' ho'
      · rintro σ H6 ⟨L', T', x6, rfl, s6, t6, d6, l6, led, inc, sub, cls, got, mu, few⟩
        rw [List.length_map, List.take_length] at got
        refine ⟨⟨L', T', _, _, rfl, s6, d6, l6, ⟨led, sub, fun k hk hn g hg ho => ?_, few⟩⟩, ?_⟩
        · by_cases hkb : k = b
          · rw [hkb] at hg
            exact got g (mem_goalsAt.mpr hg) ho
          · exact cls k hk hn hkb g hg ho
        · show (match H6 d, H6 l with | some (.dK kvs), some (.lst ts) => 2 * (es.length - kvs.length) + ts.length | _, _ => 0) < (match H3 d, H3 l with | some (.dK kvs), some (.lst ts) => 2 * (es.length - kvs.length) + ts.length | _, _ => 0)
          rw [d6, l6, d3, l3]
          show 2 * (es.length - (dkv L').length) + (T'.map V.int).length < 2 * (es.length - (dkv L).length) + ((T1 ++ [b]).map V.int).length
          rw [List.length_map, List.length_map, List.length_append, List.length_singleton, show (dkv L').length = L'.length from List.length_map _, show (dkv L).length = L.length from List.length_map _]
          omega
  · intro σ H' Q1 Q2 h12 hc2
    obtain ⟨v, h1, k, h2, h3⟩ := hc2
    exact ⟨v, h1, k, h2, h12 _ _ h3⟩
end
end Sw
set_option maxRecDepth 100000
set_option maxHeartbeats 4000000
namespace Sw
open PySem PySem.Spec PyProof.Rows L2
/-- range's items as a list -/
def ivs (n : Nat) : List V := (List.range n).map fun k : Nat => V.int (k : Int)
theorem ivs_at {n i : Nat} {x : V} (h : (ivs n)[i]? = some x) : x = .int (i : Int) ∧ i < n := by
  unfold ivs at h
  rw [List.getElem?_map] at h
  by_cases hi : i < n
  · rw [List.getElem?_range hi] at h
    exact ⟨(Option.some.inj h).symm, hi⟩
  · rw [List.getElem?_eq_none (by rw [List.length_range]; omega)] at h
    cases h
theorem walk_rangeA {n : Nat} : Walk (Itr 0 n) n (fun _ => True) (YAt (ivs n)) := by
  refine ⟨walk_range.goes, walk_range.stops, fun i H x H' hi hg y => ?_⟩
  obtain ⟨rfl, rfl⟩ := walk_range.yields i H x H' hi hg y
  refine ⟨rfl, ?_⟩
  unfold ivs
  rw [List.getElem?_map, List.getElem?_range hi]
  show some (V.int _) = some (V.int _)
  rw [Int.zero_add]
noncomputable def domB (es : List Ge) (o u : Int) : Bool := @decide (¬ Rch es (some o) u) (Classical.propDecidable _)
theorem domB_iff {es : List Ge} {o u : Int} : domB es o u = true ↔ ¬ Rch es (some o) u := by
  unfold domB
  exact @decide_eq_true_iff _ (Classical.propDecidable _)
theorem domB_of {es : List Ge} {o u : Int} {b : Bool} (h : b = true ↔ ¬ Rch es (some o) u) : b = domB es o u := by
  cases hb : b with
  | true => exact (domB_iff.mpr (h.mp hb)).symm
  | false =>
    cases hd : domB es o u with
    | false => rfl
    | true => exact absurd (h.mpr (domB_iff.mp hd)) (by rw [hb]; decide)
noncomputable def domsI (es : List Ge) (u : Int) : List Int := ((List.range es.length).filter fun i : Nat => domB es (i : Int) u).map fun i : Nat => (i : Int)
section
variable {P : Program} {w : World} {K : PySem.W.Frag} {mg : Str → Option Value} {base : Heap}
def spDom (K : PySem.W.Frag) : Sp := fun vs H Q _ => ∃ (vc : V) (nm : Str) (o u : Int) (es : List Ge), vs = [vc, .str nm, .int o, .int u] ∧ CodeOf K H vc nm es ∧ ∀ H', Same H H' → Q (.bl (domB es o u)) H'
theorem sc_dom : FnScope ["code", "name", "over", "under"] ["code", "name", "over", "under"] (defScope (topS 12)) := ⟨rfl, rfl, rfl, by decide +kernel, rfl, by decide +kernel, by decide +kernel⟩
theorem ok_dom {f f1 : Addr} {fd fd1 : FuncData} (D : Df K mg "dominates" (topS 12) ["code", "name", "over", "under"] f fd) (D1 : Df K mg "led_around" (topS 9) ["code", "name", "over"] f1 fd1) (B : Bt mg)
    (G1 : FnOk P w K mg base CX0 3 f1 fd1 ["code", "name", "over"] (spLed K)) : FnOk P w K mg base CX0 4 f fd ["code", "name", "over", "under"] (spDom K) := by
  refine D.fn.ok sc_dom (fun vs H Q E h => ?_) (fun cdv A outer s H vs Q E hr h => ?_)
  · obtain ⟨vc, nm, o, u, es, rfl, _⟩ := h
    rfl
  obtain ⟨vc, nm, o, u, es, rfl, hc, q⟩ := h
  have hu := hr.units
  have hu1 := Nat.lt_of_le_of_lt (Nat.add_le_add_left (by decide : 1 ≤ 64) _) hu
  refine ⟨_, pss_one (ps_ret (pe_cmp (pc_dnotin hu1 (pv 3) (pe_call G1 hr (by rfl) D1.gl D1.fn.kp D1.bd .nil pass0 (pa_cons (pv 0) (pa_cons (pv 1) (pa_cons (pv 2) pa_nil))))))), ?_⟩
  refine ⟨_, rfl, _, rfl, _, rfl, _, rfl, vc, nm, some o, es, rfl, hc, fun d H' L s' hd hd' ok => ?_⟩
  refine ⟨d, _, rfl, DGet.k (k := Sum.inl u) hd', ?_⟩
  rw [dkv_has]
  have e : (!decide (u ∈ L.map (·.1))) = domB es o u := domB_of (by simp [ok.iff])
  rw [e]
  exact q H' s'
def spDoms (K : PySem.W.Frag) : Sp := fun vs H Q _ => ∃ (vc : V) (nm : Str) (u : Int) (es : List Ge), vs = [vc, .str nm, .int u] ∧ CodeOf K H vc nm es ∧ ∀ t H', Same H H' → H' t = some (.tup ((domsI es u).map V.int)) → Q (.ref t) H'
theorem sc_doms : FnScope ["code", "name", "block", "over"] ["code", "name", "block"] (defScope (topS 13)) := ⟨rfl, rfl, rfl, by decide +kernel, rfl, by decide +kernel, by decide +kernel⟩
theorem ok_doms {f f1 f2 : Addr} {fd fd1 fd2 : FuncData} (D : Df K mg "dominators" (topS 13) ["code", "name", "block"] f fd) (D1 : Df K mg "blocks_of" (topS 4) ["code", "name"] f1 fd1) (D2 : Df K mg "dominates" (topS 12) ["code", "name", "over", "under"] f2 fd2) (B : Bt mg)
    (G1 : FnOk P w K mg base CX0 1 f1 fd1 ["code", "name"] (spBlocks K)) (G2 : FnOk P w K mg base CX0 4 f2 fd2 ["code", "name", "over", "under"] (spDom K)) : FnOk P w K mg base CX0 5 f fd ["code", "name", "block"] (spDoms K) := by
  refine D.fn.ok sc_doms (fun vs H Q E h => ?_) (fun cdv A outer s H vs Q E hr h => ?_)
  · obtain ⟨vc, nm, u, es, rfl, _⟩ := h
    rfl
  obtain ⟨vc, nm, u, es, rfl, hc, q⟩ := h
  have nd := sc_doms.nd
  have hr1 : Room 1 _ := hr.mono (by decide)
  refine ⟨_, pss_one (ps_ret (pe_callTy call_tuple_of (by rfl) B.tuple (by decide +kernel) (pa_cons
    (pe_lc (own := [("over", 3)]) (g := gName 3) (tt := tB (tCall (spDom K) [] E (tCons (tVar 0) (tCons (tVar 1) (tCons (tVar 3) (tCons (tVar 2) tNil)))))) rfl nd (pi_range1 (by rfl) B.range (pa_cons (pe_callB call_len_seq (by rfl) B.len PySem.boot_len (pa_cons (pe_call G1 hr1 (by rfl) D1.gl D1.fn.kp D1.bd .nil pass0 (pa_cons (pv 0) (pa_cons (pv 1) pa_nil))) pa_nil)) pa_nil))
      (blkOk_by (N := ["code", "name", "block", "over"]) (sc := defScope (topS 13)) (by decide +kernel)) (fun _ _ _ _ _ => pg_name (i := 3) nd rfl (Or.inl rfl))
      (fun _ _ _ _ _ => pts_one (pt_val (pe_call G2 hr (by rfl) D2.gl D2.fn.kp D2.bd .nil pass0 (pa_cons (pv 0) (pa_cons (pv 1) (pa_cons (pv 3) (pa_cons (pv 2) pa_nil)))))))
      (fun _ _ _ _ _ => pv 3)) pa_nil))), ?_⟩
  obtain ⟨rs, h1, h2⟩ := hc.ex
  refine ⟨_, rfl, _, rfl, vc, nm, rs, es, rfl, h1, h2, fun v hv => ?_⟩
  obtain ⟨a, xs, rfl, ha, hx⟩ := Dp_tup hv
  have hxl : xs.length = es.length := by rw [DpAll_len hx, List.length_map]
  have few := hc.ok.few
  refine ⟨a, _, rfl, .inr ha, _, rfl, by omega, by omega, fun L hL => ?_⟩
  rw [hxl, Int.toNat_natCast]
  refine lc_pure walk_rangeA (fun i => domB es (i : Int) u) (fun i => V.int (i : Int)) hL (fun _ _ => trivial) (big_size (by omega)) ?_ ?_ ?_
  · intro i x H1 Q1 hi hx1 s1 q1
    obtain ⟨rfl, _⟩ := ivs_at hx1
    exact ⟨_, rfl, _, rfl, _, rfl, _, rfl, vc, nm, (i : Int), u, es, rfl, hc.same s1, fun H2 s2 => ⟨_, rfl, q1 H2 s2⟩⟩
  · intro i x H1 Q1 hi hx1 _ s1 q1
    obtain ⟨rfl, _⟩ := ivs_at hx1
    exact ⟨_, rfl, q1 H1 (Same.refl _)⟩
  · intro H1 s1 hL1
    refine ⟨L, _, rfl, .inl ⟨SqL.of hL1, fun t ht => q t _ (s1.trans (same_new ht)) ?_⟩⟩
    rw [upd_same]
    unfold domsI
    rw [List.map_map]
    rfl
end
end Sw
set_option maxRecDepth 100000
set_option maxHeartbeats 4000000
namespace Sw
open PySem PySem.Spec PyProof.Rows L2
/-! ### data without lists stand in the tuples of the heap -/
mutual
def noL : PyData → Bool
  | .list _ => false
  | .dict _ => false
  | .tuple xs => noLAll xs
  | _ => true
def noLAll : List PyData → Bool
  | [] => true
  | x :: xs => noL x && noLAll xs
end
theorem noLAll_iff : ∀ {xs : List PyData}, noLAll xs = true ↔ ∀ x ∈ xs, noL x = true
  | [] => by simp [noLAll]
  | x :: xs => by simp [noLAll, noLAll_iff (xs := xs)]
/-- the heap's tuples, and what is locked -/
def tps (H : Hp) : Hp := fun c => match H c with
  | some (.tup xs) => some (.tup xs)
  | some (.frz o u) => some (.frz o u)
  | _ => none
theorem tps_sub {H : Hp} : Same (tps H) H := fun c o e => by
  unfold tps at e
  split at e
  · rename_i xs h; cases e; exact h
  · rename_i o' u h; cases e; exact h
  · cases e
theorem tps_tup {H : Hp} {c : Addr} {xs : List V} (h : H c = some (.tup xs)) : tps H c = some (.tup xs) := by unfold tps; rw [h]
theorem tps_frz {H : Hp} {c : Addr} {o : Obj} {u : HO} (h : H c = some (.frz o u)) : tps H c = some (.frz o u) := by unfold tps; rw [h]
theorem tps_same {H H' : Hp} (s : Same H H') : Same (tps H) (tps H') := fun c o e => by
  have h := tps_sub _ _ e
  have h' := s _ _ h
  unfold tps at e ⊢
  rw [h] at e
  rw [h']
  exact e
/-- a list changes: the tuples stay -/
theorem tps_lst {H : Hp} {F : Addr} {xs ys : List V} (hF : H F = some (.lst xs)) : Same (tps H) (tps (upd H F (.lst ys))) := fun c o e => by
  have h := tps_sub _ _ e
  have nc : c ≠ F := fun z => by
    rw [z] at e
    unfold tps at e
    rw [hF] at e
    cases e
  have h' : upd H F (.lst ys) c = some o := by rw [upd_ne nc]; exact h
  unfold tps at e ⊢
  rw [h] at e
  rw [h']
  exact e
theorem tps_del {H : Hp} {p : Addr} : Same (tps (del H p)) (del (tps H) p) := fun c o e => by
  obtain ⟨h1, h2⟩ := of_del (tps_sub _ _ e)
  refine del_some ?_ h2
  unfold tps at e ⊢
  rw [show del H p c = some o from del_some h1 h2] at e
  rw [h1]
  exact e
theorem sqt_tps {K : PySem.W.Frag} {H : Hp} {a : Addr} {xs : List V} (h : SqT K H a xs) : SqT K (tps H) a xs := by
  rcases h with (h | ⟨o, h⟩) | h
  · exact .inl (.inl (tps_tup h))
  · exact .inl (.inr ⟨o, tps_frz h⟩)
  · exact .inr h
mutual
theorem Dp_tps {K : PySem.W.Frag} {H : Hp} : ∀ {v : V} {d : PyData}, Dp K H v d → noL d = true → Dp K (tps H) v d
  | _, _, .non, _ => .non
  | _, _, .bl b, _ => .bl b
  | _, _, .int i, _ => .int i
  | _, _, .str x, _ => .str x
  | _, _, .lst h r, e => by simp [noL] at e
  | _, _, .tup h r, e => .tup (sqt_tps h) (DpAll_tps r (by simpa [noL] using e))
theorem DpAll_tps {K : PySem.W.Frag} {H : Hp} : ∀ {vs : List V} {ds : List PyData}, DpAll K H vs ds → noLAll ds = true → DpAll K (tps H) vs ds
  | _, _, .nil, _ => .nil
  | _, _, .cons (d := d) (ds := ds) h r, e => by
    have e' : noL d = true ∧ noLAll ds = true := by simpa [noLAll] using e
    exact .cons (Dp_tps h e'.1) (DpAll_tps r e'.2)
end
/-! ### lists that grow, of data without lists -/
structure GL (K : PySem.W.Frag) (p fq L : Addr) (H : Hp) (vs : List V) (ds : List PyData) : Prop where
  at_ : H L = some (.lst vs)
  dat : DpAll K (tps (del H p)) vs ds
  np : L ≠ p
  nq : L ≠ fq
section
variable {K : PySem.W.Frag} {p fq L : Addr} {H H' : Hp} {vs : List V} {ds : List PyData}
theorem GL.next (h : GL K p fq L H vs ds) (s : Same (del H p) (del H' p)) : GL K p fq L H' vs ds := ⟨(of_del (s _ _ (del_some h.at_ h.np))).1, DpAll_same (tps_same s) h.dat, h.np, h.nq⟩
theorem GL.lay (h : GL K p fq L H vs ds) (s : Same H H') : GL K p fq L H' vs ds := h.next (same_del s)
theorem del_lst {L' : Addr} {xs ys : List V} (hL : H L' = some (.lst xs)) (np : L' ≠ p) : Same (tps (del H p)) (tps (del (upd H L' (.lst ys)) p)) := by
  have e : del (upd H L' (.lst ys)) p = upd (del H p) L' (.lst ys) := by
    funext c
    show (if c = p then none else (if c = L' then some (.lst ys) else H c)) = if c = L' then some (.lst ys) else (if c = p then none else H c)
    by_cases h1 : c = p
    · rw [if_pos h1, if_neg (fun z => np (z.symm.trans h1)), if_pos h1]
    · rw [if_neg h1, if_neg h1]
  rw [e]
  exact tps_lst (del_some hL np)
theorem GL.other {L' : Addr} {xs ys : List V} (h : GL K p fq L H vs ds) (hL : H L' = some (.lst xs)) (np : L' ≠ p) (ne : L ≠ L') : GL K p fq L (upd H L' (.lst ys)) vs ds :=
  ⟨by rw [upd_ne ne]; exact h.at_, DpAll_same (del_lst hL np) h.dat, h.np, h.nq⟩
theorem GL.push {v : V} {d : PyData} (h : GL K p fq L H vs ds) (hd : Dp K (del H p) v d) (hn : noL d = true) : GL K p fq L (upd H L (.lst (vs ++ [v]))) (vs ++ [v]) (ds ++ [d]) :=
  ⟨upd_same, DpAll_same (del_lst h.at_ h.np) (DpAll_append h.dat (.cons (Dp_tps hd hn) .nil)), h.np, h.nq⟩
end
end Sw
set_option maxRecDepth 100000
set_option maxHeartbeats 4000000
namespace Sw
open PySem PySem.Spec PyProof.Rows L2
theorem endD_noL (e : Ge) : noL (endD e) = true := by cases e <;> rfl
theorem blkD_noL (e : Ge) : noL (blkD e) = true := by
  show (noL (.tuple []) && (noL (endD e) && true)) = true
  rw [endD_noL]
  rfl
/-- the ends to be drawn from -/
def endsOf (a b c : Int) : List Ge := [.go a, .go c, .iff a b, .iff c a, .back]
theorem five_of {α : Type} {x0 x1 x2 x3 x4 : α} {r : Int} (h0 : 0 ≤ r) (h1 : r < 5) : ∃ j : Nat, r = (j : Int) ∧ j < 5 := ⟨r.toNat, (Int.toNat_of_nonneg h0).symm, by omega⟩
/-- while a graph is drawn -/
structure GS (K : PySem.W.Frag) (p fq L : Addr) (H0 : Hp) (b : Nat) (H : Hp) (us : List V) (es : List Ge) : Prop where
  sm : Same (del H0 p) (del H p)
  fd : FeedAt H p fq b
  gl : GL K p fq L H us (es.map blkD)
section
variable {K : PySem.W.Frag} {p fq L : Addr} {H0 H H' : Hp} {b b' : Nat} {us : List V} {es : List Ge}
theorem GS.next (h : GS K p fq L H0 b H us es) (s : Same (del H p) (del H' p)) (F : FeedAt H' p fq b') : GS K p fq L H0 b' H' us es := ⟨h.sm.trans s, F, h.gl.next s⟩
theorem GS.lay (h : GS K p fq L H0 b H us es) (s : Same H H') : GS K p fq L H0 b H' us es := h.next (same_del s) (h.fd.same s)
end
abbrev N15 : List Str := ["_law_feed_here", "_law_most", "_law_many", "_law_blocks", "_law_block", "_law_first", "_law_second", "_law_near", "_law_ends"]
section
variable {P : Program} {w : World} {K : PySem.W.Frag} {mg : Str → Option Value} {base : Heap}
def spGraph (K : PySem.W.Frag) : Sp := fun vs H Q _ => ∃ (p fq : Addr) (m : Int) (b : Nat), vs = [.ref p, .int m] ∧ FeedAt H p fq b ∧ b + 100 ≤ 100000000 ∧ 1 ≤ m ∧ m ≤ 6 ∧
  ∀ (v : V) (H' : Hp) (es : List Ge), Same (del H p) (del H' p) → FeedAt H' p fq (b + 100) → Gok es → es.length ≤ 6 → Dp K (del H' p) v (codeD [("main", es)]) → Q v H'
theorem sc_graph : FnScope N15 ["_law_feed_here", "_law_most"] (defScope (topS 20)) := ⟨rfl, rfl, rfl, by decide +kernel, rfl, by decide +kernel, by decide +kernel⟩
theorem ok_graph {f f1 : Addr} {fd fd1 : FuncData} (D : Df K mg "_law_graph" (topS 20) ["_law_feed_here", "_law_most"] f fd) (DD : Df K mg "_law_draw" (topS 19) ["_law_feed_here", "_law_many"] f1 fd1) (B : Bt mg)
    (GD : FnOk P w K mg base CX0 1 f1 fd1 ["_law_feed_here", "_law_many"] spDraw) : FnOk P w K mg base CX0 2 f fd ["_law_feed_here", "_law_most"] (spGraph K) := by
  refine D.fn.ok sc_graph (fun vs H Q E h => ?_) (fun cdv A outer s H vs Q E hr h => ?_)
  · obtain ⟨p, fq, m, b, rfl, _⟩ := h
    rfl
  obtain ⟨p, fq, m, b, rfl, hF, hb, hm1, hm6, q⟩ := h
  have nd := sc_graph.nd
  refine ⟨_, pss_cons (ps_set (i := 2) nd rfl (Or.inl rfl) (pe_op op_add pe_int (pe_call GD hr (by rfl) DD.gl DD.fn.kp DD.bd .nil pass0 (pa_cons (pv 0) (pa_cons (pv 1) pa_nil)))))
    (pss_cons (ps_set (i := 3) nd rfl (Or.inl rfl) (pe_lst pa_nil))
    (pss_cons (ps_for PassesOwn.never rfl (pi_range1 (by rfl) B.range (pa_cons (pv 2) pa_nil)) (pg_name (i := 4) nd rfl (Or.inl rfl))
      (pss_cons (ps_par3 (i := 5) (j := 6) (l := 7) rfl nd rfl rfl rfl (by decide) (by decide) (by decide) rfl rfl rfl (pa_cons (pe_call GD hr (by rfl) DD.gl DD.fn.kp DD.bd .nil pass0 (pa_cons (pv 0) (pa_cons (pv 2) pa_nil))) (pa_cons (pe_call GD hr (by rfl) DD.gl DD.fn.kp DD.bd .nil pass0 (pa_cons (pv 0) (pa_cons (pv 2) pa_nil))) (pa_cons (pe_op op_mod (pe_op op_add (pv 4) pe_int) (pv 2)) pa_nil))) (by rfl))
      (pss_cons (ps_set (i := 8) nd rfl (Or.inl rfl) (pe_lst (pa_cons (pe_tup (pa_cons pe_str (pa_cons (pv 5) pa_nil))) (pa_cons (pe_tup (pa_cons pe_str (pa_cons (pv 7) pa_nil))) (pa_cons (pe_tup (pa_cons pe_str (pa_cons pe_str (pa_cons (pv 5) (pa_cons (pv 6) pa_nil))))) (pa_cons (pe_tup (pa_cons pe_str (pa_cons pe_str (pa_cons (pv 7) (pa_cons (pv 5) pa_nil))))) (pa_cons (pe_tup (pa_cons pe_str pa_nil)) pa_nil)))))))
      (pss_one (ps_expr (pe_bm PySem.F.plainAttrs_list PySem.F.slot_list_append PySem.F.type_list_append mt_append (pv 3) (pa_cons (pe_tup (pa_cons (pe_tup pa_nil) (pa_cons (pe_ix ix_list (pv 8) (pe_call GD hr (by rfl) DD.gl DD.fn.kp DD.bd .nil pass0 (pa_cons (pv 0) (pa_cons pe_int pa_nil))) (fun _ _ => rfl)) pa_nil))) pa_nil)))))))
    (pss_one (ps_ret (pe_tup (pa_cons (pe_tup (pa_cons (pe_tup (pa_cons pe_str (pa_cons pe_int pa_nil))) pa_nil)) (pa_cons (pe_tup (pa_cons (pe_tup (pa_cons pe_str (pa_cons (pe_callTy call_tuple_of (by rfl) B.tuple (by decide +kernel) (pa_cons (pv 3) pa_nil)) pa_nil))) pa_nil)) pa_nil))))))), ?_⟩
  refine ⟨_, rfl, _, rfl, p, fq, m, b, rfl, hF, by omega, hm1, by omega, fun r H1 r0 r1 s1 F1 => ?_⟩
  refine ⟨_, _, rfl, rfl, Nat.zero_le _, fun L hL => ?_⟩
  obtain ⟨n, hn⟩ : ∃ n : Nat, (1 : Int) + r = (n : Int) := ⟨(1 + r).toNat, (Int.toNat_of_nonneg (by omega)).symm⟩
  have hn1 : 1 ≤ n := by omega
  have hn6 : n ≤ 6 := by omega
  obtain ⟨nLp, nLq⟩ := F1.ne hL
  have s2 := s1.trans (del_new (p := p) (o := .lst []) hL)
  have F2 := F1.same (same_new (o := .lst []) hL)
  have g2 : GL K p fq L (upd H1 L (.lst [])) [] [] := ⟨upd_same, .nil, nLp, nLq⟩
  have hLd : del H p L = none := by
    cases hx : del H p L with
    | none => rfl
    | some o => have := (of_del (s1 _ _ hx)).1; rw [this] at hL; cases hL
  generalize upd H1 L (.lst []) = H2 at s2 F2 g2
  refine ⟨_, rfl, (n : Int), congrArg (fun x => [V.int x]) hn, by omega, by omega, ?_⟩
  rw [Int.toNat_natCast]
  refine for_it walk_range (fun k σ H' => ∃ (us : List V) (es : List Ge) (x4 x5 x6 x7 x8 : Option V), σ = [some (.ref p), some (.int m), some (.int (n : Int)), some (.ref L), x4, x5, x6, x7, x8] ∧ GS K p fq L H (b + 1 + 3 * k) H' us es ∧ es.length = k ∧ ∀ e ∈ es, ∀ g ∈ allG e, 0 ≤ g ∧ g < (n : Int))
    ⟨[], [], none, none, none, none, none, congrArg (fun x => [some (V.ref p), some (.int m), some (V.int x), some (.ref L), none, none, none, none, none]) hn, ⟨s2, F2, g2⟩, rfl, fun e h => by cases h⟩ (fun _ _ _ _ _ => trivial) ?_ ?_
  · rintro k x σ H3 H4 hk ⟨us, es, x4, x5, x6, x7, x8, rfl, g3, hl3, hr3⟩ ⟨rfl, rfl⟩
    dsimp only
    rw [Int.zero_add]
    have lus : us.length = es.length := by rw [DpAll_len g3.gl.dat, List.length_map]
    refine ⟨_, rfl, _, rfl, p, fq, (n : Int), _, rfl, g3.fd, by omega, by omega, by omega, fun a H5 a0 a1 s5 F5 => ?_⟩
    refine ⟨_, rfl, _, rfl, p, fq, (n : Int), _, rfl, F5, by omega, by omega, by omega, fun c H6 c0 c1 s6 F6 => ?_⟩
    have g6 := (g3.next s5 F5).next s6 F6
    clear F5 s5 F6 s6 g3
    have n0 : (0 : Int) < (n : Int) := by omega
    refine ⟨_, rfl, _, _, rfl, rfl, _, rfl, _, _, rfl, rfl, n0, _, _, _, rfl, ?_⟩
    obtain ⟨d, hd, d0, d1⟩ : ∃ d : Int, (fun (i j : Int) => V.int (i % j)) ((k : Int) + 1) (n : Int) = V.int d ∧ 0 ≤ d ∧ d < (n : Int) := ⟨_, rfl, Int.emod_nonneg _ (by omega), Int.emod_lt_of_pos _ n0⟩
    rw [hd]
    clear hd
    refine ⟨_, rfl, by show 2 ≤ sizeLine; decide, fun t1 h1 => ?_⟩
    have st1 := same_new (o := .tup [V.str "go", .int a]) h1
    have e1 : upd H6 t1 (.tup [V.str "go", .int a]) t1 = some (.tup [V.str "go", .int a]) := upd_same
    generalize upd H6 t1 (.tup [V.str "go", .int a]) = H7 at st1 e1
    have g7 := g6.lay st1
    refine ⟨_, rfl, by show 2 ≤ sizeLine; decide, fun t2 h2 => ?_⟩
    have st2 := same_new (o := .tup [V.str "go", .int d]) h2
    have e2 : upd H7 t2 (.tup [V.str "go", .int d]) t2 = some (.tup [V.str "go", .int d]) := upd_same
    generalize upd H7 t2 (.tup [V.str "go", .int d]) = H8 at st2 e2
    have g8 := g7.lay st2
    refine ⟨_, rfl, _, rfl, by show 4 ≤ sizeLine; decide, fun t3 h3 => ?_⟩
    have st3 := same_new (o := .tup [V.str "if", .str "i", .int a, .int c]) h3
    have e3 : upd H8 t3 (.tup [V.str "if", .str "i", .int a, .int c]) t3 = some (.tup [V.str "if", .str "i", .int a, .int c]) := upd_same
    generalize upd H8 t3 (.tup [V.str "if", .str "i", .int a, .int c]) = H9 at st3 e3
    have g9 := g8.lay st3
    refine ⟨_, rfl, _, rfl, by show 4 ≤ sizeLine; decide, fun t4 h4 => ?_⟩
    have st4 := same_new (o := .tup [V.str "if", .str "i", .int d, .int a]) h4
    have e4 : upd H9 t4 (.tup [V.str "if", .str "i", .int d, .int a]) t4 = some (.tup [V.str "if", .str "i", .int d, .int a]) := upd_same
    generalize upd H9 t4 (.tup [V.str "if", .str "i", .int d, .int a]) = H10 at st4 e4
    have g10 := g9.lay st4
    refine ⟨by show 1 ≤ sizeLine; decide, fun t5 h5 => ?_⟩
    have st5 := same_new (o := .tup [V.str "back"]) h5
    have e5 : upd H10 t5 (.tup [V.str "back"]) t5 = some (.tup [V.str "back"]) := upd_same
    generalize upd H10 t5 (.tup [V.str "back"]) = H11 at st5 e5
    have g11 := g10.lay st5
    refine ⟨by show 5 ≤ sizeLine; decide, fun E5 h6 => ?_⟩
    have st6 := same_new (o := .lst [V.ref t1, .ref t2, .ref t3, .ref t4, .ref t5]) h6
    have e6 : upd H11 E5 (.lst [V.ref t1, .ref t2, .ref t3, .ref t4, .ref t5]) E5 = some (.lst [V.ref t1, .ref t2, .ref t3, .ref t4, .ref t5]) := upd_same
    generalize upd H11 E5 (.lst [V.ref t1, .ref t2, .ref t3, .ref t4, .ref t5]) = H12 at st6 e6
    have g12 := g11.lay st6
    have np6 : E5 ≠ p := (g11.fd.ne h6).1
    have ends : DpAll K (tps (del H12 p)) [V.ref t1, .ref t2, .ref t3, .ref t4, .ref t5] ((endsOf a c d).map endD) := by
      have np : ∀ {t : Addr} {xs : List V}, H12 t = some (.tup xs) → tps (del H12 p) t = some (.tup xs) := fun h => tps_tup (del_some h (fun e => by
        obtain ⟨ns, i, j, k, hp, _⟩ := g12.fd.ex
        rw [e, hp] at h
        cases h))
      have k1 := np (st6 _ _ (st5 _ _ (st4 _ _ (st3 _ _ (st2 _ _ e1)))))
      have k2 := np (st6 _ _ (st5 _ _ (st4 _ _ (st3 _ _ e2))))
      have k3 := np (st6 _ _ (st5 _ _ (st4 _ _ e3)))
      have k4 := np (st6 _ _ (st5 _ _ e4))
      have k5 := np (st6 _ _ e5)
      exact .cons (.tup (SqT.of k1) (.cons (.str _) (.cons (.int _) .nil))) (.cons (.tup (SqT.of k2) (.cons (.str _) (.cons (.int _) .nil))) (.cons (.tup (SqT.of k3) (.cons (.str _) (.cons (.str _) (.cons (.int _) (.cons (.int _) .nil))))) (.cons (.tup (SqT.of k4) (.cons (.str _) (.cons (.str _) (.cons (.int _) (.cons (.int _) .nil))))) (.cons (.tup (SqT.of k5) (.cons (.str _) .nil)) .nil))))
    have rngs : ∀ e ∈ endsOf a c d, ∀ g ∈ allG e, 0 ≤ g ∧ g < (n : Int) := by
      intro e he g hg
      unfold endsOf at he
      simp only [List.mem_cons, List.not_mem_nil, or_false] at he
      rcases he with rfl | rfl | rfl | rfl | rfl <;> simp only [allG, List.mem_cons, List.not_mem_nil, or_false] at hg
      · omega
      · omega
      · omega
      · omega
    clear e1 e2 e3 e4 e5 st1 st2 st3 st4 st5 st6 g6 g7 g8 g9 g10 g11 h1 h2 h3 h4 h5 h6
    refine ⟨_, rfl, .inl ⟨rfl, _, SqL.of g12.gl.at_⟩, Nat.zero_le _, fun t6 h6 => ?_⟩
    have st7 := same_new (o := .tup []) h6
    have g13 := g12.lay st7
    have e7 : tps (del (upd H12 t6 (.tup [])) p) t6 = some (.tup []) := tps_tup (del_some upd_same (g12.fd.ne h6).1)
    have ends13 := DpAll_same (tps_same (same_del (p := p) st7)) ends
    have e13 := st7 _ _ e6
    generalize upd H12 t6 (.tup []) = H13 at st7 g13 e7 ends13 e13
    refine ⟨_, rfl, _, rfl, p, fq, 5, _, rfl, g13.fd, by omega, by omega, by omega, fun j H14 j0 j1 s14 F14 => ?_⟩
    obtain ⟨j, rfl, hj⟩ := five_of (α := Nat) (x0 := 0) (x1 := 0) (x2 := 0) (x3 := 0) (x4 := 0) j0 j1
    have g14 := g13.next s14 F14
    have e14 := (of_del (s14 _ _ (del_some e13 np6))).1
    have ends14 := DpAll_same (tps_same s14) ends13
    have e72 := (tps_same s14) _ _ e7
    have hj5 : j < [V.ref t1, .ref t2, .ref t3, .ref t4, .ref t5].length := hj
    have hje : j < (endsOf a c d).length := hj
    refine ⟨E5, _, (j : Int), _, rfl, rfl, SqL.of e14, atI_nat (List.getElem?_eq_getElem hj5), ?_⟩
    obtain ⟨dd, hdd, hdp⟩ := DpAll_get ends14 (List.getElem?_eq_getElem hj5)
    rw [List.getElem?_map, List.getElem?_eq_getElem hje] at hdd
    cases hdd
    have hre := rngs _ (List.getElem_mem hje)
    generalize (endsOf a c d)[j] = e at hdp hre
    generalize [V.ref t1, V.ref t2, V.ref t3, V.ref t4, V.ref t5][j] = ve at hdp
    refine ⟨by show 2 ≤ sizeLine; decide, fun t7 h7 => ?_⟩
    have st8 := same_new (o := .tup [V.ref t6, ve]) h7
    have g15 := g14.lay st8
    have e8 : del (upd H14 t7 (.tup [V.ref t6, ve])) p t7 = some (.tup [V.ref t6, ve]) := del_some upd_same (g14.fd.ne h7).1
    have dp8 : Dp K (del (upd H14 t7 (.tup [V.ref t6, ve])) p) (.ref t7) (blkD e) := .tup (SqT.of e8) (.cons (.tup (SqT.of ((same_del st8) _ _ (tps_sub _ _ e72))) .nil) (.cons (Dp_same (tps_sub.trans (same_del st8)) hdp) .nil))
    generalize upd H14 t7 (.tup [V.ref t6, ve]) = H15 at g15 dp8
    refine ⟨L, _, _, rfl, rfl, g15.gl.at_, by rw [sizeLine_eq]; omega, ?_⟩
    refine ⟨us ++ [.ref t7], es ++ [e], _, _, _, _, _, rfl, ⟨fun cc o ee => ?_, ?_, ?_⟩, by rw [List.length_append, hl3]; rfl, ?_⟩
    · obtain ⟨ee1, ee2⟩ := of_del ee
      exact del_some (by rw [upd_ne (ne_of_none ee hLd)]; exact (of_del (g15.sm _ _ ee)).1) ee2
    · exact (g15.fd.upd nLp nLq).mono (by omega)
    · rw [List.map_append]
      exact g15.gl.push dp8 (blkD_noL e)
    · intro e' he' g hg
      rcases List.mem_append.mp he' with h | h
      · exact hr3 e' h g hg
      · have : e' = e := by simpa using h
        rw [this] at hg
        exact hre g hg
  · rintro σ H3 ⟨us, es, x4, x5, x6, x7, x8, rfl, g3, hl3, hr3⟩
    have hgok : Gok es := ⟨by omega, by omega, by rw [hl3]; exact hr3⟩
    have lus : us.length = es.length := by rw [DpAll_len g3.gl.dat, List.length_map]
    have nw : ∀ {H' : Hp} {t : Addr} {o : HO} {b' : Nat}, GS K p fq L H b' H' us es → H' t = none → del (upd H' t o) p t = some o := fun g h => del_some upd_same (g.fd.ne h).1
    refine ⟨by show 2 ≤ sizeLine; decide, fun t1 h1 => ?_⟩
    have st1 := same_new (o := .tup [V.str "a", .int 1]) h1
    have g4 := g3.lay st1
    have e1 := nw (o := .tup [V.str "a", .int 1]) g3 h1
    generalize upd H3 t1 (.tup [V.str "a", .int 1]) = H4 at st1 g4 e1
    refine ⟨by show 1 ≤ sizeLine; decide, fun t2 h2 => ?_⟩
    have st2 := same_new (o := .tup [V.ref t1]) h2
    have g5 := g4.lay st2
    have e2 := nw (o := .tup [V.ref t1]) g4 h2
    have e12 := (same_del (p := p) st2) _ _ e1
    generalize upd H4 t2 (.tup [V.ref t1]) = H5 at st2 g5 e2 e12
    have dO : Dp K (del H5 p) (.ref t2) objD := .tup (SqT.of e2) (.cons (.tup (SqT.of e12) (.cons (.str _) (.cons (.int _) .nil))) .nil)
    refine ⟨_, rfl, L, _, rfl, .inl ⟨SqL.of g5.gl.at_, fun t3 h3 => ?_⟩⟩
    have st3 := same_new (o := .tup us) h3
    have g6 := g5.lay st3
    have e3 := nw (o := .tup us) g5 h3
    have dO6 := Dp_same (same_del (p := p) st3) dO
    generalize upd H5 t3 (.tup us) = H6 at st3 g6 e3 dO6
    have dB : Dp K (del H6 p) (.ref t3) (.tuple (es.map blkD)) := .tup (SqT.of e3) (DpAll_same tps_sub g6.gl.dat)
    refine ⟨by show 2 ≤ sizeLine; decide, fun t4 h4 => ?_⟩
    have st4 := same_new (o := .tup [V.str "main", .ref t3]) h4
    have g7 := g6.lay st4
    have e4 := nw (o := .tup [V.str "main", .ref t3]) g6 h4
    have dO7 := Dp_same (same_del (p := p) st4) dO6
    have dB7 := Dp_same (same_del (p := p) st4) dB
    generalize upd H6 t4 (.tup [V.str "main", .ref t3]) = H7 at st4 g7 e4 dO7 dB7
    have dR : Dp K (del H7 p) (.ref t4) (rtD ("main", es)) := .tup (SqT.of e4) (.cons (.str _) (.cons dB7 .nil))
    refine ⟨by show 1 ≤ sizeLine; decide, fun t5 h5 => ?_⟩
    have st5 := same_new (o := .tup [V.ref t4]) h5
    have g8 := g7.lay st5
    have e5 := nw (o := .tup [V.ref t4]) g7 h5
    have dO8 := Dp_same (same_del (p := p) st5) dO7
    have dR8 := Dp_same (same_del (p := p) st5) dR
    generalize upd H7 t5 (.tup [V.ref t4]) = H8 at st5 g8 e5 dO8 dR8
    refine ⟨by show 2 ≤ sizeLine; decide, fun t6 h6 => ?_⟩
    have st6 := same_new (o := .tup [V.ref t2, .ref t5]) h6
    have g9 := g8.lay st6
    have e6 := nw (o := .tup [V.ref t2, .ref t5]) g8 h6
    have dO9 := Dp_same (same_del (p := p) st6) dO8
    have dR9 := Dp_same (same_del (p := p) st6) dR8
    have e59 := (same_del (p := p) st6) _ _ e5
    exact q _ _ es g9.sm (g9.fd.mono (by omega)) hgok (by omega) (.tup (SqT.of e6) (.cons dO9 (.cons (.tup (SqT.of e59) (.cons dR9 .nil)) .nil)))
end
end Sw
set_option maxRecDepth 100000
set_option maxHeartbeats 4000000
namespace Sw
open PySem PySem.Spec PyProof.Rows L2
/-! ### for k, x in enumerate(t), t a tuple -/
/-- the making of it -/
theorem enum_new {v : Value} {o : Obj} {H : Heap → Prop} (Bg : Begins v o H) :
    Meets (Builtin.«enumerate.__new__» ⟨[.type "enumerate", v], []⟩) (fun _ R s => H s.heap ∧ R (.ok (.ret (.ref (s.heap.push o).objs.size)))
      { s with heap := (s.heap.push o).push { cls := .type "enumerate", data := .fields #[.none, .bool false, .ref s.heap.objs.size, rawInt 0, .none, .none] } }) :=
  .of_wp fun pr w A R s hh => by
    obtain ⟨hp, g, d, tk, os⟩ := s
    obtain ⟨hb, h⟩ := hh
    have sbe := sub_enumerate
    have itr : ∀ {A' : Around} {Er : Value → Shared → Prop} {Q : Value → Shared → Prop}, Q (.ref hp.objs.size) ⟨hp.push o, g, d, tk, os⟩ → wpAny (model pr w) A' (pyIter v) Q Er ⟨hp, g, d, tk, os⟩ := fun q => Bg.iter pr w _ _ ⟨hp, g, d, tk, os⟩ _ hb q
    wp_walk using itr
    refine wpAny_stack_any fun stk => wpAny_pure ?_
    split
    · rename_i cl _ _ _ _ _
      cases (cl == Value.type "enumerate")
      all_goals (wp_walk using itr; exact ⟨_, rfl, h⟩)
    · wp_walk using itr
      exact ⟨_, rfl, h⟩
section
variable {P : Program} {w : World} {A : Around} {Er : Value → Shared → Prop} {s : Shared}
theorem call_enumT {v : Value} {o : Obj} {H : Heap → Prop} {Q : Value → Shared → Prop} (Bg : Begins v o H) (hb : H s.heap)
    (h : ∀ hx, IsEnum hx (s.heap.objs.size + 1) s.heap.objs.size 0 .none → hx.get? s.heap.objs.size = some o → (∀ b u, s.heap.get? b = some u → hx.get? b = some u) → Q (.ref (s.heap.objs.size + 1)) { s with heap := hx }) :
    wpAny (model P w) A (call (.type "enumerate") [v]) Q Er s := by
  refine callType_new F.called_enumerate (by decide) (F.typeCall_enumerate_1 v) (F.newCall_enumerate_1 v) (fun ob => F.args_object_init_2 ob v) F.entry_enumerate_new (enum_new Bg) ⟨hb, ?_⟩
  have sz : (s.heap.push o).objs.size = s.heap.objs.size + 1 := Heap.size_push ..
  have top := Heap.get?_push_size (s.heap.push o) (o := { cls := .type "enumerate", data := .fields #[.none, .bool false, .ref s.heap.objs.size, rawInt 0, .none, .none] }) rfl
  show _ ∧ _
  rw [sz] at top ⊢
  exact ⟨⟨_, top, rfl⟩, h _ top (Heap.get?_push_of_some _ (Heap.get?_push_size _ Bg.free)) fun b u x => Heap.get?_push_of_some _ (Heap.get?_push_of_some _ x)⟩
end
/-- the pairs of it, each a new tuple -/
def ItT (K : PySem.W.Frag) (a : Addr) : It :=
  ⟨fun i H => ∃ (xs : List V) (x : V), SqT K H a xs ∧ xs[i]? = some x,
    fun i H v H' => ∃ T x, v = .ref T ∧ H T = none ∧ H' = upd H T (.tup [.int (i : Nat), x]) ∧ ∀ xs, SqT K H a xs → xs[i]? = some x,
    fun i H => ∃ xs : List V, SqT K H a xs ∧ xs.length = i⟩
theorem not_it {h : Heap} {t it : Addr} {items : Array Value} {i : Nat} (h1 : h.IsTuple t items) (h2 : h.IsTupleIter it t i) : t ≠ it := fun z => by
  obtain ⟨o, ho, hc, _⟩ := h1
  obtain ⟨u, hu, hd, _⟩ := h2
  rw [z, hu] at ho
  cases ho
  rw [hd] at hc
  exact absurd hc (by decide)
theorem not_en {h : Heap} {t e it : Addr} {items : Array Value} {i : Int} {old : Value} (h1 : h.IsTuple t items) (h2 : IsEnum h e it i old) : t ≠ e := fun z => by
  obtain ⟨o, ho, hc, _⟩ := h1
  rw [z, h2] at ho
  cases ho
  exact absurd (show Value.type "enumerate" = Value.type "tuple" from hc) (by decide)
theorem turn_enT {P : Program} {w : World} {K : PySem.W.Frag} {elts : List Expr} {kk : Nat} {tpos : Pos} (a e it : Addr) :
    Turn P w K (.Tuple elts kk tpos) (ItT K a) [e, it] e (fun i h => (∃ old, IsEnum h e it (i : Nat) old) ∧ h.IsTupleIter it a i ∧ e ≠ it) where
  mem := List.mem_cons_self
  obj := by
    rintro i h ⟨⟨old, hE⟩, ⟨o, ho, _, hdt⟩, _⟩ b hb
    simp only [List.mem_cons, List.not_mem_nil, or_false] at hb
    rcases hb with rfl | rfl
    · exact ⟨_, hE, fun v z => nomatch z⟩
    · exact ⟨o, ho, fun v z => by rw [hdt] at z; cases z⟩
  keep := by
    rintro i h h2 ⟨⟨old, hE⟩, hI, hn⟩ kp
    exact ⟨⟨old, kp e (by simp) _ hE⟩, hI.at fun o z => kp it (by simp) o z, hn⟩
  item := by
    intro X hP hw hK hc i pins s σ H Er I fps ⟨⟨old, hE⟩, hI, hn⟩ ⟨xs, x, hq, hx⟩
    subst hP hw hK
    obtain ⟨its, rv, tp, _⟩ := I.tuple hq
    obtain ⟨u, hu, ru⟩ := rv.get hx
    have nt := not_it tp hI
    have ne := not_en tp hE
    have Dr := Draws.tuple (prog := X.prog) (w := X.w) (A := X.A.in1) (by simp [I.ok.hd hc]) it a nt its.toArray
    have lte : e < s.heap.objs.size := Heap.lt_size hE
    have lti : it < s.heap.objs.size := by obtain ⟨_, z, _⟩ := hI; exact Heap.lt_size z
    have hsz : i < its.toArray.size := by
      have := (List.getElem?_eq_some_iff.mp hu).1
      simpa using this
    refine wpAny_pyNext_enum_itemC (i := i) (c := (i : Nat)) Dr hE ⟨hI, tp⟩ hsz hn (by simp only [List.mem_cons, List.not_mem_nil, or_false, not_or]; exact ⟨hn, Ne.symm ne⟩) fun y hx1 tk hy ho hst hT sz kp => ?_
    have eyu : y = u := by
      have h1 : its[i]? = some y := by simpa using hy
      rw [hu] at h1
      exact (Option.some.inj h1).symm
    subst eyu
    refine ⟨_, rfl, wpAny_letOwnedTupleGo_enum (s := { s with heap := hx1, toks := tk + 1 }) ho fun hx2 hE2 sb => ?_⟩
    have nT : s.heap.objs.size ≠ e := Nat.ne_of_gt lte
    have hT2 := (sb.2 _ nT).trans hT
    have kp2 : ∀ b ob, b ∉ [e, it] → s.heap.get? b = some ob → hx2.get? b = some ob := fun b ob hb z => by
      simp only [List.mem_cons, List.not_mem_nil, or_false, not_or] at hb
      exact (sb.2 b hb.1).trans (kp b ob hb.1 hb.2 z)
    have new : ObjOk X.prog X.w (upd H s.heap.objs.size (.tup [.int (i : Nat), x])) hx2 s.heap.objs.size (.tup [.int (i : Nat), x]) := ⟨by show 2 ≤ sizeLine; decide, [.int (i : Nat) tk, y], .cons ⟨_, rfl⟩ (.cons ru .nil), ⟨_, hT2, rfl, _, rfl⟩⟩
    have I1 := I.turnedNew (ch := [e, it]) (h' := hx2) (t' := tk + 1) kp2 fps (Nat.le_refl _) new
    refine ⟨.ref s.heap.objs.size, _, I1, rfl, ⟨_, x, rfl, I.hok.fresh (Nat.le_refl _), rfl, fun zs hz => ?_⟩, ⟨⟨y, ?_⟩, hst.1.at fun o z => (sb.2 it (Ne.symm hn)).trans z, hn⟩, fun b hb => ?_⟩
    · rw [I.tuple_inj hz hq]
      exact hx
    · rw [show ((i + 1 : Nat) : Int) = ((i : Nat) : Int) + 1 by omega]
      exact hE2
    · have lb : b ≠ s.heap.objs.size := by
        simp only [List.mem_cons, List.not_mem_nil, or_false] at hb
        rcases hb with rfl | rfl
        · exact Nat.ne_of_lt lte
        · exact Nat.ne_of_lt lti
      rw [upd_ne lb]
      exact (fps b hb).1
  done := by
    intro X hP hw hK hc i pins s σ H Er I fps ⟨⟨old, hE⟩, hI, hn⟩ ⟨xs, hq, hx⟩
    subst hP hw hK
    obtain ⟨its, rv, tp, _⟩ := I.tuple hq
    have lr := rv.length
    have nt := not_it tp hI
    have Dr := Draws.tuple (prog := X.prog) (w := X.w) (A := X.A.in1) (by simp [I.ok.hd hc]) it a nt its.toArray
    have es : its.toArray.size = i := by simp; omega
    rw [es] at Dr
    obtain ⟨f0, f1, f2, f3, f4, f5⟩ := fps it (by simp)
    exact wpAny_pyNext_enum_endD Dr hE ⟨hI, tp⟩ fun hx1 eb => ⟨rfl, I.turned (t' := s.toks) (fun b o hb z => eb b o hb z) f0 f1 f3 f4 f5⟩
  self := by
    rintro A i s Q Er ⟨⟨old, hE⟩, _⟩ h
    exact wpAny_pyIter_enum hE h
def iEnT (K : PySem.W.Frag) (ta : TA) : TI := fun σ H R => ta σ H fun vs H1 => ∃ a xs, vs = [.ref a] ∧ SqT K H1 a xs ∧ R (ItT K a) H1
theorem pi_enT {X : Cx} {e : Expr} {ta : TA} {p pos tpos : Pos} {elts : List Expr} {kk : Nat} (hg : Gl X "enumerate") (hm : X.mg "enumerate" = none) (ha : PA X [e] ta) (hs : starEach [e] X.env = [(false, eval e X.env)] := by rfl) :
    PI X (.Tuple elts kk tpos) (.Call (.Name "enumerate" p) [e] [] pos) (iEnT X.K ta) := by
  refine ⟨fun pins s σ H R I h => ?_⟩
  refine Call_ (ld_blt I hg hm boot_enumerate (PyProof.Rows.callWith_type1 (thn (ha.run pos pins s σ H _ I h) fun us s1 ⟨vs, H1, I1, rs, q1⟩ => ?_) hs rfl))
  obtain ⟨a, xs, rfl, hq, q⟩ := q1
  obtain ⟨its, rv, tp, _⟩ := I1.tuple hq
  rw [Vals.ref1 rs]
  refine call_enumT (begins_tuple a its.toArray) tp fun hx hE hi kp => wpAny_pyIter_enum hE ?_
  have I2 : Inv X pins σ H1 { s1 with heap := hx } := I1.kept (t' := s1.toks) kp
  refine ⟨s1.heap.objs.size + 1, [s1.heap.objs.size + 1, s1.heap.objs.size], _, _, H1, rfl, I2, turn_enT a (s1.heap.objs.size + 1) s1.heap.objs.size, ⟨⟨.none, hE⟩, ⟨_, hi, rfl, rfl⟩, Nat.succ_ne_self _⟩, fun b hb => ?_, q⟩
  have le : s1.heap.objs.size ≤ b := by
    simp only [List.mem_cons, List.not_mem_nil, or_false] at hb
    rcases hb with z | z
    · rw [z]; exact Nat.le_add_right _ _
    · rw [z]; exact Nat.le_refl _
  exact I1.fpOk le (I1.hok.fresh le)
/-- its walk: each turn has a new pair -/
theorem walk_enT {K : PySem.W.Frag} {a : Addr} {xs : List V} : Walk (ItT K a) xs.length (fun H => SqT K H a xs) (fun i H v H' => ∃ T x, v = .ref T ∧ H T = none ∧ H' = upd H T (.tup [.int (i : Nat), x]) ∧ xs[i]? = some x) :=
  ⟨fun i _ hi q => ⟨xs, xs[i], q, List.getElem?_eq_getElem hi⟩, fun _ q => ⟨xs, q, rfl⟩, fun i H x H' _ q ⟨T, y, e1, e2, e3, e4⟩ => ⟨T, y, e1, e2, e3, e4 xs q⟩⟩
end Sw
set_option maxRecDepth 100000
set_option maxHeartbeats 4000000
namespace Sw
open PySem PySem.Spec PyProof.Rows L2
theorem inV_ints {z : Int} {zs : List Int} : inV (.int z) (zs.map V.int) = decide (z ∈ zs) := by
  unfold inV
  induction zs with
  | nil => rfl
  | cons y zs ih =>
    rw [List.map_cons, List.any_cons, ih]
    show (y == z || _) = _
    by_cases h : y = z
    · simp [h]
    · have h' : ¬ z = y := fun e => h e.symm
      simp [h, h']
theorem flat_ints (zs : List Int) : (zs.map V.int).all flatV = true := by
  rw [List.all_map]
  simp [flatV]
/-- the arrows of a graph, as the law lays them -/
structure ArrAt (H : Hp) (F : Addr) (es : List Ge) : Prop where
  ex : ∃ as : List Addr, H F = some (.lst (as.map V.ref)) ∧ Paired (fun a e => H a = some (.lst ((allG e).map V.int))) as es
theorem paired_imp {α β : Type} {R S : α → β → Prop} (h : ∀ a b, R a b → S a b) : ∀ {xs : List α} {ys : List β}, Paired R xs ys → Paired S xs ys
  | _, _, .nil => .nil
  | _, _, .cons r t => .cons (h _ _ r) (paired_imp h t)
theorem paired_snoc {α β : Type} {R : α → β → Prop} {a : α} {b : β} (r : R a b) : ∀ {xs : List α} {ys : List β}, Paired R xs ys → Paired R (xs ++ [a]) (ys ++ [b])
  | _, _, .nil => .cons r .nil
  | _, _, .cons q t => .cons q (paired_snoc r t)
theorem paired_at {α β : Type} {R : α → β → Prop} : ∀ {xs : List α} {ys : List β} {i : Nat} {y : β}, Paired R xs ys → ys[i]? = some y → ∃ x, xs[i]? = some x ∧ R x y
  | _, _, _, _, .nil, e => by simp at e
  | _, _, 0, _, .cons r _, e => by simp at e; subst e; exact ⟨_, rfl, r⟩
  | _, _, i + 1, y, .cons _ t, e => by
    obtain ⟨x, h1, h2⟩ := paired_at (i := i) (y := y) t (by simpa using e)
    exact ⟨x, by simpa using h1, h2⟩
theorem ArrAt.same {H H' : Hp} {F : Addr} {es : List Ge} (h : ArrAt H F es) (s : Same H H') : ArrAt H' F es := by
  obtain ⟨as, h1, h2⟩ := h.ex
  exact ⟨as, s _ _ h1, paired_imp (fun _ _ r => s _ _ r) h2⟩
theorem ArrAt.at {H : Hp} {F : Addr} {es : List Ge} (h : ArrAt H F es) {b : Int} (h0 : 0 ≤ b) (h1 : b < (es.length : Int)) : ∃ (as : List Addr) (a : Addr), H F = some (.lst (as.map V.ref)) ∧ atI (as.map V.ref) b = some (.ref a) ∧ H a = some (.lst ((arr es b).map V.int)) ∧ as.length = es.length := by
  obtain ⟨as, e1, e2⟩ := h.ex
  obtain ⟨n, rfl⟩ : ∃ n : Nat, b = (n : Int) := ⟨b.toNat, (Int.toNat_of_nonneg h0).symm⟩
  have hn : n < es.length := by omega
  obtain ⟨a, ha, hr⟩ := paired_at e2 (List.getElem?_eq_getElem hn)
  refine ⟨as, a, e1, atI_nat (by rw [List.getElem?_map, ha]; rfl), ?_, e2.length⟩
  unfold arr
  rw [Int.toNat_natCast, List.getElem?_eq_getElem hn]
  exact hr
section
variable {P : Program} {w : World} {K : PySem.W.Frag} {mg : Str → Option Value} {base : Heap}
def spArrows (K : PySem.W.Frag) : Sp := fun vs H Q _ => ∃ (vc : V) (nm : Str) (es : List Ge) (rs : List (Str × List Ge)), vs = [vc] ∧ Dp K H vc (codeD ((nm, es) :: rs)) ∧ es.length ≤ 60 ∧ ∀ F H', Same H H' → ArrAt H' F es → Q (.ref F) H'
end
end Sw
set_option maxRecDepth 100000
set_option maxHeartbeats 4000000
namespace Sw
open PySem PySem.Spec PyProof.Rows L2
abbrev N17 : List Str := ["_law_arrows_here", "_law_over_here", "_law_found", "_law_turn", "_law_block", "_law_one"]
/-- what the law has found so far -/
structure CI (es : List Ge) (o : Int) (fs : List Int) : Prop where
  nd : fs.Nodup
  rc : ∀ k ∈ fs, Rch es (some o) k
  z : o ≠ 0 → (0 : Int) ∈ fs
def Clo (es : List Ge) (o : Int) (fs : List Int) : Prop := ∀ b ∈ fs, ∀ g ∈ arr es b, o ≠ g → g ∈ fs
theorem CI.few {es : List Ge} {o : Int} {fs : List Int} (h : CI es o fs) (g : Gok es) : fs.length ≤ es.length := few_ints es.length h.nd fun x hx => (h.rc x hx).rng g
theorem CI.push {es : List Ge} {o k b : Int} {fs : List Int} (h : CI es o fs) (hb : b ∈ fs) (hk : k ∈ arr es b) (ho : k ≠ o) (hn : k ∉ fs) : CI es o (fs ++ [k]) :=
  ⟨List.nodup_append.mpr ⟨h.nd, by simp, fun a ha c hc => by
    have : c = k := by simpa using hc
    rw [this]; exact fun e => hn (e ▸ ha)⟩, fun x hx => by
    rcases List.mem_append.mp hx with hx | hx
    · exact h.rc x hx
    · have : x = k := by simpa using hx
      rw [this]; exact .step (h.rc b hb) hk (fun e => ho (Option.some.inj e).symm), fun hz => List.mem_append_left _ (h.z hz)⟩
theorem CI.all {es : List Ge} {o : Int} {fs : List Int} (h : CI es o fs) (c : Clo es o fs) (k : Int) : k ∈ fs ↔ Rch es (some o) k :=
  ⟨h.rc k, closed_all (fun z => h.z fun e => z (by rw [e])) fun b hb g hg ho => c b hb g hg fun e => ho (by rw [e])⟩
/-- a round of it: from fs0 on, the blocks below j asked -/
structure Rnd (es : List Ge) (o : Int) (fs0 fs : List Int) (j : Nat) : Prop where
  ci : CI es o fs
  inc : ∀ k ∈ fs0, k ∈ fs
  gr : fs = fs0 ∨ fs0.length < fs.length
  cl : Clo es o fs0 → fs = fs0
  got : ∀ k : Int, 0 ≤ k → k < (j : Int) → k ≠ o → (∃ b ∈ fs0, k ∈ arr es b) → k ∈ fs
theorem Rnd.skip {es : List Ge} {o : Int} {fs0 fs : List Int} {j : Nat} (h : Rnd es o fs0 fs j) (hs : (j : Int) ≠ o → (∃ b ∈ fs, (j : Int) ∈ arr es b) → (j : Int) ∈ fs) : Rnd es o fs0 fs (j + 1) :=
  ⟨h.ci, h.inc, h.gr, h.cl, fun k k0 k1 ko kb => by
    by_cases e : k = (j : Int)
    · subst e
      obtain ⟨b, hb, hk⟩ := kb
      exact hs ko ⟨b, h.inc b hb, hk⟩
    · exact h.got k k0 (by omega) ko kb⟩
theorem Rnd.push {es : List Ge} {o : Int} {fs0 fs : List Int} {j : Nat} (h : Rnd es o fs0 fs j) (ho : (j : Int) ≠ o) (hn : (j : Int) ∉ fs) (hb : ∃ b ∈ fs, (j : Int) ∈ arr es b) : Rnd es o fs0 (fs ++ [(j : Int)]) (j + 1) := by
  obtain ⟨b, hb1, hb2⟩ := hb
  refine ⟨h.ci.push hb1 hb2 ho hn, fun k hk => List.mem_append_left _ (h.inc k hk), .inr ?_, fun c => ?_, fun k k0 k1 ko kb => ?_⟩
  · rw [List.length_append, List.length_singleton]
    rcases h.gr with e | e
    · rw [e]; omega
    · omega
  · have e := h.cl c
    rw [e] at hb1 hn
    exact absurd (c b hb1 _ hb2 (Ne.symm ho)) hn
  · by_cases e : k = (j : Int)
    · rw [e]; exact List.mem_append_right _ (by simp)
    · exact List.mem_append_left _ (h.got k k0 (by omega) ko kb)
theorem Rnd.clo {es : List Ge} {o : Int} {fs0 : List Int} (g : Gok es) (h : Rnd es o fs0 fs0 es.length) : Clo es o fs0 := fun b hb x hx ho => by
  obtain ⟨h0, h1⟩ := arr_rng g hx
  exact h.got x h0 h1 (Ne.symm ho) ⟨b, hb, hx⟩
theorem ints_list {K : PySem.W.Frag} {H : Hp} {D : Addr} {ns : List Int} (h : H D = some (.lst (ns.map V.int))) : Dp K H (.ref D) (.list (ns.map PyData.int)) := .lst (SqL.of h) (DpAll_ints ns)
section
variable {P : Program} {w : World} {K : PySem.W.Frag} {mg : Str → Option Value} {base : Heap}
def spComes (K : PySem.W.Frag) : Sp := fun vs H Q _ => ∃ (F : Addr) (o : Int) (es : List Ge), vs = [.ref F, .int o] ∧ ArrAt H F es ∧ Gok es ∧ ∀ (t : Addr) (H' : Hp) (ns : List Int), Same H H' → H' t = some (.lst (ns.map V.int)) → (∀ k, k ∈ ns ↔ Rch es (some o) k) → Q (.ref t) H'
def spOver (K : PySem.W.Frag) : Sp := fun vs H Q _ => ∃ (F : Addr) (o u : Int) (es : List Ge), vs = [.ref F, .int o, .int u] ∧ ArrAt H F es ∧ Gok es ∧ ∀ H', Same H H' → Q (.bl (domB es o u)) H'
end
end Sw
set_option maxRecDepth 100000
set_option maxHeartbeats 4000000
namespace Sw
open PySem PySem.Spec PyProof.Rows L2
theorem repr_ok {M l n B : Nat} {d : PyData} (h : Fit M l n B d) (hM : M ≤ 1000) (hn : n ≤ 60) (hB : B ≤ 16777216) : d.showable = true ∧ d.hasDict = false ∧ d.depth ≤ 60 ∧ d.shown.length ≤ sizeLine := by
  have e1 : M < 2 ^ 1920 := Nat.lt_of_le_of_lt hM (by decide +kernel)
  have e2 : M < 10 ^ 240 := Nat.lt_of_le_of_lt hM (by decide +kernel)
  refine ⟨leaf_shows e1 d h.lf, leaf_noDict d h.lf, Nat.le_trans h.dp hn, ?_⟩
  have h1 := shown_wt e2 d h.lf
  have h2 := h.wg
  rw [sizeLine_eq]
  omega
theorem wtAll_le {B : Nat} : ∀ {ds : List PyData}, (∀ d ∈ ds, wt d ≤ B) → wtAll ds ≤ (B + 2) * ds.length
  | [], _ => by simp [wtAll]
  | d :: ds, h => by
    have h1 := h d List.mem_cons_self
    have h2 := wtAll_le (ds := ds) fun x hx => h x (List.mem_cons_of_mem _ hx)
    simp only [wtAll, List.length_cons, Nat.mul_add, Nat.mul_one]
    omega
/-- a tuple of things that fit -/
theorem Fit.all {M l n B k : Nat} {ds : List PyData} (h : ∀ d ∈ ds, Fit M l n B d) (hk : ds.length ≤ k) (hl : k ≤ l) : Fit M l (n + 1) ((B + 2) * k + 5) (.tuple ds) := by
  have hw := wtAll_le fun d hd => (h d hd).wg
  have hm := Nat.mul_le_mul_left (B + 2) hk
  refine ⟨?_, ?_, ?_, ?_⟩
  · simp only [leaf]
    exact leafAll_iff.mpr fun d hd => (h d hd).lf
  · simp only [lens, Bool.and_eq_true, decide_eq_true_eq]
    exact ⟨by omega, lensAll_iff.mpr fun d hd => (h d hd).ln⟩
  · exact depth_tuple.mpr fun d hd => (h d hd).dp
  · simp only [wt]
    omega
theorem fit_int {i : Int} (h0 : 0 ≤ i) (h1 : i < 100) : Fit 100 60 0 250 (.int i) := ⟨by simp only [leaf, decide_eq_true_eq]; omega, rfl, by simp [PyData.depth], Nat.le_refl _⟩
theorem ints_fit {ns : List Int} (hl : ns.length ≤ 60) (h : ∀ k ∈ ns, 0 ≤ k ∧ k < 100) : Fit 100 60 1 20000 (.tuple (ns.map PyData.int)) :=
  (Fit.all (n := 0) (B := 250) (k := 60) (fun d hd => by
    obtain ⟨k, hk, rfl⟩ := List.mem_map.mp hd
    exact fit_int (h k hk).1 (h k hk).2) (by rw [List.length_map]; exact hl) (Nat.le_refl _)).mono (Nat.le_refl _) (Nat.le_refl _) (Nat.le_refl _) (by decide)
theorem domsI_rng {es : List Ge} {u k : Int} (h : k ∈ domsI es u) : 0 ≤ k ∧ k < (es.length : Int) := by
  unfold domsI at h
  obtain ⟨i, hi, rfl⟩ := List.mem_map.mp h
  have := List.mem_range.mp (List.mem_filter.mp hi).1
  exact ⟨by omega, by omega⟩
theorem domsI_len (es : List Ge) (u : Int) : (domsI es u).length ≤ es.length := by
  unfold domsI
  rw [List.length_map]
  exact Nat.le_trans (List.length_filter_le _ _) (by rw [List.length_range]; exact Nat.le_refl _)
theorem domsI_fit {es : List Ge} (g : es.length ≤ 60) (u : Int) : Fit 100 60 1 20000 (.tuple ((domsI es u).map PyData.int)) := ints_fit (Nat.le_trans (domsI_len es u) g) fun k hk => ⟨(domsI_rng hk).1, by have := (domsI_rng hk).2; omega⟩
theorem mem_domsI {es : List Ge} {u o : Int} (h0 : 0 ≤ o) (h1 : o < (es.length : Int)) : o ∈ domsI es u ↔ domB es o u = true := by
  unfold domsI
  rw [List.mem_map]
  constructor
  · rintro ⟨i, hi, rfl⟩
    exact (List.mem_filter.mp hi).2
  · intro h
    refine ⟨o.toNat, List.mem_filter.mpr ⟨List.mem_range.mpr (by omega), ?_⟩, Int.toNat_of_nonneg h0⟩
    rw [Int.toNat_of_nonneg h0]
    exact h
theorem ints_tup {K : PySem.W.Frag} {H : Hp} {D : Addr} {ns : List Int} (h : H D = some (.tup (ns.map V.int))) : Dp K H (.ref D) (.tuple (ns.map PyData.int)) := .tup (SqT.of h) (DpAll_ints ns)
/-- repr of a bool -/
theorem call_reprBl {X : Cx} : CallR X (.builtin "repr") (fun xs H Q => ∃ b : Bool, xs = [.bl b] ∧ Q (.str (if b then "True" else "False")) H) := by
  intro pins s σ H xs us Q I r h
  obtain ⟨b, rfl, q⟩ := h
  cases r with
  | cons r0 r1 =>
    cases r1
    cases r0
    exact PySem.P.repr_of_bool ⟨.str _, H, I.tok _, ⟨_, rfl⟩, q⟩
section
variable {P : Program} {w : World} {K : PySem.W.Frag} {mg : Str → Option Value} {base : Heap}
def spRightD (K : PySem.W.Frag) : Sp := fun vs H Q _ => ∃ (vc : V) (es : List Ge) (rs : List (Str × List Ge)), vs = [vc] ∧ Dp K H vc (codeD (("main", es) :: rs)) ∧ Gok es ∧ ∀ H', Same H H' → Q (.bl true) H'
abbrev N19 : List Str := ["_law_code", "_law_arrows_here", "_law_many", "_law_under", "_law_due", "_law_over_here"]
end
end Sw
set_option maxRecDepth 100000
set_option maxHeartbeats 4000000
namespace Sw
open PySem PySem.Spec PyProof.Rows L2
/-! ### displays with names in them -/
theorem pe_imp {X : Cx} {e : Expr} {t t' : TE} (h : PE X e t) (hi : ∀ σ H Q, t' σ H Q → t σ H Q) : PE X e t' := ⟨fun pins s σ H Q I q => h.run pins s σ H Q I (hi σ H Q q)⟩
theorem pa_imp {X : Cx} {es : List Expr} {t t' : TA} (h : PA X es t) (hi : ∀ σ H Q, t' σ H Q → t σ H Q) : PA X es t' := ⟨fun pos pins s σ H Q I q => h.run pos pins s σ H Q I (hi σ H Q q)⟩
def tE (K : PySem.W.Frag) (G : L2.St → Hp → Prop) (d : PyData) : TE := fun σ H Q => G σ H ∧ ∀ v H', Same H H' → Dp K H' v d → Q v H'
def tEs (K : PySem.W.Frag) (G : L2.St → Hp → Prop) (ds : List PyData) : TA := fun σ H Q => G σ H ∧ ∀ vs H', Same H H' → DpAll K H' vs ds → Q vs H'
structure Kp (G : L2.St → Hp → Prop) : Prop where
  go : ∀ {σ : L2.St} {H H' : Hp}, G σ H → Same H H' → G σ H'
section
variable {X : Cx} {K : PySem.W.Frag} {G : L2.St → Hp → Prop}
theorem px_var {e : Expr} {i : Nat} {d : PyData} (he : PE X e (tVar i)) (h : ∀ σ H, G σ H → ∃ v, σ[i]? = some (some v) ∧ Dp K H v d) : PE X e (tE K G d) :=
  pe_imp he fun σ H Q q => by
    obtain ⟨v, h1, h2⟩ := h σ H q.1
    exact ⟨v, h1, q.2 v H (Same.refl H) h2⟩
theorem px_int {i : Int} {k : Nat} {pos : Pos} : PE X (.Constant (.int i) k pos) (tE K G (.int i)) := pe_imp pe_int fun σ H Q q => q.2 _ H (Same.refl H) (.int i)
theorem px_str {z : Str} {k : Nat} {pos : Pos} : PE X (.Constant (.str z) k pos) (tE K G (.str z)) := pe_imp pe_str fun σ H Q q => q.2 _ H (Same.refl H) (.str z)
theorem pxs_nil : PA X [] (tEs K G []) := pa_imp pa_nil fun σ H Q q => q.2 [] H (Same.refl H) .nil
theorem pxs_cons (C : Kp G) {e : Expr} {es : List Expr} {d : PyData} {ds : List PyData} (he : PE X e (tE K G d)) (hes : PA X es (tEs K G ds)) (hs : starEach (e :: es) X.env = (false, eval e X.env) :: starEach es X.env := by rfl) : PA X (e :: es) (tEs K G (d :: ds)) :=
  pa_imp (pa_cons he hes hs) fun σ H Q q => ⟨q.1, fun v H1 s1 d1 => ⟨C.go q.1 s1, fun vs H2 s2 d2 => q.2 _ H2 (s1.trans s2) (.cons (Dp_same s2 d1) d2)⟩⟩
theorem px_tup {es : List Expr} {ds : List PyData} {k : Nat} {pos : Pos} (h : PA X es (tEs K G ds)) (hl : Nat.ble ds.length 1000 = true := by rfl) : PE X (.Tuple es k pos) (tE K G (.tuple ds)) :=
  pe_imp (pe_tup h) fun σ H Q q => ⟨q.1, fun vs H1 s1 d1 => ⟨by have := DpAll_len d1; have := Nat.le_of_ble_eq_true hl; exact Nat.le_of_lt (big_size (by omega)), fun a ha => by
    have s2 := same_new (o := .tup vs) ha
    exact q.2 _ _ (s1.trans s2) (.tup (SqT.of upd_same) (DpAll_same s2 d1))⟩⟩
/-- a list: its place is new, and its items stand -/
theorem px_lst {es : List Expr} {ds : List PyData} {pos : Pos} (h : PA X es (tEs K G ds)) (hl : Nat.ble ds.length 1000 = true := by rfl) : PE X (.List es pos) (fun σ H Q => G σ H ∧ ∀ L vs H', Same H H' → H L = none → H' L = some (.lst vs) → DpAll K H' vs ds → Q (.ref L) H') :=
  pe_imp (pe_lst h) fun σ H Q q => ⟨q.1, fun vs H1 s1 d1 => ⟨by have := DpAll_len d1; have := Nat.le_of_ble_eq_true hl; exact Nat.le_of_lt (big_size (by omega)), fun a ha => by
    have s2 := same_new (o := .lst vs) ha
    exact q.2 a vs _ (s1.trans s2) (s1.free ha) upd_same (DpAll_same s2 d1)⟩⟩
end
/-! ### deciding on graphs written down -/
def stepC (es : List Ge) (o : Int) (fs : List Int) : List Int := fs ++ (fs.flatMap (arr es)).filter fun g => !(g == o) && !(fs.contains g)
def cloC (es : List Ge) (o : Int) : Nat → List Int
  | 0 => if o = 0 then [] else [0]
  | n + 1 => stepC es o (cloC es o n)
theorem cloC_rch {es : List Ge} {o : Int} : ∀ (n : Nat) (k : Int), k ∈ cloC es o n → Rch es (some o) k
  | 0, k, h => by
    unfold cloC at h
    by_cases e : o = 0
    · rw [if_pos e] at h; cases h
    · rw [if_neg e] at h
      have : k = 0 := by simpa using h
      rw [this]
      exact .zero fun z => e (Option.some.inj z)
  | n + 1, k, h => by
    unfold cloC stepC at h
    rcases List.mem_append.mp h with h | h
    · exact cloC_rch n k h
    · obtain ⟨h1, h2⟩ := List.mem_filter.mp h
      obtain ⟨b, hb, hk⟩ := List.mem_flatMap.mp h1
      refine .step (cloC_rch n b hb) hk fun z => ?_
      have e : o = k := Option.some.inj z
      simp [e] at h2
def okC (es : List Ge) (o : Int) : Bool := ((o == 0) || (cloC es o es.length).contains 0) && ((cloC es o es.length).flatMap (arr es)).all fun g => (g == o) || (cloC es o es.length).contains g
theorem cloC_iff {es : List Ge} {o : Int} (h : okC es o = true) (k : Int) : k ∈ cloC es o es.length ↔ Rch es (some o) k := by
  unfold okC at h
  rw [Bool.and_eq_true] at h
  refine ⟨cloC_rch _ k, closed_all (fun z => ?_) fun b hb g hg ho => ?_⟩
  · rcases Bool.or_eq_true _ _ ▸ h.1 with e | e
    · exact absurd (by simpa using e : o = 0) fun e' => z (by rw [e'])
    · simpa using e
  · have := List.all_eq_true.mp h.2 g (List.mem_flatMap.mpr ⟨b, hb, hg⟩)
    rcases Bool.or_eq_true _ _ ▸ this with e | e
    · exact absurd (by simpa using e : g = o) fun e' => ho (by rw [e'])
    · simpa using e
def domsC (es : List Ge) (u : Int) : List Int := ((List.range es.length).filter fun i : Nat => !((cloC es (i : Int) es.length).contains u)).map fun i : Nat => (i : Int)
theorem domsC_eq {es : List Ge} {u : Int} (h : ((List.range es.length).all fun i : Nat => okC es (i : Int)) = true) : domsI es u = domsC es u := by
  unfold domsI domsC
  congr 1
  refine List.filter_congr fun i hi => ?_
  have ok := List.all_eq_true.mp h i hi
  have := cloC_iff ok u
  refine (domB_of ?_).symm
  rw [← this]
  simp
abbrev Case := List Ge × Int × List Int
def caseD (c : Case) : PyData := .tuple [.tuple (c.1.map endD), .int c.2.1, .tuple (c.2.2.map PyData.int)]
def gRow : List Ge := [.go 1, .go 2, .back]
def gMeet : List Ge := [.iff 1 2, .go 3, .go 3, .go 4, .back]
def gRing : List Ge := [.iff 1 2, .go 2, .go 1, .back]
def cases1 : List Case := [(gRow, 2, [0, 1, 2]), (gMeet, 4, [0, 3, 4]), (gMeet, 3, [0, 3]), (gRing, 1, [0, 1]), (gRing, 2, [0, 2])]
def cases2 : List Case := [(gRing, 3, [0, 1, 2, 3]), (gMeet, 0, [0]), ([.go 0], 0, [0])]
def gokB (es : List Ge) : Bool := decide (1 ≤ es.length) && decide (es.length ≤ 60) && es.all fun e => (allG e).all fun g => decide (0 ≤ g) && decide (g < (es.length : Int))
theorem gokB_ok {es : List Ge} (h : gokB es = true) : Gok es := by
  unfold gokB at h
  rw [Bool.and_eq_true, Bool.and_eq_true] at h
  refine ⟨of_decide_eq_true h.1.1, of_decide_eq_true h.1.2, fun e he g hg => ?_⟩
  have := List.all_eq_true.mp (List.all_eq_true.mp h.2 e he) g hg
  rw [Bool.and_eq_true] at this
  exact ⟨of_decide_eq_true this.1, of_decide_eq_true this.2⟩
def caseB (c : Case) : Bool := gokB c.1 && decide (c.1.length ≤ 6) && ((List.range c.1.length).all fun i : Nat => okC c.1 (i : Int)) && decide (domsC c.1 c.2.1 = c.2.2)
theorem cases_ok : ((cases1 ++ cases2).all caseB) = true := by decide +kernel
structure CaseOk (c : Case) : Prop where
  ok : Gok c.1
  few : c.1.length ≤ 6
  due : domsI c.1 c.2.1 = c.2.2
theorem case_ok {c : Case} (h : c ∈ cases1 ++ cases2) : CaseOk c := by
  have := List.all_eq_true.mp cases_ok c h
  unfold caseB at this
  rw [Bool.and_eq_true, Bool.and_eq_true, Bool.and_eq_true] at this
  exact ⟨gokB_ok this.1.1.1, of_decide_eq_true this.1.1.2, (domsC_eq this.1.2).trans (of_decide_eq_true this.2)⟩
/-- graphs as data fit -/
theorem endD_fit {es : List Ge} (g : Gok es) {e : Ge} (he : e ∈ es) : Fit 100 60 1 1013 (endD e) := by
  have r := g.rng e he
  have few := g.few
  have fs : ∀ z : Str, z ∈ [("go" : Str), "if", "i", "back"] → Fit 100 60 0 250 (.str z) := fun z hz => by
    simp only [List.mem_cons, List.not_mem_nil, or_false] at hz
    rcases hz with rfl | rfl | rfl | rfl <;> exact ⟨by decide +kernel, rfl, by simp [PyData.depth], by decide +kernel⟩
  cases e with
  | go a =>
    have ra := r a (by simp [allG])
    exact (Fit.all (ds := [.str "go", .int a]) (l := 60) (k := 4) (fun d hd => by
      simp only [List.mem_cons, List.not_mem_nil, or_false] at hd
      rcases hd with rfl | rfl
      · exact fs _ (by simp)
      · exact fit_int ra.1 (by omega)) (by show 2 ≤ 4; decide) (by decide))
  | iff a b =>
    have ra := r a (by simp [allG])
    have rb := r b (by simp [allG])
    exact (Fit.all (ds := [.str "if", .str "i", .int a, .int b]) (l := 60) (k := 4) (fun d hd => by
      simp only [List.mem_cons, List.not_mem_nil, or_false] at hd
      rcases hd with rfl | rfl | rfl | rfl
      · exact fs _ (by simp)
      · exact fs _ (by simp)
      · exact fit_int ra.1 (by omega)
      · exact fit_int rb.1 (by omega)) (by show 4 ≤ 4; decide) (by decide))
  | back =>
    exact (Fit.all (ds := [.str "back"]) (l := 60) (k := 4) (fun d hd => by
      simp only [List.mem_cons, List.not_mem_nil, or_false] at hd
      rcases hd with rfl
      exact fs _ (by simp)) (by show 1 ≤ 4; decide) (by decide))
theorem blkD_fit {es : List Ge} (g : Gok es) {e : Ge} (he : e ∈ es) : Fit 100 60 2 2035 (blkD e) :=
  Fit.all (ds := [.tuple [], endD e]) (l := 60) (n := 1) (B := 1013) (k := 2) (fun d hd => by
    simp only [List.mem_cons, List.not_mem_nil, or_false] at hd
    rcases hd with rfl | rfl
    · exact (Fit.all (ds := []) (n := 0) (B := 250) (k := 0) (fun _ h => by cases h) (Nat.le_refl _) (by decide)).mono (Nat.le_refl _) (Nat.le_refl _) (by decide) (by decide)
    · exact endD_fit g he) (by show 2 ≤ 2; decide) (by decide)
theorem codeD_fit {es : List Ge} (g : Gok es) : Fit 100 60 6 488941 (codeD [("main", es)]) := by
  have h1 : Fit 100 60 3 122225 (.tuple (es.map blkD)) := Fit.all (k := 60) (fun d hd => by
    obtain ⟨e, he, rfl⟩ := List.mem_map.mp hd
    exact blkD_fit g he) (by rw [List.length_map]; exact g.few) (Nat.le_refl _)
  have fs : ∀ z : Str, z ∈ [("main" : Str), "a"] → Fit 100 60 0 250 (.str z) := fun z hz => by
    simp only [List.mem_cons, List.not_mem_nil, or_false] at hz
    rcases hz with rfl | rfl <;> exact ⟨by decide +kernel, rfl, by simp [PyData.depth], by decide +kernel⟩
  have h2 : Fit 100 60 4 (122227 * 2 + 5) (rtD ("main", es)) := Fit.all (ds := [.str "main", .tuple (es.map blkD)]) (l := 60) (k := 2) (fun d hd => by
    simp only [List.mem_cons, List.not_mem_nil, or_false] at hd
    rcases hd with rfl | rfl
    · exact (fs _ (by simp)).mono (Nat.le_refl _) (Nat.le_refl _) (by decide) (by decide)
    · exact h1) (by show 2 ≤ 2; decide) (by decide)
  have h3 : Fit 100 60 5 244466 (.tuple [rtD ("main", es)]) := Fit.all (ds := [rtD ("main", es)]) (l := 60) (k := 1) (fun d hd => by
    simp only [List.mem_cons, List.not_mem_nil, or_false] at hd
    rcases hd with rfl
    exact h2) (by show 1 ≤ 1; decide) (by decide)
  have h5 : Fit 100 60 1 509 (.tuple [.str "a", .int 1]) := Fit.all (ds := [.str "a", .int 1]) (l := 60) (n := 0) (B := 250) (k := 2) (fun d hd => by
      simp only [List.mem_cons, List.not_mem_nil, or_false] at hd
      rcases hd with rfl | rfl
      · exact fs _ (by simp)
      · exact fit_int (by decide) (by decide)) (by show 2 ≤ 2; decide) (by decide)
  have h4 : Fit 100 60 2 516 objD := Fit.all (ds := [.tuple [.str "a", .int 1]]) (l := 60) (k := 1) (fun d hd => by
    simp only [List.mem_cons, List.not_mem_nil, or_false] at hd
    rcases hd with rfl
    exact h5) (by show 1 ≤ 1; decide) (by decide)
  exact Fit.all (ds := [objD, .tuple [rtD ("main", es)]]) (l := 60) (n := 5) (B := 244466) (k := 2) (fun d hd => by
    simp only [List.mem_cons, List.not_mem_nil, or_false] at hd
    rcases hd with rfl | rfl
    · exact h4.mono (Nat.le_refl _) (Nat.le_refl _) (by decide) (by decide)
    · exact h3) (by show 2 ≤ 2; decide) (by decide)
end Sw
set_option maxRecDepth 100000
set_option maxHeartbeats 4000000
namespace Sw
open PySem PySem.Spec PyProof.Rows L2
/-- f(e), f's promise kept where no repr is under way -/
theorem pe_callG {X : Cx} {k : Nat} {f : Addr} {fd : FuncData} {ps : List Str} {sp : Sp} {x : Str} {p pos : Pos} {e : Expr} {es : List Expr} {t : TA} {E : XK} (hG : X.A.guards = some []) (F : FnG X.prog X.w X.K X.mg X.base k f fd ps sp) (hr : Room k X.A) (hg : Gl X x) (hm : X.mg x = some (.ref f)) (hk : PySem.W.keepIn X.K (.ref f) = true) (hb : Binds X.K fd ps []) (hx : Passes CX0 X E)
    (ha : PA X (e :: es) t) (hdb : (x == ("__debug__" : Str)) = false := by decide) (he : starEach (e :: es) X.env = (false, eval e X.env) :: starEach es X.env := by rfl) (hpl : (backTo pos (starEach es X.env)).any (·.1) = false := by rfl) :
    PE X (.Call (.Name x p) (e :: es) [] pos) (tCall sp [] E t) := by
  refine ⟨fun pins s σ H Q I h => ?_⟩
  refine wpAny_Call_Name_kw (ld_glob I hg hm ?_ hdb)
  refine PySem.W.callWith_K (h₀ := X.base) I.ok.mod.kin hk (thn (ha.run pos pins s σ H _ I h) fun us s1 ⟨vs, H1, I1, r, q⟩ => ⟨I1.kIn, ?_⟩) he hpl
  have r2 : Vals (vs ++ []) (us ++ []) := r.append .nil
  have hl : (us ++ []).length = ps.length := by rw [← r2.length]; exact F.size _ _ _ _ q
  refine wpAny_call (codeAny_mono (F.goes X.A X.stack s1 H1 ⟨us, []⟩ (us ++ []) (vs ++ []) Q E hG hr I1.env0 (hb s1 us I1.kIn hl) r2 q) fun r s' hq => ?_)
  cases r with
  | error e => exact hx pins σ H1 s1 e s' I1 hq
  | ok fl =>
    cases fl with
    | ret u => exact I1.after hq
    | next => exact False.elim hq
    | brk => exact False.elim hq
    | cont => exact False.elim hq
theorem eqv_same {d : PyData} (h : SeqAt.shaped d = true) : PyData.eqv d d = true := by
  unfold SeqAt.shaped at h
  rw [Bool.and_eq_true] at h
  exact SeqAt.eqv_refl d h.1
theorem DpAll_bls {K : PySem.W.Frag} {H : Hp} : ∀ bs : List Bool, DpAll K H (bs.map V.bl) (bs.map PyData.bool)
  | [] => .nil
  | b :: bs => .cons (.bl b) (DpAll_bls bs)
theorem bools_repr {bs : List Bool} (hl : bs.length ≤ 60) : (PyData.list (bs.map PyData.bool)).showable = true ∧ (PyData.list (bs.map PyData.bool)).hasDict = false ∧ (PyData.list (bs.map PyData.bool)).depth ≤ 60 ∧ (PyData.list (bs.map PyData.bool)).shown.length ≤ sizeLine := by
  refine repr_ok (M := 0) (l := 60) (n := 1) (B := 1000) ⟨?_, ?_, ?_, ?_⟩ (by decide) (by decide) (by decide)
  · simp only [leaf]
    exact leafAll_iff.mpr fun d hd => by obtain ⟨b, _, rfl⟩ := List.mem_map.mp hd; rfl
  · simp only [lens, Bool.and_eq_true, decide_eq_true_eq]
    exact ⟨by rw [List.length_map]; exact hl, lensAll_iff.mpr fun d hd => by obtain ⟨b, _, rfl⟩ := List.mem_map.mp hd; rfl⟩
  · exact depth_list.mpr fun d hd => by obtain ⟨b, _, rfl⟩ := List.mem_map.mp hd; simp [PyData.depth]
  · have := wtAll_le (B := 5) (ds := bs.map PyData.bool) fun d hd => by obtain ⟨b, _, rfl⟩ := List.mem_map.mp hd; exact Nat.le_refl _
    rw [List.length_map] at this
    simp only [wt]
    omega
section
variable {P : Program} {w : World} {K : PySem.W.Frag} {mg : Str → Option Value} {base : Heap}
def spBeside (K : PySem.W.Frag) : Sp := fun vs H Q _ => ∃ (vc : V) (nm : Str) (es : List Ge) (rs : List (Str × List Ge)), vs = [vc] ∧ Dp K H vc (codeD ((nm, es) :: rs)) ∧ ∀ v H', Same H H' → Dp K H' v (codeD [("main", [.back]), ("sub", es)]) → Q v H'
abbrev N21 : List Str := ["_law_row", "_law_meet", "_law_ring", "_law_cases", "_law_ends", "_law_block", "_law_due", "_law_code", "_law_end", "_law_other", "_law_under", "_law_told", "_law_over_here"]
def spHand : Sp := fun vs H Q _ => vs = [] ∧ ∀ H', Same H H' → Q (.bl true) H'
end
end Sw
set_option maxRecDepth 100000
set_option maxHeartbeats 4000000
namespace Sw
open PySem PySem.Spec PyProof.Rows L2
/-- f(), f's promise kept where no repr is under way -/
theorem pe_callG0 {X : Cx} {k : Nat} {f : Addr} {fd : FuncData} {sp : Sp} {x : Str} {p pos : Pos} {E : XK} (hG : X.A.guards = some []) (F : FnG X.prog X.w X.K X.mg X.base k f fd [] sp) (hr : Room k X.A) (hg : Gl X x) (hm : X.mg x = some (.ref f)) (hk : PySem.W.keepIn X.K (.ref f) = true) (hb : Binds X.K fd [] []) (hx : Passes CX0 X E)
    (hdb : (x == ("__debug__" : Str)) = false := by decide) : PE X (.Call (.Name x p) [] [] pos) (tCall sp [] E tNil) := by
  refine ⟨fun pins s σ H Q I h => ?_⟩
  refine wpAny_Call_Name_kw (ld_glob I hg hm ?_ hdb)
  refine PySem.W.callWith_K0 I.kIn hk (wpAny_call (codeAny_mono (F.goes X.A X.stack s H ⟨[], []⟩ [] [] Q E hG hr I.env0 (hb s [] I.kIn rfl) .nil h) fun r s' hq => ?_))
  cases r with
  | error e => exact hx pins σ H s e s' I hq
  | ok fl =>
    cases fl with
    | ret u => exact I.after hq
    | next => exact False.elim hq
    | brk => exact False.elim hq
    | cont => exact False.elim hq
section
variable {P : Program} {w : World} {K : PySem.W.Frag} {mg : Str → Option Value} {base : Heap}
def spFeed (K : PySem.W.Frag) : Sp := fun vs H Q _ => ∃ (a : Addr) (ns : List Int), vs = [.ref a] ∧ SqL K H a (ns.map V.int) ∧ ns.length ≤ 63 ∧
  ∀ (p fq : Addr) (H' : Hp), Same H H' → H p = none → FeedAt H' p fq 0 → Q (.ref p) H'
theorem sc_feed : FnScope ["_law_script"] ["_law_script"] (defScope (topS 18)) := ⟨rfl, rfl, rfl, by decide +kernel, rfl, by decide +kernel, by decide +kernel⟩
theorem cut_ints (ns : List Int) (lo hi : Option Int) : ∃ ms : List Int, cutV (ns.map V.int) lo hi = ms.map V.int ∧ ms.length ≤ ns.length := by
  refine ⟨(ns.drop (HT.sIx ns.length 0 lo)).take (HT.sIx ns.length ns.length hi - HT.sIx ns.length 0 lo), ?_, ?_⟩
  · unfold cutV
    rw [List.length_map, List.map_take, List.map_drop]
  · rw [List.length_take, List.length_drop]
    omega
theorem ok_feed {f : Addr} {fd : FuncData} (D : Df K mg "_law_feed" (topS 18) ["_law_script"] f fd) : FnOk P w K mg base CX0 1 f fd ["_law_script"] (spFeed K) := by
  refine D.fn.ok sc_feed (fun vs H Q E h => ?_) (fun cdv A outer s H vs Q E hr h => ?_)
  · obtain ⟨a, ns, rfl, _⟩ := h
    rfl
  obtain ⟨a, ns, rfl, hS, hn, q⟩ := h
  refine ⟨_, pss_one (ps_ret (pe_lst (pa_cons (pe_slice sl_list (pv 0) po_none (po_some pe_int)) (pa_cons pe_int (pa_cons pe_int (pa_cons pe_int pa_nil)))))), ?_⟩
  obtain ⟨ms, e, hm⟩ := cut_ints ns none (some 63)
  refine ⟨_, rfl, 63, rfl, a, _, rfl, hS, fun c hc => ⟨by show 4 ≤ sizeLine; decide, fun p hp => ?_⟩⟩
  have s1 := same_new (o := .lst (cutV (ns.map V.int) none (some 63))) hc
  have s2 := same_new (o := .lst [.ref c, .int 0, .int 0, .int 0]) hp
  have hcp : c ≠ p := fun z => by rw [z] at hp; rw [upd_same] at hp; cases hp
  refine q p c _ (s1.trans s2) ?_ ⟨ms, 0, 0, 0, upd_same, ?_, Ne.symm hcp, by decide, by decide, by decide, by decide, by omega⟩
  · rw [upd_ne (Ne.symm hcp)] at hp
    exact hp
  · rw [upd_ne hcp, upd_same, e]
abbrev N22 : List Str := ["_law_script", "_law_feed_here", "_law_turn", "_law_code", "_law_kept"]
def spLaw (K : PySem.W.Frag) : Sp := fun vs H Q _ => ∃ (a : Addr) (ns : List Int), vs = [.ref a] ∧ SqL K H a (ns.map V.int) ∧ ns.length ≤ 63 ∧ ∀ H', Q (.bl true) H'
end
end Sw
set_option maxRecDepth 100000
set_option maxHeartbeats 4000000
namespace Sw
open PySem PySem.Spec PyProof.Rows L2
/-! ### ways without a block twice, the last one first -/
inductive RW (es : List Ge) : List Int → Prop
  | one : RW es [0]
  | cons {g b : Int} {w : List Int} : RW es (b :: w) → g ∈ arr es b → g ∉ (b :: w) → RW es (g :: b :: w)
theorem RW.nodup {es : List Ge} {r : List Int} (h : RW es r) : r.Nodup := by
  induction h with
  | one => simp
  | cons _ _ hn ih => exact List.nodup_cons.mpr ⟨hn, ih⟩
theorem RW.rng {es : List Ge} (g : Gok es) {r : List Int} (h : RW es r) : ∀ k ∈ r, 0 ≤ k ∧ k < (es.length : Int) := by
  induction h with
  | one => intro k hk; have : k = 0 := by simpa using hk
           have := g.pos; omega
  | cons _ ha _ ih =>
    intro k hk
    rcases List.mem_cons.mp hk with rfl | hk
    · exact arr_rng g ha
    · exact ih k hk
theorem RW.few {es : List Ge} (g : Gok es) {r : List Int} (h : RW es r) : r.length ≤ es.length := few_ints es.length h.nodup (h.rng g)
theorem RW.ne {es : List Ge} {r : List Int} (h : RW es r) : r ≠ [] := by cases h <;> simp
theorem RW.suffix {es : List Ge} {c : Int} {y : List Int} : ∀ {x : List Int}, RW es (x ++ c :: y) → RW es (c :: y)
  | [], h => h
  | g :: x, h => by
    cases hxc : x ++ c :: y with
    | nil => simp at hxc
    | cons b w =>
      rw [List.cons_append, hxc] at h
      cases h with
      | cons h1 _ _ => rw [← hxc] at h1; exact RW.suffix h1
/-- to go on along a way by a block from which one comes without ov -/
theorem rch_on {es : List Ge} {ov : Option Int} {c : Int} {y : List Int} (hc : Rch es ov c) : ∀ {x : List Int} {u : Int} {w : List Int}, RW es (x ++ c :: y) → x ++ c :: y = u :: w → (∀ k ∈ x, ov ≠ some k) → Rch es ov u
  | [], u, w, _, e, _ => by cases e; exact hc
  | g :: x, u, w, h, e, hx => by
    rw [List.cons_append] at e
    cases e
    cases hxc : x ++ c :: y with
    | nil => simp at hxc
    | cons b w =>
      rw [List.cons_append, hxc] at h
      cases h with
      | cons h1 ha hn =>
        rw [← hxc] at h1
        exact .step (rch_on hc h1 hxc fun k hk => hx k (List.mem_cons_of_mem _ hk)) ha (hx g List.mem_cons_self)
theorem rch_rw {es : List Ge} {ov : Option Int} {u : Int} (h : Rch es ov u) : ∃ w, RW es (u :: w) ∧ ∀ k ∈ u :: w, ov ≠ some k := by
  induction h with
  | zero h =>
    refine ⟨[], .one, fun k hk => ?_⟩
    have : k = 0 := by simpa using hk
    rw [this]
    exact h
  | @step a b _ hb ho ih =>
    obtain ⟨w, h1, h2⟩ := ih
    by_cases hm : b ∈ a :: w
    · obtain ⟨x, y, e⟩ := List.append_of_mem hm
      rw [e] at h1 h2
      exact ⟨y, h1.suffix, fun k hk => h2 k (List.mem_append_right _ hk)⟩
    · exact ⟨a :: w, .cons h1 hb hm, fun k hk => by
        rcases List.mem_cons.mp hk with rfl | hk
        · exact ho
        · exact h2 k hk⟩
theorem rw_rch {es : List Ge} {ov : Option Int} {r : List Int} (h : RW es r) : ∀ {u : Int} {w : List Int}, r = u :: w → (∀ k ∈ r, ov ≠ some k) → Rch es ov u := by
  induction h with
  | one => intro u w e hk; cases e; exact .zero (hk 0 (by simp))
  | @cons g b w' h1 ha hn ih =>
    intro u w e hk
    cases e
    exact .step (ih rfl fun k hk' => hk k (List.mem_cons_of_mem _ hk')) ha (hk _ List.mem_cons_self)
theorem rch_iff {es : List Ge} {ov : Option Int} {u : Int} : Rch es ov u ↔ ∃ w, RW es (u :: w) ∧ ∀ k ∈ u :: w, ov ≠ some k := ⟨rch_rw, fun ⟨_, h1, h2⟩ => rw_rch h1 rfl h2⟩
theorem Rch.free {es : List Ge} {ov : Option Int} {u : Int} (h : Rch es ov u) : Rch es none u := by
  induction h with
  | zero _ => exact .zero (by simp)
  | step _ hb _ ih => exact .step ih hb (by simp)
/-- one that dominates stands on each way -/
theorem dom_on {es : List Ge} {o u : Int} {w : List Int} (h : ¬ Rch es (some o) u) (hw : RW es (u :: w)) : o ∈ u :: w := Decidable.byContradiction fun hn => h (rw_rch hw rfl fun k hk e => hn (by cases Option.some.inj e; exact hk))
theorem two_in {a c : Int} (ne : a ≠ c) : ∀ {r : List Int}, r.Nodup → a ∈ r → c ∈ r → (∃ x y, r = x ++ a :: y ∧ c ∈ y) ∨ ∃ x y, r = x ++ c :: y ∧ a ∈ y
  | [], _, h, _ => by cases h
  | g :: r, nd, ha, hc => by
    rw [List.nodup_cons] at nd
    rcases List.mem_cons.mp ha with rfl | ha'
    · rcases List.mem_cons.mp hc with e | hc'
      · exact absurd e.symm ne
      · exact .inl ⟨[], r, rfl, hc'⟩
    · rcases List.mem_cons.mp hc with rfl | hc'
      · exact .inr ⟨[], r, rfl, ha'⟩
      · rcases two_in ne nd.2 ha' hc' with ⟨x, y, e, h⟩ | ⟨x, y, e, h⟩
        · exact .inl ⟨g :: x, y, by rw [e]; rfl, h⟩
        · exact .inr ⟨g :: x, y, by rw [e]; rfl, h⟩
theorem not_in_x {c : Int} {x y : List Int} {a : Int} (nd : (x ++ a :: y).Nodup) (h : c ∈ y) : c ∉ x := fun hx => by
  have := (List.nodup_append.mp nd).2.2 c hx c (List.mem_cons_of_mem _ h)
  exact this rfl
theorem dom_total {es : List Ge} {a c b : Int} (hb : Rch es none b) (ha : ¬ Rch es (some a) b) (hc : ¬ Rch es (some c) b) : ¬ Rch es (some a) c ∨ ¬ Rch es (some c) a := by
  by_cases e : a = c
  · subst e
    exact .inl fun h => h.ne rfl
  obtain ⟨w, hw, _⟩ := rch_rw hb
  rcases two_in e hw.nodup (dom_on ha hw) (dom_on hc hw) with ⟨x, y, ex, hy⟩ | ⟨x, y, ex, hy⟩
  · refine .inr fun h => hc ?_
    have nd := hw.nodup
    rw [ex] at hw nd
    exact rch_on h hw ex.symm fun k hk z => not_in_x nd hy (by cases Option.some.inj z; exact hk)
  · refine .inl fun h => ha ?_
    have nd := hw.nodup
    rw [ex] at hw nd
    exact rch_on h hw ex.symm fun k hk z => not_in_x nd hy (by cases Option.some.inj z; exact hk)
theorem dom_anti {es : List Ge} {a c b : Int} (ne : a ≠ c) (hb : Rch es none b) (ha : ¬ Rch es (some a) b) (hc : ¬ Rch es (some c) b) : Rch es (some a) c ∨ Rch es (some c) a := by
  obtain ⟨w, hw, _⟩ := rch_rw hb
  have far : ∀ {x y : List Int} {p q : Int}, RW es (x ++ p :: y) → q ∈ y → Rch es (some p) q := fun {x y p q} h hq => by
    have h1 := h.suffix
    have nd := h1.nodup
    rw [List.nodup_cons] at nd
    obtain ⟨y1, y2, ey⟩ := List.append_of_mem hq
    rw [ey] at h1 nd
    have h2 : RW es (q :: y2) := RW.suffix (x := p :: y1) h1
    exact rw_rch h2 rfl fun k hk z => nd.1 (by cases Option.some.inj z; exact List.mem_append_right _ hk)
  rcases two_in ne hw.nodup (dom_on ha hw) (dom_on hc hw) with ⟨x, y, ex, hy⟩ | ⟨x, y, ex, hy⟩
  · rw [ex] at hw
    exact .inl (far hw hy)
  · rw [ex] at hw
    exact .inr (far hw hy)
theorem dom_trans {es : List Ge} {o a b : Int} (h1 : ¬ Rch es (some o) a) (h2 : ¬ Rch es (some a) b) : ¬ Rch es (some o) b := fun h => by
  obtain ⟨w, hw, hk⟩ := rch_rw h
  have ha := dom_on h2 hw
  obtain ⟨x, y, e⟩ := List.append_of_mem ha
  rw [e] at hw hk
  exact h1 (rw_rch hw.suffix rfl fun k hk' => hk k (List.mem_append_right _ hk'))
end Sw
set_option maxRecDepth 100000
set_option maxHeartbeats 4000000
namespace Sw
open PySem PySem.Spec PyProof.Rows L2
section
variable {P : Program} {w : World} {A : Around} {E : Value → Shared → Prop} {s : Shared}
theorem call_set_intsL {l : Addr} {items : Array Value} (xs : List Int) {Q : Value → Shared → Prop} (hh : A.handled = none) (hl : s.heap.IsList l items) (hit : IntsAre items.toList xs) (few : xs.length + 1 < scanBound)
    (h : ∀ (h' : Heap) (tk c : Nat), SetR w h' s.heap.objs.size (fun j => decide (j ∈ xs)) c → (∀ b o, s.heap.get? b = some o → h'.get? b = some o) → Q (.ref s.heap.objs.size) { s with heap := h', toks := tk }) :
    wpAny (model P w) A (call (.type "set") [.ref l]) Q E s := by
  have isz : items.size = xs.length := by have := hit.length; simpa using this
  obtain ⟨c, tl, hmro⟩ := F.called_set.mro
  have hmade := F.called_set.made
  have hsub := F.called_set.sub
  refine wpAny_call (codeAny_of_tree ?_)
  show wpAny _ _ (callAny (.type "set") _) _ _ _
  refine wpAny_pure ⟨Code.quiet_builtin _ (by decide +kernel), codeAny_builtin F.entry_type_call ?_⟩
  rw [Around.under_plain (weight_type_call_type "set" [.ref l] []) rfl]
  have h1 := F.called_set.notType
  have h2 := F.called_set.canCreate
  have hct := F.typeCall_set_1 (.ref l)
  repeat (any_goals (first | assumption | wp_step))
  refine codeAny_mono (code_set_led1 (.ref l) (E := E) (Q₁ := fun obj s1 => obj = .ref s.heap.objs.size ∧ s1 = { s with heap := s.heap.push (newSetO w) }) ⟨rfl, rfl⟩) ?_
  intro r s1 hr
  cases r with
  | error e => exact hr
  | ok fl =>
    cases fl with
    | ret obj =>
      obtain ⟨rfl, rfl⟩ := hr
      have hS : (s.heap.push (newSetO w)).get? s.heap.objs.size = some (newSetO w) := Heap.get?_push_size _ rfl
      have hT : Shared.TypeIs { s with heap := s.heap.push (newSetO w) } (.ref s.heap.objs.size) "set" := ⟨_, hS, rfl⟩
      have hli := F.called_set.init.lookup
      have hbi := F.called_set.init.bind (.ref s.heap.objs.size)
      repeat (any_goals (first | assumption | wp_step))
      refine codeAny_mono (codeAny_call_builtin (R := wants (fun r s2 => r = .none ∧ ∃ h' tk c, s2 = { s with heap := h', toks := tk } ∧ SetR w h' s.heap.objs.size (fun j => decide (j ∈ xs)) c ∧
          (∀ b o, s.heap.get? b = some o → h'.get? b = some o)) E) F.called_set.init.plain F.entry_set_init (check_set_init_1 hT ?_)) ?_
      · obtain ⟨ol, hol, hcl, nl, hdl⟩ := hl
        obtain ⟨ocls, odict, odata, oslots⟩ := ol
        simp only at hcl hdl
        subst hcl
        subst hdl
        have hol' : (s.heap.push (newSetO w)).get? l = some { cls := .type "list", dict := odict, data := .seq items nl, slots := oslots } := Heap.get?_push_of_some _ hol
        have hsls := F.sub_list_set
        have hslf := F.sub_list_frozenset
        have hne : (Value.type "list" == Value.type "dict") = false := by decide
        have hl1 : (s.heap.push (newSetO w)).IsList l items := ⟨_, hol', rfl, nl, rfl⟩
        unfold Builtin.«set.__init__» noKeywords Builtin.Frozenset.updateFrom
        generalize hPI : pyIter = PI
        wp_walk
        subst hPI
        refine wpAny_pyIter_list hl1 (wpAny_bind (wpAny_runValue ?_))
        have hlS : l < s.heap.objs.size := Heap.lt_size hol
        have zp : (s.heap.push (newSetO w)).objs.size = s.heap.objs.size + 1 := Heap.size_push ..
        have neI : l ≠ (s.heap.push (newSetO w)).objs.size := by rw [zp]; exact Nat.ne_of_lt (Nat.lt_succ_of_lt hlS)
        have nS : s.heap.objs.size ∉ [(s.heap.push (newSetO w)).objs.size, l] := by
          rw [zp]
          simp only [List.mem_cons, List.not_mem_nil, or_false, not_or]
          exact ⟨Nat.ne_of_lt (Nat.lt_succ_self _), Nat.ne_of_gt hlS⟩
        have hval : ∀ (i : Nat) (v : Value), items[i]? = some v → ∃ k t, xs[i]? = some k ∧ v = .int k t := fun i v hv => by
          have hi : i < xs.length := by rw [← isz]; exact (Array.getElem?_eq_some_iff.mp hv).1
          obtain ⟨t, e⟩ := IntsAre.int_at hit i v (by rw [Array.getElem?_toList]; exact hv)
          refine ⟨xs[i], t, List.getElem?_eq_getElem hi, ?_⟩
          rw [e, List.getD_eq_getElem?_getD, List.getElem?_eq_getElem hi] <;> rfl
        refine set_update_ints ((Walks.list (by simp [hh]) _ l neI items).toS) s.heap.objs.size nS xs isz few hval (items.size - 0) 0 _ (by omega) (Nat.zero_le _)
          ⟨⟨_, Heap.get?_push_size _ rfl, rfl, rfl⟩, (hl1.push _)⟩ ⟨0, Nat.le_refl 0, setR_new_at (Heap.get?_push_of_some _ hS)⟩ ?_
        intro s' c hm hc' hS'
        obtain ⟨h', g2, d', tk', os'⟩ := s'
        have eg : g2 = s.gens := hm.gens
        have ed : d' = s.drawn := hm.drawn
        have eo : os' = s.os := hm.os
        subst eg ed eo
        show wpAny _ _ _ _ _ _
        refine wpAny_pure ?_
        show wpAny _ _ (ret Value.none) _ _ _
        refine wpAny_pure ⟨rfl, h', tk', c, rfl, hS', fun c o e => ?_⟩
        have lc : c < s.heap.objs.size := Heap.lt_size e
        refine hm.heap c o ?_ (Heap.get?_push_of_some _ (Heap.get?_push_of_some _ e))
        simp only [List.mem_cons, List.not_mem_nil, or_false, not_or]
        refine ⟨Nat.ne_of_lt lc, ?_⟩
        rw [zp]
        exact Nat.ne_of_lt (Nat.lt_succ_of_lt lc)
      · intro r2 s2 hr2
        cases r2 with
        | error e => exact hr2
        | ok fl2 =>
          cases fl2 with
          | ret r =>
            obtain ⟨rfl, h', tk, c, rfl, hS', hk'⟩ := hr2
            repeat (any_goals (first | assumption | wp_step))
            exact h _ _ _ hS' hk'
          | _ => exact hr2.elim
    | _ => exact hr.elim
end
end Sw
set_option maxRecDepth 100000
set_option maxHeartbeats 4000000
namespace Sw
open PySem PySem.Spec PyProof.Rows L2
section
variable {X : Cx}
/-- set(xs) of a list of numbers -/
def rSetIL (K : PySem.W.Frag) (w : World) : List V → Hp → VK → Prop := fun vs H Q => ∃ (l : Addr) (ns : List Int), vs = [.ref l] ∧ SqL K H l (ns.map V.int) ∧ ns.length ≤ 1000 ∧
  ∀ a c, H a = none → (∀ m : Nat, (∀ k ∈ ns, 0 ≤ k ∧ k < (m : Int)) → c ≤ m) → Q (.ref a) (upd H a (SetO w a (fun j => decide (j ∈ ns)) c))
theorem setR_few {w : World} {h : Heap} {a : Addr} {ns : List Int} {c : Nat} (R : SetR w h a (fun j => decide (j ∈ ns)) c) (m : Nat) (hm : ∀ k ∈ ns, 0 ≤ k ∧ k < (m : Int)) : c ≤ m := by
  obtain ⟨o, es, ep, t, ho, ex, hd, good, nd, iff, _, _, hc, _⟩ := R
  have := few_ints m nd fun x hx => hm x (of_decide_eq_true ((iff x).mpr hx))
  rw [List.length_map, Array.length_toList, hc] at this
  exact this
theorem cr_setIL (hc : X.calm = true) : CallR X (.type "set") (rSetIL X.K X.w) := by
  intro pins s σ H vs us Q I r h
  obtain ⟨l, ns, rfl, hl, hn, q⟩ := h
  obtain ⟨its, rv, hp, _⟩ := I.list hl
  rw [Vals.ref1 r]
  refine call_set_intsL ns (I.ok.hd hc) hp.isList (by simpa using rv.ints) (by unfold scanBound; omega) ?_
  intro h' tk c hS k
  exact ⟨.ref s.heap.objs.size, _, I.laid (t' := tk) (o := SetO X.w s.heap.objs.size (fun j => decide (j ∈ ns)) c) k (Nat.le_refl _) (setO_new hS), rfl, q _ c (I.hok.fresh (Nat.le_refl _)) (setR_few hS)⟩
end
theorem rising_of {ns : List Int} (h1 : ns.Pairwise (· ≤ ·)) (h2 : ns.Nodup) : ns.Pairwise (· < ·) := by
  have := h1.and h2
  exact this.imp fun h => by have := h.1; have := h.2; omega
section
variable {P : Program} {w : World} {K : PySem.W.Frag} {mg : Str → Option Value} {base : Heap}
def spReached (K : PySem.W.Frag) : Sp := fun vs H Q _ => ∃ (vc : V) (nm : Str) (es : List Ge), vs = [vc, .str nm] ∧ CodeOf K H vc nm es ∧ ∀ (t : Addr) (H' : Hp) (ns : List Int), Same H H' → H' t = some (.tup (ns.map V.int)) → ns.Pairwise (· < ·) → (∀ k, k ∈ ns ↔ Rch es none k) → Q (.ref t) H'
theorem sc_reached : FnScope ["code", "name"] ["code", "name"] (defScope (topS 10)) := ⟨rfl, rfl, rfl, by decide +kernel, rfl, by decide +kernel, by decide +kernel⟩
theorem ok_reached {f f1 : Addr} {fd fd1 : FuncData} (D : Df K mg "reached" (topS 10) ["code", "name"] f fd) (D1 : Df K mg "led_around" (topS 9) ["code", "name", "over"] f1 fd1) (B : Bt mg)
    (G1 : FnOk P w K mg base CX0 3 f1 fd1 ["code", "name", "over"] (spLed K)) : FnOk P w K mg base CX0 4 f fd ["code", "name"] (spReached K) := by
  refine D.fn.ok sc_reached (fun vs H Q E h => ?_) (fun cdv A outer s H vs Q E hr h => ?_)
  · obtain ⟨vc, nm, es, rfl, _⟩ := h
    rfl
  obtain ⟨vc, nm, es, rfl, hc, q⟩ := h
  refine ⟨_, pss_one (ps_ret (pe_callTy call_tuple_of (by rfl) B.tuple (by decide +kernel) (pa_cons (pe_callB (call_sortedDI rfl) (by rfl) B.sorted (by decide +kernel) (pa_cons (pe_call G1 hr (by rfl) D1.gl D1.fn.kp D1.bd .nil pass0 (pa_cons (pv 0) (pa_cons (pv 1) (pa_cons pe_non pa_nil)))) pa_nil)) pa_nil))), ?_⟩
  refine ⟨_, rfl, _, rfl, vc, nm, none, es, rfl, hc, fun d H1 L s1 _ hd ok => ?_⟩
  have few := hc.ok.few
  have fl := ok.few
  refine ⟨d, _, L.map (·.1), rfl, .inl hd, dkv_keys L, by rw [List.length_map]; omega, fun ys p perm ris hp => ?_⟩
  refine ⟨p, _, rfl, .inl ⟨SqL.of upd_same, fun t ht => ?_⟩⟩
  exact q t _ ys (s1.trans ((same_new hp).trans (same_new ht))) upd_same (rising_of ris (perm.nodup_iff.mpr ok.nd)) fun k => perm.mem_iff.trans (ok.iff k)
end
end Sw
set_option maxRecDepth 100000
set_option maxHeartbeats 4000000
namespace Sw
open PySem PySem.Spec PyProof.Rows L2
noncomputable def sdoms (es : List Ge) (b : Int) : List Int := (domsI es b).filter fun o => decide (o ≠ b)
noncomputable def nearI (es : List Ge) (b : Int) : Option Int := @ite _ (Rch es none b) (Classical.propDecidable _) ((sdoms es b).find? fun one => (sdoms es b).all fun other => domB es other one) none
theorem nearI_of {es : List Ge} {b : Int} (h : Rch es none b) : nearI es b = (sdoms es b).find? fun one => (sdoms es b).all fun other => domB es other one := by
  unfold nearI
  exact @if_pos _ (Classical.propDecidable _) h _ _ _
theorem nearI_not {es : List Ge} {b : Int} (h : ¬ Rch es none b) : nearI es b = none := by
  unfold nearI
  exact @if_neg _ (Classical.propDecidable _) h _ _ _
theorem domsI_rising (es : List Ge) (b : Int) : (domsI es b).Pairwise (· < ·) := by
  unfold domsI
  rw [List.pairwise_map]
  exact (List.Pairwise.filter _ List.pairwise_lt_range).imp fun h => by omega
theorem domsI_nodup (es : List Ge) (b : Int) : (domsI es b).Nodup := (domsI_rising es b).imp fun h => by omega
theorem range_getD2 {α β : Type} (g : α → β) (d : α) : ∀ xs : List α, ((List.range xs.length).map fun i => g (xs.getD i d)) = xs.map g := by
  intro xs
  apply List.ext_getElem
  · simp
  · intro i h1 h2
    simp at h1
    simp [List.getD_eq_getElem?_getD, h1]
/-- a dict of dicts -/
def akv (L : List (Int × Addr)) : List (Key × V) := L.map fun p => (Sum.inl p.1, V.ref p.2)
theorem akv_has (L : List (Int × Addr)) (k : Int) : (valV (akv L) (Sum.inl k)).isSome = decide (k ∈ L.map (·.1)) := by
  induction L with
  | nil => rfl
  | cons p L ih =>
    have e : akv (p :: L) = (Sum.inl p.1, V.ref p.2) :: akv L := rfl
    rw [e]
    by_cases h : p.1 = k
    · rw [valV_pos (show ((Sum.inl p.1, V.ref p.2) : Key × V).1 = Sum.inl k by rw [h])]
      simp [h]
    · rw [valV_neg (show ¬ ((Sum.inl p.1, V.ref p.2) : Key × V).1 = Sum.inl k from fun z => h (by injection z)), ih]
      have h' : ¬ k = p.1 := fun z => h z.symm
      simp [h']
theorem akv_put {L : List (Int × Addr)} {g : Int} {a : Addr} (h : g ∉ L.map (·.1)) : putK (akv L) (Sum.inl g) (.ref a) = akv (L ++ [(g, a)]) := by
  unfold putK
  have : ((akv L).any fun kv => decide (kv.1 = Sum.inl g)) = false := by
    rw [valV_any, akv_has]
    simpa using h
  rw [this, if_neg (by simp)]
  unfold akv
  rw [List.map_append]
  rfl
theorem akv_get : ∀ {L : List (Int × Addr)} {k : Int}, k ∈ L.map (·.1) → ∃ a, (k, a) ∈ L ∧ valV (akv L) (Sum.inl k) = some (.ref a)
  | [], k, h => by cases h
  | p :: L, k, h => by
    have e : akv (p :: L) = (Sum.inl p.1, V.ref p.2) :: akv L := rfl
    by_cases hp : p.1 = k
    · exact ⟨p.2, by rw [← hp]; exact List.mem_cons_self, by rw [e, valV_pos (show ((Sum.inl p.1, V.ref p.2) : Key × V).1 = Sum.inl k by rw [hp])]⟩
    · rw [List.map_cons] at h
      rcases List.mem_cons.mp h with z | z
      · exact absurd z.symm hp
      · obtain ⟨a, h1, h2⟩ := akv_get z
        exact ⟨a, List.mem_cons_of_mem _ h1, by rw [e, valV_neg (show ¬ ((Sum.inl p.1, V.ref p.2) : Key × V).1 = Sum.inl k from fun z => hp (by injection z))]; exact h2⟩
theorem walk_keys {d : Addr} {o : Obj} {kvs : List (Key × V)} {ks : List Int} (hk : kvs.map (·.1) = ks.map Sum.inl) : Walk (Itk d o kvs) kvs.length (fun H => H d = some (.frz o (.dK kvs))) (YAt (ks.map V.int)) := by
  refine ⟨fun i H hi q => ⟨q, hi⟩, fun H q => ⟨q, Nat.le_refl _⟩, fun i H x H' hi q y => ?_⟩
  obtain ⟨rfl, k, v, e, rfl⟩ := y
  refine ⟨rfl, ?_⟩
  have h1 : (kvs.map (·.1))[i]? = some k := by rw [List.getElem?_map, e]; rfl
  rw [hk, List.getElem?_map] at h1
  obtain ⟨n, hn, rfl⟩ := Option.map_eq_some_iff.mp h1
  rw [List.getElem?_map, hn]
  rfl
section
variable {P : Program} {w : World} {K : PySem.W.Frag} {mg : Str → Option Value} {base : Heap}
abbrev NN : List Str := ["code", "name", "block", "around", "over", "one", "other"]
def spNear (K : PySem.W.Frag) : Sp := fun vs H Q _ => ∃ (vc : V) (nm : Str) (b : Int) (es : List Ge), vs = [vc, .str nm, .int b] ∧ CodeOf K H vc nm es ∧ ∀ H', Same H H' → Q (optV (nearI es b)) H'
theorem sc_near : FnScope NN ["code", "name", "block"] (defScope (topS 14)) := ⟨rfl, rfl, rfl, by decide +kernel, rfl, by decide +kernel, by decide +kernel⟩
theorem ok_near {f f1 f2 f3 : Addr} {fd fd1 fd2 fd3 : FuncData} (D : Df K mg "nearest" (topS 14) ["code", "name", "block"] f fd) (D1 : Df K mg "reached" (topS 10) ["code", "name"] f1 fd1) (D2 : Df K mg "dominators" (topS 13) ["code", "name", "block"] f2 fd2) (D3 : Df K mg "led_around" (topS 9) ["code", "name", "over"] f3 fd3) (B : Bt mg)
    (G1 : FnOk P w K mg base CX0 4 f1 fd1 ["code", "name"] (spReached K)) (G2 : FnOk P w K mg base CX0 5 f2 fd2 ["code", "name", "block"] (spDoms K)) (G3 : FnOk P w K mg base CX0 3 f3 fd3 ["code", "name", "over"] (spLed K)) : FnOk P w K mg base CX0 6 f fd ["code", "name", "block"] (spNear K) := by
  refine D.fn.ok sc_near (fun vs H Q E h => ?_) (fun cdv A outer s H vs Q E hr h => ?_)
  · obtain ⟨vc, nm, b, es, rfl, _⟩ := h
    rfl
  obtain ⟨vc, nm, b, es, rfl, hc, q⟩ := h
  have nd := sc_near.nd
  have hu := hr.units
  have hu1 := Nat.lt_of_le_of_lt (Nat.add_le_add_left (by decide : 1 ≤ 64) _) hu
  refine ⟨_, (pss_cons (ps_if (pt_cmpR (r := rIn K true) op_notIn_seq (pv 2) (pe_call G1 (hr.mono (by decide)) (by rfl) D1.gl D1.fn.kp D1.bd .nil pass0 (pa_cons (pv 0) (pa_cons (pv 1) pa_nil))) (by with_unfolding_all rfl)) (pss_one (ps_ret pe_non)) pss_nil)
    (pss_cons (ps_set (i := 3) nd rfl (Or.inr rfl) (pe_dc (own := [("over", 4)]) (g := gName 4) (tt := tTest (tOp rNe (tVar 4) (tVar 2))) (tk := tVar 4) (tv := tCall (spLed K) [] E0 (tCons (tVar 0) (tCons (tVar 1) (tCons (tVar 4) tNil)))) rfl nd (pi_tup (pe_call G2 hr (by rfl) D2.gl D2.fn.kp D2.bd .nil pass0 (pa_cons (pv 0) (pa_cons (pv 1) (pa_cons (pv 2) pa_nil))))) (blkOk_by (N := NN) (sc := defScope (topS 14)) (by decide +kernel)) (fun _ _ _ _ _ => pg_name (i := 4) nd rfl (Or.inl rfl)) (fun _ _ _ _ _ => pts_one (pt_cmpR op_ne (pv 4) (pv 2) (nomark _))) (fun _ _ _ _ _ => pv 4) (fun _ _ _ _ _ => (pe_call G3 (hr.mono (by decide)) (by rfl) D3.gl D3.fn.kp D3.bd .nil pass0 (pa_cons (pv 0) (pa_cons (pv 1) (pa_cons (pv 4) pa_nil)))))))
    (pss_cons (ps_lock (ps_for PassesOwn.never rfl (pi_keys (pv 3)) (pg_name (i := 5) nd rfl (Or.inr rfl))
    (pss_one (ps_if (pt_val (pe_callB (cr_all rfl) (by rfl) B.all (by decide +kernel) (pa_cons (pe_lc (own := [("other", 6)]) (g := gName 6) (tt := tYes) rfl nd (pi_keys (pv 3)) (blkOk_by (N := NN) (sc := defScope (topS 14)) (by decide +kernel)) (fun _ _ _ _ _ => pg_name (i := 6) nd rfl (Or.inl rfl)) (fun _ _ _ _ _ => pts_nil) (fun _ _ _ _ _ => (pe_cmp (pc_dnotin hu1 (pv 5) (pe_dget hu1 (pv 3) (pv 6) (fun _ _ => rfl)))))) pa_nil))) (pss_one (ps_ret (pv 5))) pss_nil))))
    (pss_one (ps_ret pe_non))))), ?_⟩
  have few := hc.ok.few
  refine ⟨_, rfl, _, rfl, _, rfl, vc, nm, es, rfl, hc, fun t H1 ms s1 ht _ hms => ?_⟩
  refine ⟨t, _, rfl, .inr (SqT.of ht), rfl, flat_ints _, _, rfl, ?_⟩
  rw [if_pos rfl, inV_ints]
  refine ite2 (fun c => ?_) (fun c => ?_)
  · have c' : b ∉ ms := by simpa using c
    have e := nearI_not (es := es) (b := b) fun h => c' ((hms b).mpr h)
    have q' := q H1 s1
    rw [e] at q'
    exact q'
  have c' : b ∈ ms := by simpa using c
  have hrb := (hms b).mp c'
  have en := nearI_of hrb
  refine ⟨_, rfl, _, rfl, _, rfl, vc, nm, b, es, rfl, hc.same s1, fun t2 H2 s2 ht2 => ?_⟩
  have s02 := s1.trans s2
  have dl := domsI_len es b
  refine ⟨t2, rfl, ⟨_, SqT.of ht2⟩, fun Dd hDd => dc_tup (K := K) (a := t2) (xs := (domsI es b).map V.int) (fun i H' => ∃ L : List (Int × Addr), Same H2 H' ∧ H' Dd = some (.dK (akv L)) ∧ L.map (·.1) = ((domsI es b).take i).filter (fun o => decide (o ≠ b)) ∧ ∀ p ∈ L, p.2 ≠ Dd ∧ ∃ l, H' p.2 = some (.dK (dkv l)) ∧ LedOk es (some p.1) l)
    ⟨[], same_new hDd, upd_same, rfl, fun p h => absurd h List.not_mem_nil⟩ (fun i H' _ h => by obtain ⟨_, s', _⟩ := h; exact SqT.of (s' _ _ ht2)) ?_ ?_⟩
  · rintro i x H3 hx ⟨L, s3, d3, hk3, hp3⟩
    rw [List.getElem?_map] at hx
    obtain ⟨k, hk, rfl⟩ := Option.map_eq_some_iff.mp hx
    obtain ⟨hi, hki⟩ := List.getElem?_eq_some_iff.mp hk
    have etk : (domsI es b).take (i + 1) = (domsI es b).take i ++ [k] := by rw [List.take_succ, hk]; rfl
    have hknew : k ∉ (domsI es b).take i := fun hm => by
      obtain ⟨j, hj, hjk⟩ := List.getElem_of_mem hm
      rw [List.length_take] at hj
      rw [List.getElem_take] at hjk
      have := List.pairwise_iff_getElem.mp (domsI_rising es b) j i (by omega) hi (by omega)
      omega
    refine ⟨rfl, ?_⟩
    refine ⟨_, rfl, _, rfl, rfl, _, rfl, ?_⟩
    refine ite2 (fun cc => ?_) (fun cc => ?_)
    · have ckb : k ≠ b := fun z => by rw [z] at cc; simp at cc
      refine ⟨_, rfl, _, rfl, _, rfl, _, rfl, vc, nm, some k, es, rfl, hc.same (s02.trans s3), fun A' H5 l s5 hA0 hA5 ok => ?_⟩
      have d5 := s5 _ _ d3
      have nA : A' ≠ Dd := fun z => by rw [z, d3] at hA0; cases hA0
      have ll : L.length ≤ 60 := by
        have : (L.map (·.1)).length ≤ (domsI es b).length := by
          rw [hk3]
          exact Nat.le_trans (List.length_filter_le _ _) (List.length_take_le' _ _)
        rw [List.length_map] at this
        omega
      have hkL : k ∉ L.map (·.1) := by rw [hk3]; exact fun z => hknew (List.mem_filter.mp z).1
      refine ⟨_, Sum.inl k, rfl, d5, by rw [show (akv L).length = L.length from List.length_map _, sizeLine_eq]; omega, L ++ [(k, A')], fun c o e => by rw [upd_ne (ne_of_none e hDd)]; exact s5 _ _ (s3 _ _ e), by rw [upd_same, akv_put hkL], ?_, ?_⟩
      · rw [List.map_append, hk3, etk, List.filter_append, show [k].filter (fun o => decide (o ≠ b)) = [k] by simp [ckb]]
        rfl
      · intro p hp
        rcases List.mem_append.mp hp with hp | hp
        · obtain ⟨n1, l', h1, h2⟩ := hp3 p hp
          exact ⟨n1, l', by rw [upd_ne n1]; exact s5 _ _ h1, h2⟩
        · have : p = (k, A') := by simpa using hp
          subst this
          exact ⟨nA, l, by rw [upd_ne nA]; exact hA5, ok⟩
    · have ckb : k = b := Decidable.byContradiction fun z => cc (by rw [decide_eq_false (show ¬ V.int k = V.int b from fun y => z (by injection y))]; rfl)
      refine ⟨L, s3, d3, ?_, hp3⟩
      rw [hk3, etk, List.filter_append, show [k].filter (fun o => decide (o ≠ b)) = [] by simp [ckb], List.append_nil]
  rintro H3 ⟨L, s3, d3, hk3, hp3⟩
  rw [List.length_map, List.take_length] at hk3
  have hk : L.map (·.1) = sdoms es b := hk3
  have ak : (akv L).map (·.1) = (sdoms es b).map Sum.inl := by
    rw [← hk]
    unfold akv
    rw [List.map_map, List.map_map]
    rfl
  have al : (akv L).length = (sdoms es b).length := by rw [← List.length_map (f := (·.1)), ak, List.length_map]
  have sdl : (sdoms es b).length ≤ 60 := Nat.le_trans (List.length_filter_le _ _) (by omega)
  have hD0 : H Dd = none := s02.free hDd
  have s03 := s02.trans s3
  refine ⟨Dd, _, d3, trivial, fun od => ?_⟩
  have low : ∀ {H' : Hp}, (∀ c o, c ≠ Dd → H3 c = some o → H' c = some o) → Same H H' := fun h c o e => h c o (ne_of_none e hD0) (s03 _ _ e)
  refine ⟨_, rfl, Dd, od, rfl, .inl ⟨_, upd_same, for_it (walk_keys ak) (fun i σ H' => ∃ (x5 : Option V), σ = [some vc, some (.str nm), some (.int b), some (.ref Dd), none, x5, none] ∧ (∀ c o, c ≠ Dd → H3 c = some o → H' c = some o) ∧ H' Dd = some (.frz od (.dK (akv L))) ∧ nearI es b = ((sdoms es b).drop i).find? fun one => (sdoms es b).all fun other => domB es other one)
    ⟨none, rfl, fun c o hn e => by rw [upd_ne hn]; exact e, upd_same, en⟩ (fun i σ H' _ h => by obtain ⟨_, _, _, h', _⟩ := h; exact h') ?_ ?_⟩⟩
  · rintro i x σ H4 H5 hi ⟨x5, rfl, s4, f4, hn4⟩ ⟨rfl, hx⟩
    rw [List.getElem?_map] at hx
    obtain ⟨one, hone, rfl⟩ := Option.map_eq_some_iff.mp hx
    obtain ⟨hi1, hi2⟩ := List.getElem?_eq_some_iff.mp hone
    rw [List.drop_eq_getElem_cons hi1, hi2] at hn4
    refine ⟨_, rfl, Dd, od, rfl, .inl ⟨_, f4, fun D6 hD6 => ?_⟩⟩
    have nD6 : D6 ≠ Dd := fun z => by rw [z, f4] at hD6; cases hD6
    refine lc_map (walk_keys ak) (fun j => V.bl (domB es ((sdoms es b).getD j 0) one)) hD6 (fun H' h => h _ _ f4) (big_size (by omega)) ?_ ?_
    · intro j y H6 Q6 hj hy s6 q6
      rw [List.getElem?_map] at hy
      obtain ⟨oth, hoth, rfl⟩ := Option.map_eq_some_iff.mp hy
      rw [show (sdoms es b).getD j 0 = oth by rw [List.getD_eq_getElem?_getD, hoth]; rfl] at q6
      have hmem : oth ∈ L.map (·.1) := by rw [hk]; exact List.mem_of_getElem? hoth
      obtain ⟨Aa, hA1, hA2⟩ := akv_get hmem
      obtain ⟨nA, l, hAl, ok⟩ := hp3 _ hA1
      have f6 := s6 _ _ f4
      have hA6 := s6 _ _ (s4 _ _ nA hAl)
      refine ⟨_, rfl, _, rfl, _, rfl, Dd, _, rfl, .inl ⟨_, Sum.inl oth, .inr ⟨od, f6⟩, rfl, hA2.symm⟩, Aa, _, rfl, DGet.k (k := Sum.inl one) hA6, ?_⟩
      rw [dkv_has]
      have e : (!decide (one ∈ l.map (·.1))) = domB es oth one := domB_of (by simp [ok.iff])
      rw [e]
      exact q6 H6 (Same.refl _)
    · intro H6 s6 hD6'
      rw [al, range_getD2 (fun oth => V.bl (domB es oth one)) 0 (sdoms es b), show ((sdoms es b).map fun oth => V.bl (domB es oth one)) = ((sdoms es b).map fun oth => domB es oth one).map V.bl by rw [List.map_map]; rfl] at hD6'
      have f6 := s6 _ _ f4
      have s46 : ∀ c o, c ≠ Dd → H3 c = some o → H6 c = some o := fun c o hn e => s6 _ _ (s4 c o hn e)
      refine ⟨D6, _, rfl, SqL.of hD6', _, rfl, ?_⟩
      have ea : ((sdoms es b).map fun oth => domB es oth one).all id = (sdoms es b).all fun other => domB es other one := by rw [List.all_map]; rfl
      rw [ea]
      refine ite2 (fun cc => ?_) (fun cc => ?_)
      · rw [List.find?_cons_of_pos (p := fun one => (sdoms es b).all fun other => domB es other one) cc] at hn4
        refine ⟨_, rfl, f6, ?_⟩
        have q' := q (upd H6 Dd (.dK (akv L))) (low fun c o hn e => by rw [upd_ne hn]; exact s46 c o hn e)
        rw [hn4] at q'
        exact q'
      · rw [List.find?_cons_of_neg (p := fun one => (sdoms es b).all fun other => domB es other one) cc] at hn4
        exact ⟨_, rfl, s46, f6, hn4⟩
  · rintro σ H4 ⟨x5, rfl, s4, f4, hn4⟩
    refine ⟨f4, ?_⟩
    rw [al, List.drop_length] at hn4
    have q' := q (upd H4 Dd (.dK (akv L))) (low fun c o hn e => by rw [upd_ne hn]; exact s4 c o hn e)
    rw [hn4] at q'
    exact q'
end
end Sw
set_option maxRecDepth 100000
set_option maxHeartbeats 4000000
namespace Sw
open PySem PySem.Spec PyProof.Rows L2
/-- a walk's turns, whatever is done at each -/
theorem out_it {J : It} {n : Nat} {G : Hp → Prop} {Y : Nat → Hp → V → Hp → Prop} (w : Walk J n G Y) {Body : (Hp → Prop) → V → Hp → Prop} {H0 : Hp} {Qd : Hp → Prop} (Pv : Nat → Hp → Prop) (h0 : Pv 0 H0) (hG : ∀ i H, i ≤ n → Pv i H → G H)
    (hs : ∀ i x H H', i < n → Pv i H → Y i H x H' → Body (Pv (i + 1)) x H') (hd : ∀ H, Pv n H → Qd H) :
    ∃ W : Nat → Nat → Hp → Prop, (∃ m, W 0 m H0) ∧ ∀ i m H, W i m H → (J.stop i H ∧ Qd H) ∨ (J.go i H ∧ ∃ Nx : Hp → Prop, (∀ H', Nx H' → ∃ m', m' < m ∧ W (i + 1) m' H') ∧ ∀ x H', J.yld i H x H' → Body Nx x H') := by
  refine ⟨fun i m H => m = n - i ∧ i ≤ n ∧ Pv i H, ⟨n, by simp, Nat.zero_le _, h0⟩, ?_⟩
  rintro i m H ⟨rfl, hi, p⟩
  have g := hG i H hi p
  by_cases lt : i < n
  · exact .inr ⟨w.goes i H lt g, Pv (i + 1), fun H' p' => ⟨n - (i + 1), by omega, rfl, lt, p'⟩, fun x H' y => hs i x H H' lt p (w.yields i H x H' lt g y)⟩
  · obtain rfl : i = n := by omega
    exact .inl ⟨w.stops H g, hd H p⟩
/-- in the frontier of b -/
def FrP (es : List Ge) (b k : Int) : Prop := (∃ o, Rch es none o ∧ ¬ Rch es (some b) o ∧ k ∈ arr es o) ∧ (k = b ∨ Rch es (some b) k)
noncomputable def frI (es : List Ge) (b : Int) : List Int := ((List.range es.length).filter fun i : Nat => @decide (FrP es b (i : Int)) (Classical.propDecidable _)).map fun i : Nat => (i : Int)
theorem frI_rising (es : List Ge) (b : Int) : (frI es b).Pairwise (· < ·) := by
  unfold frI
  rw [List.pairwise_map]
  exact (List.Pairwise.filter _ List.pairwise_lt_range).imp fun h => by omega
theorem mem_frI {es : List Ge} (hg : Gok es) {b k : Int} : k ∈ frI es b ↔ FrP es b k := by
  unfold frI
  rw [List.mem_map]
  constructor
  · rintro ⟨i, hi, rfl⟩
    exact @of_decide_eq_true _ (Classical.propDecidable _) (List.mem_filter.mp hi).2
  · intro h
    have h' := h
    obtain ⟨⟨o, _, _, ho⟩, _⟩ := h'
    obtain ⟨k0, k1⟩ := arr_rng hg ho
    refine ⟨k.toNat, List.mem_filter.mpr ⟨List.mem_range.mpr (by omega), ?_⟩, Int.toNat_of_nonneg k0⟩
    rw [Int.toNat_of_nonneg k0]
    exact @decide_eq_true _ (Classical.propDecidable _) h
theorem frI_rng {es : List Ge} {b k : Int} (h : k ∈ frI es b) : 0 ≤ k ∧ k < (es.length : Int) := by
  unfold frI at h
  obtain ⟨i, hi, rfl⟩ := List.mem_map.mp h
  have := List.mem_range.mp (List.mem_filter.mp hi).1
  exact ⟨by omega, by omega⟩
theorem frI_len (es : List Ge) (b : Int) : (frI es b).length ≤ es.length := by
  unfold frI
  rw [List.length_map]
  exact Nat.le_trans (List.length_filter_le _ _) (by rw [List.length_range]; exact Nat.le_refl _)
theorem Rch.free2 {es : List Ge} {ov : Option Int} {u : Int} (h : Rch es ov u) : Rch es none u := by
  induction h with
  | zero _ => exact .zero (by simp)
  | step _ hb _ ih => exact .step ih hb (by simp)
theorem yes_then {σ : L2.St} {H : Hp} {Q : Bool → Hp → Prop} (h : Q true H) : tYes σ H Q := h
theorem range_filter {α β : Type} (p : α → Bool) (g : α → β) (d : α) (xs : List α) : ((List.range xs.length).filter fun i => p (xs.getD i d)).map (fun i => g (xs.getD i d)) = (xs.filter p).map g := by
  have e := range_getD2 (fun x : α => x) d xs
  rw [List.map_id'] at e
  have h : (((List.range xs.length).map fun i => xs.getD i d).filter p).map g = (xs.filter p).map g := by rw [e]
  rw [← h, List.filter_map, List.map_map]
  rfl
section
variable {P : Program} {w : World} {K : PySem.W.Frag} {mg : Str → Option Value} {base : Heap}
abbrev NF : List Str := ["code", "name", "block", "around", "under", "other", "behind", "goal"]
def spFront (K : PySem.W.Frag) : Sp := fun vs H Q _ => ∃ (vc : V) (nm : Str) (b : Int) (es : List Ge), vs = [vc, .str nm, .int b] ∧ CodeOf K H vc nm es ∧ ∀ t H', Same H H' → H' t = some (.tup ((frI es b).map V.int)) → Q (.ref t) H'
theorem sc_front : FnScope NF ["code", "name", "block"] (defScope (topS 15)) := ⟨rfl, rfl, rfl, by decide +kernel, rfl, by decide +kernel, by decide +kernel⟩
theorem ok_front {f f1 f2 f3 : Addr} {fd fd1 fd2 fd3 : FuncData} (D : Df K mg "frontier" (topS 15) ["code", "name", "block"] f fd) (D1 : Df K mg "led_around" (topS 9) ["code", "name", "over"] f1 fd1) (D2 : Df K mg "reached" (topS 10) ["code", "name"] f2 fd2) (D3 : Df K mg "nexts" (topS 7) ["code", "name", "block"] f3 fd3) (B : Bt mg)
    (G1 : FnOk P w K mg base CX0 3 f1 fd1 ["code", "name", "over"] (spLed K)) (G2 : FnOk P w K mg base CX0 4 f2 fd2 ["code", "name"] (spReached K)) (G3 : FnOk P w K mg base CX0 2 f3 fd3 ["code", "name", "block"] (spNexts K)) : FnOk P w K mg base CX0 5 f fd ["code", "name", "block"] (spFront K) := by
  refine D.fn.ok sc_front (fun vs H Q E h => ?_) (fun cdv A outer s H vs Q E hr h => ?_)
  · obtain ⟨vc, nm, b, es, rfl, _⟩ := h
    rfl
  obtain ⟨vc, nm, b, es, rfl, hc, q⟩ := h
  have nd := sc_front.nd
  have hu := hr.units
  have hu1 := Nat.lt_of_le_of_lt (Nat.add_le_add_left (by decide : 1 ≤ 64) _) hu
  refine ⟨_, (pss_cons (ps_set (i := 3) nd rfl (Or.inr rfl) (pe_call G1 (hr.mono (by decide)) (by rfl) D1.gl D1.fn.kp D1.bd .nil pass0 (pa_cons (pv 0) (pa_cons (pv 1) (pa_cons (pv 2) pa_nil)))))
    (pss_cons (ps_set (i := 4) nd rfl (Or.inr rfl) (pe_lc (own := [("other", 5)]) (g := gName 5) (tt := tB (tDNotIn (tVar 5) (tVar 3))) rfl nd (pi_tup (pe_call G2 hr (by rfl) D2.gl D2.fn.kp D2.bd .nil pass0 (pa_cons (pv 0) (pa_cons (pv 1) pa_nil)))) (blkOk_by (N := NF) (sc := defScope (topS 15)) (by decide +kernel)) (fun _ _ _ _ _ => pg_name (i := 5) nd rfl (Or.inl rfl)) (fun _ _ _ _ _ => (pts_one (pt_cmp (pc_dnotin hu1 (pv 5) (pv 3))))) (fun _ _ _ _ _ => (pv 5))))
    (pss_cons (ps_setLc2 (i := 6) (own := [("other", 5), ("goal", 7)]) (vs1 := [7]) (g := gName 5) (tt := tYes) (g1 := gName 7) (tt1 := tYes) (wi1 := iTup K (tCall (spNexts K) [] E0 (tCons (tVar 0) (tCons (tVar 1) (tCons (tVar 5) tNil))))) (te := tVar 7) rfl nd rfl rfl (sw_true rfl rfl rfl (by decide +kernel)) (pi_list (pv 4)) (blkOk_by (N := NF) (sc := defScope (topS 15)) (by decide +kernel)) (by decide) (fun _ _ _ _ _ => pg_name (i := 5) nd rfl (Or.inl rfl)) (fun _ _ _ _ _ => pts_nil) (fun _ _ _ _ _ => pi_tup (pe_call G3 (hr.mono (by decide)) (by rfl) D3.gl D3.fn.kp D3.bd .nil pass0 (pa_cons (pv 0) (pa_cons (pv 1) (pa_cons (pv 5) pa_nil))))) (fun _ _ _ _ _ => pg_name (i := 7) nd rfl (Or.inl rfl)) (fun _ _ _ _ _ => pts_nil) (fun _ _ _ _ _ => pv 7))
    (pss_one (ps_ret (pe_callTy call_tuple_of (by rfl) B.tuple (by decide +kernel) (pa_cons (pe_callB (cr_sortedSet rfl) (by rfl) B.sorted (by decide +kernel) (pa_cons (pe_callTy (cr_setIL rfl) (by rfl) B.set (by decide +kernel) (pa_cons (pe_lc (own := [("goal", 7)]) (g := gName 7) (tt := tOr (tTest (tOp rEq (tVar 7) (tVar 2))) (tTest (tOp (rIn K true) (tVar 7) (tVar 4)))) rfl nd (pi_list (pv 6)) (blkOk_by (N := NF) (sc := defScope (topS 15)) (by decide +kernel)) (fun _ _ _ _ _ => pg_name (i := 7) nd rfl (Or.inl rfl)) (fun _ _ _ _ _ => (pts_one (PW.pt (pw_or (pt_cmpR op_eq (pv 7) (pv 2) (nomark _)) (pw_or1 (pt_cmpR (r := rIn K true) op_notIn_seq (pv 7) (pv 4) (by with_unfolding_all rfl))))))) (fun _ _ _ _ _ => (pv 7))) pa_nil)) pa_nil)) pa_nil))))))), ?_⟩
  have few := hc.ok.few
  refine ⟨_, rfl, _, rfl, _, rfl, vc, nm, some b, es, rfl, hc, fun d H1 L s1 _ hd ok => ?_⟩
  refine ⟨_, rfl, _, rfl, vc, nm, es, rfl, hc.same s1, fun t H2 ms s2 ht rist hms => ?_⟩
  have ml : ms.length ≤ es.length := few_ints es.length (rist.imp fun h => by omega) fun k hk => ((hms k).mp hk).rng hc.ok
  have s02 := s1.trans s2
  have hd2 := s2 _ _ hd
  refine ⟨t, rfl, ⟨_, SqT.of ht⟩, fun U hU => ?_⟩
  refine lc_pure (walk_tup (xs := ms.map V.int)) (fun i => !decide (ms.getD i 0 ∈ L.map (·.1))) (fun i => V.int (ms.getD i 0)) hU (fun _ h => SqT.of (h _ _ ht)) (big_size (by rw [List.length_map]; omega)) ?_ ?_ ?_
  · intro i x H3 Q3 hi hx s3 q3
    rw [List.getElem?_map] at hx
    obtain ⟨k, hk, rfl⟩ := Option.map_eq_some_iff.mp hx
    rw [show ms.getD i 0 = k by rw [List.getD_eq_getElem?_getD, hk]; rfl] at q3
    refine ⟨_, rfl, _, rfl, d, _, rfl, DGet.k (k := Sum.inl k) (s3 _ _ hd2), _, rfl, ?_⟩
    rw [dkv_has]
    exact q3 H3 (Same.refl _)
  · intro i x H3 Q3 hi hx _ s3 q3
    rw [List.getElem?_map] at hx
    obtain ⟨k, hk, rfl⟩ := Option.map_eq_some_iff.mp hx
    rw [show ms.getD i 0 = k by rw [List.getD_eq_getElem?_getD, hk]; rfl] at q3
    exact ⟨_, rfl, q3 H3 (Same.refl _)⟩
  intro H3 s3 hU3
  rw [List.length_map, range_filter (fun k => !decide (k ∈ L.map (·.1))) V.int 0 ms] at hU3
  have hus : ∀ k, k ∈ (ms.filter fun k => !decide (k ∈ L.map (·.1))) ↔ Rch es none k ∧ ¬ Rch es (some b) k := fun k => by
    rw [List.mem_filter, hms, ← ok.iff]
    simp
  have hul : (ms.filter fun k => !decide (k ∈ L.map (·.1))).length ≤ 60 := Nat.le_trans (List.length_filter_le _ _) (by omega)
  generalize (ms.filter fun k => !decide (k ∈ L.map (·.1))) = us at hU3 hus hul
  have s03 := s02.trans s3
  -- all behind
  have gl2 : ∀ (l : List Int), (l.flatMap (goalsAt es)).length ≤ 2 * l.length := by
    intro l
    induction l with
    | nil => simp
    | cons x l ih =>
      have := goalsAt_len es x
      rw [List.flatMap_cons, List.length_append, List.length_cons]
      omega
  refine ⟨_, rfl, U, rfl, ⟨_, SqL.of hU3⟩, fun Dl hDl => out_it (walk_list (xs := us.map V.int)) (fun i H' => Same H3 H' ∧ H' Dl = some (.lst (((us.take i).flatMap (goalsAt es)).map V.int))) ⟨same_new hDl, upd_same⟩ (fun i H' _ h => SqL.of (h.1 _ _ hU3)) ?_ ?_⟩
  · rintro i x H4 H5 hi ⟨s4, d4⟩ ⟨rfl, hx⟩
    rw [List.getElem?_map] at hx
    obtain ⟨o, ho, rfl⟩ := Option.map_eq_some_iff.mp hx
    have etk : us.take (i + 1) = us.take i ++ [o] := by rw [List.take_succ, ho]; rfl
    obtain ⟨hro, _⟩ := (hus o).mp (List.mem_of_getElem? ho)
    obtain ⟨o0, o1⟩ := hro.rng hc.ok
    have tl : (us.take i).length ≤ 60 := Nat.le_trans (List.length_take_le' _ _) hul
    have pl := gl2 (us.take i)
    generalize us.take i = ut at d4 etk tl pl
    refine ⟨rfl, yes_then ?_⟩
    refine (if_pos rfl).mpr ?_
    refine ⟨_, rfl, _, rfl, _, rfl, vc, nm, o, es, rfl, hc.same (s03.trans s4), o0, o1, fun g H6 s6 hg => ⟨g, rfl, ⟨_, SqT.of hg⟩, ?_⟩⟩
    have gl := goalsAt_len es o
    refine out_it (walk_tup (xs := (goalsAt es o).map V.int)) (fun j H' => Same H3 H' ∧ H' Dl = some (.lst ((ut.flatMap (goalsAt es) ++ (goalsAt es o).take j).map V.int)) ∧ H' g = some (.tup ((goalsAt es o).map V.int))) ⟨s4.trans s6, by rw [List.take_zero, List.append_nil]; exact s6 _ _ d4, hg⟩ (fun j H' _ h => SqT.of h.2.2) ?_ ?_
    · rintro j y H7 H8 hj ⟨s7, d7, g7⟩ ⟨rfl, hy⟩
      rw [List.getElem?_map] at hy
      obtain ⟨k, hk, rfl⟩ := Option.map_eq_some_iff.mp hy
      have etk2 : (goalsAt es o).take (j + 1) = (goalsAt es o).take j ++ [k] := by rw [List.take_succ, hk]; rfl
      have nDg : g ≠ Dl := fun z => by rw [z, d7] at g7; cases g7
      refine ⟨rfl, yes_then ?_⟩
      refine (if_pos rfl).mpr ?_
      refine ⟨_, rfl, _, d7, ?_, fun c o' e => by rw [upd_ne (ne_of_none e hDl)]; exact s7 _ _ e, ?_, by rw [upd_ne nDg]; exact g7⟩
      · have t2 := List.length_take_le' j (goalsAt es o)
        rw [List.length_map, List.length_append, sizeLine_eq]
        omega
      · rw [upd_same, etk2, ← List.append_assoc, List.map_append (l₂ := [k])]
        rfl
    · rintro H7 ⟨s7, d7, g7⟩
      rw [List.length_map, List.take_length] at d7
      refine ⟨s7, ?_⟩
      rw [etk, List.flatMap_append, d7]
      simp
  rintro H4 ⟨s4, d4⟩
  rw [List.length_map, List.take_length] at d4
  have gsl := gl2 us
  have hgs : ∀ k, k ∈ us.flatMap (goalsAt es) ↔ ∃ o ∈ us, k ∈ arr es o := fun k => by
    rw [List.mem_flatMap]
    exact ⟨fun ⟨o, h1, h2⟩ => ⟨o, h1, mem_goalsAt.mp h2⟩, fun ⟨o, h1, h2⟩ => ⟨o, h1, mem_goalsAt.mpr h2⟩⟩
  generalize us.flatMap (goalsAt es) = gs at d4 gsl hgs
  have s04 := s03.trans s4
  have hU4 := s4 _ _ hU3
  refine ⟨_, rfl, Dl, rfl, ⟨_, SqL.of d4⟩, fun D7 hD7 => ?_⟩
  refine lc_pure (walk_list (xs := gs.map V.int)) (fun i => decide (gs.getD i 0 = b) || !decide (gs.getD i 0 ∈ us)) (fun i => V.int (gs.getD i 0)) hD7 (fun _ h => SqL.of (h _ _ d4)) (big_size (by rw [List.length_map]; omega)) ?_ ?_ ?_
  · intro i x H5 Q5 hi hx s5 q5
    rw [List.getElem?_map] at hx
    obtain ⟨k, hk, rfl⟩ := Option.map_eq_some_iff.mp hx
    rw [show gs.getD i 0 = k by rw [List.getD_eq_getElem?_getD, hk]; rfl] at q5
    refine ⟨_, rfl, _, rfl, rfl, _, rfl, ?_⟩
    have q5' := q5 H5 (Same.refl _)
    by_cases hkb : k = b
    · rw [decide_eq_true (show V.int k = V.int b by rw [hkb])]
      rw [decide_eq_true hkb, Bool.true_or] at q5'
      exact iteT q5'
    · rw [decide_eq_false (show ¬ V.int k = V.int b from fun z => hkb (by injection z))]
      rw [decide_eq_false hkb, Bool.false_or] at q5'
      refine iteF ?_
      refine ⟨_, rfl, _, rfl, U, _, rfl, .inl (SqL.of (s5 _ _ hU4)), rfl, flat_ints _, _, rfl, ?_⟩
      rw [if_pos rfl, inV_ints]
      exact q5'
  · intro i x H5 Q5 hi hx _ s5 q5
    rw [List.getElem?_map] at hx
    obtain ⟨k, hk, rfl⟩ := Option.map_eq_some_iff.mp hx
    rw [show gs.getD i 0 = k by rw [List.getD_eq_getElem?_getD, hk]; rfl] at q5
    exact ⟨_, rfl, q5 H5 (Same.refl _)⟩
  intro H5 s5 hD5
  rw [List.length_map, range_filter (fun k => decide (k = b) || !decide (k ∈ us)) V.int 0 gs] at hD5
  have hm : ∀ k, k ∈ (gs.filter fun k => decide (k = b) || !decide (k ∈ us)) ↔ FrP es b k := fun k => by
    rw [List.mem_filter, hgs]
    constructor
    · rintro ⟨⟨o, h1, h2⟩, h3⟩
      obtain ⟨r1, r2⟩ := (hus o).mp h1
      refine ⟨⟨o, r1, r2, h2⟩, ?_⟩
      rcases Bool.or_eq_true _ _ ▸ h3 with h | h
      · exact .inl (of_decide_eq_true h)
      · have hn : k ∉ us := by simpa using h
        have hrk : Rch es none k := .step r1 h2 (by simp)
        exact .inr (Classical.byContradiction fun z => hn ((hus k).mpr ⟨hrk, z⟩))
    · rintro ⟨⟨o, r1, r2, h2⟩, h3⟩
      refine ⟨⟨o, (hus o).mpr ⟨r1, r2⟩, h2⟩, ?_⟩
      rcases h3 with h | h
      · rw [decide_eq_true h]; rfl
      · have hn : k ∉ us := fun z => ((hus k).mp z).2 h
        rw [decide_eq_false hn]
        simp
  have hfl : (gs.filter fun k => decide (k = b) || !decide (k ∈ us)).length ≤ 1000 := Nat.le_trans (List.length_filter_le _ _) (by omega)
  generalize (gs.filter fun k => decide (k = b) || !decide (k ∈ us)) = fl at hD5 hm hfl
  refine ⟨D7, fl, rfl, SqL.of hD5, hfl, fun a c ha hcm => ?_⟩
  have hc6 := hcm es.length fun k hk => by
    obtain ⟨⟨o, _, _, ho⟩, _⟩ := (hm k).mp hk
    exact arr_rng hc.ok ho
  refine ⟨a, _, c, rfl, upd_same, by omega, fun ns p ris mem hlen hp => ?_⟩
  refine ⟨p, _, rfl, .inl ⟨SqL.of upd_same, fun t4 ht4 => ?_⟩⟩
  have en : ns = frI es b := rising_eq ris (frI_rising es b) fun k => by rw [mem, decide_eq_true_iff, hm, mem_frI hc.ok]
  subst en
  exact q t4 _ (s04.trans (s5.trans ((same_new ha).trans ((same_new hp).trans (same_new ht4))))) upd_same
/-- again and again -/
inductive Ag (es : List Ge) (bs : List Int) : Int → Prop
  | one {b k : Int} : b ∈ bs → k ∈ frI es b → Ag es bs k
  | on {j k : Int} : Ag es bs j → k ∈ frI es j → Ag es bs k
theorem Ag.rng {es : List Ge} {bs : List Int} {k : Int} (h : Ag es bs k) : 0 ≤ k ∧ k < (es.length : Int) := by
  cases h with
  | one _ h => exact frI_rng h
  | on _ h => exact frI_rng h
/-- the dict of what is found -/
def tkv (fs : List Int) : List (Key × V) := fs.map fun k => (Sum.inl k, V.bl true)
theorem tkv_has (fs : List Int) (k : Int) : (valV (tkv fs) (Sum.inl k)).isSome = decide (k ∈ fs) := by
  induction fs with
  | nil => rfl
  | cons p fs ih =>
    have e : tkv (p :: fs) = (Sum.inl p, V.bl true) :: tkv fs := rfl
    rw [e]
    by_cases h : p = k
    · rw [valV_pos (show ((Sum.inl p, V.bl true) : Key × V).1 = Sum.inl k by rw [h])]
      simp [h]
    · rw [valV_neg (show ¬ ((Sum.inl p, V.bl true) : Key × V).1 = Sum.inl k from fun z => h (by injection z)), ih]
      have h' : ¬ k = p := fun z => h z.symm
      simp [h']
theorem tkv_put {fs : List Int} {g : Int} (h : g ∉ fs) : putK (tkv fs) (Sum.inl g) (.bl true) = tkv (fs ++ [g]) := by
  unfold putK
  have : ((tkv fs).any fun kv => decide (kv.1 = Sum.inl g)) = false := by
    rw [valV_any, tkv_has]
    simpa using h
  rw [this, if_neg (by simp)]
  unfold tkv
  rw [List.map_append]
  rfl
structure AI (es : List Ge) (bs fs T : List Int) : Prop where
  nd : fs.Nodup
  ag : ∀ k ∈ fs, Ag es bs k
  sub : ∀ t ∈ T, t ∈ bs ∨ t ∈ fs
  cls : ∀ x, x ∈ bs ∨ x ∈ fs → x ∉ T → ∀ k ∈ frI es x, k ∈ fs
  few : T.length ≤ 60 + fs.length
theorem AI.all {es : List Ge} {bs fs : List Int} (h : AI es bs fs []) (k : Int) : k ∈ fs ↔ Ag es bs k := by
  refine ⟨h.ag k, fun a => ?_⟩
  induction a with
  | one hb hk => exact h.cls _ (.inl hb) (by simp) _ hk
  | on _ hk ih => exact h.cls _ (.inr ih) (by simp) _ hk
theorem AI.fl {es : List Ge} {bs fs T : List Int} (h : AI es bs fs T) : fs.length ≤ es.length := few_ints es.length h.nd fun k hk => (h.ag k hk).rng
abbrev NA : List Str := ["code", "name", "blocks", "found", "todo", "goal"]
def spAgain (K : PySem.W.Frag) : Sp := fun vs H Q _ => ∃ (vc : V) (nm : Str) (tb : Addr) (bs : List Int) (es : List Ge), vs = [vc, .str nm, .ref tb] ∧ CodeOf K H vc nm es ∧ SqT K H tb (bs.map V.int) ∧ bs.length ≤ 60 ∧ ∀ (t : Addr) (H' : Hp) (ns : List Int), Same H H' → H' t = some (.tup (ns.map V.int)) → ns.Pairwise (· < ·) → (∀ k, k ∈ ns ↔ Ag es bs k) → Q (.ref t) H'
theorem sc_again : FnScope NA ["code", "name", "blocks"] (defScope (topS 16)) := ⟨rfl, rfl, rfl, by decide +kernel, rfl, by decide +kernel, by decide +kernel⟩
theorem ok_again {f f1 : Addr} {fd fd1 : FuncData} (D : Df K mg "frontier_again" (topS 16) ["code", "name", "blocks"] f fd) (D1 : Df K mg "frontier" (topS 15) ["code", "name", "block"] f1 fd1) (B : Bt mg)
    (G1 : FnOk P w K mg base CX0 5 f1 fd1 ["code", "name", "block"] (spFront K)) : FnOk P w K mg base CX0 6 f fd ["code", "name", "blocks"] (spAgain K) := by
  refine D.fn.ok sc_again (fun vs H Q E h => ?_) (fun cdv A outer s H vs Q E hr h => ?_)
  · obtain ⟨vc, nm, tb, bs, es, rfl, _⟩ := h
    rfl
  obtain ⟨vc, nm, tb, bs, es, rfl, hc, htb, hbl, q⟩ := h
  have nd := sc_again.nd
  have hu := hr.units
  have hu1 := Nat.lt_of_le_of_lt (Nat.add_le_add_left (by decide : 1 ≤ 64) _) hu
  refine ⟨_, (pss_cons (ps_set (i := 3) nd rfl (Or.inl rfl) pe_dnewK)
    (pss_cons (ps_set (i := 4) nd rfl (Or.inl rfl) (pe_callTy call_list_of (by rfl) B.list (by decide +kernel) (pa_cons (pv 2) pa_nil)))
    (pss_cons (ps_while PassesOwn.never (pt_tru (pv 4))
    (pss_one (ps_for PassesOwn.never rfl (pi_tup (pe_call G1 hr (by rfl) D1.gl D1.fn.kp D1.bd .nil pass0 (pa_cons (pv 0) (pa_cons (pv 1) (pa_cons (pe_bm0 PySem.F.plainAttrs_list PySem.F.slot_list_pop PySem.F.type_list_pop mt_pop (pv 4)) pa_nil))))) (pg_name (i := 5) nd rfl (Or.inl rfl))
    (pss_one (ps_if (pt_cmp (pc_dnotin hu1 (pv 5) (pv 3))) (pss_cons (ps_dput hu1 (pv 3) (pv 5) pe_bl rfl)
    (pss_one (ps_expr (pe_bm PySem.F.plainAttrs_list PySem.F.slot_list_append PySem.F.type_list_append mt_append (pv 4) (pa_cons (pv 5) pa_nil))))) pss_nil)))))
    (pss_one (ps_ret (pe_callTy call_tuple_of (by rfl) B.tuple (by decide +kernel) (pa_cons (pe_callB (call_sortedDI rfl) (by rfl) B.sorted (by decide +kernel) (pa_cons (pv 3) pa_nil)) pa_nil))))))), ?_⟩
  have few := hc.ok.few
  refine fun d hd => ?_
  have s1 := same_new (o := .dK []) hd
  have d1 : upd H d (.dK []) d = some (.dK (tkv [])) := upd_same
  generalize upd H d (.dK []) = H1 at s1 d1
  refine ⟨_, rfl, tb, _, rfl, .inr (sameT s1 htb), fun l hl => ?_⟩
  have s2 := same_new (o := .lst (bs.map V.int)) hl
  have l2 : upd H1 l (.lst (bs.map V.int)) l = some (.lst (bs.map V.int)) := upd_same
  generalize upd H1 l (.lst (bs.map V.int)) = H2 at s2 l2
  have hl0 : H l = none := s1.free hl
  have ndl : d ≠ l := ne_of_none d1 hl
  refine while_by (fun σ H' => ∃ (fs T : List Int) (x5 : Option V), σ = [some vc, some (.str nm), some (.ref tb), some (.ref d), some (.ref l), x5] ∧ Same H H' ∧ H' d = some (.dK (tkv fs)) ∧ H' l = some (.lst (T.map V.int)) ∧ AI es bs fs T)
    (fun σ H' => match H' d, H' l with | some (.dK kvs), some (.lst ts) => 2 * (es.length - kvs.length) + ts.length | _, _ => 0)
    ⟨[], bs, none, rfl, s1.trans s2, s2 _ _ d1, l2, ⟨List.nodup_nil, fun k h => absurd h List.not_mem_nil, fun t h => .inl h, fun x hx hn => absurd (hx.elim id fun z => absurd z List.not_mem_nil) hn, by omega⟩⟩ ?_ ?_
  · rintro σ H3 ⟨fs, T, x5, rfl, s3, d3, l3, I⟩
    refine ⟨_, rfl, _, .inl ⟨_, SqL.of l3, rfl⟩, ?_⟩
    have ffl := I.fl
    cases hT : T with
    | nil =>
      subst hT
      refine iteF ?_
      refine ⟨_, rfl, d, _, fs, rfl, .inl d3, by unfold tkv; rw [List.map_map]; rfl, by omega, fun ys p perm ris hp => ?_⟩
      refine ⟨p, _, rfl, .inl ⟨SqL.of upd_same, fun t ht => ?_⟩⟩
      exact q t _ ys (s3.trans ((same_new hp).trans (same_new ht))) upd_same (rising_of ris (perm.nodup_iff.mpr I.nd)) fun k => perm.mem_iff.trans (I.all k)
    | cons t0 T0 =>
      rw [← hT]
      have hne : T ≠ [] := by rw [hT]; simp
      obtain ⟨T1, b, hTb⟩ : ∃ T1 b, T = T1 ++ [b] := ⟨T.dropLast, T.getLast hne, (List.dropLast_concat_getLast hne).symm⟩
      clear hT
      subst hTb
      have hemp : (!((T1 ++ [b]).map V.int).isEmpty) = true := by simp
      rw [hemp]
      refine iteT ?_
      refine ⟨_, rfl, _, rfl, _, rfl, .inl ⟨rfl, _, SqL.of l3⟩, l, _, .int b, rfl, rfl, l3, by simp, ?_⟩
      have s4 : Same H (upd H3 l (.lst ((T1 ++ [b]).map V.int).dropLast)) := fun c o e => by rw [upd_ne (ne_of_none e hl0)]; exact s3 _ _ e
      have d4 : upd H3 l (.lst ((T1 ++ [b]).map V.int).dropLast) d = some (.dK (tkv fs)) := by rw [upd_ne ndl]; exact d3
      have l4 : upd H3 l (.lst ((T1 ++ [b]).map V.int).dropLast) l = some (.lst (T1.map V.int)) := by rw [upd_same, List.map_append]; simp
      generalize upd H3 l (.lst ((T1 ++ [b]).map V.int).dropLast) = H4 at s4 d4 l4
      have few0 := I.few
      rw [List.length_append, List.length_singleton] at few0
      have hbin : b ∈ bs ∨ b ∈ fs := I.sub b (by simp)
      refine ⟨vc, nm, b, es, rfl, hc.same s4, fun t H5 s5 t5 => ?_⟩
      have frl := frI_len es b
      refine ⟨t, rfl, ⟨_, SqT.of t5⟩, for_it (walk_tup (xs := (frI es b).map V.int)) (fun n σ H' => ∃ (fs' T' : List Int) (x5 : Option V), σ = [some vc, some (.str nm), some (.ref tb), some (.ref d), some (.ref l), x5] ∧ Same H H' ∧ H' t = some (.tup ((frI es b).map V.int)) ∧ H' d = some (.dK (tkv fs')) ∧ H' l = some (.lst (T'.map V.int)) ∧ fs'.Nodup ∧ (∀ k ∈ fs', Ag es bs k) ∧ (∀ k ∈ fs, k ∈ fs') ∧ (∀ k ∈ T', k ∈ bs ∨ k ∈ fs') ∧
          (∀ x, x ∈ bs ∨ x ∈ fs' → x ∉ T' → x ≠ b → ∀ k ∈ frI es x, k ∈ fs') ∧ (∀ k ∈ (frI es b).take n, k ∈ fs') ∧ 2 * (es.length - fs'.length) + T'.length ≤ 2 * (es.length - fs.length) + T1.length ∧ T'.length ≤ 60 + fs'.length)
        ⟨fs, T1, _, rfl, s4.trans s5, t5, s5 _ _ d4, s5 _ _ l4, I.nd, I.ag, fun k h => h, fun k h => I.sub k (List.mem_append_left _ h), fun x h1 h2 h3 => I.cls x h1 (by simp [h2, h3]), fun g h => by simp at h, Nat.le_refl _, by omega⟩
        (fun n σ H' _ h => by obtain ⟨fs', T', x5, _, _, ht, _⟩ := h; exact SqT.of ht) ?_ ?_⟩
      · rintro n x σ H6 H7 hn ⟨fs', T', x5, rfl, s6, t6, d6, l6, nd6, ag6, inc, sub, cls, got, mu, fw⟩ ⟨rfl, hxn⟩
        rw [List.getElem?_map] at hxn
        obtain ⟨g, hg, rfl⟩ := Option.map_eq_some_iff.mp hxn
        have hgm : g ∈ frI es b := List.mem_of_getElem? hg
        have etk : (frI es b).take (n + 1) = (frI es b).take n ++ [g] := by rw [List.take_succ, hg]; rfl
        have few' : fs'.length ≤ es.length := few_ints es.length nd6 fun k hk => (ag6 k hk).rng
        have hag : Ag es bs g := hbin.elim (fun h => .one h hgm) fun h => .on (I.ag b h) hgm
        refine ⟨_, rfl, _, rfl, d, _, rfl, DGet.k (k := Sum.inl g) d6, _, rfl, ?_⟩
        rw [tkv_has]
        refine ite2 (fun c2 => ?_) (fun c2 => ?_)
        · have c2' : g ∉ fs' := by simpa using c2
          have nd7 : (fs' ++ [g]).Nodup := List.nodup_append.mpr ⟨nd6, by simp, fun a ha c hc' => by
            have : c = g := by simpa using hc'
            rw [this]; exact fun e => c2' (e ▸ ha)⟩
          have ag7 : ∀ k ∈ fs' ++ [g], Ag es bs k := fun k hk => by
            rcases List.mem_append.mp hk with hk | hk
            · exact ag6 k hk
            · have : k = g := by simpa using hk
              rw [this]; exact hag
          have few2 : (fs' ++ [g]).length ≤ es.length := few_ints es.length nd7 fun k hk => (ag7 k hk).rng
          rw [List.length_append, List.length_singleton] at few2
          have hdl : (tkv fs').length = fs'.length := List.length_map _
          refine ⟨_, rfl, _, rfl, d, _, rfl, DPut.k (k := Sum.inl g) d6 (by rw [hdl, sizeLine_eq]; omega), ?_⟩
          rw [tkv_put c2']
          have s7 : Same H (upd H7 d (.dK (tkv (fs' ++ [g])))) := fun c o e => by rw [upd_ne (ne_of_none e hd)]; exact s6 _ _ e
          have t7 : upd H7 d (.dK (tkv (fs' ++ [g]))) t = some (.tup ((frI es b).map V.int)) := by
            rw [upd_ne (fun e => by rw [e, d6] at t6; cases t6)]
            exact t6
          have d7 : upd H7 d (.dK (tkv (fs' ++ [g]))) d = some (.dK (tkv (fs' ++ [g]))) := upd_same
          have l7 : upd H7 d (.dK (tkv (fs' ++ [g]))) l = some (.lst (T'.map V.int)) := by rw [upd_ne (Ne.symm ndl)]; exact l6
          generalize upd H7 d (.dK (tkv (fs' ++ [g]))) = H8 at s7 t7 d7 l7
          refine ⟨_, rfl, .inl ⟨rfl, _, SqL.of l7⟩, _, rfl, l, _, _, rfl, rfl, l7, by rw [List.length_map, sizeLine_eq]; omega, ?_⟩
          refine ⟨fs' ++ [g], T' ++ [g], _, rfl, fun c o e => by rw [upd_ne (ne_of_none e hl0)]; exact s7 _ _ e, ?_, by rw [upd_ne ndl]; exact d7, by rw [upd_same, List.map_append]; rfl, nd7, ag7, ?_, ?_, ?_, ?_, ?_, ?_⟩
          · rw [upd_ne (fun e => by rw [e, l7] at t7; cases t7)]
            exact t7
          · exact fun k hk => List.mem_append_left _ (inc k hk)
          · intro k hk
            rcases List.mem_append.mp hk with hk | hk
            · exact (sub k hk).elim .inl fun z => .inr (List.mem_append_left _ z)
            · exact .inr (List.mem_append_right _ hk)
          · intro x hx hn1 hn2 k hk
            rw [List.mem_append, not_or] at hn1
            refine List.mem_append_left _ (cls x ?_ hn1.1 hn2 k hk)
            rcases hx with hx | hx
            · exact .inl hx
            · rcases List.mem_append.mp hx with hx | hx
              · exact .inr hx
              · exact absurd hx hn1.2
          · intro k hk
            rw [etk] at hk
            rcases List.mem_append.mp hk with hk | hk
            · exact List.mem_append_left _ (got k hk)
            · exact List.mem_append_right _ hk
          · rw [List.length_append, List.length_append, List.length_singleton]
            omega
          · rw [List.length_append, List.length_append, List.length_singleton]
            omega
        · have c2' : g ∈ fs' := by simpa using c2
          refine ⟨fs', T', _, rfl, s6, t6, d6, l6, nd6, ag6, inc, sub, cls, fun k hk => ?_, mu, fw⟩
          rw [etk] at hk
          rcases List.mem_append.mp hk with hk | hk
          · exact got k hk
          · have : k = g := by simpa using hk
            rw [this]; exact c2'
      · rintro σ H6 ⟨fs', T', x5, rfl, s6, t6, d6, l6, nd6, ag6, inc, sub, cls, got, mu, fw⟩
        rw [List.length_map, List.take_length] at got
        refine ⟨⟨fs', T', _, rfl, s6, d6, l6, ⟨nd6, ag6, sub, fun x hx hn k hk => ?_, fw⟩⟩, ?_⟩
        · by_cases hxb : x = b
          · rw [hxb] at hk
            exact got k hk
          · exact cls x hx hn hxb k hk
        · show (match H6 d, H6 l with | some (.dK kvs), some (.lst ts) => 2 * (es.length - kvs.length) + ts.length | _, _ => 0) < (match H3 d, H3 l with | some (.dK kvs), some (.lst ts) => 2 * (es.length - kvs.length) + ts.length | _, _ => 0)
          rw [d6, l6, d3, l3]
          show 2 * (es.length - (tkv fs').length) + (T'.map V.int).length < 2 * (es.length - (tkv fs).length) + ((T1 ++ [b]).map V.int).length
          rw [List.length_map, List.length_map, List.length_append, List.length_singleton, show (tkv fs').length = fs'.length from List.length_map _, show (tkv fs).length = fs.length from List.length_map _]
          omega
  · intro σ H' Q1 Q2 h12 hc2
    obtain ⟨v, h1, k, h2, h3⟩ := hc2
    exact ⟨v, h1, k, h2, h12 _ _ h3⟩
end
end Sw
set_option maxRecDepth 100000
set_option maxHeartbeats 4000000
namespace Sw
open PySem PySem.Spec PyProof.Rows L2
/-! what k11 asks, of the graphs alone -/
/-- a chain of blocks, each gone to from the one ahead -/
inductive Chn (es : List Ge) : Int → List Int → Prop
  | nil {x : Int} : Chn es x []
  | cons {x y : Int} {ys : List Int} : y ∈ arr es x → Chn es y ys → Chn es x (y :: ys)
/-- out of what b dominates one comes by b's frontier alone -/
theorem out_by_front {es : List Ge} {b : Int} : ∀ {x : Int} {ys : List Int}, Chn es x ys → Rch es none x → ¬ Rch es (some b) x → Rch es (some b) ((x :: ys).getLast (List.cons_ne_nil _ _)) → ∃ y ∈ ys, FrP es b y
  | x, [], _, _, hn, hl => absurd hl hn
  | x, y :: ys, .cons hy c, hr, hn, hl => by
    by_cases hy' : Rch es (some b) y
    · exact ⟨y, List.mem_cons_self, ⟨x, hr, hn, hy⟩, .inr hy'⟩
    · obtain ⟨z, hz, h⟩ := out_by_front c (.step hr hy (by simp)) hy' (by
        rw [List.getLast_cons (List.cons_ne_nil _ _)] at hl
        exact hl)
      exact ⟨z, List.mem_cons_of_mem _ hz, h⟩
/-- what the frontiers of more blocks come to is no less -/
theorem Ag.mono {es : List Ge} {bs cs : List Int} (h : ∀ b ∈ bs, b ∈ cs) {k : Int} (a : Ag es bs k) : Ag es cs k := by
  induction a with
  | one hb hk => exact .one (h _ hb) hk
  | on _ hk ih => exact .on ih hk
/-- it is the frontiers of all and of its own -/
theorem Ag.iff {es : List Ge} {bs ts : List Int} (ht : ∀ k, k ∈ ts ↔ Ag es bs k) (k : Int) : (∃ b ∈ bs ++ ts, k ∈ frI es b) ↔ Ag es bs k := by
  constructor
  · rintro ⟨b, hb, hk⟩
    rcases List.mem_append.mp hb with h | h
    · exact .one h hk
    · exact .on ((ht b).mp h) hk
  · intro a
    cases a with
    | one hb hk => exact ⟨_, List.mem_append_left _ hb, hk⟩
    | on a' hk => exact ⟨_, List.mem_append_right _ ((ht _).mpr a'), hk⟩
end Sw
set_option maxRecDepth 100000
set_option maxHeartbeats 4000000
namespace Sw
open PySem PySem.Spec PyProof.Rows L2
/-! the nearest ones as a chain -/
theorem dom_self {es : List Ge} {b : Int} : ¬ Rch es (some b) b := fun h => by
  cases h with
  | zero h => exact h rfl
  | step _ _ h => exact h rfl
theorem dom_zero {es : List Ge} {b : Int} : ¬ Rch es (some 0) b := fun h => by
  induction h with
  | zero h => exact h rfl
  | step _ _ _ ih => exact ih
theorem dom_of_zero {es : List Ge} {o : Int} (h : ¬ Rch es (some o) 0) : o = 0 := Classical.byContradiction fun z => h (.zero fun e => z (Option.some.inj e))
theorem dom_rch {es : List Ge} {o b : Int} (hb : Rch es none b) (h : ¬ Rch es (some o) b) : Rch es none o := by
  obtain ⟨w, hw, _⟩ := rch_rw hb
  obtain ⟨x, y, e⟩ := List.append_of_mem (dom_on h hw)
  rw [e] at hw
  exact rw_rch hw.suffix rfl fun _ _ => by simp
theorem mem_sdoms {es : List Ge} (hok : Gok es) {b o : Int} (hb : Rch es none b) : o ∈ sdoms es b ↔ o ≠ b ∧ ¬ Rch es (some o) b := by
  unfold sdoms
  rw [List.mem_filter]
  constructor
  · rintro ⟨h1, h2⟩
    obtain ⟨o0, o1⟩ := domsI_rng h1
    exact ⟨by simpa using h2, domB_iff.mp ((mem_domsI o0 o1).mp h1)⟩
  · rintro ⟨h1, h2⟩
    obtain ⟨o0, o1⟩ := (dom_rch hb h2).rng hok
    exact ⟨(mem_domsI o0 o1).mpr (domB_iff.mpr h2), by simpa using h1⟩
theorem same_dom {es : List Ge} {a c b : Int} (hb : Rch es none b) (ha : ¬ Rch es (some a) b) (hc : ¬ Rch es (some c) b) (h1 : ¬ Rch es (some a) c) (h2 : ¬ Rch es (some c) a) : a = c :=
  Classical.byContradiction fun ne => (dom_anti ne hb ha hc).elim h1 h2
theorem near_iff {es : List Ge} (hok : Gok es) {b m : Int} (hb : Rch es none b) : nearI es b = some m ↔ m ≠ b ∧ ¬ Rch es (some m) b ∧ ∀ o, o ≠ b → ¬ Rch es (some o) b → ¬ Rch es (some o) m := by
  rw [nearI_of hb]
  constructor
  · intro h
    have h1 := (mem_sdoms hok hb).mp (List.mem_of_find?_eq_some h)
    have h2 := List.find?_some h
    refine ⟨h1.1, h1.2, fun o ho hd => ?_⟩
    exact domB_iff.mp (List.all_eq_true.mp h2 o ((mem_sdoms hok hb).mpr ⟨ho, hd⟩))
  · rintro ⟨h1, h2, h3⟩
    have hm := (mem_sdoms hok hb).mpr ⟨h1, h2⟩
    have hp : ((sdoms es b).all fun other => domB es other m) = true := List.all_eq_true.mpr fun o ho => by
      obtain ⟨o1, o2⟩ := (mem_sdoms hok hb).mp ho
      exact domB_iff.mpr (h3 o o1 o2)
    cases hf : (sdoms es b).find? (fun one => (sdoms es b).all fun other => domB es other one) with
    | none => exact absurd hp (by simpa using List.find?_eq_none.mp hf m hm)
    | some m' =>
      have g1 := (mem_sdoms hok hb).mp (List.mem_of_find?_eq_some hf)
      have g2 := List.find?_some hf
      have e1 := domB_iff.mp (List.all_eq_true.mp g2 m hm)
      have e2 := h3 m' g1.1 g1.2
      rw [same_dom hb g1.2 h2 e2 e1]
theorem dom_top {es : List Ge} {b : Int} (hb : Rch es none b) : ∀ {l : List Int}, (∀ x ∈ l, ¬ Rch es (some x) b) → l ≠ [] → ∃ m ∈ l, ∀ x ∈ l, ¬ Rch es (some x) m
  | [], _, h => absurd rfl h
  | [x], _, _ => ⟨x, by simp, fun y hy => by
    have : y = x := by simpa using hy
    rw [this]; exact dom_self⟩
  | x :: y :: l, h, _ => by
    obtain ⟨m, hm, ha⟩ := dom_top hb (l := y :: l) (fun z hz => h z (List.mem_cons_of_mem _ hz)) (by simp)
    rcases dom_total hb (h x List.mem_cons_self) (h m (List.mem_cons_of_mem _ hm)) with c | c
    · refine ⟨m, List.mem_cons_of_mem _ hm, fun z hz => ?_⟩
      rcases List.mem_cons.mp hz with rfl | hz
      · exact c
      · exact ha z hz
    · refine ⟨x, List.mem_cons_self, fun z hz => ?_⟩
      rcases List.mem_cons.mp hz with rfl | hz
      · exact dom_self
      · exact dom_trans (ha z hz) c
theorem near_ex {es : List Ge} (hok : Gok es) {b : Int} (hb : Rch es none b) (h0 : b ≠ 0) : ∃ m, nearI es b = some m := by
  have hz : (0 : Int) ∈ sdoms es b := (mem_sdoms hok hb).mpr ⟨Ne.symm h0, dom_zero⟩
  obtain ⟨m, hm, ha⟩ := dom_top hb (l := sdoms es b) (fun x hx => ((mem_sdoms hok hb).mp hx).2) (List.ne_nil_of_mem hz)
  obtain ⟨m1, m2⟩ := (mem_sdoms hok hb).mp hm
  exact ⟨m, (near_iff hok hb).mpr ⟨m1, m2, fun o ho hd => ha o ((mem_sdoms hok hb).mpr ⟨ho, hd⟩)⟩⟩
theorem near_zero {es : List Ge} (hok : Gok es) : nearI es 0 = none := by
  have hr : Rch es none 0 := .zero (by simp)
  cases h : nearI es 0 with
  | none => rfl
  | some m =>
    obtain ⟨m1, m2, _⟩ := (near_iff hok hr).mp h
    exact absurd (dom_of_zero m2) m1
/-- what dominates b is b and what dominates its nearest one -/
theorem dom_near {es : List Ge} (hok : Gok es) {b m d : Int} (hb : Rch es none b) (h : nearI es b = some m) : ¬ Rch es (some d) b ↔ d = b ∨ ¬ Rch es (some d) m := by
  obtain ⟨m1, m2, m3⟩ := (near_iff hok hb).mp h
  constructor
  · intro hd
    by_cases e : d = b
    · exact .inl e
    · exact .inr (m3 d e hd)
  · rintro (rfl | hd)
    · exact dom_self
    · exact dom_trans hd m2
/-- .. and b isn't among those -/
theorem near_not {es : List Ge} (hok : Gok es) {b m : Int} (hb : Rch es none b) (h : nearI es b = some m) : Rch es (some b) m := by
  obtain ⟨m1, m2, _⟩ := (near_iff hok hb).mp h
  exact Classical.byContradiction fun z => m1 (same_dom hb m2 dom_self m2 z)
theorem nodup_le : ∀ {l l' : List Int}, l.Nodup → (∀ x ∈ l, x ∈ l') → l.length ≤ l'.length
  | [], _, _, _ => Nat.zero_le _
  | x :: l, l', nd, h => by
    obtain ⟨hx, nd'⟩ := List.nodup_cons.mp nd
    have ih := nodup_le (l' := l'.erase x) nd' fun y hy => (List.mem_erase_of_ne (show y ≠ x from fun e => hx (by rw [← e]; exact hy))).mpr (h y (List.mem_cons_of_mem _ hy))
    have hm := h x List.mem_cons_self
    have hl := List.length_erase_of_mem hm
    have := List.length_pos_of_mem hm
    rw [List.length_cons]
    omega
/-- how many dominate it -/
noncomputable def muD (es : List Ge) (b : Int) : Nat := (domsI es b).length
theorem near_lt {es : List Ge} (hok : Gok es) {b m : Int} (hb : Rch es none b) (h : nearI es b = some m) : muD es m < muD es b := by
  have hm := dom_rch hb ((near_iff hok hb).mp h).2.1
  obtain ⟨b0, b1⟩ := hb.rng hok
  have sub : ∀ x ∈ b :: domsI es m, x ∈ domsI es b := fun x hx => by
    rcases List.mem_cons.mp hx with rfl | hx
    · exact (mem_domsI b0 b1).mpr (domB_iff.mpr dom_self)
    · obtain ⟨x0, x1⟩ := domsI_rng hx
      exact (mem_domsI x0 x1).mpr (domB_iff.mpr ((dom_near hok hb h).mpr (.inr (domB_iff.mp ((mem_domsI x0 x1).mp hx)))))
  have nd : (b :: domsI es m).Nodup := List.nodup_cons.mpr ⟨fun z => domB_iff.mp ((mem_domsI b0 b1).mp z) (near_not hok hb h), (domsI_rising es m).imp fun h => by omega⟩
  have le := nodup_le nd sub
  unfold muD
  rw [List.length_cons] at le
  omega
/-- up from h by the nearest ones as far as m -/
noncomputable def ups (es : List Ge) (m : Option Int) : Nat → Option Int → List Int
  | _, none => []
  | 0, _ => []
  | n + 1, some h => if some h = m then [] else h :: ups es m n (nearI es h)
theorem ups_mem {es : List Ge} (hok : Gok es) {m : Option Int} {d : Int} : ∀ {n : Nat} {h : Int}, Rch es none h → muD es h ≤ n → (∀ k, m = some k → ¬ Rch es (some k) h) → (d ∈ ups es m n (some h) ↔ ¬ Rch es (some d) h ∧ ∀ k, m = some k → Rch es (some d) k)
  | 0, h, hr, hn, _ => by
    obtain ⟨h0, h1⟩ := hr.rng hok
    have : h ∈ domsI es h := (mem_domsI h0 h1).mpr (domB_iff.mpr dom_self)
    have := List.length_pos_of_mem this
    unfold muD at hn
    omega
  | n + 1, h, hr, hn, hm => by
    unfold ups
    by_cases e : some h = m
    · rw [if_pos e]
      refine ⟨fun z => absurd z List.not_mem_nil, fun z => absurd (z.2 h e.symm) z.1⟩
    rw [if_neg e, List.mem_cons]
    have hh : ∀ k, m = some k → Rch es (some h) k := fun k hk => Classical.byContradiction fun z => e (by
      rw [hk, same_dom hr dom_self (hm k hk) z (hm k hk)])
    cases hnr : nearI es h with
    | none =>
      have z : h = 0 := Classical.byContradiction fun z => by
        obtain ⟨_, e'⟩ := near_ex hok hr z
        rw [hnr] at e'
        cases e'
      subst z
      have en : ups es m n none = [] := by cases n <;> rfl
      rw [en]
      constructor
      · rintro (rfl | z)
        · exact ⟨dom_self, hh⟩
        · cases z
      · rintro ⟨z, _⟩
        exact .inl (dom_of_zero z)
    | some h' =>
      have hr' := dom_rch hr ((near_iff hok hr).mp hnr).2.1
      have lt := near_lt hok hr hnr
      have ih := ups_mem hok (m := m) (d := d) (n := n) hr' (by omega) fun k hk => ((dom_near hok hr hnr).mp (hm k hk)).resolve_left fun z => e (by rw [hk, z])
      rw [ih, dom_near hok hr hnr]
      constructor
      · rintro (rfl | ⟨z1, z2⟩)
        · exact ⟨.inl rfl, hh⟩
        · exact ⟨.inr z1, z2⟩
      · rintro ⟨rfl | z1, z2⟩
        · exact .inl rfl
        · exact .inr ⟨z1, z2⟩
/-- the frontier by those ahead: up from each of them as far as the nearest one -/
theorem front_ups {es : List Ge} (hok : Gok es) {d b : Int} (hb : Rch es none b) : FrP es d b ↔ ∃ o, Rch es none o ∧ b ∈ arr es o ∧ ¬ Rch es (some d) o ∧ ∀ k, nearI es b = some k → Rch es (some d) k := by
  unfold FrP
  have key : (b = d ∨ Rch es (some d) b) ↔ ∀ k, nearI es b = some k → Rch es (some d) k := by
    constructor
    · intro h k hk
      rcases h with rfl | h
      · exact near_not hok hb hk
      · exact Classical.byContradiction fun z => (dom_near hok hb hk).mpr (.inr z) h
    · intro h
      by_cases e : b = d
      · exact .inl e
      · refine .inr (Classical.byContradiction fun z => ?_)
        by_cases b0 : b = 0
        · subst b0
          exact e (dom_of_zero z).symm
        · obtain ⟨k, hk⟩ := near_ex hok hb b0
          exact ((dom_near hok hb hk).mp z).elim (fun y => e y.symm) fun y => y (h k hk)
  rw [key]
  constructor
  · rintro ⟨⟨o, h1, h2, h3⟩, h⟩
    exact ⟨o, h1, h3, h2, h⟩
  · rintro ⟨o, h1, h3, h2, h⟩
    exact ⟨⟨o, h1, h2, h3⟩, h⟩
/-- the nearest one dominates all that go to it -/
theorem near_ahead {es : List Ge} (hok : Gok es) {b m o : Int} (hb : Rch es none b) (h : nearI es b = some m) (hk : b ∈ arr es o) : ¬ Rch es (some m) o := fun z => by
  obtain ⟨m1, m2, _⟩ := (near_iff hok hb).mp h
  exact m2 (.step z hk fun e => m1 (Option.some.inj e))
end Sw
set_option maxRecDepth 100000
set_option maxHeartbeats 4000000
namespace Sw
open PySem PySem.Spec PyProof.Rows L2
abbrev NBf : List Str := ["code", "name", "block", "other", "rows", "end"]
def befN (es : List Ge) (b : Int) (n : Nat) : List Int := ((List.range n).filter fun i : Nat => decide (b ∈ arr es (i : Int))).map fun i : Nat => (i : Int)
theorem mem_befN {es : List Ge} {b k : Int} {n : Nat} : k ∈ befN es b n ↔ 0 ≤ k ∧ k < (n : Int) ∧ b ∈ arr es k := by
  unfold befN
  rw [List.mem_map]
  constructor
  · rintro ⟨i, hi, rfl⟩
    obtain ⟨h1, h2⟩ := List.mem_filter.mp hi
    have := List.mem_range.mp h1
    exact ⟨by omega, by omega, by simpa using h2⟩
  · rintro ⟨h0, h1, h2⟩
    refine ⟨k.toNat, List.mem_filter.mpr ⟨List.mem_range.mpr (by omega), ?_⟩, Int.toNat_of_nonneg h0⟩
    rw [Int.toNat_of_nonneg h0]
    simpa using h2
theorem befN_succ {es : List Ge} {b : Int} {n : Nat} : befN es b (n + 1) = befN es b n ++ (if b ∈ arr es (n : Int) then [(n : Int)] else []) := by
  unfold befN
  rw [List.range_succ, List.filter_append, List.map_append]
  congr 1
  by_cases h : b ∈ arr es (n : Int)
  · rw [if_pos h]; simp [h]
  · rw [if_neg h]; simp [h]
theorem befN_len {es : List Ge} {b : Int} {n : Nat} : (befN es b n).length ≤ n := by
  unfold befN
  rw [List.length_map]
  exact Nat.le_trans (List.length_filter_le _ _) (by rw [List.length_range]; exact Nat.le_refl _)
section
variable {P : Program} {w : World} {K : PySem.W.Frag} {mg : Str → Option Value} {base : Heap}
def spBef (K : PySem.W.Frag) : Sp := fun vs H Q _ => ∃ (vc : V) (nm : Str) (b : Int) (es : List Ge), vs = [vc, .str nm, .int b] ∧ CodeOf K H vc nm es ∧ ∀ t H', Same H H' → H' t = some (.tup ((befN es b es.length).map V.int)) → Q (.ref t) H'
theorem sc_bef : FnScope NBf ["code", "name", "block"] (defScope (topS 8)) := ⟨rfl, rfl, rfl, by decide +kernel, rfl, by decide +kernel, by decide +kernel⟩
theorem ok_bef {f f1 f2 : Addr} {fd fd1 fd2 : FuncData} (D : Df K mg "befores" (topS 8) ["code", "name", "block"] f fd) (D1 : Df K mg "blocks_of" (topS 4) ["code", "name"] f1 fd1) (D2 : Df K mg "goals" (topS 6) ["end"] f2 fd2) (B : Bt mg) (bE : mg "enumerate" = none)
    (G1 : FnOk P w K mg base CX0 1 f1 fd1 ["code", "name"] (spBlocks K)) (G2 : FnOk P w K mg base CX0 1 f2 fd2 ["end"] (spGoals K)) : FnOk P w K mg base CX0 2 f fd ["code", "name", "block"] (spBef K) := by
  refine D.fn.ok sc_bef (fun vs H Q E h => ?_) (fun cdv A outer s H vs Q E hr h => ?_)
  · obtain ⟨vc, nm, b, es, rfl, _⟩ := h
    rfl
  obtain ⟨vc, nm, b, es, rfl, hc, q⟩ := h
  have nd := sc_bef.nd
  refine ⟨_, (pss_one (ps_ret (pe_callTy call_tuple_of (by rfl) B.tuple (by decide +kernel) (pa_cons (pe_lc (own := [("other", 3), ("rows", 4), ("end", 5)]) (g := gTup K 2 (gCons (gName 3) (gCons (gTup K 2 (gCons (gName 4) (gCons (gName 5) gNil))) gNil))) (tt := tTest (tOp (rIn K false) (tVar 2) (tCall (spGoals K) [] E0 (tCons (tVar 5) tNil)))) rfl nd (pi_enT (by rfl) bE (pa_cons (pe_call G1 hr (by rfl) D1.gl D1.fn.kp D1.bd .nil pass0 (pa_cons (pv 0) (pa_cons (pv 1) pa_nil))) pa_nil)) (blkOk_by (N := NBf) (sc := defScope (topS 8)) (by decide +kernel)) (fun _ _ _ _ _ => (pg_tup rfl (pgs_cons (pg_name (i := 3) nd rfl (Or.inl rfl)) (pgs_cons (pg_tup rfl (pgs_cons (pg_name (i := 4) nd rfl (Or.inl rfl)) (pgs_cons (pg_name (i := 5) nd rfl (Or.inl rfl)) pgs_nil))) pgs_nil)))) (fun _ _ _ _ _ => (pts_one (pt_cmpR (r := rIn K false) op_in_seq (pv 2) (pe_call G2 hr (by rfl) D2.gl D2.fn.kp D2.bd .nil pass0 (pa_cons (pv 5) pa_nil)) (by with_unfolding_all rfl)))) (fun _ _ _ _ _ => (pv 3))) pa_nil)))), ?_⟩
  have few := hc.ok.few
  obtain ⟨rs, h1, h2⟩ := hc.ex
  refine ⟨_, rfl, _, rfl, vc, nm, rs, es, rfl, h1, h2, fun v hv => ?_⟩
  obtain ⟨a, xs, rfl, ha, hx⟩ := Dp_tup hv
  have lx : xs.length = es.length := by rw [DpAll_len hx, List.length_map]
  refine ⟨a, xs, rfl, ha, fun Dn hDn => lc_it (walk_enT (xs := xs)) (fun i H' => Same H H' ∧ H' Dn = some (.lst ((befN es b i).map V.int))) ⟨same_new hDn, upd_same⟩ (fun i H' _ h => sameT h.1 ha) ?_ ?_⟩
  · rintro i y H2 H3 hi ⟨s2, d2⟩ ⟨T, x, rfl, hT, rfl, hx'⟩
    rw [lx] at hi
    obtain ⟨d, hd1, hd2⟩ := DpAll_get hx hx'
    rw [List.getElem?_map, List.getElem?_eq_getElem hi] at hd1
    cases hd1
    have eg : ∀ k, k ∈ goalsI es[i] ↔ k ∈ arr es (i : Int) := fun k => by
      rw [← mem_goalsAt]
      unfold goalsAt
      rw [Int.toNat_natCast, List.getElem?_eq_getElem hi]
    generalize es[i] = e at hd2 eg
    obtain ⟨p, ys, rfl, hp, hy⟩ := Dp_tup hd2
    obtain ⟨x1, x2, rfl, _, k2⟩ := DpAll_two hy
    have s3 := same_new (o := .tup [.int (i : Nat), .ref p]) hT
    have bl : (befN es b i).length ≤ i := befN_len
    refine ⟨T, _, rfl, SqT.of upd_same, rfl, _, _, rfl, _, _, rfl, ⟨p, _, rfl, sameT (s2.trans s3) hp, rfl, _, _, rfl, _, _, rfl, rfl, rfl, rfl, ?_⟩⟩
    refine ⟨_, rfl, _, rfl, x2, e, rfl, Dp_same (s2.trans s3) k2, fun t H4 s4 ht => ⟨t, _, rfl, .inr (SqT.of ht), rfl, flat_ints _, _, rfl, ?_⟩⟩
    rw [if_neg (show ¬ (false = true) by simp), inV_ints]
    have s24 := s3.trans s4
    have d4 := s24 _ _ d2
    rw [befN_succ]
    refine ite2 (fun c => ?_) (fun c => ?_)
    · have c' : b ∈ arr es (i : Int) := (eg b).mp (by simpa using c)
      rw [if_pos c']
      refine ⟨_, rfl, _, d4, by rw [List.length_map, sizeLine_eq]; omega, fun c o ee => by rw [upd_ne (ne_of_none ee hDn)]; exact s24 _ _ (s2 _ _ ee), by rw [upd_same, List.map_append]; rfl⟩
    · have c' : ¬ b ∈ arr es (i : Int) := fun z => c (by simpa using (eg b).mpr z)
      rw [if_neg c', List.append_nil]
      exact ⟨s2.trans s24, d4⟩
  · rintro H2 ⟨s2, d2⟩
    rw [lx] at d2
    refine ⟨Dn, _, rfl, .inl ⟨SqL.of d2, fun t ht => ?_⟩⟩
    exact q t _ (s2.trans (same_new ht)) upd_same
end
end Sw
set_option maxRecDepth 100000
set_option maxHeartbeats 4000000
namespace Sw
open PySem PySem.Spec PyProof.Rows L2
/-! ### tuples with nothing beside their items -/
abbrev tupO (its : List Value) : Obj := { cls := .type "tuple", data := .seq its.toArray }
def TupF (H : Hp) (a : Addr) (xs : List V) : Prop := ∃ its, H a = some (.frz (tupO its) (.tup xs))
theorem TupF.sq {K : PySem.W.Frag} {H : Hp} {a : Addr} {xs : List V} (h : TupF H a xs) : SqT K H a xs := .inl (.inr ⟨_, h.choose_spec⟩)
theorem TupF.same {H H' : Hp} {a : Addr} {xs : List V} (h : TupF H a xs) (s : Same H H') : TupF H' a xs := ⟨_, s _ _ h.choose_spec⟩
theorem TupF.new {H : Hp} {a : Addr} {its : List Value} {xs : List V} : TupF (upd H a (.frz (tupO its) (.tup xs))) a xs := ⟨its, upd_same⟩
theorem TupF.ne {H : Hp} {a b : Addr} {xs ys : List V} (h : TupF H a xs) (hb : H b = some (.lst ys)) : a ≠ b := fun e => by
  obtain ⟨its, h⟩ := h
  rw [e, hb] at h
  cases h
theorem TupF.upd {H : Hp} {a b : Addr} {xs : List V} {o : HO} (h : TupF H a xs) (n : a ≠ b) : TupF (upd H b o) a xs := by
  obtain ⟨its, h⟩ := h
  exact ⟨its, by rw [upd_ne n]; exact h⟩
section
variable {X : Cx}
/-- t + u of two that aren't empty -/
def rCatF (K : PySem.W.Frag) : R2 := fun x y H Q => ∃ a b xs ys, x = .ref a ∧ y = .ref b ∧ SqT K H a xs ∧ SqT K H b ys ∧ xs ≠ [] ∧ ys ≠ [] ∧ xs.length + ys.length ≤ sizeLine ∧
  ∀ p its, H p = none → Q (.ref p) (upd H p (.frz (tupO its) (.tup (xs ++ ys))))
theorem op_catF : OpR X (binaryOp .Add) (rCatF X.K) := by
  intro pins s σ H x y v u Q I rx ry h
  obtain ⟨a, b, xs, ys, rfl, rfl, ha, hb, hx, hy, hz, q⟩ := h
  cases rx
  cases ry
  obtain ⟨its, r1, p1, _⟩ := I.tuple ha
  obtain ⟨its2, r2, p2, _⟩ := I.tuple hb
  refine HT.cat_tup p1 p2 (fun z => hx (r1.nil_iff.mp z)) (fun z => absurd (r2.nil_iff.mp z) hy) (fun z => ?_) (by rw [← r1.length, ← r2.length]; exact hz)
  refine ⟨.ref s.heap.objs.size, _, I.laid (t' := s.toks) (o := .frz (tupO (its ++ its2)) (.tup (xs ++ ys))) (fun b ob q => Heap.get?_push_of_some _ q) (Nat.le_refl _) ?_, rfl, q _ _ (I.hok.fresh (Nat.le_refl _))⟩
  exact ⟨Heap.get?_push_size _ rfl, by rw [List.length_append]; exact hz, _, r1.append r2, IsTup.new _ _⟩
/-- a display of a tuple -/
def tTupF (t : TA) : TE := fun σ H Q => t σ H fun xs H1 => xs.length ≤ sizeLine ∧ ∀ p its, H1 p = none → Q (.ref p) (upd H1 p (.frz (tupO its) (.tup xs)))
theorem pe_tupF {es : List Expr} {t : TA} {pos : Pos} {x1} (h : PA X es t) : PE X (.Tuple es x1 pos) (tTupF t) := by
  refine ⟨fun pins s σ H Q I hq => ?_⟩
  refine wpAny_Tuple_spliced (thn (h.run pos pins s σ H _ I hq) fun us s1 ⟨xs, H1, I1, r, z, q⟩ => ⟨by rw [← r.length]; exact z, ?_⟩)
  have hf : H1 s1.heap.objs.size = none := I1.hok.fresh (Nat.le_refl _)
  refine ⟨.ref s1.heap.objs.size, upd H1 s1.heap.objs.size (.frz (tupO us) (.tup xs)), I1.laid (t' := s1.toks) (fun b u e => Heap.get?_push_of_some _ e) (Nat.le_refl _) ?_, rfl, q _ us hf⟩
  exact ⟨Heap.get?_push_size _ rfl, z, us, r, ⟨_, Heap.get?_push_size _ rfl, rfl, _, rfl⟩⟩
/-- a method of such a tuple -/
def tBMF (r : V → List V → Hp → VK → Prop) (to : TE) (t : TA) : TE := fun σ H Q => to σ H fun x H1 => (∃ p xs, x = .ref p ∧ TupF H1 p xs) ∧ t σ H1 fun xs H2 => r x xs H2 Q
theorem pe_bmF {o e : Expr} {es : List Expr} {to : TE} {t : TA} {name : Str} {apos cpos : Pos} {id : String} {r : V → List V → Hp → VK → Prop} (pa : PlainAttrs "tuple") (slot : Slot "tuple" name id) (hty : typeOf (.builtin id) = pure (.type "method_descriptor")) (hm : MtR X id r) (ho : PE X o to) (ha : PA X (e :: es) t)
    (hbase : attributeBase o name X.env (eval o X.env) = eval o X.env := by rfl)
    (hfew : ((backTo cpos (starEach (e :: es) X.env)).all (fun x => !x.1) && (backToKw cpos (keywordEach [] X.env)).all (fun x => x.1.isSome)
      && decide ((e :: es).length + ([] : List Keyword).length + (if ([] : List Keyword).isEmpty then 0 else 1) < 30)) = true := by rfl)
    (hline : (apos.endLine == cpos.line) = true := by rfl) (hs : starEach (e :: es) X.env = (false, eval e X.env) :: starEach es X.env := by rfl) (hplain : (backTo cpos (starEach es X.env)).any (·.1) = false := by rfl) :
    PE X (.Call (.Attribute o name apos) (e :: es) [] cpos) (tBMF r to t) := by
  refine ⟨fun pins s σ H Q I h => ?_⟩
  refine wpAny_Call_method_late hbase hfew hline rfl (thn (ho.run pins s σ H _ I h) fun v s1 ⟨x, H1, I1, r1, ⟨p, xs, ex, its, hF⟩, q1⟩ => ?_)
  have r1' := r1
  subst ex
  cases r1'
  obtain ⟨e1, _⟩ := I1.hok p _ hF
  refine ⟨"tuple", id, pa, slot, hty, ⟨_, e1, rfl⟩, fun a e2 => ?_, ?_⟩
  · cases e2
    exact ⟨_, e1, rfl⟩
  have hA := ha.run cpos pins s1 σ H1 _ I1 q1
  rw [hs] at hA ⊢
  refine Calls.callWith_builtin (by show (false || (backTo cpos (starEach es X.env)).any (·.1)) = false; rw [hplain] <;> rfl) (Calls.evalArgs_plain ?_)
  exact thn hA fun us s2 ⟨vs, H2, I2, r2, q2⟩ => hm pins s2 σ H2 _ vs _ us Q I2 r1 r2 q2
end
/-- t.index(k) of numbers, where it is there -/
theorem mt_tup_indexI {X : Cx} : MtR X "tuple.index" (fun x xs H Q => ∃ (p : Addr) (ys : List Int) (z : Int) (j : Nat), x = .ref p ∧ xs = [.int z] ∧ SqT X.K H p (ys.map V.int) ∧ ys[j]? = some z ∧ (∀ m, m < j → ys[m]? ≠ some z) ∧ Q (.int (j : Nat)) H) := by
  intro pins s σ H x xs v us Q I rx rs h
  obtain ⟨p, ys, z, j, rfl, rfl, hq, hy, hno, q⟩ := h
  cases rx
  obtain ⟨u, rfl, t, rfl⟩ := vals1 rs
  obtain ⟨its, r, ⟨⟨cls, dd, dt, sl⟩, ho, hc, n, hd⟩, hz⟩ := I.tuple hq
  cases hc
  cases hd
  have hl : its.length = ys.length := by rw [← r.length, List.length_map]
  have hjy : j < ys.length := (List.getElem?_eq_some_iff.mp hy).1
  have look : ∀ (m : Nat) (hm : m < its.toArray.size), ∃ k t', ys[m]? = some k ∧ its.toArray[m] = Value.int k t' := fun m hm => by
    have hm' : m < ys.length := by simpa [hl] using hm
    obtain ⟨w, hw, t', hw'⟩ := r.get (i := m) (x := .int ys[m]) (by simp [hm'])
    refine ⟨ys[m], t', List.getElem?_eq_getElem hm', ?_⟩
    rw [← hw', ← (List.getElem?_eq_some_iff.mp hw).2]
    simp
  refine call_meets PySem.F.slot_tuple_index ⟨_, ho, rfl⟩ PySem.F.entry_tuple_index (PySem.F.args_tuple_index_2 _ _) (TI.tuple_indexAt p its.toArray n dd sl (.int z t) (eqU (.int z)) j (by simpa [hl] using hjy) ?_ ?_)
    ⟨ho, fun w hw => mem_eqAt (x := .int z) ⟨t, rfl⟩ rfl r (flat_ints ys) w (by simpa using hw), ⟨.int (j : Nat), H, I.tok _, ⟨_, rfl⟩, q⟩⟩
  · obtain ⟨y, t', h1, h2⟩ := look j (by simpa [hl] using hjy)
    cases hy.symm.trans h1
    rw [h2]
    show (z == z) = true
    exact beq_self_eq_true z
  · intro m hm hmj
    obtain ⟨y, t', h1, h2⟩ := look m hm
    rw [h2]
    show (y == z) = false
    exact beq_eq_false_iff_ne.mpr fun e => hno m hmj (by rw [h1, e])
end Sw
set_option maxRecDepth 100000
set_option maxHeartbeats 4000000
namespace Sw
open PySem PySem.Spec PyProof.Rows L2
abbrev NWy : List Str := ["_law_code", "_law_found", "_law_at", "_law_block"]
theorem Chn.rch {es : List Ge} : ∀ {x : Int} {ys : List Int}, Chn es x ys → Rch es none x → ∀ k ∈ x :: ys, Rch es none k
  | x, [], _, hx, k, hk => by
    have : k = x := by simpa using hk
    rw [this]; exact hx
  | x, y :: ys, .cons hy c, hx, k, hk => by
    rcases List.mem_cons.mp hk with rfl | hk
    · exact hx
    · exact c.rch (.step hx hy (by simp)) k hk
theorem Chn.snoc {es : List Ge} {y b : Int} (hy : y ∈ arr es b) : ∀ {x : Int} {ys zs : List Int}, Chn es x ys → x :: ys = zs ++ [b] → Chn es x (ys ++ [y])
  | x, [], zs, _, e => by
    cases zs with
    | nil =>
      injection e with e1 _
      subst e1
      exact .cons hy .nil
    | cons z zs =>
      injection e with _ e2
      cases zs <;> cases e2
  | x, u :: ys, zs, .cons hu c, e => by
    cases zs with
    | nil =>
      injection e with _ e2
      cases e2
    | cons z zs =>
      injection e with _ e2
      exact .cons hu (c.snoc hy e2)
/-- a way of blocks from 0 -/
structure WyOk (es : List Ge) (w : List Int) : Prop where
  ex : ∃ ys, w = 0 :: ys ∧ Chn es 0 ys
  len : w.length ≤ 8
theorem WyOk.snoc {es : List Ge} {zs : List Int} {b y : Int} (h : WyOk es (zs ++ [b])) (hl : (zs ++ [b]).length < 8) (hy : y ∈ arr es b) : WyOk es ((zs ++ [b]) ++ [y]) := by
  obtain ⟨ys, e, c⟩ := h.ex
  refine ⟨⟨ys ++ [y], by rw [e]; rfl, c.snoc hy e.symm⟩, ?_⟩
  rw [List.length_append, List.length_singleton]
  omega
theorem WyOk.last {es : List Ge} {w : List Int} (h : WyOk es w) : ∃ zs b, w = zs ++ [b] ∧ Rch es none b := by
  obtain ⟨ys, e, c⟩ := h.ex
  have ne : w ≠ [] := by rw [e]; simp
  refine ⟨w.dropLast, w.getLast ne, (List.dropLast_concat_getLast ne).symm, ?_⟩
  subst e
  exact c.rch (.zero (by simp)) _ (List.getLast_mem _)
theorem paired_append {α β : Type} {R : α → β → Prop} : ∀ {xs xs' : List α} {ys ys' : List β}, Paired R xs ys → Paired R xs' ys' → Paired R (xs ++ xs') (ys ++ ys')
  | _, _, _, _, .nil, q => q
  | _, _, _, _, .cons r t, q => .cons r (paired_append t q)
structure WysAt (H : Hp) (F : Addr) (es : List Ge) (n : Nat) : Prop where
  ex : ∃ (as : List Addr) (ws : List (List Int)), H F = some (.lst (as.map V.ref)) ∧ Paired (fun a w => TupF H a (w.map V.int)) as ws ∧ (∀ w ∈ ws, WyOk es w) ∧ as.length ≤ n
section
variable {P : Program} {w : World} {K : PySem.W.Frag} {mg : Str → Option Value} {base : Heap}
def spWays11 (K : PySem.W.Frag) : Sp := fun vs H Q _ => ∃ (vc : V) (es : List Ge), vs = [vc] ∧ CodeOf K H vc "main" es ∧ ∀ (F : Addr) (H' : Hp), Same H H' → H F = none → WysAt H' F es 121 → Q (.ref F) H'
theorem sc_ways11 : FnScope NWy ["_law_code"] (defScope (topS 21)) := ⟨rfl, rfl, rfl, by decide +kernel, rfl, by decide +kernel, by decide +kernel⟩
theorem ok_ways11 {f f1 : Addr} {fd fd1 : FuncData} (D : Df K mg "_law_ways" (topS 21) ["_law_code"] f fd) (D1 : Df K mg "nexts" (topS 7) ["code", "name", "block"] f1 fd1) (B : Bt mg)
    (G1 : FnOk P w K mg base CX0 2 f1 fd1 ["code", "name", "block"] (spNexts K)) : FnOk P w K mg base CX0 3 f fd ["_law_code"] (spWays11 K) := by
  refine D.fn.ok sc_ways11 (fun vs H Q E h => ?_) (fun cdv A outer s H vs Q E hr h => ?_)
  · obtain ⟨vc, es, rfl, _⟩ := h
    rfl
  obtain ⟨vc, es, rfl, hc, q⟩ := h
  have nd := sc_ways11.nd
  refine ⟨_, (pss_cons (ps_set (i := 1) nd rfl (Or.inr rfl) (pe_lst (pa_cons (pe_tupF (pa_cons pe_int pa_nil)) pa_nil)))
    (pss_cons (ps_for PassesOwn.never rfl (pi_range1 (by rfl) B.range (pa_cons pe_int pa_nil)) (pg_name (i := 2) nd rfl (Or.inr rfl))
    (pss_one (ps_if (PW.pt (pw_and (pt_cmpR op_lt (pv 2) (pe_callB call_len_seq (by rfl) B.len PySem.boot_len (pa_cons (pv 1) pa_nil)) (nomark _)) (pw_and1 (pt_cmpR op_lt (pe_callB call_len_seq (by rfl) B.len PySem.boot_len (pa_cons (pe_ix (r := rIxL K) ix_list (pv 1) (pv 2) (fun _ _ => rfl)) pa_nil)) pe_int (nomark _))))) (pss_one (ps_expr (pe_bm PySem.F.plainAttrs_list PySem.F.slot_list_extend PySem.F.type_list_extend mt_extend (pv 1) (pa_cons (pe_lc (own := [("_law_block", 3)]) (g := gName 3) (tt := tYes) (te := tOp (rCatF K) (tOp (rIxL K) (tVar 1) (tVar 2)) (tTup (tCons (tVar 3) tNil))) rfl nd (pi_tup (pe_call G1 hr (by rfl) D1.gl D1.fn.kp D1.bd .nil pass0 (pa_cons (pv 0) (pa_cons pe_str (pa_cons (pe_ix (r := rIxT K) ix_tup (pe_ix (r := rIxL K) ix_list (pv 1) (pv 2) (fun _ _ => rfl)) (pe_un un_neg pe_int) (fun _ _ => rfl)) pa_nil))))) (blkOk_by (N := NWy) (sc := defScope (topS 21)) (by decide +kernel)) (fun _ _ _ _ _ => pg_name (i := 3) nd rfl (Or.inl rfl)) (fun _ _ _ _ _ => pts_nil) (fun _ _ _ _ _ => (pe_op op_catF (pe_ix (r := rIxL K) ix_list (pv 1) (pv 2) (fun _ _ => rfl)) (pe_tup (pa_cons (pv 3) pa_nil))))) pa_nil)))) pss_nil)))
    (pss_one (ps_ret (pv 1))))), ?_⟩
  refine ⟨by show 1 ≤ sizeLine; decide, fun t0 i0 ht0 => ?_⟩
  have s0 := same_new (o := .frz (tupO i0) (.tup [V.int 0])) ht0
  have e0 : TupF (upd H t0 (.frz (tupO i0) (.tup [V.int 0]))) t0 (([0] : List Int).map V.int) := .new
  generalize upd H t0 (.frz (tupO i0) (.tup [V.int 0])) = H0 at s0 e0
  refine ⟨by show 1 ≤ sizeLine; decide, fun F hF => ?_⟩
  have s1 := same_new (o := .lst [V.ref t0]) hF
  have hF0 : H F = none := s0.free hF
  refine ⟨60, rfl, by decide, by decide, ?_⟩
  refine for_it walk_range (fun k σ H' => ∃ (x2 : Option V), σ = [some vc, some (.ref F), x2, none] ∧ Same H H' ∧ WysAt H' F es (1 + 2 * k)) ⟨none, rfl, s0.trans s1, ⟨[t0], [[0]], upd_same, .cons (e0.same s1) .nil, fun w hw => ?_, Nat.le_refl _⟩⟩ (fun _ _ _ _ _ => trivial) ?_ ?_
  · have : w = [0] := by simpa using hw
    rw [this]
    exact ⟨⟨[], rfl, .nil⟩, by decide⟩
  · rintro k x σ H2 H3 hk ⟨x2, rfl, s2, W2⟩ ⟨rfl, rfl⟩
    have hk60 : k < 60 := hk
    obtain ⟨as, ws, f2, pp, ok, ln⟩ := W2.ex
    refine ⟨_, rfl, _, rfl, F, _, rfl, .inl (SqL.of f2), _, _, rfl, rfl, _, rfl, ?_⟩
    rw [List.length_map]
    refine ite2 (fun c1 => ?_) (fun c1 => ?_)
    rotate_left
    · exact iteF ⟨_, rfl, s2, ⟨as, ws, f2, pp, ok, by omega⟩⟩
    have hka : k < as.length := by simpa using c1
    have hkw : k < ws.length := by rw [← pp.length]; exact hka
    obtain ⟨a, ha, hw⟩ := paired_at pp (List.getElem?_eq_getElem hkw)
    have ean : (as.map V.ref)[0 + k]? = some (.ref a) := by rw [Nat.zero_add, List.getElem?_map, ha]; rfl
    have okw := ok _ (List.getElem_mem hkw)
    generalize ws[k] = wy at hw okw
    obtain ⟨zs, b, rfl, hb⟩ := okw.last
    obtain ⟨b0, b1⟩ := hb.rng hc.ok
    refine ⟨_, rfl, _, rfl, F, _, _, _, rfl, rfl, SqL.of f2, atI_nat ean, a, _, rfl, .inr hw.sq, _, _, rfl, rfl, _, rfl, ?_⟩
    rw [List.length_map]
    refine ite2 (fun c2 => ?_) (fun c2 => ?_)
    rotate_left
    · exact ⟨_, rfl, s2, ⟨as, ws, f2, pp, ok, by omega⟩⟩
    have hl8 : (zs ++ [b]).length < 8 := by
      have := of_decide_eq_true c2
      omega
    refine ⟨_, rfl, .inl ⟨rfl, _, SqL.of f2⟩, _, rfl, _, rfl, _, rfl, F, _, _, _, rfl, rfl, SqL.of f2, atI_nat ean, 1, rfl, a, _, -1, .int b, rfl, rfl, hw.sq, by rw [List.map_append]; exact atI_last _ _, vc, "main", b, es, rfl, hc.same s2, b0, b1, fun tg H4 s4 ht4 => ?_⟩
    have gl := goalsAt_len es b
    refine ⟨tg, rfl, ⟨_, SqT.of ht4⟩, fun D2 hD2 => lc_it (walk_tup (xs := (goalsAt es b).map V.int)) (fun j H' => ∃ (as2 : List Addr) (ws2 : List (List Int)), Same H4 H' ∧ H' D2 = some (.lst (as2.map V.ref)) ∧ Paired (fun a w => TupF H' a (w.map V.int)) as2 ws2 ∧ (∀ w ∈ ws2, WyOk es w) ∧ as2.length = j)
      ⟨[], [], same_new hD2, upd_same, .nil, fun w h => absurd h List.not_mem_nil, rfl⟩ (fun j H' _ h => by obtain ⟨_, _, s', _⟩ := h; exact SqT.of (s' _ _ ht4)) ?_ ?_⟩
    · rintro j y H5 H6 hj ⟨as2, ws2, s5, d5, pp2, ok2, ln2⟩ ⟨he, hy⟩
      subst he
      rw [List.getElem?_map] at hy
      obtain ⟨g, hg, rfl⟩ := Option.map_eq_some_iff.mp hy
      have hga := mem_goalsAt.mp (List.mem_of_getElem? hg)
      rw [List.length_map] at hj
      have s25 := s4.trans s5
      refine ⟨rfl, yes_then ?_⟩
      refine (if_pos rfl).mpr ?_
      refine ⟨_, rfl, _, rfl, F, _, _, _, rfl, rfl, SqL.of (s25 _ _ f2), atI_nat ean, _, rfl, by show 1 ≤ sizeLine; decide, fun t1 ht1 => ?_⟩
      have s6 := same_new (o := .tup [V.int g]) ht1
      have e6 : upd H6 t1 (.tup [V.int g]) t1 = some (.tup (([g] : List Int).map V.int)) := upd_same
      generalize upd H6 t1 (.tup [V.int g]) = H7 at s6 e6
      have hw7 := (hw.same s25).same s6
      refine ⟨a, t1, _, _, rfl, rfl, hw7.sq, SqT.of e6, by simp, by simp, by rw [List.length_map, List.length_map, sizeLine_eq, List.length_singleton]; omega, fun t2 i2 ht2 => ?_⟩
      rw [← List.map_append]
      have s8 := same_new (o := .frz (tupO i2) (.tup ((zs ++ [b] ++ [g]).map V.int))) ht2
      have e8 : TupF (upd H7 t2 (.frz (tupO i2) (.tup ((zs ++ [b] ++ [g]).map V.int)))) t2 ((zs ++ [b] ++ [g]).map V.int) := .new
      generalize upd H7 t2 (.frz (tupO i2) (.tup ((zs ++ [b] ++ [g]).map V.int))) = H8 at s8 e8
      have s58 := s6.trans s8
      have d8 := s58 _ _ d5
      refine ⟨_, d8, by rw [List.length_map, sizeLine_eq]; omega, as2 ++ [t2], ws2 ++ [zs ++ [b] ++ [g]], fun c o e => by rw [upd_ne (ne_of_none e hD2)]; exact s58 _ _ (s5 _ _ e), by rw [upd_same, List.map_append]; rfl, ?_, fun w hw' => ?_, by rw [List.length_append, ln2]; rfl⟩
      · refine paired_snoc (R := fun a w => TupF _ a (List.map V.int w)) (e8.upd (e8.ne d8)) (paired_imp (R := fun a w => TupF H6 a (List.map V.int w)) (fun (c : Addr) (x : List Int) (r : TupF H6 c (x.map V.int)) => (r.same s58).upd ((r.same s58).ne d8)) pp2)
      · rcases List.mem_append.mp hw' with h | h
        · exact ok2 w h
        · have : w = zs ++ [b] ++ [g] := by simpa using h
          rw [this]
          exact okw.snoc hl8 hga
    · rintro H5 ⟨as2, ws2, s5, d5, pp2, ok2, ln2⟩
      rw [List.length_map] at ln2
      have s25 := s4.trans s5
      have f5 := s25 _ _ f2
      refine ⟨F, D2, _, _, rfl, rfl, f5, d5, by rw [List.length_map, List.length_map, sizeLine_eq]; omega, ?_⟩
      refine ⟨_, rfl, fun c o e => by rw [upd_ne (ne_of_none e hF0)]; exact s25 _ _ (s2 _ _ e), ⟨as ++ as2, ws ++ ws2, by rw [upd_same, List.map_append], ?_, fun w hw' => (List.mem_append.mp hw').elim (ok w) (ok2 w), by rw [List.length_append]; omega⟩⟩
      exact paired_append (paired_imp (fun (c : Addr) (x : List Int) (r : TupF H3 c (x.map V.int)) => (r.same s25).upd ((r.same s25).ne f5)) pp) (paired_imp (fun (c : Addr) (x : List Int) (r : TupF H5 c (x.map V.int)) => r.upd (r.ne f5)) pp2)
  · rintro σ H2 ⟨x2, rfl, s2, W2⟩
    exact ⟨_, rfl, q F H2 s2 hF0 W2⟩
end
end Sw
set_option maxRecDepth 100000
set_option maxHeartbeats 4000000
namespace Sw
open PySem PySem.Spec PyProof.Rows L2
abbrev NFR : List Str := ["_law_code", "_law_block", "_law_some", "_law_told", "_law_ways_here", "_law_under", "_law_one", "_law_after", "_law_ahead", "_law_way", "_law_later"]
/-- a dict of truths: what b dominates -/
noncomputable def ukv (es : List Ge) (b : Int) (ms : List Int) : List (Key × V) := ms.map fun k => (Sum.inl k, V.bl (domB es b k))
noncomputable def uB (es : List Ge) (b : Int) (ms : List Int) (k : Int) : Bool := decide (k ∈ ms) && domB es b k
theorem ukv_val {es : List Ge} {b k : Int} : ∀ {ms : List Int}, valV (ukv es b ms) (Sum.inl k) = if k ∈ ms then some (.bl (domB es b k)) else none
  | [] => by simp [ukv, valV]
  | m :: ms => by
    have e : ukv es b (m :: ms) = (Sum.inl m, V.bl (domB es b m)) :: ukv es b ms := rfl
    rw [e]
    by_cases h : m = k
    · rw [valV_pos (show ((Sum.inl m, V.bl (domB es b m)) : Key × V).1 = Sum.inl k by rw [h])]
      subst h
      simp
    · rw [valV_neg (show ¬ ((Sum.inl m, V.bl (domB es b m)) : Key × V).1 = Sum.inl k from fun z => h (by injection z)), ukv_val]
      have h' : ¬ k = m := fun z => h z.symm
      simp [h']
theorem ukv_getD {es : List Ge} {b k : Int} {ms : List Int} : (valV (ukv es b ms) (Sum.inl k)).getD (.bl false) = .bl (uB es b ms k) := by
  rw [ukv_val]
  unfold uB
  by_cases h : k ∈ ms
  · rw [if_pos h, decide_eq_true h]; rfl
  · rw [if_neg h, decide_eq_false h]; rfl
theorem ukv_put {es : List Ge} {b g : Int} {ms : List Int} (h : g ∉ ms) : putK (ukv es b ms) (Sum.inl g) (.bl (domB es b g)) = ukv es b (ms ++ [g]) := by
  unfold putK
  have : ((ukv es b ms).any fun kv => decide (kv.1 = Sum.inl g)) = false := by
    rw [valV_any, ukv_val, if_neg h]
    rfl
  rw [this, if_neg (by simp)]
  unfold ukv
  rw [List.map_append]
  rfl
theorem Chn.drop {es : List Ge} : ∀ {x : Int} {ys : List Int} (j : Nat) {b : Int}, Chn es x ys → (x :: ys)[j]? = some b → Chn es b ((x :: ys).drop (j + 1))
  | x, ys, 0, b, c, e => by
    have : x = b := by simpa using e
    subst this
    exact c
  | x, y :: ys, j + 1, b, .cons _ c, e => c.drop j (by simpa using e)
  | x, [], j + 1, b, _, e => by simp at e
theorem first_at {b : Int} : ∀ {w : List Int}, b ∈ w → ∃ j : Nat, w[j]? = some b ∧ ∀ m : Nat, m < j → w[m]? ≠ some b
  | [], h => by cases h
  | x :: w, h => by
    by_cases e : x = b
    · exact ⟨0, by rw [e]; rfl, fun m hm => absurd hm (Nat.not_lt_zero _)⟩
    · obtain ⟨j, h1, h2⟩ := first_at ((List.mem_cons.mp h).resolve_left fun z => e z.symm)
      refine ⟨j + 1, h1, fun m hm z => ?_⟩
      cases m with
      | zero => exact e (by simpa using z)
      | succ m => exact h2 m (by omega) (by simpa using z)
/-- a way by b to one that b doesn't dominate has one of b's frontier behind it -/
theorem way_front {es : List Ge} (hok : Gok es) {b x : Int} {zs : List Int} {j : Nat} (h : WyOk es (zs ++ [x])) (hj : (zs ++ [x])[j]? = some b) (hx : Rch es (some b) x) : ∃ y ∈ (zs ++ [x]).drop (j + 1), y ∈ frI es b := by
  obtain ⟨ys, e, c⟩ := h.ex
  have hjl : j < (zs ++ [x]).length := (List.getElem?_eq_some_iff.mp hj).1
  have hb : Rch es none b := by
    rw [e] at hj
    exact c.rch (.zero (by simp)) b (List.mem_of_getElem? hj)
  have cd : Chn es b ((zs ++ [x]).drop (j + 1)) := by
    rw [e] at hj ⊢
    exact c.drop j hj
  have ed : (zs ++ [x]).drop j = b :: (zs ++ [x]).drop (j + 1) := by
    rw [List.drop_eq_getElem_cons hjl, (List.getElem?_eq_some_iff.mp hj).2]
  have hl : (b :: (zs ++ [x]).drop (j + 1)).getLast (List.cons_ne_nil _ _) = x := by
    have h1 : ((zs ++ [x]).drop j).getLast? = some x := by
      rw [List.getLast?_drop, if_neg (by omega)]
      simp
    rw [ed, List.getLast?_eq_some_getLast (List.cons_ne_nil _ _)] at h1
    exact Option.some.inj h1
  obtain ⟨y, hy, hf⟩ := out_by_front cd hb dom_self (by rw [hl]; exact hx)
  exact ⟨y, hy, (mem_frI hok).mpr hf⟩
/-- t[j + 1:] -/
theorem sl_cutN {K : PySem.W.Frag} {σ : L2.St} {H : Hp} {Q : VK} {a : Addr} {ns : List Int} {j : Nat} (ha : SqT K H a (ns.map V.int)) (hj : j < ns.length) (q : ∀ c H', Same H H' → SqT K H' c ((ns.drop (j + 1)).map V.int) → Q (.ref c) H') : tNoPart σ H fun u H3 => rSlA K (.ref a) (some ((j : Int) + 1)) u H3 Q := by
  show rSlA K (.ref a) (some ((j : Int) + 1)) none H Q
  have e1 : HT.sIx (ns.map V.int).length 0 (some ((j : Int) + 1)) = j + 1 := by
    rw [show ((j : Int) + 1) = ((j + 1 : Nat) : Int) by omega, HT.sIx_nat, List.length_map]
    omega
  have e2 : HT.sIx (ns.map V.int).length (ns.map V.int).length none = (ns.map V.int).length := rfl
  refine ⟨a, _, rfl, ha, fun h => ?_, fun _ p hp => ?_⟩
  · rw [e1] at h
    omega
  · refine q p _ (same_new hp) (SqT.of ?_)
    rw [upd_same]
    unfold cutV
    rw [e1, e2, ← List.map_drop, List.take_of_length_le (by rw [List.length_map, List.length_map, List.length_drop]; omega)]
theorem iemp {xs : List Int} (h : xs ≠ []) : (xs.map PyData.int).isEmpty = false := by
  cases xs with
  | nil => exact absurd rfl h
  | cons x xs => rfl
section
variable {P : Program} {w : World} {K : PySem.W.Frag} {mg : Str → Option Value} {base : Heap}
def spFrontR (K : PySem.W.Frag) : Sp := fun vs H Q _ => ∃ (vc : V) (b : Int) (ts tt F : Addr) (es : List Ge) (ms : List Int), vs = [vc, .int b, .ref ts, .ref tt, .ref F] ∧ CodeOf K H vc "main" es ∧ H ts = some (.tup (ms.map V.int)) ∧ ms.Pairwise (· < ·) ∧ (∀ k, k ∈ ms ↔ Rch es none k) ∧ H tt = some (.tup ((frI es b).map V.int)) ∧ WysAt H F es 121 ∧ ∀ H', Same H H' → Q (.bl true) H'
theorem sc_frontR : FnScope NFR ["_law_code", "_law_block", "_law_some", "_law_told", "_law_ways_here"] (defScope (topS 22)) := ⟨rfl, rfl, rfl, by decide +kernel, rfl, by decide +kernel, by decide +kernel⟩
theorem ok_frontR {f f1 f2 : Addr} {fd fd1 fd2 : FuncData} (D : Df K mg "_law_front_right" (topS 22) ["_law_code", "_law_block", "_law_some", "_law_told", "_law_ways_here"] f fd) (D1 : Df K mg "dominates" (topS 12) ["code", "name", "over", "under"] f1 fd1) (D2 : Df K mg "befores" (topS 8) ["code", "name", "block"] f2 fd2) (B : Bt mg)
    (G1 : FnOk P w K mg base CX0 4 f1 fd1 ["code", "name", "over", "under"] (spDom K)) (G2 : FnOk P w K mg base CX0 2 f2 fd2 ["code", "name", "block"] (spBef K)) : FnOk P w K mg base CX0 5 f fd ["_law_code", "_law_block", "_law_some", "_law_told", "_law_ways_here"] (spFrontR K) := by
  refine D.fn.ok sc_frontR (fun vs H Q E h => ?_) (fun cdv A outer s H vs Q E hr h => ?_)
  · obtain ⟨vc, b, ts, tt, F, es, ms, rfl, _⟩ := h
    rfl
  obtain ⟨vc, b, ts, tt, F, es, ms, rfl, hc, hts, ris, hms, htt, hW, q⟩ := h
  have nd := sc_frontR.nd
  have hu := hr.units
  have hu1 := Nat.lt_of_le_of_lt (Nat.add_le_add_left (by decide : 1 ≤ 64) _) hu
  refine ⟨_, (pss_cons (ps_set (i := 5) nd rfl (Or.inr rfl) pe_dnewK)
    (pss_cons (ps_for PassesOwn.never rfl (pi_tup (pv 2)) (pg_name (i := 6) nd rfl (Or.inl rfl))
    (pss_one (ps_dput hu1 (pv 5) (pv 6) (pe_call G1 hr (by rfl) D1.gl D1.fn.kp D1.bd .nil pass0 (pa_cons (pv 0) (pa_cons pe_str (pa_cons (pv 1) (pa_cons (pv 6) pa_nil))))) rfl)))
    (pss_cons (ps_for PassesOwn.never rfl (pi_tup (pv 3)) (pg_name (i := 7) nd rfl (Or.inl rfl))
    (pss_cons (ps_setLc (i := 8) (own := [("_law_one", 6)]) (g := gName 6) (tt := tB (tDGet2 (tVar 5) (tVar 6) (tC (.bl false)))) rfl nd rfl rfl (sw_true rfl rfl rfl (by decide +kernel)) (pi_tup (pe_call G2 (hr.mono (by decide)) (by rfl) D2.gl D2.fn.kp D2.bd .nil pass0 (pa_cons (pv 0) (pa_cons pe_str (pa_cons (pv 7) pa_nil))))) (blkOk_by (N := NFR) (sc := defScope (topS 22)) (by decide +kernel)) (fun _ _ _ _ _ => pg_name (i := 6) nd rfl (Or.inl rfl)) (fun _ _ _ _ _ => (pts_one (pt_val (pe_dget2 hu1 (pv 5) (pv 6) pe_bl ⟨rfl, rfl, rfl, rfl⟩)))) (fun _ _ _ _ _ => (pv 6)))
    (pss_one (ps_if (PW.pt (pw_or (pt_cmpR (op_eqD hu) (pv 8) (pe_lst pa_nil) (nomark _)) (pw_or1 (PW.pt (pw_and (pt_cmpR op_ne (pv 7) (pv 1) (nomark _)) (pw_and1 (pt_val (pe_dget2 hu1 (pv 5) (pv 7) pe_bl ⟨rfl, rfl, rfl, rfl⟩)))))))) pss_never pss_nil))))
    (pss_cons (ps_for PassesOwn.never rfl (pi_list (pv 4)) (pg_name (i := 9) nd rfl (Or.inl rfl))
    (pss_one (ps_if (PW.pt (pw_and (pt_cmpR (r := rIn K false) op_in_seq (pv 1) (pv 9) (by with_unfolding_all rfl)) (pw_and1 (pt_not (pt_val (pe_dget2 hu1 (pv 5) (pe_ix (r := rIxT K) ix_tup (pv 9) (pe_un un_neg pe_int) (fun _ _ => rfl)) pe_bl ⟨rfl, rfl, rfl, rfl⟩)))))) (pss_cons (ps_set (i := 10) nd rfl (Or.inl rfl) (pe_slice sl_tupA (pv 9) (po_some (pe_op op_add (pe_bmF PySem.F.plainAttrs_tuple PySem.F.slot_tuple_index PySem.F.type_tuple_index mt_tup_indexI (pv 9) (pa_cons (pv 1) pa_nil)) pe_int)) po_none))
    (pss_one (ps_if (pt_cmpR (r := rEqD K) (op_eqD hu) (pe_lc (own := [("_law_one", 6)]) (g := gName 6) (tt := tTest (tOp (rIn K false) (tVar 6) (tVar 3))) rfl nd (pi_tup (pv 10)) (blkOk_by (N := NFR) (sc := defScope (topS 22)) (by decide +kernel)) (fun _ _ _ _ _ => pg_name (i := 6) nd rfl (Or.inl rfl)) (fun _ _ _ _ _ => (pts_one (pt_cmpR (r := rIn K false) op_in_seq (pv 6) (pv 3) (by with_unfolding_all rfl)))) (fun _ _ _ _ _ => (pv 6))) (pe_lst pa_nil) (nomark _)) pss_never pss_nil))) pss_nil)))
    (pss_one (ps_ret pe_bl)))))), ?_⟩
  have few := hc.ok.few
  have ml : ms.length ≤ es.length := few_ints es.length (ris.imp fun h => by omega) fun k hk => ((hms k).mp hk).rng hc.ok
  refine fun d hd => ?_
  have s1 := same_new (o := .dK []) hd
  have d1 : upd H d (.dK []) d = some (.dK (ukv es b [])) := upd_same
  generalize upd H d (.dK []) = H1 at s1 d1
  refine ⟨_, rfl, ts, rfl, ⟨_, SqT.of (s1 _ _ hts)⟩, for_it (walk_tup (xs := ms.map V.int)) (fun i σ H' => ∃ x6 : Option V, σ = [some vc, some (.int b), some (.ref ts), some (.ref tt), some (.ref F), some (.ref d), x6, none, none, none, none] ∧ Same H H' ∧ H' d = some (.dK (ukv es b (ms.take i)))) ⟨none, rfl, s1, d1⟩ (fun i σ H' _ h => by obtain ⟨_, _, s', _⟩ := h; exact SqT.of (s' _ _ hts)) ?_ ?_⟩
  · rintro i x σ H2 H3 hi ⟨x6, rfl, s2, d2⟩ ⟨he, hx⟩
    subst he
    rw [List.getElem?_map] at hx
    obtain ⟨k, hk, rfl⟩ := Option.map_eq_some_iff.mp hx
    obtain ⟨hi2, hki⟩ := List.getElem?_eq_some_iff.mp hk
    have etk : ms.take (i + 1) = ms.take i ++ [k] := by rw [List.take_succ, hk]; rfl
    have hknew : k ∉ ms.take i := fun hm => by
      obtain ⟨j, hj, hjk⟩ := List.getElem_of_mem hm
      rw [List.length_take] at hj
      rw [List.getElem_take] at hjk
      have := List.pairwise_iff_getElem.mp ris j i (by omega) hi2 (by omega)
      omega
    refine ⟨_, rfl, _, rfl, _, rfl, vc, "main", b, k, es, rfl, hc.same s2, fun H4 s4 => ?_⟩
    refine ⟨_, rfl, _, rfl, d, _, rfl, DPut.k (k := Sum.inl k) (s4 _ _ d2) (by rw [show (ukv es b (ms.take i)).length = (ms.take i).length from List.length_map _, List.length_take, sizeLine_eq]; omega), ?_⟩
    rw [ukv_put hknew, ← etk]
    exact ⟨_, rfl, fun c o e => by rw [upd_ne (ne_of_none e hd)]; exact s4 _ _ (s2 _ _ e), upd_same⟩
  rintro σ H2 ⟨x6, rfl, s2, d2⟩
  rw [List.length_map, List.take_length] at d2
  -- the frontier
  refine ⟨_, rfl, tt, rfl, ⟨_, SqT.of (s2 _ _ htt)⟩, for_it (walk_tup (xs := (frI es b).map V.int)) (fun i σ H' => ∃ x6 x7 x8 : Option V, σ = [some vc, some (.int b), some (.ref ts), some (.ref tt), some (.ref F), some (.ref d), x6, x7, x8, none, none] ∧ Same H2 H') ⟨_, none, none, rfl, Same.refl _⟩ (fun i σ H' _ h => by obtain ⟨_, _, _, _, s'⟩ := h; exact SqT.of (s' _ _ (s2 _ _ htt))) ?_ ?_⟩
  · rintro i x σ H3 H3' hi ⟨x6, x7, x8, rfl, s3⟩ ⟨he, hx⟩
    subst he
    rw [List.getElem?_map] at hx
    obtain ⟨k, hk, rfl⟩ := Option.map_eq_some_iff.mp hx
    obtain ⟨⟨o, ro, dok, ao⟩, hk2⟩ := (mem_frI hc.ok).mp (List.mem_of_getElem? hk)
    obtain ⟨o0, o1⟩ := ro.rng hc.ok
    refine ⟨_, rfl, _, rfl, vc, "main", k, es, rfl, hc.same (s2.trans s3), fun tb H4 s4 hb4 => ?_⟩
    have bl : (befN es k es.length).length ≤ es.length := befN_len
    have d4 := s4 _ _ (s3 _ _ d2)
    have hob : o ∈ befN es k es.length := mem_befN.mpr ⟨o0, o1, ao⟩
    generalize befN es k es.length = bs at hb4 bl hob
    refine ⟨tb, rfl, ⟨_, SqT.of hb4⟩, fun Da hDa => ?_⟩
    refine lc_pure (walk_tup (xs := bs.map V.int)) (fun i => uB es b ms (bs.getD i 0)) (fun i => V.int (bs.getD i 0)) hDa (fun _ h => SqT.of (h _ _ hb4)) (big_size (by rw [List.length_map]; omega)) ?_ ?_ ?_
    · intro i x H5 Q5 hi hx s5 q5
      rw [List.getElem?_map] at hx
      obtain ⟨n, hn, rfl⟩ := Option.map_eq_some_iff.mp hx
      rw [show bs.getD i 0 = n by rw [List.getD_eq_getElem?_getD, hn]; rfl] at q5
      have d5 := s5 _ _ d4
      exact ⟨_, rfl, d, rfl, .inl ⟨_, .inl d5⟩, _, rfl, _, DGet.k (k := Sum.inl n) d5, _, ukv_getD, q5 H5 (Same.refl _)⟩
    · intro i x H5 Q5 hi hx _ s5 q5
      rw [List.getElem?_map] at hx
      obtain ⟨n, hn, rfl⟩ := Option.map_eq_some_iff.mp hx
      rw [show bs.getD i 0 = n by rw [List.getD_eq_getElem?_getD, hn]; rfl] at q5
      exact ⟨_, rfl, q5 H5 (Same.refl _)⟩
    intro H5 s5 hD5
    rw [List.length_map, range_filter (fun k => uB es b ms k) V.int 0 bs] at hD5
    have hne : (bs.filter fun k => uB es b ms k) ≠ [] := List.ne_nil_of_mem (a := o) (List.mem_filter.mpr ⟨hob, by
      unfold uB
      rw [decide_eq_true ((hms o).mpr ro), domB_iff.mpr dok]
      rfl⟩)
    generalize (bs.filter fun k => uB es b ms k) = fl at hD5 hne
    refine ⟨_, rfl, Nat.zero_le _, fun N hN => ?_⟩
    have s6 := same_new (o := .lst []) hN
    have e6 : upd H5 N (.lst []) N = some (.lst []) := upd_same
    generalize upd H5 N (.lst []) = H6 at s6 e6
    refine ⟨.list (fl.map PyData.int), .list [], .lst (SqL.of (s6 _ _ hD5)) (DpAll_ints _), .lst (SqL.of e6) .nil, ints_shaped _, nil_shaped, _, rfl, ?_⟩
    rw [eqv_nil_list, iemp hne]
    refine iteF ?_
    refine ⟨_, rfl, _, rfl, rfl, _, rfl, ?_⟩
    have s46 := (s3.trans s4).trans (s5.trans s6)
    have d6 := s46 _ _ d2
    by_cases hkb : k = b
    · rw [decide_eq_true (show V.int k = V.int b by rw [hkb])]
      refine iteF ?_
      exact iteF ⟨_, _, _, rfl, s46⟩
    · rw [decide_eq_false (show ¬ V.int k = V.int b from fun z => hkb (by injection z))]
      refine iteT ?_
      have hu0 : uB es b ms k = false := by
        unfold uB
        rw [show domB es b k = false from Bool.eq_false_iff.mpr fun z => domB_iff.mp z (hk2.resolve_left hkb), Bool.and_false]
      refine ⟨_, rfl, d, rfl, .inl ⟨_, .inl d6⟩, _, rfl, _, DGet.k (k := Sum.inl k) d6, _, ukv_getD, ?_⟩
      rw [hu0]
      exact iteF ⟨_, _, _, rfl, s46⟩
  rintro σ H3 ⟨x6, x7, x8, rfl, s3⟩
  obtain ⟨as, ws, hF, pp, ok, ln⟩ := hW.ex
  have s03 := s2.trans s3
  have hF3 := s03 _ _ hF
  have d3 := s3 _ _ d2
  refine ⟨_, rfl, F, rfl, ⟨_, SqL.of hF3⟩, for_it (walk_list (xs := as.map V.ref)) (fun i σ H' => ∃ x6 x9 x10 : Option V, σ = [some vc, some (.int b), some (.ref ts), some (.ref tt), some (.ref F), some (.ref d), x6, x7, x8, x9, x10] ∧ Same H3 H') ⟨_, none, none, rfl, Same.refl _⟩ (fun i σ H' _ h => by obtain ⟨_, _, _, _, s'⟩ := h; exact SqL.of (s' _ _ hF3)) ?_ ?_⟩
  · rintro i x σ H4 H4' hi ⟨x6, x9, x10, rfl, s4⟩ ⟨he, hx⟩
    subst he
    rw [List.getElem?_map] at hx
    obtain ⟨a, ha, rfl⟩ := Option.map_eq_some_iff.mp hx
    rw [List.length_map] at hi
    have hiw : i < ws.length := by rw [← pp.length]; exact hi
    obtain ⟨a', ha', hw⟩ := paired_at pp (List.getElem?_eq_getElem hiw)
    cases ha.symm.trans ha'
    have okw := ok _ (List.getElem_mem hiw)
    generalize ws[i] = wy at hw okw
    obtain ⟨zs, x, rfl, hxr⟩ := okw.last
    have hw4 := hw.same (s03.trans s4)
    have d4 := s4 _ _ d3
    have wl := okw.len
    refine ⟨_, rfl, _, rfl, a, _, rfl, .inr hw4.sq, rfl, flat_ints _, _, rfl, ?_⟩
    rw [if_neg (show ¬ (false = true) by simp), inV_ints]
    refine ite2 (fun c1 => ?_) (fun c1 => ?_)
    rotate_left
    · exact iteF ⟨_, _, _, rfl, s4⟩
    have hbw : b ∈ zs ++ [x] := by simpa using c1
    refine ⟨_, rfl, d, rfl, .inl ⟨_, .inl d4⟩, _, rfl, 1, rfl, a, _, -1, .int x, rfl, rfl, hw4.sq, by rw [List.map_append]; exact atI_last _ _, _, DGet.k (k := Sum.inl x) d4, _, ukv_getD, ?_⟩
    refine ite2 (fun c2 => ?_) (fun c2 => ?_)
    rotate_left
    · exact ⟨_, _, _, rfl, s4⟩
    have hxb : Rch es (some b) x := Classical.byContradiction fun z => by
      have : uB es b ms x = true := by
        unfold uB
        rw [decide_eq_true ((hms x).mpr hxr), domB_iff.mpr z]
        rfl
      rw [this] at c2
      cases c2
    obtain ⟨j, hj, hjn⟩ := first_at hbw
    have hjl : j < (zs ++ [x]).length := (List.getElem?_eq_some_iff.mp hj).1
    refine ⟨_, rfl, _, rfl, ⟨a, _, rfl, hw4⟩, _, rfl, a, _, b, j, rfl, rfl, hw4.sq, hj, hjn, _, _, rfl, rfl, _, rfl, sl_cutN hw4.sq hjl fun c H5 s5 hc5 => ?_⟩
    obtain ⟨y, hy, hyf⟩ := way_front hc.ok okw hj hxb
    have ll : ((zs ++ [x]).drop (j + 1)).length ≤ 8 := by rw [List.length_drop]; omega
    generalize (zs ++ [x]).drop (j + 1) = lt at hc5 hy ll
    have t5 := s5 _ _ (s4 _ _ (s03 _ _ htt))
    refine ⟨_, rfl, c, rfl, ⟨_, hc5⟩, fun De hDe => ?_⟩
    refine lc_pure (walk_tup (xs := lt.map V.int)) (fun i => decide (lt.getD i 0 ∈ frI es b)) (fun i => V.int (lt.getD i 0)) hDe (fun _ h => sameT h hc5) (big_size (by rw [List.length_map]; omega)) ?_ ?_ ?_
    · intro i x H6 Q6 hi hx s6 q6
      rw [List.getElem?_map] at hx
      obtain ⟨n, hn, rfl⟩ := Option.map_eq_some_iff.mp hx
      rw [show lt.getD i 0 = n by rw [List.getD_eq_getElem?_getD, hn]; rfl] at q6
      refine ⟨_, rfl, _, rfl, tt, _, rfl, .inr (SqT.of (s6 _ _ t5)), rfl, flat_ints _, _, rfl, ?_⟩
      rw [if_neg (show ¬ (false = true) by simp), inV_ints]
      exact q6 H6 (Same.refl _)
    · intro i x H6 Q6 hi hx _ s6 q6
      rw [List.getElem?_map] at hx
      obtain ⟨n, hn, rfl⟩ := Option.map_eq_some_iff.mp hx
      rw [show lt.getD i 0 = n by rw [List.getD_eq_getElem?_getD, hn]; rfl] at q6
      exact ⟨_, rfl, q6 H6 (Same.refl _)⟩
    intro H6 s6 hD6
    rw [List.length_map, range_filter (fun k => decide (k ∈ frI es b)) V.int 0 lt] at hD6
    have hne : (lt.filter fun k => decide (k ∈ frI es b)) ≠ [] := List.ne_nil_of_mem (a := y) (List.mem_filter.mpr ⟨hy, decide_eq_true hyf⟩)
    generalize (lt.filter fun k => decide (k ∈ frI es b)) = fl at hD6 hne
    refine ⟨Nat.zero_le _, fun N hN => ?_⟩
    have s7 := same_new (o := .lst []) hN
    have e7 : upd H6 N (.lst []) N = some (.lst []) := upd_same
    generalize upd H6 N (.lst []) = H7 at s7 e7
    refine ⟨.list (fl.map PyData.int), .list [], .lst (SqL.of (s7 _ _ hD6)) (DpAll_ints _), .lst (SqL.of e7) .nil, ints_shaped _, nil_shaped, _, rfl, ?_⟩
    rw [eqv_nil_list, iemp hne]
    exact iteF ⟨_, _, _, rfl, s4.trans (s5.trans (s6.trans s7))⟩
  · rintro σ H4 ⟨x6, x9, x10, rfl, s4⟩
    exact q H4 (s03.trans s4)
end
end Sw
set_option maxRecDepth 100000
set_option maxHeartbeats 4000000
namespace Sw
open PySem PySem.Spec PyProof.Rows L2
section
variable {X : Cx}
theorem setR_len {w : World} {h : Heap} {a : Addr} {ns : List Int} {c : Nat} (R : SetR w h a (fun j => decide (j ∈ ns)) c) (hn : ns.Nodup) : c = ns.length := by
  obtain ⟨o, es, ep, t, ho, ex, hd, good, nd, iff, _, _, hc, _⟩ := R
  have h1 := nodup_le nd fun x hx => of_decide_eq_true ((iff x).mpr hx)
  have h2 := nodup_le hn fun x hx => (iff x).mp (decide_eq_true hx)
  have e : (es.toList.map keyOf).length = c := by rw [List.length_map, Array.length_toList, hc]
  omega
/-- set(xs) of a list of numbers, and how many there are -/
def rSetIC (K : PySem.W.Frag) (w : World) : List V → Hp → VK → Prop := fun vs H Q => ∃ (l : Addr) (ns : List Int), vs = [.ref l] ∧ SqL K H l (ns.map V.int) ∧ ns.length ≤ 1000 ∧
  ∀ a c H', Same H H' → H' a = some (SetO w a (fun j => decide (j ∈ ns)) c) → (ns.Nodup → c = ns.length) → (∀ m : Nat, (∀ k ∈ ns, 0 ≤ k ∧ k < (m : Int)) → c ≤ m) → Q (.ref a) H'
theorem cr_setIC (hc : X.calm = true) : CallR X (.type "set") (rSetIC X.K X.w) := by
  intro pins s σ H vs us Q I r h
  obtain ⟨l, ns, rfl, hl, hn, q⟩ := h
  obtain ⟨its, rv, hp, _⟩ := I.list hl
  rw [Vals.ref1 r]
  refine call_set_intsL ns (I.ok.hd hc) hp.isList (by simpa using rv.ints) (by unfold scanBound; omega) ?_
  intro h' tk c hS k
  exact ⟨.ref s.heap.objs.size, _, I.laid (t' := tk) (o := SetO X.w s.heap.objs.size (fun j => decide (j ∈ ns)) c) k (Nat.le_refl _) (setO_new hS), rfl, q _ c _ (same_new (I.hok.fresh (Nat.le_refl _))) upd_same (setR_len hS) (setR_few hS)⟩
/-- len of a set of numbers -/
def rLenSI (w : World) : List V → Hp → VK → Prop := fun vs H Q => ∃ (a : Addr) (S : Int → Bool) (n : Nat), vs = [.ref a] ∧ H a = some (SetO w a S n) ∧ Q (.int (n : Nat)) H
theorem cr_lenSI : CallR X (.builtin "len") (rLenSI X.w) := by
  intro pins s σ H vs us Q I r h
  obtain ⟨a, S, n, rfl, ha, q⟩ := h
  rw [Vals.ref1 r]
  obtain ⟨o, es, ep, t, ho, hex, hd, _, _, _, hb, hf, hn, _⟩ := setO_get I ha
  refine call_len_set ho hex hd hf (by unfold scanBound at hb; omega) ⟨.int n, H, I.tok _, ⟨_, by rw [hn]⟩, q⟩
end
/-- the nearest ones by a dict -/
noncomputable def lkv (es : List Ge) (ms : List Int) : List (Key × V) := ms.map fun k => (Sum.inl k, optV (nearI es k))
theorem lkv_val {es : List Ge} {k : Int} : ∀ {ms : List Int}, valV (lkv es ms) (Sum.inl k) = if k ∈ ms then some (optV (nearI es k)) else none
  | [] => by simp [lkv, valV]
  | m :: ms => by
    have e : lkv es (m :: ms) = (Sum.inl m, optV (nearI es m)) :: lkv es ms := rfl
    rw [e]
    by_cases h : m = k
    · rw [valV_pos (show ((Sum.inl m, optV (nearI es m)) : Key × V).1 = Sum.inl k by rw [h])]
      subst h
      simp
    · rw [valV_neg (show ¬ ((Sum.inl m, optV (nearI es m)) : Key × V).1 = Sum.inl k from fun z => h (by injection z)), lkv_val]
      have h' : ¬ k = m := fun z => h z.symm
      simp [h']
theorem lkv_getD {es : List Ge} {k : Int} {ms : List Int} (hms : ∀ k, k ∈ ms ↔ Rch es none k) : (valV (lkv es ms) (Sum.inl k)).getD .non = optV (nearI es k) := by
  rw [lkv_val]
  by_cases h : k ∈ ms
  · rw [if_pos h]; rfl
  · rw [if_neg h, nearI_not fun z => h ((hms k).mpr z)]; rfl
theorem lkv_put {es : List Ge} {g : Int} {ms : List Int} (h : g ∉ ms) : putK (lkv es ms) (Sum.inl g) (optV (nearI es g)) = lkv es (ms ++ [g]) := by
  unfold putK
  have : ((lkv es ms).any fun kv => decide (kv.1 = Sum.inl g)) = false := by
    rw [valV_any, lkv_val, if_neg h]
    rfl
  rw [this, if_neg (by simp)]
  unfold lkv
  rw [List.map_append]
  rfl
/-- the frontiers by a dict -/
structure RowsAt (H : Hp) (d : Addr) (es : List Ge) : Prop where
  ex : ∃ L : List (Int × Addr), H d = some (.dK (akv L)) ∧ (∀ k, k ∈ L.map (·.1) ↔ 0 ≤ k ∧ k < (es.length : Int)) ∧ ∀ p ∈ L, H p.2 = some (.tup ((frI es p.1).map V.int))
theorem RowsAt.same {H H' : Hp} {d : Addr} {es : List Ge} (h : RowsAt H d es) (s : Same H H') : RowsAt H' d es := by
  obtain ⟨L, h1, h2, h3⟩ := h.ex
  exact ⟨L, s _ _ h1, h2, fun p hp => s _ _ (h3 p hp)⟩
theorem RowsAt.get {H : Hp} {d : Addr} {es : List Ge} (h : RowsAt H d es) {k : Int} (k0 : 0 ≤ k) (k1 : k < (es.length : Int)) : ∃ a, DGet H d (.int k) (some (.ref a)) ∧ H a = some (.tup ((frI es k).map V.int)) := by
  obtain ⟨L, h1, h2, h3⟩ := h.ex
  obtain ⟨a, ha, hv⟩ := akv_get ((h2 k).mpr ⟨k0, k1⟩)
  exact ⟨a, .inl ⟨_, Sum.inl k, .inl h1, rfl, hv.symm⟩, h3 _ ha⟩
theorem RowsAt.isD {H : Hp} {d : Addr} {es : List Ge} (h : RowsAt H d es) : IsD H d := by
  obtain ⟨L, h1, _⟩ := h.ex
  exact .inl ⟨_, .inl h1⟩
/-- the row of nearest ones while it grows -/
structure NR (es : List Ge) (b : Int) (t : Nat) (zs : List Int) (x : Int) : Prop where
  rch : ∀ k ∈ zs ++ [x], Rch es none k
  dec : (zs ++ [x]).Pairwise fun x y => muD es y < muD es x
  fin : nearI es x = none ∨ muD es x + t ≤ muD es b
  len : zs.length ≤ t
theorem NR.step {es : List Ge} (hok : Gok es) {b x m : Int} {t : Nat} {zs : List Int} (h : NR es b t zs x) (hn : nearI es x = some m) : NR es b (t + 1) (zs ++ [x]) m := by
  have hx := h.rch x (by simp)
  have lt := near_lt hok hx hn
  refine ⟨fun k hk => ?_, List.pairwise_append.mpr ⟨h.dec, List.pairwise_singleton _ _, fun k hk y hy => ?_⟩, .inr ?_, ?_⟩
  · rcases List.mem_append.mp hk with hk | hk
    · exact h.rch k hk
    · have : k = m := by simpa using hk
      rw [this]
      exact dom_rch hx ((near_iff hok hx).mp hn).2.1
  · have e : y = m := by simpa using hy
    rw [e]
    rcases List.mem_append.mp hk with hk | hk
    · have := (List.pairwise_append.mp h.dec).2.2 k hk x (by simp)
      omega
    · have : k = x := by simpa using hk
      rw [this]; exact lt
  · rcases h.fin with z | z
    · rw [hn] at z; cases z
    · omega
  · rw [List.length_append, List.length_singleton]
    have := h.len
    omega
theorem NR.stay {es : List Ge} {b x : Int} {t : Nat} {zs : List Int} (h : NR es b t zs x) (hn : nearI es x = none) : NR es b (t + 1) zs x := ⟨h.rch, h.dec, .inl hn, by have := h.len; omega⟩
theorem NR.nodup {es : List Ge} {b x : Int} {t : Nat} {zs : List Int} (h : NR es b t zs x) : (zs ++ [x]).Nodup := h.dec.imp fun z e => by rw [e] at z; omega
theorem muD_le (es : List Ge) (b : Int) : muD es b ≤ es.length := domsI_len es b
theorem NR.zero {es : List Ge} (hok : Gok es) (h6 : es.length ≤ 6) {b x : Int} {zs : List Int} (h : NR es b 9 zs x) : x = 0 := by
  have hn : nearI es x = none := h.fin.elim id fun z => by
    have := muD_le es b
    omega
  refine Classical.byContradiction fun z => ?_
  obtain ⟨m, hm⟩ := near_ex hok (h.rch x (by simp)) z
  rw [hn] at hm
  cases hm
theorem ups_none {es : List Ge} {m : Option Int} {n : Nat} : ups es m n none = [] := by cases n <;> rfl
theorem ups_stop {es : List Ge} {h : Int} {n : Nat} : ups es (some h) n (some h) = [] := by
  cases n with
  | zero => rfl
  | succ n => unfold ups; rw [if_pos rfl]
theorem ups_on {es : List Ge} {m : Option Int} {h : Int} {n : Nat} (ne : some h ≠ m) : ups es m (n + 1) (some h) = h :: ups es m n (nearI es h) := by
  rw [ups, if_neg ne]
/-- all that is found ahead of b -/
noncomputable def upAll (es : List Ge) (m : Option Int) (ms bs : List Int) : List Int := bs.flatMap fun o => ups es m 9 (if o ∈ ms then some o else none)
theorem mem_upAll {es : List Ge} (hok : Gok es) (h6 : es.length ≤ 6) {b : Int} (hb : Rch es none b) {ms : List Int} (hms : ∀ k, k ∈ ms ↔ Rch es none k) (k : Int) : k ∈ upAll es (nearI es b) ms (befN es b es.length) ↔ FrP es k b := by
  rw [front_ups hok hb]
  unfold upAll
  rw [List.mem_flatMap]
  constructor
  · rintro ⟨o, ho, hk⟩
    obtain ⟨_, _, ao⟩ := mem_befN.mp ho
    by_cases hm : o ∈ ms
    · rw [if_pos hm] at hk
      have ro := (hms o).mp hm
      have := (ups_mem hok ro (Nat.le_trans (muD_le es o) (by omega)) fun k hk => near_ahead hok hb hk ao).mp hk
      exact ⟨o, ro, ao, this⟩
    · rw [if_neg hm, ups_none] at hk
      cases hk
  · rintro ⟨o, ro, ao, h⟩
    obtain ⟨o0, o1⟩ := ro.rng hok
    refine ⟨o, mem_befN.mpr ⟨o0, o1, ao⟩, ?_⟩
    rw [if_pos ((hms o).mpr ro)]
    exact (ups_mem hok ro (Nat.le_trans (muD_le es o) (by omega)) fun k hk => near_ahead hok hb hk ao).mpr h
theorem FrP.rch {es : List Ge} {k b : Int} (h : FrP es k b) : Rch es none k := by
  obtain ⟨⟨o, ro, dok, _⟩, _⟩ := h
  exact dom_rch ro dok
theorem pick_opt {c : Bool} {t : TE} {σ : L2.St} {H : Hp} {Q : V → Hp → Prop} {o : Int} (ht : ∀ Q' : V → Hp → Prop, Q' (.int o) H → t σ H Q') (h : Q (optV (if c = true then some o else none)) H) : if c = true then t σ H Q else Q .non H := by
  cases c with
  | true => exact ht Q h
  | false => exact h
section
variable {P : Program} {w : World} {K : PySem.W.Frag} {mg : Str → Option Value} {base : Heap}
abbrev NNR : List Str := ["_law_code", "_law_block", "_law_some", "_law_rows", "_law_last", "_law_row", "_law_turn", "_law_found", "_law_one", "_law_here"]
def spNearR (K : PySem.W.Frag) : Sp := fun vs H Q _ => ∃ (vc : V) (b : Int) (ts dr dl : Addr) (es : List Ge) (ms : List Int), vs = [vc, .int b, .ref ts, .ref dr, .ref dl] ∧ CodeOf K H vc "main" es ∧ es.length ≤ 6 ∧ H ts = some (.tup (ms.map V.int)) ∧ ms.Pairwise (· < ·) ∧ (∀ k, k ∈ ms ↔ Rch es none k) ∧ RowsAt H dr es ∧ H dl = some (.dK (lkv es ms)) ∧ Rch es none b ∧ ∀ H', Same H H' → Q (.bl true) H'
theorem sc_nearR : FnScope NNR ["_law_code", "_law_block", "_law_some", "_law_rows", "_law_last"] (defScope (topS 23)) := ⟨rfl, rfl, rfl, by decide +kernel, rfl, by decide +kernel, by decide +kernel⟩
theorem ok_nearR {f f1 : Addr} {fd fd1 : FuncData} (D : Df K mg "_law_nearest_right" (topS 23) ["_law_code", "_law_block", "_law_some", "_law_rows", "_law_last"] f fd) (D1 : Df K mg "befores" (topS 8) ["code", "name", "block"] f1 fd1) (B : Bt mg)
    (G1 : FnOk P w K mg base CX0 2 f1 fd1 ["code", "name", "block"] (spBef K)) : FnOk P w K mg base CX0 3 f fd ["_law_code", "_law_block", "_law_some", "_law_rows", "_law_last"] (spNearR K) := by
  refine D.fn.ok sc_nearR (fun vs H Q E h => ?_) (fun cdv A outer s H vs Q E hr h => ?_)
  · obtain ⟨vc, b, ts, dr, dl, es, ms, rfl, _⟩ := h
    rfl
  obtain ⟨vc, b, ts, dr, dl, es, ms, rfl, hc, h6, hts, ris, hms, hR, hL, hb, q⟩ := h
  have nd := sc_nearR.nd
  have hu := hr.units
  have hu1 := Nat.lt_of_le_of_lt (Nat.add_le_add_left (by decide : 1 ≤ 64) _) hu
  refine ⟨_, (pss_cons (ps_set (i := 5) nd rfl (Or.inl rfl) (pe_lst (pa_cons (pv 1) pa_nil)))
    (pss_cons (ps_for PassesOwn.never rfl (pi_range1 (by rfl) B.range (pa_cons pe_int pa_nil)) (pg_name (i := 6) nd rfl (Or.inl rfl))
    (pss_one (ps_if (pt_cmpR op_notN (pe_dget2 hu1 (pv 4) (pe_ix (r := rIxL K) ix_list (pv 5) (pe_un un_neg pe_int) (fun _ _ => rfl)) pe_non ⟨rfl, rfl, rfl, rfl⟩) pe_non (nomark _)) (pss_one (ps_expr (pe_bm PySem.F.plainAttrs_list PySem.F.slot_list_append PySem.F.type_list_append mt_append (pv 5) (pa_cons (pe_dget hu1 (pv 4) (pe_ix (r := rIxL K) ix_list (pv 5) (pe_un un_neg pe_int) (fun _ _ => rfl)) (fun _ _ => rfl)) pa_nil)))) pss_nil)))
    (pss_cons (ps_if (PW.pt (pw_or (pt_cmpR op_ne (pe_ix (r := rIxL K) ix_list (pv 5) (pe_un un_neg pe_int) (fun _ _ => rfl)) pe_int (nomark _)) (pw_or1 (pt_cmpR op_lt (pe_callB cr_lenSI (by rfl) B.len PySem.boot_len (pa_cons (pe_callTy (cr_setIC rfl) (by rfl) B.set (by decide +kernel) (pa_cons (pv 5) pa_nil)) pa_nil)) (pe_callB call_len_seq (by rfl) B.len PySem.boot_len (pa_cons (pv 5) pa_nil)) (nomark _))))) pss_never pss_nil)
    (pss_cons (ps_set (i := 7) nd rfl (Or.inl rfl) (pe_lst pa_nil))
    (pss_cons (ps_for PassesOwn.never rfl (pi_tup (pe_call G1 hr (by rfl) D1.gl D1.fn.kp D1.bd .nil pass0 (pa_cons (pv 0) (pa_cons pe_str (pa_cons (pv 1) pa_nil))))) (pg_name (i := 8) nd rfl (Or.inl rfl))
    (pss_cons (ps_set (i := 9) nd rfl (Or.inl rfl) (pe_ifExp (pt_cmpR (r := rIn K false) op_in_seq (pv 8) (pv 2) (by with_unfolding_all rfl)) (pv 8) pe_non))
    (pss_one (ps_for PassesOwn.never rfl (pi_range1 (by rfl) B.range (pa_cons pe_int pa_nil)) (pg_name (i := 6) nd rfl (Or.inl rfl))
    (pss_one (ps_if (PW.pt (pw_and (pt_cmpR op_notN (pv 9) pe_non (nomark _)) (pw_and1 (pt_cmpR op_ne (pv 9) (pe_dget hu1 (pv 4) (pv 1) (fun _ _ => rfl)) (nomark _))))) (pss_cons (ps_expr (pe_bm PySem.F.plainAttrs_list PySem.F.slot_list_append PySem.F.type_list_append mt_append (pv 7) (pa_cons (pv 9) pa_nil)))
    (pss_one (ps_set (i := 9) nd rfl (Or.inl rfl) (pe_dget2 hu1 (pv 4) (pv 9) pe_non ⟨rfl, rfl, rfl, rfl⟩)))) pss_nil))))))
    (pss_one (ps_ret (pe_cmpR (op_eqD hu) (pe_callB (cr_sortedSet rfl) (by rfl) B.sorted (by decide +kernel) (pa_cons (pe_callTy (cr_setIC rfl) (by rfl) B.set (by decide +kernel) (pa_cons (pv 7) pa_nil)) pa_nil)) (pe_lc (own := [("_law_one", 8)]) (g := gName 8) (tt := tTest (tOp (rIn K false) (tVar 1) (tDGet (tVar 3) (tVar 8)))) rfl nd (pi_tup (pv 2)) (blkOk_by (N := NNR) (sc := defScope (topS 23)) (by decide +kernel)) (fun _ _ _ _ _ => pg_name (i := 8) nd rfl (Or.inl rfl)) (fun _ _ _ _ _ => (pts_one (pt_cmpR (r := rIn K false) op_in_seq (pv 1) (pe_dget hu1 (pv 3) (pv 8) (fun _ _ => rfl)) (by with_unfolding_all rfl)))) (fun _ _ _ _ _ => (pv 8))) (nomark _))))))))), ?_⟩
  have few := hc.ok.few
  have ml : ms.length ≤ es.length := few_ints es.length (ris.imp fun h => by omega) fun k hk => ((hms k).mp hk).rng hc.ok
  refine ⟨_, rfl, by show 1 ≤ sizeLine; decide, fun R hR0 => ?_⟩
  have s1 := same_new (o := .lst [V.int b]) hR0
  have r1 : upd H R (.lst [V.int b]) R = some (.lst (([] ++ [b] : List Int).map V.int)) := upd_same
  generalize upd H R (.lst [V.int b]) = H1 at s1 r1
  refine ⟨9, rfl, by decide, by decide, ?_⟩
  refine for_it walk_range (fun t σ H' => ∃ (x6 : Option V) (zs : List Int) (x : Int), σ = [some vc, some (.int b), some (.ref ts), some (.ref dr), some (.ref dl), some (.ref R), x6, none, none, none] ∧ Same H H' ∧ H' R = some (.lst ((zs ++ [x]).map V.int)) ∧ NR es b t zs x)
    ⟨none, [], b, rfl, s1, r1, ⟨fun k hk => ?_, List.pairwise_singleton _ _, .inr (Nat.le_refl _), Nat.le_refl _⟩⟩ (fun _ _ _ _ _ => trivial) ?_ ?_
  · have : k = b := by simpa using hk
    rw [this]; exact hb
  · rintro t x0 σ H2 H3 ht ⟨x6, zs, x, rfl, s2, r2, N2⟩ ⟨rfl, rfl⟩
    have l2 := s2 _ _ hL
    have hxm : x ∈ ms := (hms x).mpr (N2.rch x (by simp))
    have nl := N2.len
    have at2 : atI ((zs ++ [x]).map V.int) (-1) = some (.int x) := by rw [List.map_append]; exact atI_last _ _
    refine ⟨_, rfl, dl, rfl, .inl ⟨_, .inl l2⟩, _, rfl, 1, rfl, R, _, -1, .int x, rfl, rfl, SqL.of r2, at2, _, DGet.k (k := Sum.inl x) l2, rfl, _, rfl, ?_⟩
    rw [lkv_getD hms]
    cases hnx : nearI es x with
    | none =>
      rw [decide_eq_true (show optV none = V.non from rfl)]
      exact iteF ⟨_, zs, x, rfl, s2, r2, N2.stay hnx⟩
    | some m =>
      rw [decide_eq_false (show ¬ optV (some m) = V.non from fun z => by cases z)]
      refine iteT ?_
      refine ⟨_, rfl, .inl ⟨rfl, _, SqL.of r2⟩, _, rfl, _, rfl, 1, rfl, R, _, -1, .int x, rfl, rfl, SqL.of r2, at2, dl, .int m, rfl, .inl ⟨_, Sum.inl x, .inl l2, rfl, by rw [lkv_val, if_pos hxm, hnx]; rfl⟩, R, _, _, rfl, rfl, r2, by rw [List.length_map, List.length_append, List.length_singleton, sizeLine_eq]; omega, ?_⟩
      exact ⟨_, zs ++ [x], m, rfl, fun c o e => by rw [upd_ne (ne_of_none e hR0)]; exact s2 _ _ e, by rw [upd_same, List.map_append (l₂ := [m])]; rfl, N2.step hc.ok hnx⟩
  rintro σ H2 ⟨x6, zs, x, rfl, s2, r2, N2⟩
  have hx0 : x = 0 := N2.zero hc.ok h6
  have nl := N2.len
  have at2 : atI ((zs ++ [x]).map V.int) (-1) = some (.int x) := by rw [List.map_append]; exact atI_last _ _
  refine ⟨_, rfl, 1, rfl, R, _, -1, .int x, rfl, rfl, SqL.of r2, at2, rfl, _, rfl, ?_⟩
  rw [decide_eq_true (show V.int x = V.int 0 by rw [hx0])]
  refine iteF ?_
  have rl : (zs ++ [x]).length ≤ 1000 := by rw [List.length_append, List.length_singleton]; omega
  refine ⟨_, rfl, R, zs ++ [x], rfl, SqL.of r2, rl, fun a c H3 s3 ha hcn _ => ?_⟩
  have ec := hcn N2.nodup
  subst ec
  refine ⟨a, _, _, rfl, ha, ?_⟩
  have r3 := s3 _ _ r2
  refine ⟨_, rfl, R, _, rfl, .inl (SqL.of r3), _, _, rfl, rfl, _, rfl, ?_⟩
  rw [List.length_map, decide_eq_false (by omega)]
  refine iteF ?_
  have s03 := s2.trans s3
  refine ⟨Nat.zero_le _, fun L0 hL0 => ?_⟩
  have s4 := same_new (o := .lst []) hL0
  have l4 : upd H3 L0 (.lst []) L0 = some (.lst (([] : List Int).map V.int)) := upd_same
  generalize upd H3 L0 (.lst []) = H4 at s4 l4
  have s04 := s03.trans s4
  have hL00 : H L0 = none := s03.free hL0
  refine ⟨_, rfl, _, rfl, vc, "main", b, es, rfl, hc.same s04, fun tb H5 s5 hb5 => ?_⟩
  have mu := mem_upAll hc.ok h6 hb hms
  have bl : (befN es b es.length).length ≤ es.length := befN_len
  generalize befN es b es.length = bs at hb5 mu bl
  have ntb : tb ≠ L0 := fun z => by
    have := s5 _ _ l4
    rw [← z, hb5] at this
    cases this
  have s05 := s04.trans s5
  refine ⟨tb, rfl, ⟨_, SqT.of hb5⟩, for_it (walk_tup (xs := bs.map V.int)) (fun i σ H' => ∃ (x6 x8 x9 : Option V) (fs : List Int), σ = [some vc, some (.int b), some (.ref ts), some (.ref dr), some (.ref dl), some (.ref R), x6, some (.ref L0), x8, x9] ∧ Same H H' ∧ H' tb = some (.tup (bs.map V.int)) ∧ H' L0 = some (.lst (fs.map V.int)) ∧ fs = upAll es (nearI es b) ms (bs.take i) ∧ fs.length ≤ 9 * i)
    ⟨_, none, none, [], rfl, s05, hb5, s5 _ _ l4, by simp [upAll], by simp⟩ (fun i σ H' _ h => by obtain ⟨_, _, _, _, _, _, h', _⟩ := h; exact SqT.of h') ?_ ?_⟩
  · rintro i x' σ H6 H6' hi ⟨x6, x8, x9, fs, rfl, s6, t6, l6, efs, fl⟩ ⟨he, hx⟩
    subst he
    rw [List.getElem?_map] at hx
    obtain ⟨o, ho, rfl⟩ := Option.map_eq_some_iff.mp hx
    rw [List.length_map] at hi
    have etk : bs.take (i + 1) = bs.take i ++ [o] := by rw [List.take_succ, ho]; rfl
    refine ⟨_, rfl, _, rfl, ts, _, rfl, .inr (SqT.of (s6 _ _ hts)), rfl, flat_ints _, _, rfl, ?_⟩
    rw [if_neg (show ¬ (false = true) by simp), inV_ints]
    refine pick_opt (o := o) (fun Q' h => ⟨_, rfl, h⟩) ?_
    have eh0 : (if decide (o ∈ ms) = true then some o else none) = (if o ∈ ms then some o else none) := by
      by_cases z : o ∈ ms
      · rw [if_pos (decide_eq_true z), if_pos z]
      · rw [if_neg (by simpa using z), if_neg z]
    generalize (if decide (o ∈ ms) = true then some o else none) = h0 at eh0
    refine ⟨9, rfl, by decide, by decide, ?_⟩
    refine for_it walk_range (fun t σ H' => ∃ (x6 : Option V) (h : Option Int) (gs : List Int), σ = [some vc, some (.int b), some (.ref ts), some (.ref dr), some (.ref dl), some (.ref R), x6, some (.ref L0), some (.int o), some (optV h)] ∧ Same H H' ∧ H' tb = some (.tup (bs.map V.int)) ∧ H' L0 = some (.lst (gs.map V.int)) ∧ gs ++ ups es (nearI es b) (9 - t) h = fs ++ ups es (nearI es b) 9 h0 ∧ gs.length ≤ 9 * i + t)
      ⟨_, h0, fs, rfl, s6, t6, l6, rfl, by omega⟩ (fun _ _ _ _ _ => trivial) ?_ ?_
    · rintro t x0 σ H7 H8 ht ⟨x6, h, gs, rfl, s7, t7, l7, eg, gl⟩ ⟨rfl, rfl⟩
      have ht9 : t < 9 := ht
      obtain ⟨n, hn⟩ : ∃ n, 9 - t = n + 1 := ⟨8 - t, by omega⟩
      have hn' : 9 - (t + 1) = n := by omega
      rw [hn] at eg
      have d7 := s7 _ _ hL
      refine ⟨_, rfl, rfl, _, rfl, ?_⟩
      cases h with
      | none =>
        rw [decide_eq_true (show optV none = V.non from rfl)]
        refine iteF ?_
        refine iteF ⟨_, none, gs, rfl, s7, t7, l7, ?_, by omega⟩
        rw [hn', ups_none]
        rw [ups_none] at eg
        exact eg
      | some h =>
        rw [decide_eq_false (show ¬ optV (some h) = V.non from fun z => by cases z)]
        refine iteT ?_
        refine ⟨_, rfl, _, rfl, _, rfl, dl, optV (nearI es b), rfl, .inl ⟨_, Sum.inl b, .inl d7, rfl, by rw [lkv_val, if_pos ((hms b).mpr hb)]⟩, ?_, _, rfl, ?_⟩
        · cases nearI es b <;> rfl
        by_cases em : some h = nearI es b
        · rw [decide_eq_true (show optV (some h) = optV (nearI es b) by rw [em])]
          refine iteF ⟨_, some h, gs, rfl, s7, t7, l7, ?_, by omega⟩
          rw [← em, ups_stop] at eg ⊢
          exact eg
        · rw [decide_eq_false (show ¬ optV (some h) = optV (nearI es b) from fun z => em (by
            cases hnb : nearI es b with
            | none => rw [hnb] at z; cases z
            | some y => rw [hnb] at z; injection z with z; rw [z]))]
          refine iteT ?_
          rw [ups_on em] at eg
          refine ⟨_, rfl, .inl ⟨rfl, _, SqL.of l7⟩, _, rfl, L0, _, _, rfl, rfl, l7, by rw [List.length_map, sizeLine_eq]; omega, ?_⟩
          have s8 : Same H (upd H8 L0 (.lst (gs.map V.int ++ [optV (some h)]))) := fun c o e => by rw [upd_ne (ne_of_none e hL00)]; exact s7 _ _ e
          have t8 : upd H8 L0 (.lst (gs.map V.int ++ [optV (some h)])) tb = some (.tup (bs.map V.int)) := by rw [upd_ne ntb]; exact t7
          have l8 : upd H8 L0 (.lst (gs.map V.int ++ [optV (some h)])) L0 = some (.lst ((gs ++ [h]).map V.int)) := by rw [upd_same, List.map_append]; rfl
          generalize upd H8 L0 (.lst (gs.map V.int ++ [optV (some h)])) = H9 at s8 t8 l8
          have d9 := s8 _ _ hL
          refine ⟨_, rfl, dl, rfl, .inl ⟨_, .inl d9⟩, _, rfl, _, DGet.k (k := Sum.inl h) d9, ?_⟩
          rw [lkv_getD hms]
          refine ⟨_, nearI es h, gs ++ [h], rfl, s8, t8, l8, ?_, by rw [List.length_append, List.length_singleton]; omega⟩
          rw [hn', ← eg, List.append_assoc]
          rfl
    · rintro σ H7 ⟨x6, h, gs, rfl, s7, t7, l7, eg, gl⟩
      have e0 : ups es (nearI es b) (9 - Int.toNat 9) h = [] := by cases h <;> rfl
      have gl' : gs.length ≤ 9 * i + 9 := gl
      rw [e0, List.append_nil] at eg
      refine ⟨_, _, _, gs, rfl, s7, t7, l7, ?_, by omega⟩
      rw [eg, etk, efs, eh0]
      unfold upAll
      rw [List.flatMap_append]
      simp
  rintro σ H6 ⟨x6, x8, x9, fs, rfl, s6, t6, l6, efs, fl⟩
  rw [List.length_map, List.take_length] at efs
  rw [List.length_map] at fl
  rw [← efs] at mu
  refine ⟨_, rfl, L0, fs, rfl, SqL.of l6, by omega, fun a c H7 s7 ha _ hcm => ?_⟩
  have hc6 := hcm es.length fun k hk => ((mu k).mp hk).rch.rng hc.ok
  refine ⟨a, _, c, rfl, ha, by omega, ?_⟩
  intro ns p nris nmem nlen hp
  have s8 := same_new (o := .lst (ns.map V.int)) hp
  have p8 : upd H7 p (.lst (ns.map V.int)) p = some (.lst (ns.map V.int)) := upd_same
  generalize upd H7 p (.lst (ns.map V.int)) = H8 at s8 p8
  have s08 := s6.trans (s7.trans s8)
  have t8 := s08 _ _ hts
  have R8 := hR.same s08
  refine ⟨_, rfl, ts, rfl, ⟨_, SqT.of t8⟩, fun De hDe => ?_⟩
  refine lc_pure (walk_tup (xs := ms.map V.int)) (fun i => decide (b ∈ frI es (ms.getD i 0))) (fun i => V.int (ms.getD i 0)) hDe (fun _ h => SqT.of (h _ _ t8)) (big_size (by rw [List.length_map]; omega)) ?_ ?_ ?_
  · intro i x H9 Q9 hi hx s9 q9
    rw [List.getElem?_map] at hx
    obtain ⟨n, hn, rfl⟩ := Option.map_eq_some_iff.mp hx
    rw [show ms.getD i 0 = n by rw [List.getD_eq_getElem?_getD, hn]; rfl] at q9
    obtain ⟨n0, n1⟩ := ((hms n).mp (List.mem_of_getElem? hn)).rng hc.ok
    obtain ⟨aa, g1, g2⟩ := (R8.same s9).get n0 n1
    refine ⟨_, rfl, _, rfl, _, rfl, dr, _, rfl, g1, aa, _, rfl, .inr (SqT.of g2), rfl, flat_ints _, _, rfl, ?_⟩
    rw [if_neg (show ¬ (false = true) by simp), inV_ints]
    exact q9 H9 (Same.refl _)
  · intro i x H9 Q9 hi hx _ s9 q9
    rw [List.getElem?_map] at hx
    obtain ⟨n, hn, rfl⟩ := Option.map_eq_some_iff.mp hx
    rw [show ms.getD i 0 = n by rw [List.getD_eq_getElem?_getD, hn]; rfl] at q9
    exact ⟨_, rfl, q9 H9 (Same.refl _)⟩
  intro H9 s9 hD9
  rw [List.length_map, range_filter (fun k => decide (b ∈ frI es k)) V.int 0 ms] at hD9
  have en : ns = ms.filter fun k => decide (b ∈ frI es k) := rising_eq nris (List.Pairwise.filter _ ris) fun k => by
    rw [nmem, decide_eq_true_iff, mu, List.mem_filter, decide_eq_true_iff, mem_frI hc.ok, hms]
    exact ⟨fun h => ⟨h.rch, h⟩, fun h => h.2⟩
  rw [← en] at hD9
  refine ⟨.list (ns.map PyData.int), .list (ns.map PyData.int), .lst (SqL.of (s9 _ _ p8)) (DpAll_ints _), .lst (SqL.of hD9) (DpAll_ints _), ints_shaped _, ints_shaped _, ?_⟩
  rw [eqv_same (ints_shaped ns)]
  exact q _ (s08.trans s9)
end
end Sw
set_option maxRecDepth 100000
set_option maxHeartbeats 4000000
namespace Sw
open PySem PySem.Spec PyProof.Rows L2
section
open PySem.AutoSeq1
/-- xs.extend(t) -/
theorem extend_tup (l : Addr) (items : Array Value) (n : Nat) (b : Addr) (items2 : Array Value) (n2 : Nat) (dd : Option Addr) (sl : Array (Option Value)) (hs0 : ¬(!items.isEmpty && Builtin.List.listTooLong (items.size + items2.size)) = true) (hs1 : items.size ≤ sizeLine) (hs2 : items.size + items2.size ≤ sizeLine + 1) :
    Meets (Builtin.«list.extend» ⟨[.ref l, .ref b], []⟩) (fun _ R s => s.heap.get? l = some { cls := .type "list", dict := none, data := .seq items n, slots := #[] } ∧ s.heap.get? b = some { cls := .type "tuple", dict := dd, data := .seq items2 n2, slots := sl } ∧ R (.ok (.ret Value.none)) { s with heap := s.heap.update l (Obj.mapSeq fun x => x ++ items2), toks := s.toks }) :=
  .of_wp fun prog w A R s h => by
    obtain ⟨hp, g, d, tk, os⟩ := s
    obtain ⟨hl, hb, h⟩ := h
    have f1 := PySem.AutoSeq1.idx_int
    have f2 := PySem.AutoSeq1.sub_tuple_tuple
    have f3 := PySem.AutoSeq1.sub_list_list
    have f4 := PySem.AutoSeq1.sub_tuple_list
    have f5 := PySem.AutoSeq1.sub_list_tuple
    have hz' : (items ++ items2).size ≤ sizeLine + 1 := by rw [Array.size_append]; exact hs2
    wp_walk using (wpAny_updateSeq hl rfl (hz := hs1) (_hz' := hz')), wpAny_loadPart' hl, wpAny_loadPart' hb
    exact ⟨_, rfl, h⟩
end
section
variable {X : Cx}
def rExtendT (K : PySem.W.Frag) : V → List V → Hp → VK → Prop := fun x vs H Q => ∃ l b xs zs, x = .ref l ∧ vs = [.ref b] ∧ H l = some (.lst xs) ∧ SqT K H b zs ∧ xs.length + zs.length ≤ sizeLine ∧ Q .non (upd H l (.lst (xs ++ zs)))
theorem mt_extendT : MtR X "list.extend" (rExtendT X.K) := by
  intro pins s σ H x vs v us Q I rx rv h
  obtain ⟨l, b, xs, zs, rfl, rfl, hH, hB, hz, q⟩ := h
  cases rx
  obtain ⟨u, rfl, ru⟩ := rv.one
  cases ru
  obtain ⟨z, its, n, r, hl, e⟩ := I.lstM hH
  obtain ⟨its2, r2, ⟨⟨cls, dd, dt, sl⟩, ho, hc, n2, hd⟩, _⟩ := I.tuple hB
  cases hc
  cases hd
  have hl2 : its2.length = zs.length := r2.length.symm
  have hsz : its.toArray.size + its2.toArray.size ≤ sizeLine := by rw [List.size_toArray, List.size_toArray]; omega
  have hlong : ¬ (!its.toArray.isEmpty && Builtin.List.listTooLong (its.toArray.size + its2.toArray.size)) = true := by
    rw [notLongL hsz, Bool.and_false]
    exact Bool.false_ne_true
  refine call_meets F.slot_list_extend ⟨_, e, rfl⟩ F.entry_list_extend (F.args_list_extend_2 _ _)
    (extend_tup l its.toArray n b its2.toArray n2 dd sl hlong (by rw [List.size_toArray]; omega) (by omega)) ⟨e, ho, ?_⟩
  refine ⟨.non, _, I.lset (its' := its ++ its2) hH e (by simp) (r.append r2) ?_, rfl, q⟩
  rw [List.length_append]
  omega
end
theorem SqT_upd {K : PySem.W.Frag} {H : Hp} {a l : Addr} {xs ys zs : List V} (h : SqT K H a xs) (hl : H l = some (.lst ys)) : SqT K (upd H l (.lst zs)) a xs := by
  rcases h with (h | ⟨o, h⟩) | h
  · exact .inl (.inl (by rw [upd_ne (fun e => by rw [e, hl] at h; cases h)]; exact h))
  · exact .inl (.inr ⟨o, by rw [upd_ne (fun e => by rw [e, hl] at h; cases h)]; exact h⟩)
  · exact .inr h
/-- nothing more comes -/
def CloA (es : List Ge) (bs fs : List Int) : Prop := ∀ b ∈ bs ++ fs, ∀ k ∈ frI es b, k ∈ fs
theorem CloA.all {es : List Ge} {bs fs : List Int} (h : CloA es bs fs) {k : Int} (a : Ag es bs k) : k ∈ fs := by
  induction a with
  | one hb hk => exact h _ (List.mem_append_left _ hb) _ hk
  | on _ hk ih => exact h _ (List.mem_append_right _ ih) _ hk
structure RndA (es : List Ge) (bs fs0 pr fs : List Int) : Prop where
  nd : fs.Nodup
  ag : ∀ k ∈ fs, Ag es bs k
  gr : fs = fs0 ∨ fs0.length < fs.length
  cl : CloA es bs fs0 → fs = fs0
  got : ∀ b ∈ pr, ∀ k ∈ frI es b, k ∈ fs
theorem RndA.few {es : List Ge} {bs fs0 pr fs : List Int} (h : RndA es bs fs0 pr fs) : fs.length ≤ es.length := few_ints es.length h.nd fun x hx => (h.ag x hx).rng
theorem RndA.step {es : List Ge} {bs fs0 pr fs : List Int} {b : Int} (h : RndA es bs fs0 pr fs) (hag : ∀ k ∈ fs0, Ag es bs k) (hb : b ∈ bs ++ fs0) : RndA es bs fs0 (pr ++ [b]) (fs ++ (frI es b).filter fun k => !decide (k ∈ fs)) := by
  have hnew : ∀ k ∈ frI es b, Ag es bs k := fun k hk => by
    rcases List.mem_append.mp hb with hb | hb
    · exact .one hb hk
    · exact .on (hag b hb) hk
  refine ⟨List.nodup_append.mpr ⟨h.nd, List.Pairwise.filter _ ((frI_rising es b).imp fun h => by omega), fun a ha c hc e => ?_⟩, fun k hk => ?_, ?_, fun c => ?_, fun b' hb' k hk => ?_⟩
  · subst e
    have := (List.mem_filter.mp hc).2
    simp at this
    exact this ha
  · rcases List.mem_append.mp hk with hk | hk
    · exact h.ag k hk
    · exact hnew k (List.mem_filter.mp hk).1
  · cases hf : (frI es b).filter (fun k => !decide (k ∈ fs)) with
    | nil => rw [List.append_nil]; exact h.gr
    | cons x xs =>
      refine .inr ?_
      rw [List.length_append, List.length_cons]
      rcases h.gr with e | e
      · rw [e]; omega
      · omega
  · have e := h.cl c
    subst e
    have : (frI es b).filter (fun k => !decide (k ∈ fs)) = [] := by
      rw [List.filter_eq_nil_iff]
      intro k hk
      simp [c b hb k hk]
    rw [this, List.append_nil]
  · rcases List.mem_append.mp hb' with hb' | hb'
    · exact List.mem_append_left _ (h.got b' hb' k hk)
    · have : b' = b := by simpa using hb'
      subst this
      by_cases z : k ∈ fs
      · exact List.mem_append_left _ z
      · exact List.mem_append_right _ (List.mem_filter.mpr ⟨hk, by simp [z]⟩)
theorem cat_any {K : PySem.W.Frag} {H : Hp} {Q : VK} {a b : Addr} {xs ys : List V} (ha : SqT K H a xs) (hb : SqT K H b ys) (hl : xs.length + ys.length ≤ sizeLine) (q : ∀ c H', Same H H' → SqT K H' c (xs ++ ys) → Q (.ref c) H') : rCatA K (.ref a) (.ref b) H Q :=
  ⟨a, b, xs, ys, rfl, rfl, ha, hb, hl, fun e => q b H (Same.refl _) (by rw [e]; exact hb), fun _ e => q a H (Same.refl _) (by rw [e, List.append_nil]; exact ha), fun _ _ p hp => q p _ (same_new hp) (SqT.of upd_same)⟩
section
variable {P : Program} {w : World} {K : PySem.W.Frag} {mg : Str → Option Value} {base : Heap}
abbrev NAR : List Str := ["_law_code", "_law_blocks", "_law_every", "_law_rows", "_law_told", "_law_fronts", "_law_one", "_law_wider", "_law_after", "_law_came", "_law_turn"]
theorem fm_len {es : List Ge} (h6 : es.length ≤ 6) : ∀ l : List Int, (l.flatMap (frI es)).length ≤ 6 * l.length
  | [] => by simp
  | x :: l => by
    have := fm_len h6 l
    have := frI_len es x
    rw [List.flatMap_cons, List.length_append, List.length_cons]
    omega
def spAgainR (K : PySem.W.Frag) : Sp := fun vs H Q _ => ∃ (vc : V) (tb te dr : Addr) (es : List Ge) (bs evs : List Int), vs = [vc, .ref tb, .ref te, .ref dr] ∧ CodeOf K H vc "main" es ∧ es.length ≤ 6 ∧ SqT K H tb (bs.map V.int) ∧ bs.length ≤ 6 ∧ (∀ b ∈ bs, 0 ≤ b ∧ b < (es.length : Int)) ∧ SqT K H te (evs.map V.int) ∧ evs.length = es.length ∧ RowsAt H dr es ∧ ∀ H', Same H H' → Q (.bl true) H'
theorem sc_againR : FnScope NAR ["_law_code", "_law_blocks", "_law_every", "_law_rows"] (defScope (topS 24)) := ⟨rfl, rfl, rfl, by decide +kernel, rfl, by decide +kernel, by decide +kernel⟩
theorem ok_againR {f f1 : Addr} {fd fd1 : FuncData} (D : Df K mg "_law_again_right" (topS 24) ["_law_code", "_law_blocks", "_law_every", "_law_rows"] f fd) (D1 : Df K mg "frontier_again" (topS 16) ["code", "name", "blocks"] f1 fd1) (B : Bt mg)
    (G1 : FnOk P w K mg base CX0 6 f1 fd1 ["code", "name", "blocks"] (spAgain K)) : FnOk P w K mg base CX0 7 f fd ["_law_code", "_law_blocks", "_law_every", "_law_rows"] (spAgainR K) := by
  refine D.fn.ok sc_againR (fun vs H Q E h => ?_) (fun cdv A outer s H vs Q E hr h => ?_)
  · obtain ⟨vc, tb, te, dr, es, bs, evs, rfl, _⟩ := h
    rfl
  obtain ⟨vc, tb, te, dr, es, bs, evs, rfl, hc, h6, htb, bl, hbs, hte, el, hR, q⟩ := h
  have nd := sc_againR.nd
  have hu := hr.units
  have hu1 := Nat.lt_of_le_of_lt (Nat.add_le_add_left (by decide : 1 ≤ 64) _) hu
  refine ⟨_, (pss_cons (ps_par (i := 4) (j := 5) rfl nd rfl rfl (by decide) rfl rfl (pa_cons (pe_call G1 hr (by rfl) D1.gl D1.fn.kp D1.bd .nil pass0 (pa_cons (pv 0) (pa_cons pe_str (pa_cons (pv 1) pa_nil)))) (pa_cons (pe_lst pa_nil) pa_nil)) (by rfl))
    (pss_cons (ps_for PassesOwn.never rfl (pi_tup (pe_op op_catA (pv 1) (pv 4))) (pg_name (i := 6) nd rfl (Or.inl rfl))
    (pss_one (ps_expr (pe_bm PySem.F.plainAttrs_list PySem.F.slot_list_extend PySem.F.type_list_extend mt_extendT (pv 5) (pa_cons (pe_dget2 hu1 (pv 3) (pv 6) (pe_tup pa_nil) ⟨rfl, rfl, rfl, rfl⟩) pa_nil)))))
    (pss_cons (ps_if (pt_cmpR (op_neD hu) (pe_callB (cr_sortedSet rfl) (by rfl) B.sorted (by decide +kernel) (pa_cons (pe_callTy (cr_setIC rfl) (by rfl) B.set (by decide +kernel) (pa_cons (pv 5) pa_nil)) pa_nil)) (pe_callTy call_list_of (by rfl) B.list (by decide +kernel) (pa_cons (pv 4) pa_nil)) (nomark _)) pss_never pss_nil)
    (pss_cons (ps_for PassesOwn.never rfl (pi_tup (pv 2)) (pg_name (i := 6) nd rfl (Or.inl rfl))
    (pss_cons (ps_set (i := 7) nd rfl (Or.inr rfl) (pe_call G1 hr (by rfl) D1.gl D1.fn.kp D1.bd .nil pass0 (pa_cons (pv 0) (pa_cons pe_str (pa_cons (pe_op op_catA (pv 1) (pe_tup (pa_cons (pv 6) pa_nil))) pa_nil)))))
    (pss_one (ps_if (pt_cmpR (r := rNeD K) (op_neD hu) (pe_lc (own := [("_law_after", 8)]) (g := gName 8) (tt := tTest (tOp (rIn K true) (tVar 8) (tVar 7))) rfl nd (pi_tup (pv 4)) (blkOk_by (N := NAR) (sc := defScope (topS 24)) (by decide +kernel)) (fun _ _ _ _ _ => pg_name (i := 8) nd rfl (Or.inl rfl)) (fun _ _ _ _ _ => (pts_one (pt_cmpR (r := rIn K true) op_notIn_seq (pv 8) (pv 7) (by with_unfolding_all rfl)))) (fun _ _ _ _ _ => (pv 8))) (pe_lst pa_nil) (nomark _)) pss_never pss_nil))))
    (pss_cons (ps_set (i := 9) nd rfl (Or.inr rfl) (pe_lst pa_nil))
    (pss_cons (ps_for PassesOwn.never rfl (pi_range1 (by rfl) B.range (pa_cons (pe_op op_add (pe_callB call_len_seq (by rfl) B.len PySem.boot_len (pa_cons (pv 2) pa_nil)) pe_int) pa_nil)) (pg_name (i := 10) nd rfl (Or.inl rfl))
    (pss_one (ps_for PassesOwn.never rfl (pi_list (pe_op op_cat (pe_callTy call_list_of (by rfl) B.list (by decide +kernel) (pa_cons (pv 1) pa_nil)) (pv 9))) (pg_name (i := 6) nd rfl (Or.inl rfl))
    (pss_one (ps_expr (pe_bm PySem.F.plainAttrs_list PySem.F.slot_list_extend PySem.F.type_list_extend mt_extend (pv 9) (pa_cons (pe_lc (own := [("_law_after", 8)]) (g := gName 8) (tt := tTest (tOp (rIn K true) (tVar 8) (tVar 9))) rfl nd (pi_tup (pe_dget2 hu1 (pv 3) (pv 6) (pe_tup pa_nil) ⟨rfl, rfl, rfl, rfl⟩)) (blkOk_by (N := NAR) (sc := defScope (topS 24)) (by decide +kernel)) (fun _ _ _ _ _ => pg_name (i := 8) nd rfl (Or.inl rfl)) (fun _ _ _ _ _ => (pts_one (pt_cmpR (r := rIn K true) op_notIn_seq (pv 8) (pv 9) (by with_unfolding_all rfl)))) (fun _ _ _ _ _ => (pv 8))) pa_nil)))))))
    (pss_one (ps_ret (pe_cmpR (op_eqD hu) (pe_callB cr_sorted (by rfl) B.sorted (by decide +kernel) (pa_cons (pv 9) pa_nil)) (pe_callTy call_list_of (by rfl) B.list (by decide +kernel) (pa_cons (pv 4) pa_nil)) (nomark _)))))))))), ?_⟩
  refine ⟨_, rfl, _, rfl, vc, "main", tb, bs, es, rfl, hc, htb, by omega, fun t4 H1 ns s1 ht4 ris hns => ?_⟩
  have nl : ns.length ≤ es.length := few_ints es.length (ris.imp fun h => by omega) fun k hk => ((hns k).mp hk).rng
  refine ⟨Nat.zero_le _, fun L0 hL0 => ?_⟩
  have s2 := same_new (o := .lst []) hL0
  have l2 : upd H1 L0 (.lst []) L0 = some (.lst (([] : List Int).map V.int)) := upd_same
  generalize upd H1 L0 (.lst []) = H2 at s2 l2
  have hL00 : H L0 = none := s1.free hL0
  have s02 := s1.trans s2
  have t2 := s2 _ _ ht4
  refine ⟨_, _, rfl, ?_⟩
  refine ⟨_, rfl, _, rfl, cat_any (sameT s02 htb) (SqT.of t2) (by rw [List.length_map, List.length_map, sizeLine_eq]; omega) fun c H3 s3 hc3 => ?_⟩
  rw [← List.map_append] at hc3
  have s03 := s02.trans s3
  have t3 := s3 _ _ t2
  have low : ∀ {H' : Hp}, (∀ a o, a ≠ L0 → H3 a = some o → H' a = some o) → Same H H' := fun h a o e => h a o (ne_of_none e hL00) (s03 _ _ e)
  refine ⟨c, rfl, ⟨_, hc3⟩, for_it (walk_tup (xs := (bs ++ ns).map V.int)) (fun i σ H' => ∃ (x6 : Option V) (fs : List Int), σ = [some vc, some (.ref tb), some (.ref te), some (.ref dr), some (.ref t4), some (.ref L0), x6, none, none, none, none] ∧ Same H H' ∧ SqT K H' c ((bs ++ ns).map V.int) ∧ H' t4 = some (.tup (ns.map V.int)) ∧ H' L0 = some (.lst (fs.map V.int)) ∧ fs = ((bs ++ ns).take i).flatMap (frI es))
    ⟨none, [], rfl, s03, hc3, t3, s3 _ _ l2, by simp⟩ (fun i σ H' _ h => by obtain ⟨_, _, _, _, h', _⟩ := h; exact h') ?_ ?_⟩
  · rintro i x σ H4' H4 hi ⟨x6, fs, rfl, s4, c4, t4', l4, efs⟩ ⟨he, hx⟩
    subst he
    rw [List.getElem?_map] at hx
    obtain ⟨k, hk, rfl⟩ := Option.map_eq_some_iff.mp hx
    have hkm := List.mem_of_getElem? hk
    have etk : (bs ++ ns).take (i + 1) = (bs ++ ns).take i ++ [k] := by rw [List.take_succ, hk]; rfl
    rw [List.length_map, List.length_append] at hi
    obtain ⟨k0, k1⟩ : 0 ≤ k ∧ k < (es.length : Int) := by
      rcases List.mem_append.mp hkm with h | h
      · exact hbs k h
      · exact ((hns k).mp h).rng
    have fl := fm_len h6 ((bs ++ ns).take i)
    rw [← efs, List.length_take] at fl
    have frl := frI_len es k
    refine ⟨_, rfl, .inl ⟨rfl, _, SqL.of l4⟩, _, rfl, dr, rfl, (hR.same s4).isD, _, rfl, Nat.zero_le _, fun N hN => ?_⟩
    have s5 := same_new (o := .tup []) hN
    generalize upd H4 N (.tup []) = H5 at s5
    obtain ⟨aa, g1, g2⟩ := (hR.same (s4.trans s5)).get k0 k1
    have l5 := s5 _ _ l4
    refine ⟨some (.ref aa), g1, L0, aa, _, _, rfl, rfl, l5, SqT.of g2, by rw [List.length_map, List.length_map, sizeLine_eq]; omega, ?_⟩
    refine ⟨_, fs ++ frI es k, rfl, fun a o e => by rw [upd_ne (ne_of_none e hL00)]; exact s5 _ _ (s4 _ _ e), ?_, ?_, by rw [upd_same, List.map_append], ?_⟩
    · exact SqT_upd (sameT s5 c4) l5
    · rw [upd_ne (fun z => by rw [← z, s5 _ _ t4'] at l5; cases l5)]
      exact s5 _ _ t4'
    · rw [etk, List.flatMap_append, efs]
      simp
  rintro σ H4 ⟨x6, fs, rfl, s4, _, t4', l4, efs⟩
  rw [List.length_map, List.take_length] at efs
  have fl := fm_len h6 (bs ++ ns)
  rw [← efs, List.length_append] at fl
  have hfs : ∀ k, k ∈ fs ↔ Ag es bs k := fun k => by
    rw [efs, List.mem_flatMap]
    exact Ag.iff hns k
  refine ⟨_, rfl, L0, fs, rfl, SqL.of l4, by omega, fun a c5 H5 s5 ha _ hcm => ?_⟩
  have hc6 := hcm es.length fun k hk => ((hfs k).mp hk).rng
  refine ⟨a, _, c5, rfl, ha, by omega, fun ns2 p ris2 mem2 _ hp => ?_⟩
  have s6 := same_new (o := .lst (ns2.map V.int)) hp
  have p6 : upd H5 p (.lst (ns2.map V.int)) p = some (.lst (ns2.map V.int)) := upd_same
  generalize upd H5 p (.lst (ns2.map V.int)) = H6 at s6 p6
  have en : ns2 = ns := rising_eq ris2 ris fun k => by rw [mem2, decide_eq_true_iff, hfs, hns]
  subst en
  have t6 := s6 _ _ (s5 _ _ t4')
  refine ⟨_, rfl, t4, _, rfl, .inr (SqT.of t6), fun l7 hl7 => ?_⟩
  have s7 := same_new (o := .lst (ns2.map V.int)) hl7
  have e7 : upd H6 l7 (.lst (ns2.map V.int)) l7 = some (.lst (ns2.map V.int)) := upd_same
  generalize upd H6 l7 (.lst (ns2.map V.int)) = H7 at s7 e7
  refine ⟨.list (ns2.map PyData.int), .list (ns2.map PyData.int), .lst (SqL.of (s7 _ _ p6)) (DpAll_ints _), .lst (SqL.of e7) (DpAll_ints _), ints_shaped _, ints_shaped _, _, rfl, ?_⟩
  rw [eqv_same (ints_shaped ns2)]
  refine iteF ?_
  have s07 := s4.trans (s5.trans (s6.trans s7))
  have t7 := s7 _ _ t6
  -- with one more
  refine ⟨_, rfl, te, rfl, ⟨_, sameT s07 hte⟩, for_it (walk_tup (xs := evs.map V.int)) (fun i σ H' => ∃ x6 x7 x8 : Option V, σ = [some vc, some (.ref tb), some (.ref te), some (.ref dr), some (.ref t4), some (.ref L0), x6, x7, x8, none, none] ∧ Same H7 H') ⟨_, none, none, rfl, Same.refl _⟩ (fun i σ H' _ h => by obtain ⟨_, _, _, _, s'⟩ := h; exact sameT (s07.trans s') hte) ?_ ?_⟩
  · rintro i x σ H8' H8 hi ⟨x6, x7, x8, rfl, s8⟩ ⟨he, hx⟩
    subst he
    rw [List.getElem?_map] at hx
    obtain ⟨k, hk, rfl⟩ := Option.map_eq_some_iff.mp hx
    have s08 := s07.trans s8
    refine ⟨_, rfl, _, rfl, _, rfl, by show 1 ≤ sizeLine; decide, fun t1 ht1 => ?_⟩
    have s9 := same_new (o := .tup [V.int k]) ht1
    have e9 : upd H8 t1 (.tup [V.int k]) t1 = some (.tup (([k] : List Int).map V.int)) := upd_same
    generalize upd H8 t1 (.tup [V.int k]) = H9 at s9 e9
    refine cat_any (sameT (s08.trans s9) htb) (SqT.of e9) (by rw [List.length_map, List.length_map, sizeLine_eq, List.length_singleton]; omega) fun c2 H10 s10 hc10 => ?_
    rw [← List.map_append] at hc10
    have s010 := s08.trans (s9.trans s10)
    refine ⟨vc, "main", c2, bs ++ [k], es, rfl, hc.same s010, hc10, by rw [List.length_append, List.length_singleton]; omega, fun tw H11 ws s11 htw _ hws => ?_⟩
    have s711 := (s8.trans s9).trans (s10.trans s11)
    have t11 := s711 _ _ t7
    refine ⟨_, rfl, t4, rfl, ⟨_, SqT.of t11⟩, fun De hDe => ?_⟩
    refine lc_pure (walk_tup (xs := ns2.map V.int)) (fun i => !decide (ns2.getD i 0 ∈ ws)) (fun i => V.int (ns2.getD i 0)) hDe (fun _ h => SqT.of (h _ _ t11)) (big_size (by rw [List.length_map]; omega)) ?_ ?_ ?_
    · intro i x H12 Q12 hi hx s12 q12
      rw [List.getElem?_map] at hx
      obtain ⟨n, hn, rfl⟩ := Option.map_eq_some_iff.mp hx
      rw [show ns2.getD i 0 = n by rw [List.getD_eq_getElem?_getD, hn]; rfl] at q12
      refine ⟨_, rfl, _, rfl, tw, _, rfl, .inr (SqT.of (s12 _ _ htw)), rfl, flat_ints _, _, rfl, ?_⟩
      rw [if_pos rfl, inV_ints]
      exact q12 H12 (Same.refl _)
    · intro i x H12 Q12 hi hx _ s12 q12
      rw [List.getElem?_map] at hx
      obtain ⟨n, hn, rfl⟩ := Option.map_eq_some_iff.mp hx
      rw [show ns2.getD i 0 = n by rw [List.getD_eq_getElem?_getD, hn]; rfl] at q12
      exact ⟨_, rfl, q12 H12 (Same.refl _)⟩
    intro H12 s12 hD12
    rw [List.length_map, range_filter (fun k => !decide (k ∈ ws)) V.int 0 ns2] at hD12
    have hemp : (ns2.filter fun k => !decide (k ∈ ws)) = [] := by
      rw [List.filter_eq_nil_iff]
      intro n hn
      have : n ∈ ws := (hws n).mpr (((hns n).mp hn).mono fun b hb => List.mem_append_left _ hb)
      simp [this]
    rw [hemp] at hD12
    refine ⟨Nat.zero_le _, fun N hN => ?_⟩
    have s13 := same_new (o := .lst []) hN
    have e13 : upd H12 N (.lst []) N = some (.lst []) := upd_same
    generalize upd H12 N (.lst []) = H13 at s13 e13
    refine ⟨.list (([] : List Int).map PyData.int), .list [], .lst (SqL.of (s13 _ _ hD12)) (DpAll_ints _), .lst (SqL.of e13) .nil, ints_shaped _, nil_shaped, _, rfl, ?_⟩
    rw [eqv_nil_list]
    exact iteF ⟨_, _, _, rfl, s711.trans (s12.trans s13)⟩
  rintro σ H8 ⟨x6, x7, x8, rfl, s8⟩
  have s08 := s07.trans s8
  have t8 := s8 _ _ t7
  -- the law's own going
  refine ⟨Nat.zero_le _, fun C0 hC0 => ?_⟩
  have s9 := same_new (o := .lst []) hC0
  have c9 : upd H8 C0 (.lst []) C0 = some (.lst (([] : List Int).map V.int)) := upd_same
  generalize upd H8 C0 (.lst []) = H9 at s9 c9
  have s09 := s08.trans s9
  have hC00 : H C0 = none := s08.free hC0
  have t9 := s9 _ _ t8
  refine ⟨_, rfl, te, _, rfl, .inr (sameT s09 hte), _, _, rfl, rfl, _, rfl, ?_⟩
  rw [List.length_map, el]
  refine ⟨by omega, by omega, ?_⟩
  rw [show ((es.length : Int) + 1).toNat = es.length + 1 by omega]
  refine for_it walk_rangeA (fun t σ H' => ∃ (fs : List Int) (x6 x8 x10 : Option V), σ = [some vc, some (.ref tb), some (.ref te), some (.ref dr), some (.ref t4), some (.ref L0), x6, x7, x8, some (.ref C0), x10] ∧ Same H H' ∧ H' t4 = some (.tup (ns2.map V.int)) ∧ H' C0 = some (.lst (fs.map V.int)) ∧ fs.Nodup ∧ (∀ k ∈ fs, Ag es bs k) ∧ (CloA es bs fs ∨ t ≤ fs.length))
    ⟨[], _, _, none, rfl, s09, t9, c9, List.nodup_nil, fun k h => absurd h List.not_mem_nil, .inr (Nat.zero_le _)⟩ (fun _ _ _ _ _ => trivial) ?_ ?_
  · rintro t x σ H10 H11 ht ⟨fs0, x6, x8, x10, rfl, s10, t10, c10, nd2, ag2, cl2⟩ ⟨he, hx⟩
    subst he
    obtain ⟨rfl, _⟩ := ivs_at hx
    have fl0 : fs0.length ≤ es.length := few_ints es.length nd2 fun x hx => (ag2 x hx).rng
    refine ⟨_, rfl, tb, _, rfl, .inr (sameT s10 htb), fun Lb hLb => ?_⟩
    have sb := same_new (o := .lst (bs.map V.int)) hLb
    have eb : upd H11 Lb (.lst (bs.map V.int)) Lb = some (.lst (bs.map V.int)) := upd_same
    generalize upd H11 Lb (.lst (bs.map V.int)) = H12 at sb eb
    refine ⟨_, rfl, Lb, C0, _, _, rfl, rfl, eb, sb _ _ c10, ?_, fun W hW => ?_⟩
    · rw [List.length_map, List.length_map, sizeLine_eq]
      omega
    rw [← List.map_append]
    have sW := same_new (o := .lst ((bs ++ fs0).map V.int)) hW
    have eW : upd H12 W (.lst ((bs ++ fs0).map V.int)) W = some (.lst ((bs ++ fs0).map V.int)) := upd_same
    have c12 := sW _ _ (sb _ _ c10)
    have t12 := sW _ _ (sb _ _ t10)
    have s012 := s10.trans (sb.trans sW)
    have nW : W ≠ C0 := fun z => by rw [z, sb _ _ c10] at hW; cases hW
    generalize upd H12 W (.lst ((bs ++ fs0).map V.int)) = H13 at sW eW c12 t12 s012
    refine ⟨W, rfl, ⟨_, SqL.of eW⟩, for_it (walk_list (xs := (bs ++ fs0).map V.int)) (fun j σ H' => ∃ (fs : List Int) (x6 x8 : Option V), σ = [some vc, some (.ref tb), some (.ref te), some (.ref dr), some (.ref t4), some (.ref L0), x6, x7, x8, some (.ref C0), some (.int (t : Int))] ∧ Same H H' ∧ H' t4 = some (.tup (ns2.map V.int)) ∧ H' C0 = some (.lst (fs.map V.int)) ∧ H' W = some (.lst ((bs ++ fs0).map V.int)) ∧ RndA es bs fs0 ((bs ++ fs0).take j) fs)
      ⟨fs0, _, _, rfl, s012, t12, c12, eW, nd2, ag2, .inl rfl, fun _ => rfl, fun b hb => absurd hb (by simp)⟩ (fun j σ H' _ h => by obtain ⟨_, _, _, _, _, _, _, h', _⟩ := h; exact SqL.of h') ?_ ?_⟩
    · rintro j x σ H15 H14 hj ⟨fs, x6', x8', rfl, s14, t14, c14, w14, R⟩ ⟨he, hx⟩
      subst he
      rw [List.getElem?_map] at hx
      obtain ⟨b, hb, rfl⟩ := Option.map_eq_some_iff.mp hx
      have hbm := List.mem_of_getElem? hb
      have etk : (bs ++ fs0).take (j + 1) = (bs ++ fs0).take j ++ [b] := by rw [List.take_succ, hb]; rfl
      have fl := R.few
      have R' := R.step ag2 hbm
      rw [← etk] at R'
      have fl' := R'.few
      obtain ⟨b0, b1⟩ : 0 ≤ b ∧ b < (es.length : Int) := by
        rcases List.mem_append.mp hbm with h | h
        · exact hbs b h
        · exact (ag2 b h).rng
      have frl := frI_len es b
      refine ⟨_, rfl, .inl ⟨rfl, _, SqL.of c14⟩, _, rfl, dr, rfl, (hR.same s14).isD, _, rfl, Nat.zero_le _, fun N hN => ?_⟩
      have s15 := same_new (o := .tup []) hN
      generalize upd H14 N (.tup []) = H16 at s15
      obtain ⟨aa, g1, g2⟩ := (hR.same (s14.trans s15)).get b0 b1
      have c16 := s15 _ _ c14
      refine ⟨some (.ref aa), g1, aa, rfl, ⟨_, SqT.of g2⟩, fun Dn hDn => ?_⟩
      refine lc_pure (walk_tup (xs := (frI es b).map V.int)) (fun i => !decide ((frI es b).getD i 0 ∈ fs)) (fun i => V.int ((frI es b).getD i 0)) hDn (fun _ h => SqT.of (h _ _ g2)) (big_size (by rw [List.length_map]; omega)) ?_ ?_ ?_
      · intro i y H17 Q17 hi hy s17 q17
        rw [List.getElem?_map] at hy
        obtain ⟨k, hki, rfl⟩ := Option.map_eq_some_iff.mp hy
        rw [show (frI es b).getD i 0 = k by rw [List.getD_eq_getElem?_getD, hki]; rfl] at q17
        refine ⟨_, rfl, _, rfl, C0, _, rfl, .inl (SqL.of (s17 _ _ c16)), rfl, flat_ints _, _, rfl, ?_⟩
        rw [if_pos rfl, inV_ints]
        exact q17 H17 (Same.refl _)
      · intro i y H17 Q17 hi hy _ s17 q17
        rw [List.getElem?_map] at hy
        obtain ⟨k, hki, rfl⟩ := Option.map_eq_some_iff.mp hy
        rw [show (frI es b).getD i 0 = k by rw [List.getD_eq_getElem?_getD, hki]; rfl] at q17
        exact ⟨_, rfl, q17 H17 (Same.refl _)⟩
      · intro H17 s17 hD17
        rw [List.length_map, range_filter (fun k => !decide (k ∈ fs)) V.int 0 (frI es b)] at hD17
        have s1417 := s15.trans s17
        have c17 := s17 _ _ c16
        refine ⟨C0, Dn, _, _, rfl, rfl, c17, hD17, ?_, ?_⟩
        · rw [List.length_append] at fl'
          rw [List.length_map, List.length_map, sizeLine_eq]
          omega
        rw [← List.map_append]
        refine ⟨_, _, _, rfl, fun a o e => by rw [upd_ne (ne_of_none e hC00)]; exact s1417 _ _ (s14 _ _ e), ?_, upd_same, ?_, R'⟩
        · rw [upd_ne (fun z => by rw [← z, s1417 _ _ t14] at c17; cases c17)]
          exact s1417 _ _ t14
        · rw [upd_ne nW]
          exact s1417 _ _ w14
    · rintro σ H14 ⟨fs, x6', x8', rfl, s14, t14, c14, w14, R⟩
      rw [List.length_map, List.take_length] at R
      refine ⟨fs, _, _, _, rfl, s14, t14, c14, R.nd, R.ag, ?_⟩
      rcases cl2 with h | h
      · rw [R.cl h]
        exact .inl h
      · rcases R.gr with e | e
        · subst e
          exact .inl fun b hb k hk => R.got b hb k hk
        · exact .inr (by omega)
  · rintro σ H10 ⟨fs, x6, x8, x10, rfl, s10, t10, c10, nd2, ag2, cl2⟩
    have fl : fs.length ≤ es.length := few_ints es.length nd2 fun x hx => (ag2 x hx).rng
    have clo : CloA es bs fs := cl2.elim id fun h => by omega
    refine ⟨_, rfl, C0, fs, rfl, SqL.of c10, by omega, fun ns' p perm ris' hp => ?_⟩
    have s11 := same_new (o := .lst (ns'.map V.int)) hp
    have p11 : upd H10 p (.lst (ns'.map V.int)) p = some (.lst (ns'.map V.int)) := upd_same
    generalize upd H10 p (.lst (ns'.map V.int)) = H11 at s11 p11
    have en : ns' = ns2 := rising_eq (rising_of ris' (perm.nodup_iff.mpr nd2)) ris fun k => by rw [perm.mem_iff, hns]; exact ⟨ag2 k, fun h => clo.all h⟩
    subst en
    refine ⟨_, rfl, t4, _, rfl, .inr (SqT.of (s11 _ _ t10)), fun l12 hl12 => ?_⟩
    have s12 := same_new (o := .lst (ns'.map V.int)) hl12
    refine ⟨.list (ns'.map PyData.int), .list (ns'.map PyData.int), .lst (SqL.of (s12 _ _ p11)) (DpAll_ints _), .lst (SqL.of upd_same) (DpAll_ints _), ints_shaped _, ints_shaped _, ?_⟩
    rw [eqv_same (ints_shaped ns')]
    exact q _ (s10.trans (s11.trans s12))
end
end Sw
set_option maxRecDepth 100000
set_option maxHeartbeats 4000000
namespace Sw
open PySem PySem.Spec PyProof.Rows L2
abbrev NLw : List Str := ["_law_script", "_law_feed_here", "_law_turn", "_law_code", "_law_every", "_law_some", "_law_ways_here", "_law_rows", "_law_last", "_law_one", "_law_block", "_law_subset", "_law_blocks"]
def evI (n : Nat) : List Int := (List.range n).map fun i : Nat => (i : Int)
theorem rg_ev (n : Nat) : rgV 0 (n : Int) = (evI n).map V.int := by
  unfold rgV evI
  rw [Int.sub_zero, Int.toNat_natCast, List.map_map]
  refine List.map_congr_left fun i _ => ?_
  show V.int (0 + (i : Int)) = V.int (i : Int)
  rw [Int.zero_add]
theorem ev_len (n : Nat) : (evI n).length = n := by unfold evI; rw [List.length_map, List.length_range]
theorem ev_at {n i : Nat} {k : Int} (h : (evI n)[i]? = some k) : k = (i : Int) := by
  unfold evI at h
  rw [List.getElem?_map] at h
  obtain ⟨j, hj, rfl⟩ := Option.map_eq_some_iff.mp h
  obtain ⟨h1, h2⟩ := List.getElem?_eq_some_iff.mp hj
  rw [List.getElem_range] at h2
  rw [h2]
theorem ev_rng {n : Nat} {k : Int} (h : k ∈ evI n) : 0 ≤ k ∧ k < (n : Int) := by
  unfold evI at h
  obtain ⟨i, hi, rfl⟩ := List.mem_map.mp h
  have := List.mem_range.mp hi
  exact ⟨by omega, by omega⟩
theorem mem_ev {n : Nat} {k : Int} : k ∈ evI n ↔ 0 ≤ k ∧ k < (n : Int) := by
  refine ⟨ev_rng, fun ⟨h0, h1⟩ => ?_⟩
  unfold evI
  exact List.mem_map.mpr ⟨k.toNat, List.mem_range.mpr (by omega), by omega⟩
theorem ev_ris (n : Nat) : (evI n).Pairwise (· < ·) := by
  unfold evI
  rw [List.pairwise_map]
  exact List.pairwise_lt_range.imp fun h => by omega
theorem new_take {ms : List Int} (ris : ms.Pairwise (· < ·)) {i : Nat} {k : Int} (hk : ms[i]? = some k) : k ∉ ms.take i := fun hm => by
  obtain ⟨hi2, hki⟩ := List.getElem?_eq_some_iff.mp hk
  obtain ⟨j, hj, hjk⟩ := List.getElem_of_mem hm
  rw [List.length_take] at hj
  rw [List.getElem_take] at hjk
  have := List.pairwise_iff_getElem.mp ris j i (by omega) hi2 (by omega)
  omega
theorem WysAt.same {H H' : Hp} {F : Addr} {es : List Ge} {n : Nat} (h : WysAt H F es n) (s : Same H H') : WysAt H' F es n := by
  obtain ⟨as, ws, h1, h2, h3, h4⟩ := h.ex
  exact ⟨as, ws, s _ _ h1, paired_imp (R := fun a w => TupF H a (List.map V.int w)) (fun a (w : List Int) (r : TupF H a (w.map V.int)) => r.same s) h2, h3, h4⟩
theorem RowsAt.upd {H : Hp} {d e : Addr} {es : List Ge} {xs ys : List (Key × V)} (h : RowsAt H d es) (he : H e = some (.dK xs)) (n : d ≠ e) : RowsAt (upd H e (.dK ys)) d es := by
  obtain ⟨L, h1, h2, h3⟩ := h.ex
  refine ⟨L, by rw [upd_ne n]; exact h1, h2, fun p hp => ?_⟩
  rw [upd_ne (fun z => by have := h3 p hp; rw [z, he] at this; cases this)]
  exact h3 p hp
theorem RowsAt.del {H : Hp} {d p : Addr} {es : List Ge} {xs : List V} (h : RowsAt H d es) (hp : H p = some (.lst xs)) : RowsAt (del H p) d es := by
  obtain ⟨L, h1, h2, h3⟩ := h.ex
  refine ⟨L, del_some h1 (fun z => by rw [z, hp] at h1; cases h1), h2, fun q hq => del_some (h3 q hq) (fun z => by have := h3 q hq; rw [z, hp] at this; cases this)⟩
section
variable {P : Program} {w : World} {K : PySem.W.Frag} {mg : Str → Option Value} {base : Heap}
def TB (K : PySem.W.Frag) (H : Hp) (n : Nat) (v : V) : Prop := ∃ (a : Addr) (bs : List Int), v = .ref a ∧ SqT K H a (bs.map V.int) ∧ bs.length ≤ 6 ∧ ∀ b ∈ bs, 0 ≤ b ∧ b < (n : Int)
theorem TB.same {H H' : Hp} {n : Nat} {v : V} (h : TB K H n v) (s : Same H H') : TB K H' n v := by
  obtain ⟨a, bs, h1, h2, h3⟩ := h
  exact ⟨a, bs, h1, sameT s h2, h3⟩
theorem sc_law : FnScope NLw ["_law_script"] (defScope (topS 25)) := ⟨rfl, rfl, rfl, by decide +kernel, rfl, by decide +kernel, by decide +kernel⟩
theorem ok_law {f f1 f2 f3 f4 f5 f6 f7 f8 f9 f10 : Addr} {fd fd1 fd2 fd3 fd4 fd5 fd6 fd7 fd8 fd9 fd10 : FuncData} (D : Df K mg "law" (topS 25) ["_law_script"] f fd) (D1 : Df K mg "_law_feed" (topS 18) ["_law_script"] f1 fd1) (D2 : Df K mg "_law_graph" (topS 20) ["_law_feed_here", "_law_most"] f2 fd2)
    (D3 : Df K mg "reached" (topS 10) ["code", "name"] f3 fd3) (D4 : Df K mg "_law_ways" (topS 21) ["_law_code"] f4 fd4) (D5 : Df K mg "frontier" (topS 15) ["code", "name", "block"] f5 fd5) (D6 : Df K mg "nearest" (topS 14) ["code", "name", "block"] f6 fd6)
    (D7 : Df K mg "_law_front_right" (topS 22) ["_law_code", "_law_block", "_law_some", "_law_told", "_law_ways_here"] f7 fd7) (D8 : Df K mg "_law_nearest_right" (topS 23) ["_law_code", "_law_block", "_law_some", "_law_rows", "_law_last"] f8 fd8)
    (D9 : Df K mg "_law_draw" (topS 19) ["_law_feed_here", "_law_many"] f9 fd9) (D10 : Df K mg "_law_again_right" (topS 24) ["_law_code", "_law_blocks", "_law_every", "_law_rows"] f10 fd10) (B : Bt mg)
    (G1 : FnOk P w K mg base CX0 1 f1 fd1 ["_law_script"] (spFeed K)) (G2 : FnOk P w K mg base CX0 2 f2 fd2 ["_law_feed_here", "_law_most"] (spGraph K)) (G3 : FnOk P w K mg base CX0 4 f3 fd3 ["code", "name"] (spReached K)) (G4 : FnOk P w K mg base CX0 3 f4 fd4 ["_law_code"] (spWays11 K))
    (G5 : FnOk P w K mg base CX0 5 f5 fd5 ["code", "name", "block"] (spFront K)) (G6 : FnOk P w K mg base CX0 6 f6 fd6 ["code", "name", "block"] (spNear K)) (G7 : FnOk P w K mg base CX0 5 f7 fd7 ["_law_code", "_law_block", "_law_some", "_law_told", "_law_ways_here"] (spFrontR K))
    (G8 : FnOk P w K mg base CX0 3 f8 fd8 ["_law_code", "_law_block", "_law_some", "_law_rows", "_law_last"] (spNearR K)) (G9 : FnOk P w K mg base CX0 1 f9 fd9 ["_law_feed_here", "_law_many"] spDraw) (G10 : FnOk P w K mg base CX0 7 f10 fd10 ["_law_code", "_law_blocks", "_law_every", "_law_rows"] (spAgainR K)) :
    FnG P w K mg base 8 f fd ["_law_script"] (spLaw K) := by
  refine fun_okG D.fn sc_law (fun vs H Q E h => ?_) (fun cdv A outer s H vs Q E hg hr h => ?_)
  · obtain ⟨a, ns, rfl, _⟩ := h
    rfl
  obtain ⟨a, ns, rfl, hS, hn, q⟩ := h
  have nd := sc_law.nd
  have hu := hr.units
  have hu1 := Nat.lt_of_le_of_lt (Nat.add_le_add_left (by decide : 1 ≤ 64) _) hu
  refine ⟨_, (pss_cons (ps_set (i := 1) nd rfl (Or.inr rfl) (pe_call G1 (hr.mono (by decide)) (by rfl) D1.gl D1.fn.kp D1.bd .nil pass0 (pa_cons (pv 0) pa_nil)))
    (pss_cons (ps_for PassesOwn.never rfl (pi_range1 (by rfl) B.range (pa_cons pe_int pa_nil)) (pg_name (i := 2) nd rfl (Or.inl rfl))
    (pss_cons (ps_set (i := 3) nd rfl (Or.inl rfl) (pe_call G2 (hr.mono (by decide)) (by rfl) D2.gl D2.fn.kp D2.bd .nil pass0 (pa_cons (pv 1) (pa_cons pe_int pa_nil))))
    (pss_cons (ps_par3 (i := 4) (j := 5) (l := 6) rfl nd rfl rfl rfl (by decide) (by decide) (by decide) rfl rfl rfl (pa_cons (pe_tupRg rfl (by rfl) B.tuple (prg_1 (by rfl) B.range (pe_callB call_len_seq (by rfl) B.len PySem.boot_len (pa_cons (pe_ix (r := rIxT K) ix_tup (pe_ix (r := rIxT K) ix_tup (pe_ix (r := rIxT K) ix_tup (pv 3) pe_int (fun _ _ => rfl)) pe_int (fun _ _ => rfl)) pe_int (fun _ _ => rfl)) pa_nil)))) (pa_cons (pe_call G3 (hr.mono (by decide)) (by rfl) D3.gl D3.fn.kp D3.bd .nil pass0 (pa_cons (pv 3) (pa_cons pe_str pa_nil))) (pa_cons (pe_call G4 (hr.mono (by decide)) (by rfl) D4.gl D4.fn.kp D4.bd .nil pass0 (pa_cons (pv 3) pa_nil)) pa_nil))) (by rfl))
    (pss_cons (ps_par (i := 7) (j := 8) rfl nd rfl rfl (by decide) rfl rfl (pa_cons pe_dnewK (pa_cons pe_dnewK pa_nil)) (by rfl))
    (pss_cons (ps_for PassesOwn.never rfl (pi_tup (pv 4)) (pg_name (i := 9) nd rfl (Or.inl rfl))
    (pss_one (ps_dput hu1 (pv 7) (pv 9) (pe_call G5 (hr.mono (by decide)) (by rfl) D5.gl D5.fn.kp D5.bd .nil pass0 (pa_cons (pv 3) (pa_cons pe_str (pa_cons (pv 9) pa_nil)))) rfl)))
    (pss_cons (ps_for PassesOwn.never rfl (pi_tup (pv 5)) (pg_name (i := 9) nd rfl (Or.inl rfl))
    (pss_one (ps_dput hu1 (pv 8) (pv 9) (pe_call G6 (hr.mono (by decide)) (by rfl) D6.gl D6.fn.kp D6.bd .nil pass0 (pa_cons (pv 3) (pa_cons pe_str (pa_cons (pv 9) pa_nil)))) rfl)))
    (pss_cons (ps_for PassesOwn.never rfl (pi_tup (pv 5)) (pg_name (i := 10) nd rfl (Or.inl rfl))
    (pss_cons (ps_if (pt_not (pt_val (pe_call G7 (hr.mono (by decide)) (by rfl) D7.gl D7.fn.kp D7.bd .nil pass0 (pa_cons (pv 3) (pa_cons (pv 10) (pa_cons (pv 5) (pa_cons (pe_dget hu1 (pv 7) (pv 10) (fun _ _ => rfl)) (pa_cons (pv 6) pa_nil)))))))) pss_never pss_nil)
    (pss_one (ps_if (pt_not (pt_val (pe_call G8 (hr.mono (by decide)) (by rfl) D8.gl D8.fn.kp D8.bd .nil pass0 (pa_cons (pv 3) (pa_cons (pv 10) (pa_cons (pv 5) (pa_cons (pv 7) (pa_cons (pv 8) pa_nil)))))))) pss_never pss_nil))))
    (pss_cons (ps_set (i := 11) nd rfl (Or.inl rfl) (pe_callTy call_tuple_of (by rfl) B.tuple (by decide +kernel) (pa_cons (pe_lc (own := [("_law_block", 10)]) (g := gName 10) (tt := tTest (tOp rEq (tCall spDraw [] E0 (tCons (tVar 1) (tCons (tC (.int 2)) tNil))) (tC (.int 0)))) rfl nd (pi_tup (pv 4)) (blkOk_by (N := NLw) (sc := defScope (topS 25)) (by decide +kernel)) (fun _ _ _ _ _ => pg_name (i := 10) nd rfl (Or.inl rfl)) (fun _ _ _ _ _ => (pts_one (pt_cmpR op_eq (pe_call G9 (hr.mono (by decide)) (by rfl) D9.gl D9.fn.kp D9.bd .nil pass0 (pa_cons (pv 1) (pa_cons pe_int pa_nil))) pe_int (nomark _)))) (fun _ _ _ _ _ => (pv 10))) pa_nil)))
    (pss_one (ps_for PassesOwn.never rfl (pi_tup (pe_tup (pa_cons (pe_tup pa_nil) (pa_cons (pv 4) (pa_cons (pv 11) pa_nil))))) (pg_name (i := 12) nd rfl (Or.inl rfl))
    (pss_one (ps_if (pt_not (pt_val (pe_call G10 hr (by rfl) D10.gl D10.fn.kp D10.bd .nil pass0 (pa_cons (pv 3) (pa_cons (pv 12) (pa_cons (pv 4) (pa_cons (pv 7) pa_nil))))))) pss_never pss_nil))))))))))))
    (pss_one (ps_ret pe_bl)))), ?_⟩
  refine ⟨_, rfl, a, ns, rfl, hS, hn, fun p fq H1 s1 hp F1 => ?_⟩
  refine ⟨3, rfl, by decide, by decide, ?_⟩
  refine for_it walk_range (fun k σ H' => ∃ (x2 x3 x4 x5 x6 x7 x8 x9 x10 x11 x12 : Option V), σ = [some (.ref a), some (.ref p), x2, x3, x4, x5, x6, x7, x8, x9, x10, x11, x12] ∧ FeedAt H' p fq (200 * k)) ⟨none, none, none, none, none, none, none, none, none, none, none, rfl, F1⟩ (fun _ _ _ _ _ => trivial) ?_ ?_
  · rintro k x σ H2 H3 hk ⟨x2, x3, x4, x5, x6, x7, x8, x9, x10, x11, x12, rfl, F2⟩ ⟨rfl, rfl⟩
    have hk3 : k < 3 := hk
    refine ⟨_, rfl, p, fq, 6, _, rfl, F2, by omega, by decide, by decide, fun v H4 es s4 F4 hok few6 dC => ?_⟩
    have dC' := Dp_same (del_same H4 p) dC
    have mkC : ∀ {H' : Hp} {v : V}, Dp K H' v (codeD [("main", es)]) → CodeOf K H' v "main" es := fun h => ⟨⟨_, h, by show (if ("main" : Str) = "main" then _ else _) = _; rw [if_pos rfl]⟩, hok⟩
    have hC := mkC dC'
    obtain ⟨av, vo, vr, rfl, ha, ho, hr2⟩ := code_two dC'
    obtain ⟨ar, xs, rfl, hx, hd⟩ := Dp_tup hr2
    cases hd with
    | @cons v0 _ vs0 _ hd0 hds =>
    obtain ⟨a0, ys, rfl, hy, hyd⟩ := Dp_tup hd0
    obtain ⟨u1, u2, rfl, k1, k2⟩ := DpAll_two hyd
    obtain ⟨ab, bs, rfl, hb, hbd⟩ := Dp_tup k2
    have lb : bs.length = es.length := by rw [DpAll_len hbd, List.length_map]
    refine ⟨_, rfl, av, _, 1, _, rfl, rfl, ha, atI_nat (j := 1) rfl, ar, _, 0, _, rfl, rfl, hx, atI_nat (j := 0) rfl, a0, _, 1, _, rfl, rfl, hy, atI_nat (j := 1) rfl, ab, _, rfl, .inr hb, ?_⟩
    rw [lb]
    clear hb hy hx ha ho hr2 hds hd0 hyd k1 k2 hbd lb
    refine ⟨_, rfl, RgOk.of_le (by omega) (by omega) (by omega) (by omega), fun t4 ht4 => ?_⟩
    rw [rg_ev]
    have s5 := same_new (o := .tup ((evI es.length).map V.int)) ht4
    have e5 : upd H4 t4 (.tup ((evI es.length).map V.int)) t4 = some (.tup ((evI es.length).map V.int)) := upd_same
    generalize upd H4 t4 (.tup ((evI es.length).map V.int)) = H5 at s5 e5
    have evl := ev_len es.length
    refine ⟨_, rfl, .ref av, "main", es, rfl, hC.same s5, fun t5 H6 ms s6 ht5 ris hms => ?_⟩
    have ml : ms.length ≤ es.length := few_ints es.length (ris.imp fun h => by omega) fun k hk => ((hms k).mp hk).rng hok
    refine ⟨_, rfl, .ref av, es, rfl, hC.same (s5.trans s6), fun F6 H7 s7 _ W7 => ?_⟩
    refine ⟨_, _, _, rfl, ?_⟩
    have s47 := s5.trans (s6.trans s7)
    have e7 := (s6.trans s7) _ _ e5
    have m7 := s7 _ _ ht5
    refine fun d7 hd7 => fun d8 hd8 => ?_
    have s8 := same_new (o := .dK []) hd7
    have n78 : d7 ≠ d8 := fun z => by rw [← z, upd_same] at hd8; cases hd8
    have s9 := same_new (o := .dK []) hd8
    have r9 : upd (upd H7 d7 (.dK [])) d8 (.dK []) d7 = some (.dK (akv [])) := by rw [upd_ne n78]; exact upd_same
    have l9 : upd (upd H7 d7 (.dK [])) d8 (.dK []) d8 = some (.dK (lkv es [])) := upd_same
    have s79 := s8.trans s9
    have hd80 : H7 d8 = none := s8.free hd8
    generalize upd (upd H7 d7 (.dK [])) d8 (.dK []) = H9 at s9 r9 l9 s79
    refine ⟨_, _, rfl, ?_⟩
    refine ⟨_, rfl, t4, rfl, ⟨_, SqT.of (s79 _ _ e7)⟩, for_it (walk_tup (xs := (evI es.length).map V.int)) (fun i σ H' => ∃ (x9 : Option V) (L : List (Int × Addr)), σ = [some (.ref a), some (.ref p), some (.int (0 + ((k : Nat) : Int))), some (.ref av), some (.ref t4), some (.ref t5), some (.ref F6), some (.ref d7), some (.ref d8), x9, x10, x11, x12] ∧ Same H7 H' ∧ H' d8 = some (.dK (lkv es [])) ∧ H' d7 = some (.dK (akv L)) ∧ L.map (·.1) = (evI es.length).take i ∧ ∀ q ∈ L, H' q.2 = some (.tup ((frI es q.1).map V.int)))
      ⟨_, [], rfl, s79, l9, r9, rfl, fun q h => absurd h List.not_mem_nil⟩ (fun i σ H' _ h => by obtain ⟨_, _, _, s', _⟩ := h; exact SqT.of (s' _ _ e7)) ?_ ?_⟩
    · rintro i x σ H10' H10 hi ⟨x9, L, rfl, s10, l10, r10, hL, hv⟩ ⟨he, hx⟩
      subst he
      rw [List.getElem?_map] at hx
      obtain ⟨g, hg', rfl⟩ := Option.map_eq_some_iff.mp hx
      have etk : (evI es.length).take (i + 1) = (evI es.length).take i ++ [g] := by rw [List.take_succ, hg']; rfl
      have hgn : g ∉ L.map (·.1) := by rw [hL]; exact new_take (ev_ris _) hg'
      have Ll : L.length ≤ 60 := by
        have : (L.map (·.1)).length ≤ es.length := by rw [hL, List.length_take, evl]; omega
        rw [List.length_map] at this
        omega
      refine ⟨_, rfl, _, rfl, .ref av, "main", g, es, rfl, hC.same (s47.trans s10), fun t H11 s11 ht => ?_⟩
      have r11 := s11 _ _ r10
      refine ⟨_, rfl, _, rfl, d7, _, rfl, DPut.k (k := Sum.inl g) r11 (by rw [show (akv L).length = L.length from List.length_map _, sizeLine_eq]; omega), ?_⟩
      rw [akv_put hgn]
      have nT : ∀ {c : Addr} {xs : List V}, H11 c = some (.tup xs) → c ≠ d7 := fun h z => by rw [z, r11] at h; cases h
      refine ⟨_, L ++ [(g, t)], rfl, fun c o e => by rw [upd_ne (ne_of_none e hd7)]; exact s11 _ _ (s10 _ _ e), by rw [upd_ne (Ne.symm n78)]; exact s11 _ _ l10, upd_same, by rw [List.map_append, hL, etk]; rfl, fun q hq => ?_⟩
      rcases List.mem_append.mp hq with h | h
      · have := s11 _ _ (hv q h)
        rw [upd_ne (nT this)]
        exact this
      · have : q = (g, t) := by simpa using h
        rw [this]
        show upd H11 d7 _ t = _
        rw [upd_ne (nT ht)]
        exact ht
    rintro σ H10 ⟨x9, L, rfl, s10, l10, r10, hL, hv⟩
    rw [List.length_map, List.take_length] at hL
    have R10 : RowsAt H10 d7 es := ⟨L, r10, fun k => by rw [hL]; exact mem_ev, hv⟩
    clear hL hv r10
    refine ⟨_, rfl, t5, rfl, ⟨_, SqT.of (s10 _ _ m7)⟩, for_it (walk_tup (xs := ms.map V.int)) (fun i σ H' => ∃ (x9 : Option V), σ = [some (.ref a), some (.ref p), some (.int (0 + ((k : Nat) : Int))), some (.ref av), some (.ref t4), some (.ref t5), some (.ref F6), some (.ref d7), some (.ref d8), x9, x10, x11, x12] ∧ Same H7 H' ∧ RowsAt H' d7 es ∧ H' d8 = some (.dK (lkv es (ms.take i))))
      ⟨_, rfl, s10, R10, l10⟩ (fun i σ H' _ h => by obtain ⟨_, _, s', _⟩ := h; exact SqT.of (s' _ _ m7)) ?_ ?_⟩
    · rintro i x σ H11' H11 hi ⟨x9, rfl, s11, R11, l11⟩ ⟨he, hx⟩
      subst he
      rw [List.getElem?_map] at hx
      obtain ⟨g, hg', rfl⟩ := Option.map_eq_some_iff.mp hx
      have etk : ms.take (i + 1) = ms.take i ++ [g] := by rw [List.take_succ, hg']; rfl
      refine ⟨_, rfl, _, rfl, .ref av, "main", g, es, rfl, hC.same (s47.trans s11), fun H12 s12 => ?_⟩
      have l12 := s12 _ _ l11
      refine ⟨_, rfl, _, rfl, d8, _, rfl, DPut.k (k := Sum.inl g) l12 (by rw [show (lkv es (ms.take i)).length = (ms.take i).length from List.length_map _, List.length_take, sizeLine_eq]; omega), ?_⟩
      rw [lkv_put (new_take ris hg'), ← etk]
      exact ⟨_, rfl, fun c o e => by rw [upd_ne (ne_of_none e hd80)]; exact s12 _ _ (s11 _ _ e), (R11.same s12).upd l12 n78, upd_same⟩
    rintro σ H11 ⟨x9, rfl, s11, R11, l11⟩
    rw [List.length_map, List.take_length] at l11
    have s411 := s47.trans s11
    have m11 := s11 _ _ m7
    have e11 := s11 _ _ e7
    have W11 := W7.same s11
    have C11 := hC.same s411
    have F11 := F4.same s411
    have dC11 : Dp K (del H11 p) (.ref av) (codeD [("main", es)]) := Dp_same (same_del s411) dC
    clear s5 s6 s7 s8 s9 s79 s10 R10 l10 W7 m7 e7 e5 hd8 hd80 hd7 l9 r9 ht5 dC dC' hC F4
    refine ⟨_, rfl, t5, rfl, ⟨_, SqT.of m11⟩, for_it (walk_tup (xs := ms.map V.int)) (fun i σ H' => ∃ (x10 : Option V), σ = [some (.ref a), some (.ref p), some (.int (0 + ((k : Nat) : Int))), some (.ref av), some (.ref t4), some (.ref t5), some (.ref F6), some (.ref d7), some (.ref d8), x9, x10, x11, x12] ∧ Same H11 H')
      ⟨_, rfl, Same.refl _⟩ (fun i σ H' _ h => by obtain ⟨_, _, s'⟩ := h; exact SqT.of (s' _ _ m11)) ?_ ?_⟩
    · rintro i x σ H12' H12 hi ⟨x10, rfl, s12⟩ ⟨he, hx⟩
      subst he
      rw [List.getElem?_map] at hx
      obtain ⟨g, hg', rfl⟩ := Option.map_eq_some_iff.mp hx
      have hgr := (hms g).mp (List.mem_of_getElem? hg')
      obtain ⟨g0, g1⟩ := hgr.rng hok
      obtain ⟨aa, ga, gb⟩ := (R11.same s12).get g0 g1
      refine ⟨_, rfl, _, rfl, _, rfl, _, rfl, _, rfl, d7, _, rfl, ga, _, rfl, .ref av, g, t5, aa, F6, es, ms, rfl, C11.same s12, s12 _ _ m11, ris, hms, gb, W11.same s12, fun H13 s13 => ⟨_, rfl, ?_⟩⟩
      refine iteF ?_
      have s1213 := s12.trans s13
      refine ⟨_, rfl, _, rfl, _, rfl, _, rfl, _, rfl, .ref av, g, t5, d7, d8, es, ms, rfl, C11.same s1213, few6, s1213 _ _ m11, ris, hms, R11.same s1213, s1213 _ _ l11, hgr, fun H14 s14 => ⟨_, rfl, ?_⟩⟩
      exact iteF ⟨_, rfl, s1213.trans s14⟩
    rintro σ H12 ⟨x10, rfl, s12⟩
    have e12 := s12 _ _ e11
    have F12 := F11.same s12
    have R12 := R11.same s12
    have dC12 : Dp K (del H12 p) (.ref av) (codeD [("main", es)]) := Dp_same (same_del s12) dC11
    obtain ⟨_, _, _, _, hp12, _⟩ := F12.ex
    have nt4 : t4 ≠ p := fun z => by rw [z, hp12] at e12; cases e12
    have RD12 := R12.del hp12
    clear F11 R11 dC11 W11 m11 e11 C11 l11 s11 s411
    refine ⟨_, rfl, t4, rfl, ⟨_, SqT.of e12⟩, fun Dm hDm => lc_it (walk_tup (xs := (evI es.length).map V.int)) (fun i H' => ∃ (js : List Int), Same (del H12 p) (del H' p) ∧ FeedAt H' p fq (200 * k + 100 + i) ∧ H' Dm = some (.lst (js.map V.int)) ∧ js.length ≤ i ∧ ∀ k ∈ js, k ∈ evI es.length)
      ⟨[], same_del (same_new hDm), F12.same (same_new hDm), upd_same, Nat.zero_le _, fun k h => absurd h List.not_mem_nil⟩ (fun i H' _ h => by obtain ⟨_, s', _⟩ := h; exact SqT.of (of_del (s' _ _ (del_some e12 nt4))).1) ?_ ?_⟩
    · rintro i x H13' H13 hi ⟨js, s13, F13, d13, lj, hj⟩ ⟨he, hx⟩
      subst he
      rw [List.getElem?_map] at hx
      obtain ⟨g, hg', rfl⟩ := Option.map_eq_some_iff.mp hx
      have hgm := List.mem_of_getElem? hg'
      rw [List.length_map, evl] at hi
      have nDm := F12.ne hDm
      refine ⟨rfl, ?_⟩
      refine ⟨_, rfl, p, fq, 2, _, rfl, F13, by omega, by decide, by decide, fun r H14 r0 r1 s14 F14 => ?_⟩
      refine ⟨rfl, _, rfl, ?_⟩
      have d14 := (of_del (s14 _ _ (del_some d13 nDm.1))).1
      have s1314 := s13.trans s14
      refine ite2 (fun c => ?_) (fun c => ?_)
      · refine ⟨_, rfl, _, d14, by rw [List.length_map, sizeLine_eq]; omega, js ++ [g], fun c o e => ?_, F14.upd nDm.1 nDm.2, by rw [upd_same, List.map_append]; rfl, by rw [List.length_append, List.length_singleton]; omega, fun k' hk' => ?_⟩
        · have h1 := s1314 _ _ e
          have hn : c ≠ Dm := ne_of_none (of_del e).1 hDm
          exact del_some (by rw [upd_ne hn]; exact (of_del h1).1) (of_del e).2
        · rcases List.mem_append.mp hk' with h | h
          · exact hj k' h
          · have : k' = g := by simpa using h
            rw [this]; exact hgm
      · exact ⟨js, s1314, F14, d14, by omega, hj⟩
    rintro H13 ⟨js, s13, F13, d13, lj, hj⟩
    rw [List.length_map, evl] at F13 lj
    refine ⟨Dm, _, rfl, .inl ⟨SqL.of d13, fun t11 ht11 => ?_⟩⟩
    have s14 := same_new (o := .tup (js.map V.int)) ht11
    have e14 : upd H13 t11 (.tup (js.map V.int)) t11 = some (.tup (js.map V.int)) := upd_same
    have sd14 := s13.trans (same_del (p := p) s14)
    have F14 := F13.same s14
    generalize upd H13 t11 (.tup (js.map V.int)) = H14 at s14 e14 sd14 F14
    have R14 := (RD12.same sd14).same (del_same H14 p)
    have v14 := (of_del (sd14 _ _ (del_some e12 nt4))).1
    have C14 := mkC (Dp_same (del_same H14 p) (Dp_same sd14 dC12))
    -- the tuples
    refine ⟨Nat.zero_le _, fun b0 hb0 => ?_⟩
    have s15 := same_new (o := .tup []) hb0
    have e15 : upd H14 b0 (.tup []) b0 = some (.tup (([] : List Int).map V.int)) := upd_same
    generalize upd H14 b0 (.tup []) = H15 at s15 e15
    refine ⟨_, rfl, _, rfl, ?_⟩
    refine ⟨by show 3 ≤ sizeLine; decide, fun TT hTT => ?_⟩
    have s16 := same_new (o := .tup [V.ref b0, .ref t4, .ref t11]) hTT
    have e16 : upd H15 TT (.tup [V.ref b0, .ref t4, .ref t11]) TT = _ := upd_same
    generalize upd H15 TT (.tup [V.ref b0, .ref t4, .ref t11]) = H16 at s16 e16
    have s1416 := s15.trans s16
    have hall : ∀ v ∈ [V.ref b0, .ref t4, .ref t11], TB K H16 es.length v := by
      intro v hv
      simp only [List.mem_cons, List.not_mem_nil, or_false] at hv
      rcases hv with rfl | rfl | rfl
      · exact ⟨_, [], rfl, SqT.of (s16 _ _ e15), Nat.zero_le _, fun b hb => absurd hb List.not_mem_nil⟩
      · exact ⟨_, _, rfl, SqT.of (s1416 _ _ v14), by rw [evl]; omega, fun b hb => ev_rng hb⟩
      · exact ⟨_, _, rfl, SqT.of (s1416 _ _ e14), by omega, fun b hb => ev_rng (hj b hb)⟩
    have R16 := R14.same s1416
    have C16 := C14.same s1416
    have v16 := s1416 _ _ v14
    have F16 := F14.same s1416
    refine ⟨TT, rfl, ⟨_, SqT.of e16⟩, for_it (walk_tup (xs := [V.ref b0, .ref t4, .ref t11])) (fun i σ H' => ∃ (x10 x12 : Option V), σ = [some (.ref a), some (.ref p), some (.int (0 + ((k : Nat) : Int))), some (.ref av), some (.ref t4), some (.ref t5), some (.ref F6), some (.ref d7), some (.ref d8), x9, x10, some (.ref t11), x12] ∧ Same H16 H') ⟨_, _, rfl, Same.refl _⟩ (fun i σ H' _ h => by obtain ⟨_, _, _, s'⟩ := h; exact SqT.of (s' _ _ e16)) ?_ ?_⟩
    · rintro i x σ H17' H17 hi ⟨x10, x12, rfl, s17⟩ ⟨he, hx⟩
      subst he
      obtain ⟨ab', bs', rfl, hbs, lbs, rbs⟩ := (hall x (List.mem_of_getElem? hx)).same s17
      refine ⟨_, rfl, _, rfl, _, rfl, _, rfl, .ref av, ab', t4, d7, es, bs', evI es.length, rfl, C16.same s17, few6, hbs, lbs, rbs, SqT.of (s17 _ _ v16), evl, R16.same s17, fun H18 s18 => ⟨_, rfl, ?_⟩⟩
      exact iteF ⟨_, _, rfl, s17.trans s18⟩
    · rintro σ H17 ⟨x10, x12, rfl, s17⟩
      exact ⟨_, _, _, _, _, _, _, _, _, _, _, rfl, (F16.same s17).mono (by omega)⟩
  · rintro σ H2 ⟨x2, x3, x4, x5, x6, x7, x8, x9, x10, x11, x12, rfl, F2⟩
    exact q H2
end
end Sw
set_option maxRecDepth 100000
set_option maxHeartbeats 4000000
namespace Sw
open PySem PySem.Spec PyProof.Rows L2
theorem all_mk {l : PySem.W.OpenLaw} {w : World} {K : PySem.W.Frag} {h : Heap} {mg : Str → Option Value} {fa f4 f6 f7 f8 f9 f10 f12 f13 f14 f15 f16 f18 f19 f20 f21 f22 f23 f24 f25 : Addr} (X : K.In h) (G : h.Ns mainGlobals mg) (hfa : mg "law" = some (.ref fa))
    {od4 od6 od7 od8 od9 od10 od12 od13 od14 od15 od16 od18 od19 od20 od21 od22 od23 od24 od25 an4 an6 an7 an8 an9 an10 an12 an13 an14 an15 an16 an18 an19 an20 an21 an22 an23 an24 an25 : Option Addr} {sl4 sl6 sl7 sl8 sl9 sl10 sl12 sl13 sl14 sl15 sl16 sl18 sl19 sl20 sl21 sl22 sl23 sl24 sl25 : Array (Option Value)} {oc4 oc6 oc7 oc8 oc9 oc10 oc12 oc13 oc14 oc15 oc16 oc18 oc19 oc20 oc21 oc22 oc23 oc24 oc25 kV4 kV6 kV7 kV8 kV9 kV10 kV12 kV13 kV14 kV15 kV16 kV18 kV19 kV20 kV21 kV22 kV23 kV24 kV25 dc4 dc6 dc7 dc8 dc9 dc10 dc12 dc13 dc14 dc15 dc16 dc18 dc19 dc20 dc21 dc22 dc23 dc24 dc25 pm4 pm6 pm7 pm8 pm9 pm10 pm12 pm13 pm14 pm15 pm16 pm18 pm19 pm20 pm21 pm22 pm23 pm24 pm25 cd4 cd6 cd7 cd8 cd9 cd10 cd12 cd13 cd14 cd15 cd16 cd18 cd19 cd20 cd21 cd22 cd23 cd24 cd25 ct4 ct6 ct7 ct8 ct9 ct10 ct12 ct13 ct14 ct15 ct16 ct18 ct19 ct20 ct21 ct22 ct23 ct24 ct25 : Value}
    (a4 : PySem.W.nsIn K mainGlobals "blocks_of" = some (some (.ref f4))) (l4 : K.lookup f4 = some ⟨oc4, od4, .func (PySem.W.fnOf "blocks_of" "blocks_of" (defArgs (topS 4)) (defBody (topS 4)) (defScope (topS 4)) .none kV4 dc4 pm4 an4 cd4 ct4), sl4⟩) (c4 : PySem.W.codeIn K cd4 "blocks_of" = true) (k4 : PySem.W.keepIn K (.ref f4) = true)
    (a6 : PySem.W.nsIn K mainGlobals "goals" = some (some (.ref f6))) (l6 : K.lookup f6 = some ⟨oc6, od6, .func (PySem.W.fnOf "goals" "goals" (defArgs (topS 6)) (defBody (topS 6)) (defScope (topS 6)) .none kV6 dc6 pm6 an6 cd6 ct6), sl6⟩) (c6 : PySem.W.codeIn K cd6 "goals" = true) (k6 : PySem.W.keepIn K (.ref f6) = true)
    (a7 : PySem.W.nsIn K mainGlobals "nexts" = some (some (.ref f7))) (l7 : K.lookup f7 = some ⟨oc7, od7, .func (PySem.W.fnOf "nexts" "nexts" (defArgs (topS 7)) (defBody (topS 7)) (defScope (topS 7)) .none kV7 dc7 pm7 an7 cd7 ct7), sl7⟩) (c7 : PySem.W.codeIn K cd7 "nexts" = true) (k7 : PySem.W.keepIn K (.ref f7) = true)
    (a8 : PySem.W.nsIn K mainGlobals "befores" = some (some (.ref f8))) (l8 : K.lookup f8 = some ⟨oc8, od8, .func (PySem.W.fnOf "befores" "befores" (defArgs (topS 8)) (defBody (topS 8)) (defScope (topS 8)) .none kV8 dc8 pm8 an8 cd8 ct8), sl8⟩) (c8 : PySem.W.codeIn K cd8 "befores" = true) (k8 : PySem.W.keepIn K (.ref f8) = true)
    (a9 : PySem.W.nsIn K mainGlobals "led_around" = some (some (.ref f9))) (l9 : K.lookup f9 = some ⟨oc9, od9, .func (PySem.W.fnOf "led_around" "led_around" (defArgs (topS 9)) (defBody (topS 9)) (defScope (topS 9)) .none kV9 dc9 pm9 an9 cd9 ct9), sl9⟩) (c9 : PySem.W.codeIn K cd9 "led_around" = true) (k9 : PySem.W.keepIn K (.ref f9) = true)
    (a10 : PySem.W.nsIn K mainGlobals "reached" = some (some (.ref f10))) (l10 : K.lookup f10 = some ⟨oc10, od10, .func (PySem.W.fnOf "reached" "reached" (defArgs (topS 10)) (defBody (topS 10)) (defScope (topS 10)) .none kV10 dc10 pm10 an10 cd10 ct10), sl10⟩) (c10 : PySem.W.codeIn K cd10 "reached" = true) (k10 : PySem.W.keepIn K (.ref f10) = true)
    (a12 : PySem.W.nsIn K mainGlobals "dominates" = some (some (.ref f12))) (l12 : K.lookup f12 = some ⟨oc12, od12, .func (PySem.W.fnOf "dominates" "dominates" (defArgs (topS 12)) (defBody (topS 12)) (defScope (topS 12)) .none kV12 dc12 pm12 an12 cd12 ct12), sl12⟩) (c12 : PySem.W.codeIn K cd12 "dominates" = true) (k12 : PySem.W.keepIn K (.ref f12) = true)
    (a13 : PySem.W.nsIn K mainGlobals "dominators" = some (some (.ref f13))) (l13 : K.lookup f13 = some ⟨oc13, od13, .func (PySem.W.fnOf "dominators" "dominators" (defArgs (topS 13)) (defBody (topS 13)) (defScope (topS 13)) .none kV13 dc13 pm13 an13 cd13 ct13), sl13⟩) (c13 : PySem.W.codeIn K cd13 "dominators" = true) (k13 : PySem.W.keepIn K (.ref f13) = true)
    (a14 : PySem.W.nsIn K mainGlobals "nearest" = some (some (.ref f14))) (l14 : K.lookup f14 = some ⟨oc14, od14, .func (PySem.W.fnOf "nearest" "nearest" (defArgs (topS 14)) (defBody (topS 14)) (defScope (topS 14)) .none kV14 dc14 pm14 an14 cd14 ct14), sl14⟩) (c14 : PySem.W.codeIn K cd14 "nearest" = true) (k14 : PySem.W.keepIn K (.ref f14) = true)
    (a15 : PySem.W.nsIn K mainGlobals "frontier" = some (some (.ref f15))) (l15 : K.lookup f15 = some ⟨oc15, od15, .func (PySem.W.fnOf "frontier" "frontier" (defArgs (topS 15)) (defBody (topS 15)) (defScope (topS 15)) .none kV15 dc15 pm15 an15 cd15 ct15), sl15⟩) (c15 : PySem.W.codeIn K cd15 "frontier" = true) (k15 : PySem.W.keepIn K (.ref f15) = true)
    (a16 : PySem.W.nsIn K mainGlobals "frontier_again" = some (some (.ref f16))) (l16 : K.lookup f16 = some ⟨oc16, od16, .func (PySem.W.fnOf "frontier_again" "frontier_again" (defArgs (topS 16)) (defBody (topS 16)) (defScope (topS 16)) .none kV16 dc16 pm16 an16 cd16 ct16), sl16⟩) (c16 : PySem.W.codeIn K cd16 "frontier_again" = true) (k16 : PySem.W.keepIn K (.ref f16) = true)
    (a18 : PySem.W.nsIn K mainGlobals "_law_feed" = some (some (.ref f18))) (l18 : K.lookup f18 = some ⟨oc18, od18, .func (PySem.W.fnOf "_law_feed" "_law_feed" (defArgs (topS 18)) (defBody (topS 18)) (defScope (topS 18)) .none kV18 dc18 pm18 an18 cd18 ct18), sl18⟩) (c18 : PySem.W.codeIn K cd18 "_law_feed" = true) (k18 : PySem.W.keepIn K (.ref f18) = true)
    (a19 : PySem.W.nsIn K mainGlobals "_law_draw" = some (some (.ref f19))) (l19 : K.lookup f19 = some ⟨oc19, od19, .func (PySem.W.fnOf "_law_draw" "_law_draw" (defArgs (topS 19)) (defBody (topS 19)) (defScope (topS 19)) .none kV19 dc19 pm19 an19 cd19 ct19), sl19⟩) (c19 : PySem.W.codeIn K cd19 "_law_draw" = true) (k19 : PySem.W.keepIn K (.ref f19) = true)
    (a20 : PySem.W.nsIn K mainGlobals "_law_graph" = some (some (.ref f20))) (l20 : K.lookup f20 = some ⟨oc20, od20, .func (PySem.W.fnOf "_law_graph" "_law_graph" (defArgs (topS 20)) (defBody (topS 20)) (defScope (topS 20)) .none kV20 dc20 pm20 an20 cd20 ct20), sl20⟩) (c20 : PySem.W.codeIn K cd20 "_law_graph" = true) (k20 : PySem.W.keepIn K (.ref f20) = true)
    (a21 : PySem.W.nsIn K mainGlobals "_law_ways" = some (some (.ref f21))) (l21 : K.lookup f21 = some ⟨oc21, od21, .func (PySem.W.fnOf "_law_ways" "_law_ways" (defArgs (topS 21)) (defBody (topS 21)) (defScope (topS 21)) .none kV21 dc21 pm21 an21 cd21 ct21), sl21⟩) (c21 : PySem.W.codeIn K cd21 "_law_ways" = true) (k21 : PySem.W.keepIn K (.ref f21) = true)
    (a22 : PySem.W.nsIn K mainGlobals "_law_front_right" = some (some (.ref f22))) (l22 : K.lookup f22 = some ⟨oc22, od22, .func (PySem.W.fnOf "_law_front_right" "_law_front_right" (defArgs (topS 22)) (defBody (topS 22)) (defScope (topS 22)) .none kV22 dc22 pm22 an22 cd22 ct22), sl22⟩) (c22 : PySem.W.codeIn K cd22 "_law_front_right" = true) (k22 : PySem.W.keepIn K (.ref f22) = true)
    (a23 : PySem.W.nsIn K mainGlobals "_law_nearest_right" = some (some (.ref f23))) (l23 : K.lookup f23 = some ⟨oc23, od23, .func (PySem.W.fnOf "_law_nearest_right" "_law_nearest_right" (defArgs (topS 23)) (defBody (topS 23)) (defScope (topS 23)) .none kV23 dc23 pm23 an23 cd23 ct23), sl23⟩) (c23 : PySem.W.codeIn K cd23 "_law_nearest_right" = true) (k23 : PySem.W.keepIn K (.ref f23) = true)
    (a24 : PySem.W.nsIn K mainGlobals "_law_again_right" = some (some (.ref f24))) (l24 : K.lookup f24 = some ⟨oc24, od24, .func (PySem.W.fnOf "_law_again_right" "_law_again_right" (defArgs (topS 24)) (defBody (topS 24)) (defScope (topS 24)) .none kV24 dc24 pm24 an24 cd24 ct24), sl24⟩) (c24 : PySem.W.codeIn K cd24 "_law_again_right" = true) (k24 : PySem.W.keepIn K (.ref f24) = true)
    (a25 : PySem.W.nsIn K mainGlobals "law" = some (some (.ref f25))) (l25 : K.lookup f25 = some ⟨oc25, od25, .func (PySem.W.fnOf "law" "law" (defArgs (topS 25)) (defBody (topS 25)) (defScope (topS 25)) .none kV25 dc25 pm25 an25 cd25 ct25), sl25⟩) (c25 : PySem.W.codeIn K cd25 "law" = true) (k25 : PySem.W.keepIn K (.ref f25) = true)
    (z0 : PySem.W.nsIn K mainGlobals "isinstance" = some none) (z1 : PySem.W.nsIn K mainGlobals "int" = some none) (z2 : PySem.W.nsIn K mainGlobals "bool" = some none) (z3 : PySem.W.nsIn K mainGlobals "str" = some none) (z4 : PySem.W.nsIn K mainGlobals "tuple" = some none) (z5 : PySem.W.nsIn K mainGlobals "list" = some none) (z6 : PySem.W.nsIn K mainGlobals "len" = some none) (z7 : PySem.W.nsIn K mainGlobals "all" = some none) (z8 : PySem.W.nsIn K mainGlobals "zip" = some none) (z9 : PySem.W.nsIn K mainGlobals "range" = some none) (z10 : PySem.W.nsIn K mainGlobals "ord" = some none) (z11 : PySem.W.nsIn K mainGlobals "sorted" = some none) (z12 : PySem.W.nsIn K mainGlobals "set" = some none) (z13 : PySem.W.nsIn K mainGlobals "repr" = some none) (z14 : PySem.W.nsIn K mainGlobals "enumerate" = some none) :
    ∃ fd : FuncData, (∀ (s : Shared) (v : Value), BindsTo s fd ⟨[v], []⟩ [("_law_script", v)]) ∧ ∀ base : Heap, K.In base → base.Ns mainGlobals mg → FnG l.prog w K mg base 8 fa fd ["_law_script"] (spLaw K) := by
  have e := hfa.symm.trans (PySem.W.mg_of X G a25)
  cases e
  have B : Bt mg := ⟨PySem.W.mg_none_of X G z0, PySem.W.mg_none_of X G z1, PySem.W.mg_none_of X G z2, PySem.W.mg_none_of X G z3, PySem.W.mg_none_of X G z4, PySem.W.mg_none_of X G z5, PySem.W.mg_none_of X G z6, PySem.W.mg_none_of X G z7, PySem.W.mg_none_of X G z8, PySem.W.mg_none_of X G z9, PySem.W.mg_none_of X G z10, PySem.W.mg_none_of X G z11, PySem.W.mg_none_of X G z12, PySem.W.mg_none_of X G z13⟩
  have b_enumerate : mg "enumerate" = none := PySem.W.mg_none_of X G z14
  have F4 := fun_mk (st := topS 4) l4 c4 k4
  have D4 : Df K mg "blocks_of" (topS 4) ["code", "name"] f4 _ := ⟨F4, F4.binds (ps := ["code", "name"]) fun _ _ _ _ _ _ us hl => match us, hl with | [_, _], _ => rfl, PySem.W.mg_of X G a4⟩
  have F6 := fun_mk (st := topS 6) l6 c6 k6
  have D6 : Df K mg "goals" (topS 6) ["end"] f6 _ := ⟨F6, F6.binds (ps := ["end"]) fun _ _ _ _ _ _ us hl => match us, hl with | [_], _ => rfl, PySem.W.mg_of X G a6⟩
  have F7 := fun_mk (st := topS 7) l7 c7 k7
  have D7 : Df K mg "nexts" (topS 7) ["code", "name", "block"] f7 _ := ⟨F7, F7.binds (ps := ["code", "name", "block"]) fun _ _ _ _ _ _ us hl => match us, hl with | [_, _, _], _ => rfl, PySem.W.mg_of X G a7⟩
  have F8 := fun_mk (st := topS 8) l8 c8 k8
  have D8 : Df K mg "befores" (topS 8) ["code", "name", "block"] f8 _ := ⟨F8, F8.binds (ps := ["code", "name", "block"]) fun _ _ _ _ _ _ us hl => match us, hl with | [_, _, _], _ => rfl, PySem.W.mg_of X G a8⟩
  have F9 := fun_mk (st := topS 9) l9 c9 k9
  have D9 : Df K mg "led_around" (topS 9) ["code", "name", "over"] f9 _ := ⟨F9, F9.binds (ps := ["code", "name", "over"]) fun _ _ _ _ _ _ us hl => match us, hl with | [_, _, _], _ => rfl, PySem.W.mg_of X G a9⟩
  have F10 := fun_mk (st := topS 10) l10 c10 k10
  have D10 : Df K mg "reached" (topS 10) ["code", "name"] f10 _ := ⟨F10, F10.binds (ps := ["code", "name"]) fun _ _ _ _ _ _ us hl => match us, hl with | [_, _], _ => rfl, PySem.W.mg_of X G a10⟩
  have F12 := fun_mk (st := topS 12) l12 c12 k12
  have D12 : Df K mg "dominates" (topS 12) ["code", "name", "over", "under"] f12 _ := ⟨F12, F12.binds (ps := ["code", "name", "over", "under"]) fun _ _ _ _ _ _ us hl => match us, hl with | [_, _, _, _], _ => rfl, PySem.W.mg_of X G a12⟩
  have F13 := fun_mk (st := topS 13) l13 c13 k13
  have D13 : Df K mg "dominators" (topS 13) ["code", "name", "block"] f13 _ := ⟨F13, F13.binds (ps := ["code", "name", "block"]) fun _ _ _ _ _ _ us hl => match us, hl with | [_, _, _], _ => rfl, PySem.W.mg_of X G a13⟩
  have F14 := fun_mk (st := topS 14) l14 c14 k14
  have D14 : Df K mg "nearest" (topS 14) ["code", "name", "block"] f14 _ := ⟨F14, F14.binds (ps := ["code", "name", "block"]) fun _ _ _ _ _ _ us hl => match us, hl with | [_, _, _], _ => rfl, PySem.W.mg_of X G a14⟩
  have F15 := fun_mk (st := topS 15) l15 c15 k15
  have D15 : Df K mg "frontier" (topS 15) ["code", "name", "block"] f15 _ := ⟨F15, F15.binds (ps := ["code", "name", "block"]) fun _ _ _ _ _ _ us hl => match us, hl with | [_, _, _], _ => rfl, PySem.W.mg_of X G a15⟩
  have F16 := fun_mk (st := topS 16) l16 c16 k16
  have D16 : Df K mg "frontier_again" (topS 16) ["code", "name", "blocks"] f16 _ := ⟨F16, F16.binds (ps := ["code", "name", "blocks"]) fun _ _ _ _ _ _ us hl => match us, hl with | [_, _, _], _ => rfl, PySem.W.mg_of X G a16⟩
  have F18 := fun_mk (st := topS 18) l18 c18 k18
  have D18 : Df K mg "_law_feed" (topS 18) ["_law_script"] f18 _ := ⟨F18, F18.binds (ps := ["_law_script"]) fun _ _ _ _ _ _ us hl => match us, hl with | [_], _ => rfl, PySem.W.mg_of X G a18⟩
  have F19 := fun_mk (st := topS 19) l19 c19 k19
  have D19 : Df K mg "_law_draw" (topS 19) ["_law_feed_here", "_law_many"] f19 _ := ⟨F19, F19.binds (ps := ["_law_feed_here", "_law_many"]) fun _ _ _ _ _ _ us hl => match us, hl with | [_, _], _ => rfl, PySem.W.mg_of X G a19⟩
  have F20 := fun_mk (st := topS 20) l20 c20 k20
  have D20 : Df K mg "_law_graph" (topS 20) ["_law_feed_here", "_law_most"] f20 _ := ⟨F20, F20.binds (ps := ["_law_feed_here", "_law_most"]) fun _ _ _ _ _ _ us hl => match us, hl with | [_, _], _ => rfl, PySem.W.mg_of X G a20⟩
  have F21 := fun_mk (st := topS 21) l21 c21 k21
  have D21 : Df K mg "_law_ways" (topS 21) ["_law_code"] f21 _ := ⟨F21, F21.binds (ps := ["_law_code"]) fun _ _ _ _ _ _ us hl => match us, hl with | [_], _ => rfl, PySem.W.mg_of X G a21⟩
  have F22 := fun_mk (st := topS 22) l22 c22 k22
  have D22 : Df K mg "_law_front_right" (topS 22) ["_law_code", "_law_block", "_law_some", "_law_told", "_law_ways_here"] f22 _ := ⟨F22, F22.binds (ps := ["_law_code", "_law_block", "_law_some", "_law_told", "_law_ways_here"]) fun _ _ _ _ _ _ us hl => match us, hl with | [_, _, _, _, _], _ => rfl, PySem.W.mg_of X G a22⟩
  have F23 := fun_mk (st := topS 23) l23 c23 k23
  have D23 : Df K mg "_law_nearest_right" (topS 23) ["_law_code", "_law_block", "_law_some", "_law_rows", "_law_last"] f23 _ := ⟨F23, F23.binds (ps := ["_law_code", "_law_block", "_law_some", "_law_rows", "_law_last"]) fun _ _ _ _ _ _ us hl => match us, hl with | [_, _, _, _, _], _ => rfl, PySem.W.mg_of X G a23⟩
  have F24 := fun_mk (st := topS 24) l24 c24 k24
  have D24 : Df K mg "_law_again_right" (topS 24) ["_law_code", "_law_blocks", "_law_every", "_law_rows"] f24 _ := ⟨F24, F24.binds (ps := ["_law_code", "_law_blocks", "_law_every", "_law_rows"]) fun _ _ _ _ _ _ us hl => match us, hl with | [_, _, _, _], _ => rfl, PySem.W.mg_of X G a24⟩
  have F25 := fun_mk (st := topS 25) l25 c25 k25
  have D25 : Df K mg "law" (topS 25) ["_law_script"] fa _ := ⟨F25, F25.binds (ps := ["_law_script"]) fun _ _ _ _ _ _ us hl => match us, hl with | [_], _ => rfl, PySem.W.mg_of X G a25⟩
  refine ⟨PySem.W.fnOf "law" "law" (defArgs (topS 25)) (defBody (topS 25)) (defScope (topS 25)) .none kV25 dc25 pm25 an25 cd25 ct25, fun s v => .of_eq rfl, fun base _ _ => ?_⟩
  have GB := ok_blocks (P := l.prog) (w := w) (base := base) D4 B
  have GG := ok_goals (P := l.prog) (w := w) (base := base) D6 B
  have GN := ok_nexts D7 D4 D6 B GB GG
  have GBf := ok_bef D8 D4 D6 B b_enumerate GB GG
  have GL := ok_led D9 D7 B GN
  have GE := ok_reached D10 D9 B GL
  have GM := ok_dom D12 D9 B GL
  have GO := ok_doms D13 D4 D12 B GB GM
  have GNr := ok_near D14 D10 D13 D9 B GE GO GL
  have GFr := ok_front D15 D9 D10 D7 B GL GE GN
  have GAg := ok_again D16 D15 B GFr
  have GF := ok_feed (P := l.prog) (w := w) (base := base) D18
  have GD := ok_draw (P := l.prog) (w := w) (base := base) D19 B
  have GR := ok_graph D20 D19 B GD
  have GW := ok_ways11 D21 D7 B GN
  have GFR := ok_frontR D22 D12 D8 B GM GBf
  have GNR := ok_nearR D23 D8 B GBf
  have GAR := ok_againR D24 D16 B GAg
  exact ok_law D25 D18 D20 D10 D21 D15 D14 D22 D23 D19 D24 B GF GR GE GW GFr GNr GFR GNR GD GAR
theorem walk {l : PySem.W.OpenLaw} {q : Program} {loose : List Str} {XP : (Str → Option Value) → Heap → Prop} {YP : World → Heap → Prop} {d : DefRec} {K : Params → PySem.W.Frag} (hn : l.most = some 63) (hdf : d.params.defaults = [])
    (hY : ∀ (w : World) (h : Heap), YP w h → (K w.params).In h)
    (F : ∀ (w : World) (mg : Str → Option Value) (fa : Addr) (h : Heap), (K w.params).In h → h.Ns mainGlobals mg → mg d.name = some (.ref fa) →
      ∃ fd : FuncData, (∀ (s : Shared) (u : Value), BindsTo s fd ⟨[u], []⟩ [("_law_script", u)]) ∧ ∀ base : Heap, (K w.params).In base → base.Ns mainGlobals mg → FnG l.prog w (K w.params) mg base 8 fa fd ["_law_script"] (spLaw (K w.params))) :
    PySem.W.WalkO q loose XP YP l.row.toRowW d [] (fun f vs => PySem.call f vs) :=
  walkG (n := 63) (k := 8) (x := "_law_script") (sp := spLaw) hn (by decide) hdf ⟨rfl, by decide, by decide⟩ hY F (fun K H a ns hl _ hS => ⟨a, ns, rfl, hS, hl, fun _ => rfl⟩)
end Sw
open PySem PySem.W PyProof.Rows
set_option maxRecDepth 100000 in
set_option maxHeartbeats 0 in
theorem PySem.Challenge.cw_storeways_k11_whole_frontiers_holds : PySem.Challenge.rw_storeways_k11_whole_frontiers.Holds := by
  w_on; o_law; k_head; (case hw => w_witness2)
  k_fill
  refine Sw.walk (l := PySem.Challenge.rw_storeways_k11_whole_frontiers) rfl rfl (fun w h Y => PySem.W.kIn_of Y) ?F
  case F =>
    intro w mg fa h KX G hmg
    refine' Sw.all_mk KX G hmg ?a4 ?l4 ?c4 ?k4 ?a6 ?l6 ?c6 ?k6 ?a7 ?l7 ?c7 ?k7 ?a8 ?l8 ?c8 ?k8 ?a9 ?l9 ?c9 ?k9 ?a10 ?l10 ?c10 ?k10 ?a12 ?l12 ?c12 ?k12 ?a13 ?l13 ?c13 ?k13 ?a14 ?l14 ?c14 ?k14 ?a15 ?l15 ?c15 ?k15 ?a16 ?l16 ?c16 ?k16 ?a18 ?l18 ?c18 ?k18 ?a19 ?l19 ?c19 ?k19 ?a20 ?l20 ?c20 ?k20 ?a21 ?l21 ?c21 ?k21 ?a22 ?l22 ?c22 ?k22 ?a23 ?l23 ?c23 ?k23 ?a24 ?l24 ?c24 ?k24 ?a25 ?l25 ?c25 ?k25 ?z0 ?z1 ?z2 ?z3 ?z4 ?z5 ?z6 ?z7 ?z8 ?z9 ?z10 ?z11 ?z12 ?z13 ?z14
    (case a4 => k_is); (case l4 => k_is); (case c4 => k_is); (case k4 => k_is); (case a6 => k_is); (case l6 => k_is); (case c6 => k_is); (case k6 => k_is)
    (case a7 => k_is); (case l7 => k_is); (case c7 => k_is); (case k7 => k_is); (case a8 => k_is); (case l8 => k_is); (case c8 => k_is); (case k8 => k_is)
    (case a9 => k_is); (case l9 => k_is); (case c9 => k_is); (case k9 => k_is); (case a10 => k_is); (case l10 => k_is); (case c10 => k_is); (case k10 => k_is)
    (case a12 => k_is); (case l12 => k_is); (case c12 => k_is); (case k12 => k_is); (case a13 => k_is); (case l13 => k_is); (case c13 => k_is); (case k13 => k_is)
    (case a14 => k_is); (case l14 => k_is); (case c14 => k_is); (case k14 => k_is); (case a15 => k_is); (case l15 => k_is); (case c15 => k_is); (case k15 => k_is)
    (case a16 => k_is); (case l16 => k_is); (case c16 => k_is); (case k16 => k_is); (case a18 => k_is); (case l18 => k_is); (case c18 => k_is); (case k18 => k_is)
    (case a19 => k_is); (case l19 => k_is); (case c19 => k_is); (case k19 => k_is); (case a20 => k_is); (case l20 => k_is); (case c20 => k_is); (case k20 => k_is)
    (case a21 => k_is); (case l21 => k_is); (case c21 => k_is); (case k21 => k_is); (case a22 => k_is); (case l22 => k_is); (case c22 => k_is); (case k22 => k_is)
    (case a23 => k_is); (case l23 => k_is); (case c23 => k_is); (case k23 => k_is); (case a24 => k_is); (case l24 => k_is); (case c24 => k_is); (case k24 => k_is)
    (case a25 => k_is); (case l25 => k_is); (case c25 => k_is); (case k25 => k_is); (case z0 => k_is); (case z1 => k_is); (case z2 => k_is); (case z3 => k_is)
    (case z4 => k_is); (case z5 => k_is); (case z6 => k_is); (case z7 => k_is); (case z8 => k_is); (case z9 => k_is); (case z10 => k_is); (case z11 => k_is)
    (case z12 => k_is); (case z13 => k_is); (case z14 => k_is)
