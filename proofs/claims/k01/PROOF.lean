import PyProof.Rows.All
import Wide.All
import OpenK.AllK
import Wide.FinOn
import HandS.ForMost
import HandS.IsInst
import HandS.EndBits
import PyProof.ReprRoads
import HandS.Walk
import HandS.TupAny
import HandS.Style
import HandS.Zip
import HandS.Set
import HandS.SetFor
import PyProof.Rows.SortShellAny
import HandS.Codes
import HandS.Flow
import HandS.StrMore
import PyProof.StrBlock2
import HandS.Wide
import PyProof.Rows.IntBool
import PySem.Challenge.RW_storeways_k01_kinds
set_option Elab.async false
set_option linter.all false
set_option maxRecDepth 100000
set_option maxHeartbeats 4000000
namespace Sw
open PySem PySem.Spec PyProof.Rows L2

/-- repr of data at a place, where no repr is under way -/
def rRepr (K : PySem.W.Frag) : List V → Hp → VK → Prop := fun xs H Q =>
  ∃ (a : Addr) (d : PyData), xs = [.ref a] ∧ Dp K H (.ref a) d ∧ d.showable = true ∧ d.hasDict = false ∧ d.depth ≤ 60 ∧ d.shown.length ≤ sizeLine ∧ Q (.str d.shown) H
theorem call_repr {X : Cx} (hg : X.A.guards = some []) (hu : X.A.units + 64 < cLine) : CallR X (.builtin "repr") (rRepr X.K) := by
  intro pins s σ H xs us Q I r h
  obtain ⟨a, d, rfl, hd, h1, h2, h3, h4, q⟩ := h
  cases r with
  | cons r0 r1 =>
    cases r1
    cases (show _ = Value.ref a from r0)
    obtain ⟨as, rd⟩ := Dp.reads I d _ _ hd rfl
    exact repr_of_reads' rd h1 (PyData.noDict_hsm h2) hg (by omega) (fun b o e => e) (fun h' u tk k => ⟨.str d.shown, H, I.kept k, ⟨u, rfl⟩, q⟩) h4

/-- a promise that is kept where no repr is under way -/
structure FnG (P : Program) (w : World) (K : PySem.W.Frag) (mg : Str → Option Value) (base : Heap) (k : Nat) (f : Addr) (fd : FuncData) (ps : List Str) (sp : Sp) : Prop where
  size : ∀ vs H Q E, sp vs H Q E → vs.length = ps.length
  goes : ∀ (A : Around) (outer : List Env) (s : Shared) (H : Hp) (args : Args) (us : List Value) (vs : List V) (Q : VK) (E : XK), A.guards = some [] →
    Room k A → Env0 P w K mg base A outer s H → BindsTo s fd args (ps.zip us) → Vals vs us → sp vs H Q E → codeAny (model P w) A (.call (.ref f) args) (CR CX0 outer P w H s Q E) s
section
variable {P : Program} {w : World} {K : PySem.W.Frag} {mg : Str → Option Value} {base : Heap}
theorem fun_okG {x qual : Str} {st : Stmt} {f : Addr} {fd : FuncData} {N ps : List Str} {k : Nat} {sp : Sp} (F : Fun K x qual st f fd) (S : FnScope N ps (defScope st))
    (len : ∀ vs H Q E, sp vs H Q E → vs.length = ps.length)
    (hb : ∀ (cdv : Value) (A : Around) (outer : List Env) (s : Shared) (H : Hp) (vs : List V) (Q : VK) (E : XK), A.guards = some [] → Room k (A.deeper (envOfC qual (defScope st) s.heap.objs.size f cdv)) → sp vs H Q E →
      ∃ t, PSs (cxOf CX0 P w K mg base N qual (defScope st) f cdv A outer s H E).nox (defBody st) t ∧
        t { nx := fun _ H' => Q .non H', rt := Q } (start N vs) H) : FnG P w K mg base (k + 1) f fd ps sp := by
  refine ⟨len, fun A outer s H args us vs Q E hg => ?_⟩
  obtain ⟨oc, od, kV, doc, pm, an, cdv, ct, osl, rfl, lk, hcd⟩ := F.ex
  intro hr e0 bd r hsp
  obtain ⟨t, ht0, hq⟩ := hb cdv A outer s H vs Q E hg (hr.deeper _) hsp
  have ht := ht0.nox
  have kin : K.In s.heap := e0.mod.kin.keeps fun b o e => (e0.bs b o e).1
  refine codeAny_call_function hr.depth (kin _ _ lk) rfl S.co S.gen rfl (PySem.W.codeRec_of kin hcd) (bd _ _ _ _ ?_)
  refine wpAny_newFunctionEnv_cells S.kind ?_ fun env he s1 x => ?_
  · rintro ⟨n, v⟩ hy
    rcases S.par n (List.of_mem_zip hy).1 with q | q
    · exact .inl q
    · exact .inr ⟨q, PySem.W.cellsFrom_some _ _ _ (.inl q)⟩
  · subst he
    refine ⟨(e0.mod.nolimit.keeps fun b o e => (e0.bs b o e).1).keeps x.toInCall.keep, codeAny_func ?_⟩
    refine wpAny_mono (ht.run [] s1 (start N vs) H _ (inv_start S hr.hd e0 (len _ _ _ _ hsp) r x) hq) (fun fl s' hs => ?_) fun e s' hs => hs
    cases fl with
    | ret u =>
      obtain ⟨v, σ', H', J, rv, q⟩ := hs
      exact ⟨v, H', J.os, J.bare, J.base, J.hok, rv, q⟩
    | next =>
      obtain ⟨σ', H', J, q⟩ := hs
      exact ⟨V.non, H', J.os, J.bare, J.base, J.hok, rfl, q⟩
    | brk =>
      obtain ⟨_, _, _, q⟩ := hs
      exact q.elim
    | cont =>
      obtain ⟨_, _, _, q⟩ := hs
      exact q.elim
end
/-- the law's own call, from the promise of its def: the script is locked, or it is one of the module's own objects -/
theorem law_goes {P : Program} {w : World} {K : PySem.W.Frag} {mg mb : Str → Option Value} {k : Nat} {fa a : Addr} {fd : FuncData} {x : Str} {sp : Sp} {s : Shared} {vs : List Value} {ns : List Int}
    (kin : K.In s.heap) (g : s.heap.Ns mainGlobals mg) (b : s.heap.Ns builtinsNs mb) (hbb : ∀ y : Str, y ≠ "__name__" → mb y = bootBuiltins y) (nl : s.heap.NoLimit) (gn : s.gens = #[])
    (ha : s.heap.get? a = some { cls := .type "list", data := .seq vs.toArray }) (hi : IntsAre vs ns) (hl : ns.length ≤ sizeLine) (hr : Room k callerA)
    (F : ∀ base : Heap, K.In base → base.Ns mainGlobals mg → FnG P w K mg base k fa fd [x] sp) (bd : ∀ (s : Shared) (u : Value), BindsTo s fd ⟨[u], []⟩ [(x, u)])
    (hsp : ∀ H : Hp, SqL K H a (ns.map V.int) → sp [.ref a] H (fun v _ => v = .bl true) fun _ _ _ => False) :
    codeAny (model P w) callerA (.call (.ref fa) ⟨[.ref a], []⟩) (fun r s' => r = .ok (.ret (.bool true)) ∧ OldK s.heap s'.heap ∧ s'.os = s.os ∧ AllBare s'.gens) s := by
  have rv := vals_ints hi
  have step : ∀ H : Hp, SqL K H a (ns.map V.int) → HOk P w H s.heap → (∀ c u, H c = some u → c = a ∧ u = .frz { cls := .type "list", data := .seq vs.toArray } (.lst (ns.map V.int)) ∧ K.lookup a = none) →
      codeAny (model P w) callerA (.call (.ref fa) ⟨[.ref a], []⟩) (fun r s' => r = .ok (.ret (.bool true)) ∧ OldK s.heap s'.heap ∧ s'.os = s.os ∧ AllBare s'.gens) s := by
    intro H hS hok only
    have dictFree : ∀ {c : Addr} {o : Obj} {es : Array DictEntry} {ep : Nat}, s.heap.get? c = some o → o.data = .dict es ep → H c = none := by
      intro c o es ep e d
      cases q : H c with
      | none => rfl
      | some u =>
        obtain ⟨rfl, _, _⟩ := only c u q
        rw [ha] at e
        cases e
        cases d
    have ns2 : ∀ {c : Addr} {m : Str → Option Value}, s.heap.Ns c m → (hidT s.heap H).Ns c m := by
      rintro c m ⟨o, es, ep, e, d, r⟩
      exact ⟨o, es, ep, hidT_get e (dictFree e d), d, r⟩
    have kb : K.In (hidT s.heap H) := by
      intro c o e
      refine hidT_get (kin c o e) ?_
      cases q : H c with
      | none => rfl
      | some u =>
        obtain ⟨rfl, _, z⟩ := only c u q
        rw [z] at e
        cases e
    have md : Mod K mg (hidT s.heap H) := ⟨kb, ns2 g, ⟨mb, ns2 b, hbb⟩, by
      obtain ⟨mc, h1, h2⟩ := nl
      exact ⟨mc, ns2 h1, h2⟩⟩
    have e0 : Env0 P w K mg (hidT s.heap H) callerA [] s H := ⟨rfl, md, fun c o e => of_hidT e, Nat.le_of_eq (hidT_size _ _), trivial, fun c hc => (nomatch hc), hok, .of_eq gn⟩
    refine codeAny_mono ((F _ kb (ns2 g)).goes callerA [] s H ⟨[.ref a], []⟩ [.ref a] [.ref a] _ _ rfl hr e0 (bd s (.ref a)) (.cons rfl .nil) (hsp H hS)) ?_
    intro r s' h
    cases r with
    | error e => exact h.elim
    | ok fl =>
      cases fl with
      | ret u =>
        obtain ⟨v, H', os, bare, un, hok', r', q⟩ := h
        cases (show v = .bl true from q)
        cases (show u = Value.bool true from r')
        refine ⟨rfl, OldK.of_keep fun c o e => ?_, os, bare⟩
        cases q : H c with
        | none => exact un.keep c o e q (fun z => nomatch z) (fun z => nomatch z)
        | some u =>
          obtain ⟨rfl, rfl, _⟩ := only c u q
          obtain ⟨e2, _⟩ := hok' _ _ (un.frzs _ _ _ q)
          rw [ha] at e
          cases e
          exact e2
      | next => exact False.elim h
      | brk => exact False.elim h
      | cont => exact False.elim h
  cases hk : K.lookup a with
  | some o =>
    have e := kin a o hk
    rw [ha] at e
    cases e
    refine step (fun _ => none) (.inr ⟨_, vs.toArray, _, hk, rfl, rfl, rfl, ?_, by simpa using rv⟩) (fun c u z => nomatch z) (fun c u z => nomatch z)
    rw [List.size_toArray, hi.length]
    exact hl
  | none =>
    refine step (fun c => if c = a then some (.frz { cls := .type "list", data := .seq vs.toArray } (.lst (ns.map V.int))) else none) (.inl (.inr ⟨_, if_pos rfl⟩)) ?_ ?_
    · intro c u z
      by_cases hc : c = a
      · have z' := (if_pos hc).symm.trans z
        cases z'
        subst hc
        exact ⟨ha, by rw [List.length_map]; exact hl, vs, _, rv, ha⟩
      · have z' := (if_neg hc).symm.trans z
        cases z'
    · intro c u z
      by_cases hc : c = a
      · have z' := (if_pos hc).symm.trans z
        exact ⟨hc, (Option.some.inj z').symm, hk⟩
      · have z' := (if_neg hc).symm.trans z
        cases z'
/-- the goal that k_head leaves, from the promise of the law's def -/
theorem walkG {l : PySem.W.OpenLaw} {n k : Nat} {q : Program} {loose : List Str} {XP : (Str → Option Value) → Heap → Prop} {YP : World → Heap → Prop} {d : DefRec} {K : Params → PySem.W.Frag} {sp : PySem.W.Frag → Sp} {x : Str}
    (hn : l.most = some n) (hn2 : n ≤ sizeLine) (hdf : d.params.defaults = []) (hr : Room k callerA) (hY : ∀ (w : World) (h : Heap), YP w h → (K w.params).In h)
    (F : ∀ (w : World) (mg : Str → Option Value) (fa : Addr) (h : Heap), (K w.params).In h → h.Ns mainGlobals mg → mg d.name = some (.ref fa) →
      ∃ fd : FuncData, (∀ (s : Shared) (u : Value), BindsTo s fd ⟨[u], []⟩ [(x, u)]) ∧ ∀ base : Heap, (K w.params).In base → base.Ns mainGlobals mg → FnG l.prog w (K w.params) mg base k fa fd [x] (sp (K w.params)))
    (hsp : ∀ (K : PySem.W.Frag) (H : Hp) (a : Addr) (ns : List Int), ns.length ≤ n → (∀ z ∈ ns, Builtin.Int.intBits z ≤ 1048576) → SqL K H a (ns.map V.int) → sp K [.ref a] H (fun v _ => v = .bl true) fun _ _ _ => False) :
    PySem.W.WalkO q loose XP YP l.row.toRowW d [] (fun f vs => PySem.call f vs) := by
  refine Att.attach_callB hn hdf ?_
  intro w s₀ s₁ mg mb fa o pm cd doc a vs ns G Y ho hd hcd hmg hobj hints hlen hbits hg
  obtain ⟨fd, hb, hF⟩ := F w mg fa _ (hY w _ Y) G.T.g hmg
  exact law_goes (hY w _ Y) G.T.g G.T.b G.T.builtins G.T.nolimit hg hobj hints (Nat.le_trans hlen hn2) hr hF hb fun H hS => hsp _ H a ns hlen hbits hS
end Sw
set_option maxRecDepth 100000
set_option maxHeartbeats 4000000
namespace Sw
open PySem PySem.Spec PyProof.Rows L2

/-! ### heaps -/
theorem same_new {H : Hp} {p : Addr} {o : HO} (h : H p = none) : Same H (upd H p o) := fun b x e => by
  rw [upd_ne (ne_of_none e h)]
  exact e
theorem sameT {K : PySem.W.Frag} {H H' : Hp} {a : Addr} {xs : List V} (e : Same H H') (h : SqT K H a xs) : SqT K H' a xs := by
  rcases h with (h | ⟨o, h⟩) | h
  · exact .inl (.inl (e _ _ h))
  · exact .inl (.inr ⟨o, e _ _ h⟩)
  · exact .inr h
mutual
theorem Dp_same {K : PySem.W.Frag} {H H' : Hp} (e : Same H H') : ∀ {v : V} {d : PyData}, Dp K H v d → Dp K H' v d
  | _, _, .non => .non
  | _, _, .bl b => .bl b
  | _, _, .int i => .int i
  | _, _, .str x => .str x
  | _, _, .lst h r => .lst (e.seq h) (DpAll_same e r)
  | _, _, .tup h r => .tup (sameT e h) (DpAll_same e r)
theorem DpAll_same {K : PySem.W.Frag} {H H' : Hp} (e : Same H H') : ∀ {vs : List V} {ds : List PyData}, DpAll K H vs ds → DpAll K H' vs ds
  | _, _, .nil => .nil
  | _, _, .cons h r => .cons (Dp_same e h) (DpAll_same e r)
end
theorem DpAll_len {K : PySem.W.Frag} {H : Hp} : ∀ {vs : List V} {ds : List PyData}, DpAll K H vs ds → vs.length = ds.length
  | _, _, .nil => rfl
  | _, _, .cons _ r => by rw [List.length_cons, List.length_cons, DpAll_len r]
theorem DpAll_get {K : PySem.W.Frag} {H : Hp} : ∀ {vs : List V} {ds : List PyData} {i : Nat} {v : V}, DpAll K H vs ds → vs[i]? = some v → ∃ d, ds[i]? = some d ∧ Dp K H v d
  | _, _, _, _, .nil, e => by simp at e
  | _, _, 0, _, .cons h _, e => by simp at e; subst e; exact ⟨_, rfl, h⟩
  | _, _, i + 1, v, .cons _ r, e => by
    obtain ⟨d, h1, h2⟩ := DpAll_get (i := i) (v := v) r (by simpa using e)
    exact ⟨d, by simpa using h1, h2⟩
theorem DpAll_get' {K : PySem.W.Frag} {H : Hp} {vs : List V} {ds : List PyData} {i : Nat} {d : PyData} (h : DpAll K H vs ds) (e : ds[i]? = some d) : ∃ v, vs[i]? = some v ∧ Dp K H v d := by
  have hl := DpAll_len h
  obtain ⟨hi, _⟩ := List.getElem?_eq_some_iff.mp e
  have hv : i < vs.length := by omega
  obtain ⟨d', h1, h2⟩ := DpAll_get h (List.getElem?_eq_getElem hv)
  rw [e] at h1
  cases h1
  exact ⟨_, List.getElem?_eq_getElem hv, h2⟩
theorem DpAll_append {K : PySem.W.Frag} {H : Hp} : ∀ {vs us : List V} {ds es : List PyData}, DpAll K H vs ds → DpAll K H us es → DpAll K H (vs ++ us) (ds ++ es)
  | _, _, _, _, .nil, r => r
  | _, _, _, _, .cons h t, r => .cons h (DpAll_append t r)
theorem DpAll_of {K : PySem.W.Frag} {H : Hp} : ∀ {vs : List V} {ds : List PyData}, vs.length = ds.length → (∀ (i : Nat) v d, vs[i]? = some v → ds[i]? = some d → Dp K H v d) → DpAll K H vs ds
  | [], [], _, _ => .nil
  | v :: vs, d :: ds, hl, h => .cons (h 0 v d rfl rfl) (DpAll_of (by simpa using hl) fun i x y e1 e2 => h (i + 1) x y (by simpa using e1) (by simpa using e2))
  | [], _ :: _, hl, _ => by simp at hl
  | _ :: _, [], hl, _ => by simp at hl
theorem DpAll_strs {K : PySem.W.Frag} {H : Hp} : ∀ zs : List Str, DpAll K H (zs.map V.str) (zs.map PyData.str)
  | [] => .nil
  | z :: zs => .cons (.str z) (DpAll_strs zs)

/-! ### comprehensions over what stays: the tests and the items change nothing that stood -/
theorem lc_pure {J : It} {n : Nat} {G : Hp → Prop} {xs : List V} (w : Walk J n G (YAt xs)) {tt : TT} {te : TE} {j : Nat} {σ : L2.St} {H1 : Hp} {D : Addr} {Qd : Hp → Prop} (p : Nat → Bool) (f : Nat → V) (hD : H1 D = none)
    (hG : ∀ H, Same H1 H → G H) (hn : n < sizeLine)
    (ht : ∀ (i : Nat) x H (Q : Bool → Hp → Prop), i < n → xs[i]? = some x → Same H1 H → (∀ H', Same H H' → Q (p i) H') → tt ((wipe σ [j]).set j (some x)) H Q)
    (he : ∀ (i : Nat) x H (Q : VK), i < n → xs[i]? = some x → p i = true → Same H1 H → (∀ H', Same H H' → Q (f i) H') → te ((wipe σ [j]).set j (some x)) H Q)
    (hd : ∀ H', Same H1 H' → H' D = some (.lst (((List.range n).filter p).map f)) → Qd H') :
    ∃ W : Nat → Nat → Hp → Prop, (∃ m, W 0 m (upd H1 D (.lst []))) ∧ ∀ i m H, W i m H → (J.stop i H ∧ Qd H) ∨ (J.go i H ∧ ∃ Nx : Hp → Prop, (∀ H', Nx H' → ∃ m', m' < m ∧ W (i + 1) m' H') ∧
      ∀ x H', J.yld i H x H' → gName j x (wipe σ [j]) H' fun σ2 H2 => wipe σ2 [j] = wipe σ [j] ∧ tt σ2 H2 fun b H3 =>
        if b = true then te σ2 H3 fun y H4 => ∃ acc, H4 D = some (.lst acc) ∧ acc.length < sizeLine ∧ Nx (upd H4 D (.lst (acc ++ [y]))) else Nx H3) := by
  refine lc_it w (fun i H => Same H1 H ∧ H D = some (.lst (((List.range i).filter p).map f))) ⟨same_new hD, by rw [upd_same]; rfl⟩ (fun i H _ h => hG H h.1) ?_ (fun H h => hd H h.1 h.2)
  rintro i x H H' hi ⟨hs, hacc⟩ ⟨rfl, hx⟩
  refine ⟨?_, ?_⟩
  · show ((List.set (List.set σ j none) j (some x)).set j none) = List.set σ j none
    rw [List.set_set, List.set_set]
  have hr : (List.range (i + 1)).filter p = (List.range i).filter p ++ (if p i = true then [i] else []) := by
    rw [List.range_succ, List.filter_append]
    congr 1
    by_cases hp : p i = true <;> simp [hp]
  refine ht i x H' _ hi hx hs fun H2 h2 => ?_
  by_cases hp : p i = true
  · rw [hp]
    refine iteT ?_
    refine he i x H2 _ hi hx hp (hs.trans h2) fun H3 h3 => ?_
    have h3D := h3 _ _ (h2 _ _ hacc)
    refine ⟨_, h3D, ?_, ?_, ?_⟩
    · rw [List.length_map]
      have := List.length_filter_le p (List.range i)
      rw [List.length_range] at this
      omega
    · intro b o e
      rw [upd_ne (ne_of_none e hD)]
      exact h3 _ _ (h2 _ _ (hs _ _ e))
    · rw [upd_same, hr, if_pos hp, List.map_append]
      rfl
  · have hp' : p i = false := by simpa using hp
    rw [hp']
    refine iteF ?_
    refine ⟨hs.trans h2, ?_⟩
    rw [hr, if_neg hp, List.append_nil]
    exact h2 _ _ hacc
theorem range_all {n : Nat} {f : Nat → V} : ((List.range n).filter (fun _ => true)).map f = (List.range n).map f := by
  rw [List.filter_eq_self.mpr (by simp)]
/-- without tests -/
theorem lc_map {J : It} {n : Nat} {G : Hp → Prop} {xs : List V} (w : Walk J n G (YAt xs)) {te : TE} {j : Nat} {σ : L2.St} {H1 : Hp} {D : Addr} {Qd : Hp → Prop} (f : Nat → V) (hD : H1 D = none)
    (hG : ∀ H, Same H1 H → G H) (hn : n < sizeLine)
    (he : ∀ (i : Nat) x H (Q : VK), i < n → xs[i]? = some x → Same H1 H → (∀ H', Same H H' → Q (f i) H') → te ((wipe σ [j]).set j (some x)) H Q)
    (hd : ∀ H', Same H1 H' → H' D = some (.lst ((List.range n).map f)) → Qd H') :
    ∃ W : Nat → Nat → Hp → Prop, (∃ m, W 0 m (upd H1 D (.lst []))) ∧ ∀ i m H, W i m H → (J.stop i H ∧ Qd H) ∨ (J.go i H ∧ ∃ Nx : Hp → Prop, (∀ H', Nx H' → ∃ m', m' < m ∧ W (i + 1) m' H') ∧
      ∀ x H', J.yld i H x H' → gName j x (wipe σ [j]) H' fun σ2 H2 => wipe σ2 [j] = wipe σ [j] ∧ tYes σ2 H2 fun b H3 =>
        if b = true then te σ2 H3 fun y H4 => ∃ acc, H4 D = some (.lst acc) ∧ acc.length < sizeLine ∧ Nx (upd H4 D (.lst (acc ++ [y]))) else Nx H3) :=
  lc_pure w (tt := tYes) (fun _ => true) f hD hG hn (fun i x H Q _ _ _ q => q H (Same.refl H)) (fun i x H Q hi hx _ hs q => he i x H Q hi hx hs q) fun H' hs h => hd H' hs (by rw [h, range_all])
/-- a text's signs as its walk's items -/
theorem walk_signs {z : Str} : Walk (Its z) z.cps.size (fun _ => True) (YAt (z.cps.toList.map fun c => V.str ⟨#[c]⟩)) := by
  refine ⟨walk_str.goes, walk_str.stops, fun i H x H' hi hg y => ?_⟩
  obtain ⟨rfl, c, hc, rfl⟩ := walk_str.yields i H x H' hi hg y
  refine ⟨rfl, ?_⟩
  rw [List.getElem?_map, Array.getElem?_toList, hc]
  rfl
end Sw
set_option maxRecDepth 100000
set_option maxHeartbeats 4000000
namespace Sw
open PySem PySem.Spec PyProof.Rows L2

/-! ### how large data are -/
mutual
/-- leaves: ints at most M, texts of ASCII; no dict -/
def leaf (M : Nat) : PyData → Bool
  | .none | .bool _ => true
  | .int i => decide (i.natAbs ≤ M)
  | .str x => x.cps.toList.all (fun c => decide (c < 128))
  | .list xs | .tuple xs => leafAll M xs
  | .dict _ => false
def leafAll (M : Nat) : List PyData → Bool
  | [] => true
  | x :: xs => leaf M x && leafAll M xs
end
mutual
/-- no list or tuple in it is longer than l -/
def lens (l : Nat) : PyData → Bool
  | .none | .bool _ | .int _ | .str _ => true
  | .list xs | .tuple xs => decide (xs.length ≤ l) && lensAll l xs
  | .dict _ => false
def lensAll (l : Nat) : List PyData → Bool
  | [] => true
  | x :: xs => lens l x && lensAll l xs
end
mutual
/-- at least as much as its text is long -/
def wt : PyData → Nat
  | .none | .bool _ => 5
  | .int _ => 250
  | .str x => 10 * x.length + 5
  | .list xs | .tuple xs => wtAll xs + 5
  | .dict _ => 0
def wtAll : List PyData → Nat
  | [] => 0
  | x :: xs => wt x + 2 + wtAll xs
end
theorem leaf_str {M : Nat} {x : Str} : leaf M (.str x) = true ↔ ∀ c ∈ x.cps.toList, c < 128 := by
  simp only [leaf, List.all_eq_true, decide_eq_true_eq]
theorem leafAll_iff {M : Nat} : ∀ {xs : List PyData}, leafAll M xs = true ↔ ∀ x ∈ xs, leaf M x = true
  | [] => by simp [leafAll]
  | x :: xs => by simp [leafAll, leafAll_iff (xs := xs)]
theorem lensAll_iff {l : Nat} : ∀ {xs : List PyData}, lensAll l xs = true ↔ ∀ x ∈ xs, lens l x = true
  | [] => by simp [lensAll]
  | x :: xs => by simp [lensAll, lensAll_iff (xs := xs)]
theorem wtAll_append : ∀ xs ys : List PyData, wtAll (xs ++ ys) = wtAll xs + wtAll ys
  | [], ys => by simp [wtAll]
  | x :: xs, ys => by simp [wtAll, wtAll_append xs ys]; omega
theorem wt_mem : ∀ {xs : List PyData} {x : PyData}, x ∈ xs → wt x + 2 ≤ wtAll xs
  | y :: xs, x, h => by
    rcases List.mem_cons.mp h with rfl | h
    · simp [wtAll]
    · have := wt_mem h
      simp [wtAll]; omega
theorem wtAll_take (xs : List PyData) (k : Nat) : wtAll (xs.take k) ≤ wtAll xs := by
  have h := wtAll_append (xs.take k) (xs.drop k)
  rw [List.take_append_drop] at h
  omega
theorem wtAll_drop (xs : List PyData) (k : Nat) : wtAll (xs.drop k) ≤ wtAll xs := by
  have h := wtAll_append (xs.take k) (xs.drop k)
  rw [List.take_append_drop] at h
  omega
theorem depthAll_iff {n : Nat} : ∀ {xs : List PyData}, PyData.depthAll xs ≤ n ↔ ∀ x ∈ xs, x.depth ≤ n
  | [] => by simp [PyData.depthAll]
  | x :: xs => by simp [PyData.depthAll, depthAll_iff (xs := xs), Nat.max_le]
theorem depth_tuple {n : Nat} {xs : List PyData} : (PyData.tuple xs).depth ≤ n + 1 ↔ ∀ x ∈ xs, x.depth ≤ n := by
  simp [PyData.depth, depthAll_iff]
theorem depth_list {n : Nat} {xs : List PyData} : (PyData.list xs).depth ≤ n + 1 ↔ ∀ x ∈ xs, x.depth ≤ n := by
  simp [PyData.depth, depthAll_iff]

mutual
theorem leaf_noDict {M : Nat} : ∀ d : PyData, leaf M d = true → d.hasDict = false
  | .none, _ => by simp [PyData.hasDict]
  | .bool _, _ => by simp [PyData.hasDict]
  | .int _, _ => by simp [PyData.hasDict]
  | .str _, _ => by simp [PyData.hasDict]
  | .list xs, h => by simpa [PyData.hasDict] using leafAll_noDict xs (by simpa [leaf] using h)
  | .tuple xs, h => by simpa [PyData.hasDict] using leafAll_noDict xs (by simpa [leaf] using h)
  | .dict _, h => by simp [leaf] at h
theorem leafAll_noDict {M : Nat} : ∀ xs : List PyData, leafAll M xs = true → PyData.hasDictAll xs = false
  | [], _ => by simp [PyData.hasDictAll]
  | x :: xs, h => by
    have h' : leaf M x = true ∧ leafAll M xs = true := by simpa [leafAll] using h
    simp [PyData.hasDictAll, leaf_noDict x h'.1, leafAll_noDict xs h'.2]
end
mutual
theorem leaf_canLay {M : Nat} : ∀ d : PyData, leaf M d = true → d.canLay0 = true
  | .none, _ => by simp [PyData.canLay0]
  | .bool _, _ => by simp [PyData.canLay0]
  | .int _, _ => by simp [PyData.canLay0]
  | .str x, h => by
    have h' := leaf_str.mp h
    simp only [PyData.canLay0, PyData.strOk, Array.all_eq_true_iff_forall_mem, decide_eq_true_eq]
    intro c hc
    have := h' c (by simpa using hc)
    omega
  | .list xs, h => by simpa [PyData.canLay0] using leafAll_canLay xs (by simpa [leaf] using h)
  | .tuple xs, h => by simpa [PyData.canLay0] using leafAll_canLay xs (by simpa [leaf] using h)
  | .dict _, h => by simp [leaf] at h
theorem leafAll_canLay {M : Nat} : ∀ xs : List PyData, leafAll M xs = true → PyData.canLayAll0 xs = true
  | [], _ => by simp [PyData.canLayAll0]
  | x :: xs, h => by
    have h' : leaf M x = true ∧ leafAll M xs = true := by simpa [leafAll] using h
    simp [PyData.canLayAll0, leaf_canLay x h'.1, leafAll_canLay xs h'.2]
end
mutual
theorem leaf_shows {M : Nat} (hM : M < 2 ^ 1920) : ∀ d : PyData, leaf M d = true → d.showable = true
  | .none, _ => by simp [PyData.showable]
  | .bool _, _ => by simp [PyData.showable]
  | .int i, h => by
    have h' : i.natAbs ≤ M := by simpa [leaf] using h
    simp only [PyData.showable, decide_eq_true_eq]
    exact log2_small (Nat.lt_of_le_of_lt h' hM)
  | .str x, h => by simp [PyData.showable]
  | .list xs, h => by simpa [PyData.showable] using leafAll_shows hM xs (by simpa [leaf] using h)
  | .tuple xs, h => by simpa [PyData.showable] using leafAll_shows hM xs (by simpa [leaf] using h)
  | .dict _, h => by simp [leaf] at h
theorem leafAll_shows {M : Nat} (hM : M < 2 ^ 1920) : ∀ xs : List PyData, leafAll M xs = true → PyData.showableAll xs = true
  | [], _ => by simp [PyData.showableAll]
  | x :: xs, h => by
    have h' : leaf M x = true ∧ leafAll M xs = true := by simpa [leafAll] using h
    simp [PyData.showableAll, leaf_shows hM x h'.1, leafAll_shows hM xs h'.2]
end
mutual
theorem shown_wt {M : Nat} (hM : M < 10 ^ 240) : ∀ d : PyData, leaf M d = true → d.shown.length ≤ wt d
  | .none, _ => by simp only [PyData.shown, wt]; decide +kernel
  | .bool b, _ => by cases b <;> (simp only [PyData.shown, wt]; decide +kernel)
  | .int i, h => by
    have h' : i.natAbs ≤ M := by simpa [leaf] using h
    have e := int_text_length_le10 (k := 240) (by decide) (Nat.lt_of_le_of_lt h' hM)
    simp only [PyData.shown, wt]
    rw [PySem.ofString_length]
    omega
  | .str x, h => by
    have h' := leaf_str.mp h
    have e := StrLaws.reprText_len x (fun c hc => by have := h' c hc; omega)
    simp only [PyData.shown, wt]
    omega
  | .list xs, h => by
    have e1 := listText_len_le (PyData.shownAll xs)
    have e2 := shownAll_wt hM xs (by simpa [leaf] using h)
    rw [PyData.shownAll_length] at e1
    simp only [PyData.shown, wt]
    omega
  | .tuple xs, h => by
    have e1 := tupleText_len_le (PyData.shownAll xs)
    have e2 := shownAll_wt hM xs (by simpa [leaf] using h)
    rw [PyData.shownAll_length] at e1
    simp only [PyData.shown, wt]
    omega
  | .dict _, h => by simp [leaf] at h
theorem shownAll_wt {M : Nat} (hM : M < 10 ^ 240) : ∀ xs : List PyData, leafAll M xs = true → ((PyData.shownAll xs).map (·.length)).sum + 2 * xs.length ≤ wtAll xs
  | [], _ => by simp [PyData.shownAll, wtAll]
  | x :: xs, h => by
    have h' : leaf M x = true ∧ leafAll M xs = true := by simpa [leafAll] using h
    have e1 := shown_wt hM x h'.1
    have e2 := shownAll_wt hM xs h'.2
    simp only [PyData.shownAll, wtAll, List.map_cons, List.sum_cons, List.length_cons]
    omega
end
mutual
theorem leaf_mono {M N : Nat} (h : M ≤ N) : ∀ d : PyData, leaf M d = true → leaf N d = true
  | .none, _ => by simp [leaf]
  | .bool _, _ => by simp [leaf]
  | .int i, e => by
    have e' : i.natAbs ≤ M := by simpa [leaf] using e
    simp only [leaf, decide_eq_true_eq]; omega
  | .str _, e => by simpa [leaf] using e
  | .list xs, e => by simpa [leaf] using leafAll_mono h xs (by simpa [leaf] using e)
  | .tuple xs, e => by simpa [leaf] using leafAll_mono h xs (by simpa [leaf] using e)
  | .dict _, e => by simp [leaf] at e
theorem leafAll_mono {M N : Nat} (h : M ≤ N) : ∀ xs : List PyData, leafAll M xs = true → leafAll N xs = true
  | [], _ => by simp [leafAll]
  | x :: xs, e => by
    have e' : leaf M x = true ∧ leafAll M xs = true := by simpa [leafAll] using e
    simp [leafAll, leaf_mono h x e'.1, leafAll_mono h xs e'.2]
end
mutual
theorem lens_mono {k l : Nat} (h : k ≤ l) : ∀ d : PyData, lens k d = true → lens l d = true
  | .none, _ => by simp [lens]
  | .bool _, _ => by simp [lens]
  | .int _, _ => by simp [lens]
  | .str _, _ => by simp [lens]
  | .list xs, e => by
    have e' : xs.length ≤ k ∧ lensAll k xs = true := by simpa [lens] using e
    simp only [lens, Bool.and_eq_true, decide_eq_true_eq]
    exact ⟨by omega, lensAll_mono h xs e'.2⟩
  | .tuple xs, e => by
    have e' : xs.length ≤ k ∧ lensAll k xs = true := by simpa [lens] using e
    simp only [lens, Bool.and_eq_true, decide_eq_true_eq]
    exact ⟨by omega, lensAll_mono h xs e'.2⟩
  | .dict _, e => by simp [lens] at e
theorem lensAll_mono {k l : Nat} (h : k ≤ l) : ∀ xs : List PyData, lensAll k xs = true → lensAll l xs = true
  | [], _ => by simp [lensAll]
  | x :: xs, e => by
    have e' : lens k x = true ∧ lensAll k xs = true := by simpa [lensAll] using e
    simp [lensAll, lens_mono h x e'.1, lensAll_mono h xs e'.2]
end

/-- data of this size: ints at most M, sequences at most l long, n deep, B heavy -/
structure Fit (M l n B : Nat) (d : PyData) : Prop where
  lf : leaf M d = true
  ln : lens l d = true
  dp : d.depth ≤ n
  wg : wt d ≤ B
theorem Fit.mono {M l n B M' l' n' B' : Nat} {d : PyData} (h : Fit M l n B d) (h1 : M ≤ M') (h2 : l ≤ l') (h3 : n ≤ n') (h4 : B ≤ B') : Fit M' l' n' B' d :=
  ⟨leaf_mono h1 d h.lf, lens_mono h2 d h.ln, Nat.le_trans h.dp h3, Nat.le_trans h.wg h4⟩
theorem Fit.none {M l n B : Nat} (h : 5 ≤ B) : Fit M l n B .none := ⟨rfl, rfl, Nat.zero_le _, h⟩
theorem Fit.bool {M l n B : Nat} {b : Bool} (h : 5 ≤ B) : Fit M l n B (.bool b) := ⟨rfl, rfl, Nat.zero_le _, h⟩
theorem Fit.int {M l n B : Nat} {i : Int} (hi : i.natAbs ≤ M) (h : 250 ≤ B) : Fit M l n B (.int i) := ⟨by simpa [leaf] using hi, rfl, Nat.zero_le _, h⟩
theorem Fit.str {M l n B : Nat} {x : Str} (hx : ∀ c ∈ x.cps.toList, c < 128) (h : 10 * x.length + 5 ≤ B) : Fit M l n B (.str x) := ⟨leaf_str.mpr hx, rfl, Nat.zero_le _, h⟩
theorem Fit.tup {M l n B : Nat} {xs : List PyData} (hl : xs.length ≤ l) (h : ∀ x ∈ xs, leaf M x = true ∧ lens l x = true ∧ x.depth ≤ n) (hw : wtAll xs + 5 ≤ B) : Fit M l (n + 1) B (.tuple xs) :=
  ⟨by simpa [leaf] using leafAll_iff.mpr fun x hx => (h x hx).1, by simp only [lens, Bool.and_eq_true, decide_eq_true_eq]; exact ⟨hl, lensAll_iff.mpr fun x hx => (h x hx).2.1⟩, depth_tuple.mpr fun x hx => (h x hx).2.2, by simpa [wt] using hw⟩
theorem Fit.lst {M l n B : Nat} {xs : List PyData} (hl : xs.length ≤ l) (h : ∀ x ∈ xs, leaf M x = true ∧ lens l x = true ∧ x.depth ≤ n) (hw : wtAll xs + 5 ≤ B) : Fit M l (n + 1) B (.list xs) :=
  ⟨by simpa [leaf] using leafAll_iff.mpr fun x hx => (h x hx).1, by simp only [lens, Bool.and_eq_true, decide_eq_true_eq]; exact ⟨hl, lensAll_iff.mpr fun x hx => (h x hx).2.1⟩, depth_list.mpr fun x hx => (h x hx).2.2, by simpa [wt] using hw⟩
theorem Fit.inTup {M l n B : Nat} {xs : List PyData} (h : Fit M l n B (.tuple xs)) : xs.length ≤ l ∧ 1 ≤ n ∧ wtAll xs + 5 ≤ B ∧ ∀ x ∈ xs, Fit M l (n - 1) B x := by
  have h2 : xs.length ≤ l ∧ lensAll l xs = true := by simpa [lens] using h.ln
  have h3 : PyData.depthAll xs + 1 ≤ n := by simpa [PyData.depth] using h.dp
  have h4 : wtAll xs + 5 ≤ B := by simpa [wt] using h.wg
  refine ⟨h2.1, by omega, h4, fun x hx => ⟨leafAll_iff.mp (by simpa [leaf] using h.lf) x hx, lensAll_iff.mp h2.2 x hx, (depthAll_iff (n := n - 1)).mp (by omega) x hx, ?_⟩⟩
  have := wt_mem hx
  omega
theorem Fit.inLst {M l n B : Nat} {xs : List PyData} (h : Fit M l n B (.list xs)) : xs.length ≤ l ∧ 1 ≤ n ∧ wtAll xs + 5 ≤ B ∧ ∀ x ∈ xs, Fit M l (n - 1) B x := by
  have h2 : xs.length ≤ l ∧ lensAll l xs = true := by simpa [lens] using h.ln
  have h3 : PyData.depthAll xs + 1 ≤ n := by simpa [PyData.depth] using h.dp
  have h4 : wtAll xs + 5 ≤ B := by simpa [wt] using h.wg
  refine ⟨h2.1, by omega, h4, fun x hx => ⟨leafAll_iff.mp (by simpa [leaf] using h.lf) x hx, lensAll_iff.mp h2.2 x hx, (depthAll_iff (n := n - 1)).mp (by omega) x hx, ?_⟩⟩
  have := wt_mem hx
  omega
theorem Fit.shaped {M l n B : Nat} {d : PyData} (h : Fit M l n B d) (hn : n ≤ 64) : SeqAt.shaped d = true := by
  unfold SeqAt.shaped
  rw [leaf_canLay d h.lf, Bool.true_and, decide_eq_true_eq]
  exact Nat.le_trans h.dp hn
end Sw
set_option maxRecDepth 100000
set_option maxHeartbeats 4000000
namespace Sw
open PySem PySem.Spec PyProof.Rows L2

/-- a def of the text, how it binds, where it stands -/
structure Df (K : PySem.W.Frag) (mg : Str → Option Value) (x : Str) (st : Stmt) (ps : List Str) (f : Addr) (fd : FuncData) : Prop where
  fn : Fun K x x st f fd
  bd : Binds K fd ps []
  gl : mg x = some (.ref f)

/-! ### isinstance of data -/
def isaInt : PyData → Bool
  | .int _ => true
  | .bool _ => true
  | _ => false
def isaBool : PyData → Bool
  | .bool _ => true
  | _ => false
def isaStr : PyData → Bool
  | .str _ => true
  | _ => false
def isaTup : PyData → Bool
  | .tuple _ => true
  | _ => false
theorem ty_list {K : PySem.W.Frag} {H : Hp} {a : Addr} {xs : List V} (h : SqL K H a xs) : TyX K H (.ref a) (.type "list") := by
  rcases h with (h | ⟨o, h⟩) | ⟨o, its, n, h, hc, _⟩
  · exact .base (.lst h)
  · exact .base (.frz h)
  · exact .kList h hc
theorem ty_tup {K : PySem.W.Frag} {H : Hp} {a : Addr} {xs : List V} (h : SqT K H a xs) : TyX K H (.ref a) (.type "tuple") := by
  rcases h with (h | ⟨o, h⟩) | ⟨o, its, n, h, hc, _⟩
  · exact .base (.tup h)
  · exact .fTuple h
  · exact .kTuple h hc
theorem isa_data {K : PySem.W.Frag} {H : Hp} {v : V} {d : PyData} {T : String} {g : PyData → Bool} (h : Dp K H v d)
    (k0 : kitB "NoneType" T = some (g .none)) (k1 : ∀ b, kitB "bool" T = some (g (.bool b))) (k2 : ∀ i, kitB "int" T = some (g (.int i))) (k3 : ∀ x, kitB "str" T = some (g (.str x)))
    (k4 : ∀ xs, kitB "list" T = some (g (.list xs))) (k5 : ∀ xs, kitB "tuple" T = some (g (.tuple xs))) : ∃ t, TyX K H v t ∧ PySem.W.kitOne K t (.type T) = some (g d) := by
  cases h with
  | non => exact ⟨_, .base .non, kit_ty k0⟩
  | bl b => exact ⟨_, .base (.bl b), kit_ty (k1 b)⟩
  | int i => exact ⟨_, .base (.int i), kit_ty (k2 i)⟩
  | str x => exact ⟨_, .base (.str x), kit_ty (k3 x)⟩
  | lst h _ => exact ⟨_, ty_list h, kit_ty (k4 _)⟩
  | tup h _ => exact ⟨_, ty_tup h, kit_ty (k5 _)⟩
theorem isa_int {K : PySem.W.Frag} {H : Hp} {v : V} {d : PyData} (h : Dp K H v d) : ∃ t, TyX K H v t ∧ PySem.W.kitOne K t (.type "int") = some (isaInt d) :=
  isa_data (g := isaInt) h (by decide +kernel) (fun _ => by show _ = some true; decide +kernel) (fun _ => by show _ = some true; decide +kernel) (fun _ => by show _ = some false; decide +kernel) (fun _ => by show _ = some false; decide +kernel) (fun _ => by show _ = some false; decide +kernel)
theorem isa_bool {K : PySem.W.Frag} {H : Hp} {v : V} {d : PyData} (h : Dp K H v d) : ∃ t, TyX K H v t ∧ PySem.W.kitOne K t (.type "bool") = some (isaBool d) :=
  isa_data (g := isaBool) h (by decide +kernel) (fun _ => by show _ = some true; decide +kernel) (fun _ => by show _ = some false; decide +kernel) (fun _ => by show _ = some false; decide +kernel) (fun _ => by show _ = some false; decide +kernel) (fun _ => by show _ = some false; decide +kernel)
theorem isa_str {K : PySem.W.Frag} {H : Hp} {v : V} {d : PyData} (h : Dp K H v d) : ∃ t, TyX K H v t ∧ PySem.W.kitOne K t (.type "str") = some (isaStr d) :=
  isa_data (g := isaStr) h (by decide +kernel) (fun _ => by show _ = some false; decide +kernel) (fun _ => by show _ = some false; decide +kernel) (fun _ => by show _ = some true; decide +kernel) (fun _ => by show _ = some false; decide +kernel) (fun _ => by show _ = some false; decide +kernel)
theorem isa_tup {K : PySem.W.Frag} {H : Hp} {v : V} {d : PyData} (h : Dp K H v d) : ∃ t, TyX K H v t ∧ PySem.W.kitOne K t (.type "tuple") = some (isaTup d) :=
  isa_data (g := isaTup) h (by decide +kernel) (fun _ => by show _ = some false; decide +kernel) (fun _ => by show _ = some false; decide +kernel) (fun _ => by show _ = some false; decide +kernel) (fun _ => by show _ = some false; decide +kernel) (fun _ => by show _ = some true; decide +kernel)

/-! ### what a look promises -/
def dNum : PyData → Bool
  | .int _ => true
  | _ => false
def okSign (c : Nat) : Bool := decide (97 ≤ c) && decide (c ≤ 122)
def wordS (z : Str) : Bool := decide (1 ≤ z.length) && decide (z.length ≤ 8) && z.cps.toList.all okSign
def dWord : PyData → Bool
  | .str z => wordS z
  | _ => false
def dOper (d : PyData) : Bool := dNum d || dWord d
def dPair : PyData → Bool
  | .tuple ds => decide (ds.length = 2)
  | _ => false
def dPos : PyData → Bool
  | .int i => decide (1 ≤ i)
  | _ => false
def dObj : PyData → Bool
  | .tuple [a, b] => dWord a && dPos b
  | _ => false
def fstS : PyData → Str
  | .tuple (.str z :: _) => z
  | _ => Str.empty
def rises : List Str → Bool
  | a :: b :: r => decide (a.cps.toList < b.cps.toList) && rises (b :: r)
  | _ => true
def dObjs : PyData → Bool
  | .tuple ds => !ds.isEmpty && ds.all dObj && rises (ds.map fstS)
  | _ => false
/-- a look at data: its answer, all that stood stands -/
def spLook (K : PySem.W.Frag) (g : PyData → Bool) : Sp := fun vs H Q _ => ∃ (v : V) (d : PyData), vs = [v] ∧ Dp K H v d ∧ (∃ M, Fit M 60 60 1000000 d) ∧ ∀ H', Same H H' → Q (.bl (g d)) H'
theorem big_size {n : Nat} (h : n ≤ 1000000) : n < sizeLine := by rw [sizeLine_eq]; omega
theorem fit_strlen {M l n B : Nat} {x : Str} (h : Fit M l n B (.str x)) (hB : B ≤ 1000000) : x.length ≤ sizeLine := by
  have h1 : 10 * x.length + 5 ≤ B := by simpa [wt] using h.wg
  rw [sizeLine_eq]; omega
theorem isi_dNum (d : PyData) : (isaInt d && !isaBool d) = dNum d := by cases d <;> rfl
end Sw
set_option maxRecDepth 100000
set_option maxHeartbeats 4000000
namespace Sw
open PySem PySem.Spec PyProof.Rows L2
def topS (i : Nat) : Stmt := PySem.Challenge.pw_storeways_k01_kinds.main.body.getD i (.Pass ⟨0, 0, 0, 0⟩)
/-- built-in names that the text leaves alone -/
structure Bt (mg : Str → Option Value) : Prop where
  isi : mg "isinstance" = none
  int : mg "int" = none
  bool : mg "bool" = none
  str : mg "str" = none
  tuple : mg "tuple" = none
  list : mg "list" = none
  len : mg "len" = none
  all : mg "all" = none
  zip : mg "zip" = none
  range : mg "range" = none
  ord : mg "ord" = none
  sorted : mg "sorted" = none
  set : mg "set" = none
  repr : mg "repr" = none
section
variable {P : Program} {w : World} {K : PySem.W.Frag} {mg : Str → Option Value} {base : Heap}
theorem sc_num : FnScope ["thing"] ["thing"] (defScope (topS 2)) := ⟨rfl, rfl, rfl, by decide +kernel, rfl, by decide +kernel, by decide +kernel⟩
theorem ok_num {f : Addr} {fd : FuncData} (D : Df K mg "is_number" (topS 2) ["thing"] f fd) (B : Bt mg) : FnOk P w K mg base CX0 1 f fd ["thing"] (spLook K dNum) := by
  refine D.fn.ok sc_num (fun vs H Q E h => ?_) (fun cdv A outer s H vs Q E hr h => ?_)
  · obtain ⟨v, d, rfl, _⟩ := h
    rfl
  obtain ⟨v, d, rfl, hd, hf, q⟩ := h
  refine ⟨_, pss_one (ps_ret (pe_and (pe_callB call_isi (by rfl) B.isi (by decide +kernel) (pa_cons (pv 0) (pa_cons (pe_bltn (v := .ty "int") (by rfl) B.int (by decide +kernel) rfl) pa_nil)))
    (pe_one (pe_not (pe_callB call_isi (by rfl) B.isi (by decide +kernel) (pa_cons (pv 0) (pa_cons (pe_bltn (v := .ty "bool") (by rfl) B.bool (by decide +kernel) rfl) pa_nil))))))), ?_⟩
  obtain ⟨t1, ty1, k1⟩ := isa_int hd
  obtain ⟨t2, ty2, k2⟩ := isa_bool hd
  refine ⟨v, rfl, v, .ty "int", t1, _, _, rfl, .ty _, ty1, k1, _, rfl, ?_⟩
  have e := isi_dNum d
  refine ite2 (fun c => ?_) (fun c => ?_)
  · refine ⟨v, rfl, v, .ty "bool", t2, _, _, rfl, .ty _, ty2, k2, _, rfl, ?_⟩
    rw [c, Bool.true_and] at e
    rw [e]
    exact q H (Same.refl H)
  · have c' : isaInt d = false := by simpa using c
    rw [c', Bool.false_and] at e
    rw [e]
    exact q H (Same.refl H)
theorem sc_word : FnScope ["thing", "sign"] ["thing"] (defScope (topS 3)) := ⟨rfl, rfl, rfl, by decide +kernel, rfl, by decide +kernel, by decide +kernel⟩
theorem sign_lo (c : Nat) : (!decide (([c] : List Nat) < ("a" : Str).cps.toList)) = decide (97 ≤ c) := by
  show (!decide (([c] : List Nat) < [97])) = decide (97 ≤ c)
  by_cases h : 97 ≤ c
  · have : ¬ (([c] : List Nat) < [97]) := by intro z; have := List.cons_lt_cons_iff.mp z; simp at this; omega
    simp [h, this]
  · have : ([c] : List Nat) < [97] := List.cons_lt_cons_iff.mpr (.inl (by omega))
    simp [h, this]
theorem sign_hi (c : Nat) : (!decide (("z" : Str).cps.toList < ([c] : List Nat))) = decide (c ≤ 122) := by
  show (!decide (([122] : List Nat) < [c])) = decide (c ≤ 122)
  by_cases h : c ≤ 122
  · have : ¬ (([122] : List Nat) < [c]) := by intro z; have := List.cons_lt_cons_iff.mp z; simp at this; omega
    simp [h, this]
  · have : ([122] : List Nat) < [c] := List.cons_lt_cons_iff.mpr (.inl (by omega))
    simp [h, this]
theorem all_range {z : Str} : ((List.range z.cps.size).map fun i => V.bl (okSign (z.cps.toList.getD i 0))) = (z.cps.toList.map okSign).map V.bl := by
  apply List.ext_getElem?
  intro i
  simp only [List.getElem?_map, List.getElem?_range']
  by_cases h : i < z.cps.size
  · rw [List.getElem?_range h, List.getElem?_eq_getElem (by simpa using h)]
    simp [List.getD, List.getElem?_eq_getElem, h]
  · rw [List.getElem?_eq_none (by simpa using h), List.getElem?_eq_none (by simpa using h)]
    rfl
theorem ok_word {f : Addr} {fd : FuncData} (D : Df K mg "is_word" (topS 3) ["thing"] f fd) (B : Bt mg) (gL : ∃ t, mg "LONGEST_WORD" = some (.int 8 t)) : FnOk P w K mg base CX0 1 f fd ["thing"] (spLook K dWord) := by
  refine D.fn.ok sc_word (fun vs H Q E h => ?_) (fun cdv A outer s H vs Q E hr h => ?_)
  · obtain ⟨v, d, rfl, _⟩ := h
    rfl
  obtain ⟨v, d, rfl, hd, ⟨M, hf⟩, q⟩ := h
  obtain ⟨t8, gL⟩ := gL
  refine ⟨_, pss_cons (ps_if (PW.pt (pw_or (pt_not (pt_val (pe_callB call_isi (by rfl) B.isi (by decide +kernel) (pa_cons (pv 0) (pa_cons (pe_bltn (v := .ty "str") (by rfl) B.str (by decide +kernel) rfl) pa_nil)))))
      (pw_or1 (pt_not (pt_chain op_le op_le pe_int (pe_callB call_len_str (by rfl) B.len PySem.boot_len (pa_cons (pv 0) pa_nil)) (pe_glob (v := .int 8) (by rfl) gL ⟨_, rfl⟩)))))) (pss_one (ps_ret pe_bl)) pss_nil)
    (pss_one (ps_ret (pe_callB (cr_all rfl) (by rfl) B.all (by decide +kernel) (pa_cons (pe_lc (own := [("sign", 1)]) (g := gName 1) (tt := tYes) rfl sc_word.nd (pi_str (pv 0))
      (blkOk_by (N := ["thing", "sign"]) (sc := defScope (topS 3)) (by decide +kernel)) (fun _ _ _ _ _ => pg_name (i := 1) sc_word.nd rfl (Or.inl rfl)) (fun _ _ _ _ _ => pts_nil)
      (fun _ _ _ _ _ => pe_chain op_le_str op_le_str pe_str (pv 1) pe_str)) pa_nil)))), ?_⟩
  obtain ⟨t1, ty1, k1⟩ := isa_str hd
  refine ⟨v, rfl, v, .ty "str", t1, _, _, rfl, .ty _, ty1, k1, _, rfl, ?_⟩
  cases hd with
  | str z =>
    refine iteF ?_
    have hz := fit_strlen hf (Nat.le_refl _)
    refine ⟨_, rfl, z, rfl, hz, _, _, rfl, rfl, _, rfl, ?_⟩
    refine ite2 (fun c => ?_) (fun c => ?_)
    · have c1 : (1 : Int) ≤ (z.length : Int) := of_decide_eq_true c
      refine ⟨_, _, rfl, rfl, _, rfl, ?_⟩
      refine ite2 (fun c => ?_) (fun c => ?_)
      · have c2 : ¬ (z.length : Int) ≤ 8 := by simpa using c
        have e : dWord (.str z) = false := by
          show wordS z = false
          unfold wordS
          rw [decide_eq_false (show ¬ z.length ≤ 8 by omega)]
          simp
        rw [← e]
        exact q H (Same.refl H)
      · have c2 : (z.length : Int) ≤ 8 := by simpa using c
        refine ⟨_, rfl, z, rfl, fun L hL => lc_map walk_signs (fun i => V.bl (okSign (z.cps.toList.getD i 0))) hL (fun _ _ => trivial) (big_size (by have : z.cps.size = z.length := rfl; omega)) ?_ ?_⟩
        · intro i x H1 Q1 hi hx hs q1
          have hi' : i < z.cps.toList.length := by simpa using hi
          rw [List.getElem?_map, List.getElem?_eq_getElem hi'] at hx
          have hx' : V.str ⟨#[z.cps.toList[i]]⟩ = x := Option.some.inj hx
          subst hx'
          have eg : z.cps.toList.getD i 0 = z.cps.toList[i] := by simp [List.getD, List.getElem?_eq_getElem hi']
          refine ⟨_, rfl, _, _, rfl, rfl, _, rfl, ?_⟩
          have e1 := sign_lo z.cps.toList[i]
          have e2 := sign_hi z.cps.toList[i]
          have q2 := q1 H1 (Same.refl H1)
          rw [eg] at q2
          refine ite2 (fun c => ?_) (fun c => ?_)
          · have c' : decide (97 ≤ z.cps.toList[i]) = true := by rw [← e1]; exact c
            refine ⟨_, _, rfl, rfl, ?_⟩
            have e3 : okSign z.cps.toList[i] = !decide (("z" : Str).cps.toList < ([z.cps.toList[i]] : List Nat)) := by
              unfold okSign
              rw [c', e2, Bool.true_and]
            rw [e3] at q2
            exact q2
          · have c' : decide (97 ≤ z.cps.toList[i]) = false := by rw [← e1]; simpa using c
            have e3 : okSign z.cps.toList[i] = false := by
              unfold okSign
              rw [c', Bool.false_and]
            rw [e3] at q2
            exact q2
        · intro H1 hs hL1
          refine ⟨L, z.cps.toList.map okSign, rfl, SqL.of (by rw [hL1, all_range]), ?_⟩
          have e : dWord (.str z) = (z.cps.toList.map okSign).all id := by
            show wordS z = _
            unfold wordS
            rw [decide_eq_true (show 1 ≤ z.length by omega), decide_eq_true (show z.length ≤ 8 by omega), List.all_map]
            rfl
          rw [← e]
          exact q H1 hs
    · have c1 : ¬ (1 : Int) ≤ (z.length : Int) := of_decide_eq_false (by simpa using c)
      have e : dWord (.str z) = false := by
        show wordS z = false
        unfold wordS
        rw [decide_eq_false (show ¬ 1 ≤ z.length by omega)]
        simp
      refine ⟨_, rfl, iteT ?_⟩
      rw [← e]
      exact q H (Same.refl H)
  | non => exact iteT (q H (Same.refl H))
  | bl b => exact iteT (q H (Same.refl H))
  | int i => exact iteT (q H (Same.refl H))
  | lst h r => exact iteT (q H (Same.refl H))
  | tup h r => exact iteT (q H (Same.refl H))
end
end Sw
set_option maxRecDepth 100000
set_option maxHeartbeats 4000000
namespace Sw
open PySem PySem.Spec PyProof.Rows L2
section
variable {P : Program} {w : World} {K : PySem.W.Frag} {mg : Str → Option Value} {base : Heap}
theorem q_of {Q : VK} {b c : Bool} {H : Hp} (e : b = c) (h : Q (.bl b) H) : Q (.bl c) H := e ▸ h
theorem sc_oper : FnScope ["thing"] ["thing"] (defScope (topS 4)) := ⟨rfl, rfl, rfl, by decide +kernel, rfl, by decide +kernel, by decide +kernel⟩
theorem ok_oper {f f1 f2 : Addr} {fd fd1 fd2 : FuncData} (D : Df K mg "is_operand" (topS 4) ["thing"] f fd) (D1 : Df K mg "is_number" (topS 2) ["thing"] f1 fd1) (D2 : Df K mg "is_word" (topS 3) ["thing"] f2 fd2)
    (G1 : FnOk P w K mg base CX0 1 f1 fd1 ["thing"] (spLook K dNum)) (G2 : FnOk P w K mg base CX0 1 f2 fd2 ["thing"] (spLook K dWord)) : FnOk P w K mg base CX0 2 f fd ["thing"] (spLook K dOper) := by
  refine D.fn.ok sc_oper (fun vs H Q E h => ?_) (fun cdv A outer s H vs Q E hr h => ?_)
  · obtain ⟨v, d, rfl, _⟩ := h
    rfl
  obtain ⟨v, d, rfl, hd, hf, q⟩ := h
  refine ⟨_, pss_one (ps_ret (pe_or (pe_call G1 hr (by rfl) D1.gl D1.fn.kp D1.bd .nil pass0 (pa_cons (pv 0) pa_nil)) (pe_one (pe_call G2 hr (by rfl) D2.gl D2.fn.kp D2.bd .nil pass0 (pa_cons (pv 0) pa_nil))))), ?_⟩
  refine ⟨v, rfl, v, d, rfl, hd, hf, fun H1 s1 => ⟨_, rfl, ?_⟩⟩
  refine ite2 (fun c => ?_) (fun c => ?_)
  · have e : dOper d = true := by unfold dOper; rw [c, Bool.true_or]
    rw [← e]
    exact q H1 s1
  · have c' : dNum d = false := by simpa using c
    refine ⟨v, rfl, v, d, rfl, Dp_same s1 hd, hf, fun H2 s2 => ?_⟩
    have e : dOper d = dWord d := by unfold dOper; rw [c', Bool.false_or]
    rw [← e]
    exact q H2 (s1.trans s2)
theorem sc_pair : FnScope ["thing"] ["thing"] (defScope (topS 5)) := ⟨rfl, rfl, rfl, by decide +kernel, rfl, by decide +kernel, by decide +kernel⟩
theorem int_two {n : Nat} : decide (V.int (n : Int) = V.int 2) = decide (n = 2) := by
  by_cases h : n = 2
  · subst h; simp
  · have : ¬ (V.int (n : Int) = V.int 2) := fun z => h (by injection z with z; omega)
    simp [h, this]
theorem ok_pair {f : Addr} {fd : FuncData} (D : Df K mg "is_pair" (topS 5) ["thing"] f fd) (B : Bt mg) : FnOk P w K mg base CX0 1 f fd ["thing"] (spLook K dPair) := by
  refine D.fn.ok sc_pair (fun vs H Q E h => ?_) (fun cdv A outer s H vs Q E hr h => ?_)
  · obtain ⟨v, d, rfl, _⟩ := h
    rfl
  obtain ⟨v, d, rfl, hd, hf, q⟩ := h
  refine ⟨_, pss_one (ps_ret (pe_and (pe_callB call_isi (by rfl) B.isi (by decide +kernel) (pa_cons (pv 0) (pa_cons (pe_bltn (v := .ty "tuple") (by rfl) B.tuple (by decide +kernel) rfl) pa_nil)))
    (pe_one (pe_cmpR op_eq (pe_callB call_len_seq (by rfl) B.len PySem.boot_len (pa_cons (pv 0) pa_nil)) pe_int (nomark _))))), ?_⟩
  obtain ⟨t1, ty1, k1⟩ := isa_tup hd
  refine ⟨v, rfl, v, .ty "tuple", t1, _, _, rfl, .ty _, ty1, k1, _, rfl, ?_⟩
  cases hd with
  | tup h r =>
    refine iteT ?_
    refine ⟨_, rfl, _, _, rfl, .inr h, rfl, ?_⟩
    have e := q H (Same.refl H)
    have e2 := DpAll_len r
    rw [int_two, e2]
    exact e
  | non => exact iteF (q H (Same.refl H))
  | bl b => exact iteF (q H (Same.refl H))
  | int i => exact iteF (q H (Same.refl H))
  | str z => exact iteF (q H (Same.refl H))
  | lst h r => exact iteF (q H (Same.refl H))
theorem sc_obj : FnScope ["thing"] ["thing"] (defScope (topS 7)) := ⟨rfl, rfl, rfl, by decide +kernel, rfl, by decide +kernel, by decide +kernel⟩
theorem ok_obj {f f1 f2 f3 : Addr} {fd fd1 fd2 fd3 : FuncData} (D : Df K mg "is_object" (topS 7) ["thing"] f fd) (D1 : Df K mg "is_number" (topS 2) ["thing"] f1 fd1) (D2 : Df K mg "is_word" (topS 3) ["thing"] f2 fd2) (D3 : Df K mg "is_pair" (topS 5) ["thing"] f3 fd3)
    (G1 : FnOk P w K mg base CX0 1 f1 fd1 ["thing"] (spLook K dNum)) (G2 : FnOk P w K mg base CX0 1 f2 fd2 ["thing"] (spLook K dWord)) (G3 : FnOk P w K mg base CX0 1 f3 fd3 ["thing"] (spLook K dPair)) : FnOk P w K mg base CX0 2 f fd ["thing"] (spLook K dObj) := by
  refine D.fn.ok sc_obj (fun vs H Q E h => ?_) (fun cdv A outer s H vs Q E hr h => ?_)
  · obtain ⟨v, d, rfl, _⟩ := h
    rfl
  obtain ⟨v, d, rfl, hd, ⟨M, hf⟩, q⟩ := h
  refine ⟨_, pss_one (ps_ret (pe_and (pe_call G3 hr (by rfl) D3.gl D3.fn.kp D3.bd .nil pass0 (pa_cons (pv 0) pa_nil))
    (pe_and (pe_call G2 hr (by rfl) D2.gl D2.fn.kp D2.bd .nil pass0 (pa_cons (pe_ix ix_tup (pv 0) pe_int (fun _ _ => rfl)) pa_nil))
    (pe_and (pe_call G1 hr (by rfl) D1.gl D1.fn.kp D1.bd .nil pass0 (pa_cons (pe_ix ix_tup (pv 0) pe_int (fun _ _ => rfl)) pa_nil))
    (pe_one (pe_cmpR op_ge (pe_ix ix_tup (pv 0) pe_int (fun _ _ => rfl)) pe_int (nomark _))))))), ?_⟩
  refine ⟨v, rfl, v, d, rfl, hd, ⟨M, hf⟩, fun H1 s1 => ⟨_, rfl, ?_⟩⟩
  cases d with
  | tuple ds =>
    have hd1 := Dp_same s1 hd
    cases hd1 with
    | @tup a xs _ h r =>
      refine ite2 (fun c => ?_) (fun c => ?_)
      · have c' : ds.length = 2 := of_decide_eq_true c
        obtain ⟨d0, d1, rfl⟩ : ∃ d0 d1, ds = [d0, d1] := by
          match ds, c' with
          | [x, y], _ => exact ⟨x, y, rfl⟩
        cases r with
        | @cons v0 xs' _ _ h0 r' =>
          cases r' with
          | @cons v1 xs'' _ _ h1 r'' =>
            cases r''
            obtain ⟨_, _, _, hin⟩ := hf.inTup
            have f0 := (hin d0 (by simp)).mono (Nat.le_refl _) (Nat.le_refl _) (by omega : 60 - 1 ≤ 60) (Nat.le_refl _)
            have f1 := (hin d1 (by simp)).mono (Nat.le_refl _) (Nat.le_refl _) (by omega : 60 - 1 ≤ 60) (Nat.le_refl _)
            refine ⟨_, rfl, a, _, 0, v0, rfl, rfl, h, atI_nat (j := 0) rfl, v0, d0, rfl, h0, ⟨M, f0⟩, fun H2 s2 => ⟨_, rfl, ?_⟩⟩
            refine ite2 (fun c0 => ?_) (fun c0 => ?_)
            · refine ⟨_, rfl, a, _, 1, v1, rfl, rfl, sameT s2 h, atI_nat (j := 1) rfl, v1, d1, rfl, Dp_same s2 h1, ⟨M, f1⟩, fun H3 s3 => ⟨_, rfl, ?_⟩⟩
              refine ite2 (fun c1 => ?_) (fun c1 => ?_)
              · cases d1 with
                | int i =>
                  cases h1
                  refine ⟨_, rfl, a, _, 1, _, rfl, rfl, sameT s3 (sameT s2 h), atI_nat (j := 1) rfl, i, 1, rfl, rfl, ?_⟩
                  have e : dObj (.tuple [d0, .int i]) = decide (1 ≤ i) := by
                    show (dWord d0 && decide (1 ≤ i)) = _
                    rw [c0, Bool.true_and]
                  exact q_of e (q H3 (s1.trans (s2.trans s3)))
                | _ => simp [dNum] at c1
              · have e : dObj (.tuple [d0, d1]) = false := by
                  show (dWord d0 && dPos d1) = false
                  have : dPos d1 = false := by cases d1 <;> first | rfl | simp [dNum] at c1
                  rw [this, Bool.and_false]
                rw [← e]
                exact q H3 (s1.trans (s2.trans s3))
            · have e : dObj (.tuple [d0, d1]) = false := by
                show (dWord d0 && dPos d1) = false
                have : dWord d0 = false := by simpa using c0
                rw [this, Bool.false_and]
              rw [← e]
              exact q H2 (s1.trans s2)
      · have e : dObj (.tuple ds) = false := by
          have c' : ¬ ds.length = 2 := by simpa [dPair] using c
          match ds, c' with
          | [], _ => rfl
          | [_], _ => rfl
          | [_, _], z => exact absurd rfl z
          | _ :: _ :: _ :: _, _ => rfl
        rw [← e]
        exact q H1 s1
  | none => exact iteF (q H1 s1)
  | bool b => exact iteF (q H1 s1)
  | int i => exact iteF (q H1 s1)
  | str z => exact iteF (q H1 s1)
  | list ds => exact iteF (q H1 s1)
  | dict ds => cases hd
end
end Sw
set_option maxRecDepth 100000
set_option maxHeartbeats 4000000
namespace Sw
open PySem PySem.Spec PyProof.Rows L2
theorem cut_one (xs : List V) : cutV xs (some 1) none = xs.drop 1 := by
  unfold cutV
  rw [show HT.sIx xs.length 0 (some 1) = min 1 xs.length from HT.sIx_nat xs.length 0 1, HT.sIx_none]
  cases xs with
  | nil => rfl
  | cons x r =>
    have e : min 1 (x :: r).length = 1 := by rw [List.length_cons]; omega
    rw [e]
    show (List.take ((x :: r).length - 1) r) = r
    rw [List.length_cons, Nat.add_sub_cancel, List.take_length]
theorem obj_parts {K : PySem.W.Frag} {H : Hp} {v : V} {d : PyData} (h : Dp K H v d) (o : dObj d = true) : ∃ (p : Addr) (z : Str) (k : Int), v = .ref p ∧ SqT K H p [.str z, .int k] ∧ fstS d = z ∧ d = .tuple [.str z, .int k] := by
  unfold dObj at o
  split at o
  · rename_i a b
    rw [Bool.and_eq_true] at o
    cases a with
    | str z =>
      cases b with
      | int k =>
        cases h with
        | tup hs r =>
          cases r with
          | cons h0 r =>
            cases r with
            | cons h1 r =>
              cases r
              cases h0
              cases h1
              exact ⟨_, z, k, rfl, hs, rfl, rfl⟩
      | _ => simp [dPos] at o
    | _ => simp [dWord] at o
  · cases o
theorem rises_range : ∀ zs : List Str, ((List.range (zs.length - 1)).map fun i => decide ((zs.getD i Str.empty).cps.toList < (zs.getD (i + 1) Str.empty).cps.toList)).all id = rises zs
  | [] => rfl
  | [_] => rfl
  | a :: b :: r => by
    have ih := rises_range (b :: r)
    have e : (a :: b :: r).length - 1 = (b :: r).length - 1 + 1 := by simp
    rw [e, List.range_succ_eq_map, List.map_cons, List.map_map, List.all_cons]
    show (decide (a.cps.toList < b.cps.toList) && _) = (decide (a.cps.toList < b.cps.toList) && rises (b :: r))
    rw [← ih]
    rfl
section
variable {P : Program} {w : World} {K : PySem.W.Frag} {mg : Str → Option Value} {base : Heap}
def spRise (K : PySem.W.Frag) : Sp := fun vs H Q _ => ∃ (v : V) (ds : List PyData), vs = [v] ∧ Dp K H v (.tuple ds) ∧ ds.length ≤ 60 ∧ ds.all dObj = true ∧ ∀ H', Same H H' → Q (.bl (rises (ds.map fstS))) H'
theorem sc_rise : FnScope ["pairs", "firsts", "pair", "one", "other"] ["pairs"] (defScope (topS 6)) := ⟨rfl, rfl, rfl, by decide +kernel, rfl, by decide +kernel, by decide +kernel⟩
theorem ok_rise {f : Addr} {fd : FuncData} (D : Df K mg "has_rising_firsts" (topS 6) ["pairs"] f fd) (B : Bt mg) : FnOk P w K mg base CX0 1 f fd ["pairs"] (spRise K) := by
  refine D.fn.ok sc_rise (fun vs H Q E h => ?_) (fun cdv A outer s H vs Q E hr h => ?_)
  · obtain ⟨v, d, rfl, _⟩ := h
    rfl
  obtain ⟨v, ds, rfl, hd, hl, ho, q⟩ := h
  cases hd with
  | @tup a xs _ hx hr0 =>
  have hlen := DpAll_len hr0
  refine ⟨_, pss_cons (ps_setLc (i := 1) (own := [("pair", 2)]) (g := gName 2) (tt := tYes) rfl sc_rise.nd rfl rfl (sw_true rfl rfl rfl (by decide +kernel)) (pi_tup (pv 0))
      (blkOk_by (N := ["pairs", "firsts", "pair", "one", "other"]) (sc := defScope (topS 6)) (by decide +kernel)) (fun _ _ _ _ _ => pg_name (i := 2) sc_rise.nd rfl (Or.inl rfl)) (fun _ _ _ _ _ => pts_nil)
      (fun _ _ _ _ _ => pe_ix (r := rIxT K) ix_tup (pv 2) pe_int (fun _ _ => rfl)))
    (pss_one (ps_ret (pe_callB (cr_all rfl) (by rfl) B.all (by decide +kernel) (pa_cons (pe_lc (own := [("one", 3), ("other", 4)]) (g := gTup K 2 (gCons (gName 3) (gCons (gName 4) gNil))) (tt := tYes) rfl sc_rise.nd
      (pi_zip (by rfl) B.zip (pa_cons (pv 1) (pa_cons (pe_slice sl_list (pv 1) (po_some pe_int) po_none) pa_nil)))
      (blkOk_by (N := ["pairs", "firsts", "pair", "one", "other"]) (sc := defScope (topS 6)) (by decide +kernel))
      (fun _ _ _ _ _ => pg_tup rfl (pgs_cons (pg_name (i := 3) sc_rise.nd rfl (Or.inl rfl)) (pgs_cons (pg_name (i := 4) sc_rise.nd rfl (Or.inl rfl)) pgs_nil))) (fun _ _ _ _ _ => pts_nil)
      (fun _ _ _ _ _ => pe_cmpR op_lt_str (pv 3) (pv 4) (nomark _))) pa_nil)))), ?_⟩
  -- firsts = [pair[0] for pair in pairs]
  refine ⟨_, rfl, a, rfl, ⟨_, hx⟩, fun L hL => lc_map (walk_tup (xs := xs)) (fun i => V.str ((ds.map fstS).getD i Str.empty)) hL (fun _ h => sameT h hx) (big_size (by omega)) ?_ ?_⟩
  · intro i x H1 Q1 hi hxi hs q1
    obtain ⟨d, hdi, hdp⟩ := DpAll_get (DpAll_same hs hr0) hxi
    have hobj : dObj d = true := List.all_eq_true.mp ho d (List.mem_of_getElem? hdi)
    obtain ⟨p, z, k, rfl, hp, hz, rfl⟩ := obj_parts hdp hobj
    have e : (ds.map fstS).getD i Str.empty = z := by
      simp only [List.getD, List.getElem?_map, hdi]
      exact hz
    have q2 := q1 H1 (Same.refl H1)
    rw [e] at q2
    exact ⟨_, rfl, p, _, 0, _, rfl, rfl, hp, atI_nat (j := 0) rfl, q2⟩
  intro H1 s1 hL1
  have eL : (List.range xs.length).map (fun i => V.str ((ds.map fstS).getD i Str.empty)) = (ds.map fstS).map V.str := by
    apply List.ext_getElem?
    intro i
    simp only [List.getElem?_map]
    by_cases h : i < ds.length
    · rw [List.getElem?_range (by omega), List.getElem?_eq_getElem h]
      simp [List.getD, h]
    · rw [List.getElem?_eq_none (by first | omega | (simp; omega)), List.getElem?_eq_none (by first | omega | (simp; omega))]
      rfl
  rw [eL] at hL1
  generalize hzs : ds.map fstS = zs at hL1 q
  have hzl : zs.length = ds.length := by rw [← hzs, List.length_map]
  -- all([one < other for one, other in zip(firsts, firsts[1:])])
  refine ⟨.ref L, rfl, .ref L, rfl, 1, rfl, L, zs.map V.str, rfl, SqL.of hL1, fun C hC => ?_⟩
  have sC : Same H1 (upd H1 C (.lst (cutV (zs.map V.str) (some 1) none))) := same_new hC
  have hLC := sC _ _ hL1
  have hCC : upd H1 C (.lst (cutV (zs.map V.str) (some 1) none)) C = some (.lst ((zs.map V.str).drop 1)) := by rw [upd_same, cut_one]
  generalize upd H1 C (.lst (cutV (zs.map V.str) (some 1) none)) = H2 at sC hLC hCC
  refine ⟨L, C, zs.map V.str, (zs.map V.str).drop 1, rfl, SqL.of hLC, SqL.of hCC, fun D2 hD2 => ?_⟩
  refine lc_it (walk_zip (xs := zs.map V.str) (ys := (zs.map V.str).drop 1) (n := zs.length - 1) (by simp)) (fun i H => Same H2 H ∧ H D2 = some (.lst ((List.range i).map fun i => V.bl (decide ((zs.getD i Str.empty).cps.toList < (zs.getD (i + 1) Str.empty).cps.toList))))) ⟨same_new hD2, by rw [upd_same]; rfl⟩ (fun i H _ h => ⟨SqL.of (h.1 _ _ hLC), SqL.of (h.1 _ _ hCC)⟩) ?_ ?_
  · rintro i x H3 H4 hi ⟨s3, h3⟩ ⟨T, x1, x2, rfl, nT, rfl, e1, e2⟩
    have i1 : i < zs.length := by omega
    have i2 : i + 1 < zs.length := by omega
    have e1' : V.str zs[i] = x1 := by
      dsimp only at e1
      rw [List.getElem?_map, List.getElem?_eq_getElem i1] at e1
      exact Option.some.inj e1
    have e2' : V.str zs[i + 1] = x2 := by
      dsimp only at e2
      rw [List.getElem?_drop, Nat.add_comm 1 i, List.getElem?_map, List.getElem?_eq_getElem i2] at e2
      exact Option.some.inj e2
    subst e1' e2'
    have sT : Same H3 (upd H3 T (.tup [V.str zs[i], V.str zs[i + 1]])) := same_new nT
    refine ⟨T, _, rfl, .inl (.inl upd_same), rfl, _, _, rfl, _, _, rfl, rfl, ?_⟩
    refine ⟨rfl, ?_⟩
    unfold tYes
    dsimp only
    rw [if_pos rfl]
    refine ⟨_, rfl, _, rfl, _, _, rfl, rfl, _, sT _ _ h3, ?_, ?_, ?_⟩
    · rw [List.length_map, List.length_range]
      exact big_size (by omega)
    · intro b o e
      rw [upd_ne (ne_of_none e hD2)]
      exact sT _ _ (s3 _ _ e)
    · rw [upd_same, List.range_succ, List.map_append]
      have g1 : zs.getD i Str.empty = zs[i] := by simp [List.getD, List.getElem?_eq_getElem i1]
      have g2 : zs.getD (i + 1) Str.empty = zs[i + 1] := by simp [List.getD, List.getElem?_eq_getElem i2]
      simp only [List.map_cons, List.map_nil, g1, g2]
  · rintro H3 ⟨s3, h3⟩
    refine ⟨D2, (List.range (zs.length - 1)).map (fun i => decide ((zs.getD i Str.empty).cps.toList < (zs.getD (i + 1) Str.empty).cps.toList)), rfl, SqL.of (by rw [h3, List.map_map]; rfl), ?_⟩
    rw [rises_range]
    exact q H3 (s1.trans (sC.trans s3))
theorem sc_objs : FnScope ["thing", "pair"] ["thing"] (defScope (topS 8)) := ⟨rfl, rfl, rfl, by decide +kernel, rfl, by decide +kernel, by decide +kernel⟩
theorem ok_objs {f f1 f2 : Addr} {fd fd1 fd2 : FuncData} (D : Df K mg "is_objects" (topS 8) ["thing"] f fd) (D1 : Df K mg "is_object" (topS 7) ["thing"] f1 fd1) (D2 : Df K mg "has_rising_firsts" (topS 6) ["pairs"] f2 fd2) (B : Bt mg)
    (G1 : FnOk P w K mg base CX0 2 f1 fd1 ["thing"] (spLook K dObj)) (G2 : FnOk P w K mg base CX0 1 f2 fd2 ["pairs"] (spRise K)) : FnOk P w K mg base CX0 3 f fd ["thing"] (spLook K dObjs) := by
  refine D.fn.ok sc_objs (fun vs H Q E h => ?_) (fun cdv A outer s H vs Q E hr h => ?_)
  · obtain ⟨v, d, rfl, _⟩ := h
    rfl
  obtain ⟨v, d, rfl, hd, ⟨M, hf⟩, q⟩ := h
  refine ⟨_, pss_cons (ps_if (PW.pt (pw_or (pt_not (pt_val (pe_callB call_isi (by rfl) B.isi (by decide +kernel) (pa_cons (pv 0) (pa_cons (pe_bltn (v := .ty "tuple") (by rfl) B.tuple (by decide +kernel) rfl) pa_nil)))))
      (pw_or1 (pt_cmpR op_eq (pe_callB call_len_seq (by rfl) B.len PySem.boot_len (pa_cons (pv 0) pa_nil)) pe_int (nomark _))))) (pss_one (ps_ret pe_bl)) pss_nil)
    (pss_one (ps_ret (pe_and (pe_callB (cr_all rfl) (by rfl) B.all (by decide +kernel) (pa_cons (pe_lc (own := [("pair", 1)]) (g := gName 1) (tt := tYes) rfl sc_objs.nd (pi_tup (pv 0))
      (blkOk_by (N := ["thing", "pair"]) (sc := defScope (topS 8)) (by decide +kernel)) (fun _ _ _ _ _ => pg_name (i := 1) sc_objs.nd rfl (Or.inl rfl)) (fun _ _ _ _ _ => pts_nil)
      (fun _ _ _ _ _ => pe_call G1 hr (by rfl) D1.gl D1.fn.kp D1.bd .nil pass0 (pa_cons (pv 1) pa_nil))) pa_nil))
      (pe_one (pe_call G2 (hr.mono (by decide)) (by rfl) D2.gl D2.fn.kp D2.bd .nil pass0 (pa_cons (pv 0) pa_nil)))))), ?_⟩
  obtain ⟨t1, ty1, k1⟩ := isa_tup hd
  refine ⟨v, rfl, v, .ty "tuple", t1, _, _, rfl, .ty _, ty1, k1, _, rfl, ?_⟩
  cases hd with
  | @tup a xs ds hx hr0 =>
    have hlen := DpAll_len hr0
    obtain ⟨hl, _, _, hin⟩ := hf.inTup
    refine iteF ⟨_, rfl, a, _, rfl, .inr hx, rfl, _, rfl, ?_⟩
    refine ite2 (fun c => ?_) (fun c => ?_)
    · have c' : xs.length = 0 := by
        have z := of_decide_eq_true c
        injection z with z
        omega
      have e : dObjs (.tuple ds) = false := by
        have : ds = [] := List.eq_nil_of_length_eq_zero (by omega)
        subst this
        rfl
      rw [← e]
      exact q H (Same.refl H)
    · have c' : ds ≠ [] := fun z => c (by
        subst z
        have : xs.length = 0 := by simpa using hlen
        rw [this]
        rfl)
      refine ⟨_, rfl, a, rfl, ⟨_, hx⟩, fun L hL => lc_map (walk_tup (xs := xs)) (fun i => V.bl (dObj (ds.getD i .none))) hL (fun _ h => sameT h hx) (big_size (by omega)) ?_ ?_⟩
      · intro i x H1 Q1 hi hxi hs q1
        obtain ⟨d, hdi, hdp⟩ := DpAll_get (DpAll_same hs hr0) hxi
        have e : ds.getD i .none = d := by simp [List.getD, hdi]
        rw [e] at q1
        exact ⟨x, rfl, x, d, rfl, hdp, ⟨M, (hin d (List.mem_of_getElem? hdi)).mono (Nat.le_refl _) (Nat.le_refl _) (by omega) (Nat.le_refl _)⟩, q1⟩
      · intro H1 s1 hL1
        have eL : (List.range xs.length).map (fun i => V.bl (dObj (ds.getD i .none))) = (ds.map dObj).map V.bl := by
          apply List.ext_getElem?
          intro i
          simp only [List.getElem?_map]
          by_cases h : i < ds.length
          · rw [List.getElem?_range (by omega), List.getElem?_eq_getElem h]
            simp [List.getD, h]
          · rw [List.getElem?_eq_none (by first | omega | (simp; omega)), List.getElem?_eq_none (by first | omega | (simp; omega))]
            rfl
        rw [eL] at hL1
        have ea : (ds.map dObj).all id = ds.all dObj := by rw [List.all_map]; rfl
        refine ⟨L, ds.map dObj, rfl, SqL.of hL1, _, rfl, ?_⟩
        have e : dObjs (.tuple ds) = (ds.all dObj && rises (ds.map fstS)) := by
          show (!ds.isEmpty && ds.all dObj && rises (ds.map fstS)) = _
          cases ds with
          | nil => exact absurd rfl c'
          | cons _ _ => simp
        refine ite2 (fun c => ?_) (fun c => ?_)
        · rw [ea] at c
          refine ⟨_, rfl, _, ds, rfl, .tup (sameT s1 hx) (DpAll_same s1 hr0), hl, c, fun H2 s2 => ?_⟩
          refine q_of ?_ (q H2 (s1.trans s2))
          rw [e, c, Bool.true_and]
        · rw [ea] at c
          have c2 : ds.all dObj = false := by simpa using c
          refine q_of ?_ (q H1 s1)
          rw [e, c2, Bool.false_and]
  | non => exact iteT (q H (Same.refl H))
  | bl b => exact iteT (q H (Same.refl H))
  | int i => exact iteT (q H (Same.refl H))
  | str z => exact iteT (q H (Same.refl H))
  | lst h r => exact iteT (q H (Same.refl H))
end
end Sw
set_option maxRecDepth 100000
set_option maxHeartbeats 4000000
namespace Sw
open PySem PySem.Spec PyProof.Rows L2

/-! ### sets of texts -/
def Mem1 (w : World) (e : Int × Value) (x : Str) : Prop := ∃ t, e.2 = Value.str x t ∧ e.1 = hashStr w x
/-- the set at a holds the texts L, none twice -/
def TxtSet (w : World) (h : Heap) (a : Addr) (L : List Str) : Prop :=
  ∃ o es ep t, h.get? a = some o ∧ o.ExactSet ∧ o.data = .set es ep t ∧ Paired (Mem1 w) es.toList L ∧ L.Nodup ∧ es.size < scanBound ∧ t.fits es.size = true ∧ Ris t.place.toList ∧
    (w.params.followText "set-order" = true ∨ t.led = true)
theorem TxtSet.at {w : World} {h h' : Heap} {a : Addr} {L : List Str} (R : TxtSet w h a L) (k : ∀ o, h.get? a = some o → h'.get? a = some o) : TxtSet w h' a L := by
  obtain ⟨o, es, ep, t, ho, r⟩ := R
  exact ⟨o, es, ep, t, k o ho, r⟩
theorem paired_perm {α β : Type} {R : α → β → Prop} : ∀ {l l' : List α}, l'.Perm l → ∀ {L : List β}, Paired R l L → ∃ L', Paired R l' L' ∧ L'.Perm L := by
  intro l l' p
  induction p with
  | nil => intro L h; cases h; exact ⟨[], .nil, .nil⟩
  | cons x p ih =>
    intro L h
    cases h with
    | cons r t =>
      obtain ⟨L', h1, h2⟩ := ih t
      exact ⟨_ :: L', .cons r h1, h2.cons _⟩
  | swap x y l =>
    intro L h
    cases h with
    | cons r1 t =>
      cases t with
      | cons r2 t => exact ⟨_ :: _ :: _, .cons r2 (.cons r1 t), .swap _ _ _⟩
  | trans p q ih1 ih2 =>
    intro L h
    obtain ⟨L1, h1, h2⟩ := ih2 h
    obtain ⟨L2, h3, h4⟩ := ih1 h1
    exact ⟨L2, h3, h4.trans h2⟩
theorem mem_elems {P : Program} {w : World} : ∀ {l : List (Int × Value)} {L : List Str}, Paired (Mem1 w) l L → ElemsOf (strKind P w) l
  | _, _, .nil, _, he => by simp at he
  | _, _, .cons r t, e, he => by
    rcases List.mem_cons.mp he with rfl | he
    · obtain ⟨tk, h1, h2⟩ := r
      exact ⟨⟨_, by rw [h1]; exact strKind_is P w _ tk, h2⟩, by rw [h1]; rfl⟩
    · exact mem_elems t e he
theorem is_iff {P : Program} {w : World} {x y : Str} {t : Tok} : (strKind P w).is x (.str y t) = true ↔ y = x := by
  show Value.isStrOf x (.str y t) = true ↔ _
  simp [Value.isStrOf]
theorem found_mem {P : Program} {w : World} {x : Str} : ∀ {l : List (Int × Value)} {L : List Str}, Paired (Mem1 w) l L → ((∃ e ∈ l, (strKind P w).is x e.2 = true) ↔ x ∈ L)
  | _, _, .nil => by simp
  | _, _, .cons (a := e0) (b := y) r t => by
    have ih := found_mem (P := P) (w := w) (x := x) t
    obtain ⟨tk, h1, _⟩ := r
    constructor
    · rintro ⟨e, he, h⟩
      rcases List.mem_cons.mp he with rfl | he
      · rw [h1, is_iff] at h
        rw [h]
        exact List.mem_cons_self
      · exact List.mem_cons_of_mem _ (ih.mp ⟨e, he, h⟩)
    · intro h
      rcases List.mem_cons.mp h with rfl | h
      · exact ⟨e0, List.mem_cons_self, by rw [h1, is_iff]⟩
      · obtain ⟨e, he, h⟩ := ih.mpr h
        exact ⟨e, List.mem_cons_of_mem _ he, h⟩
section
variable {P : Program} {w : World} {A : Around} {E : Value → Shared → Prop} {s : Shared} {a : Addr} {L : List Str}
theorem txt_store {g : Bool → Sem Unit} (hg : ∀ (b : Bool) (s₁ : Shared) (Q' : Unit → Shared → Prop), Q' () s₁ → wpAny (model P w) A (g b) Q' E s₁)
    {o : Obj} {es es1 : Array (Int × Value)} {ep : Nat} {t t2 : SetTable} (ho : s.heap.get? a = some o) (hex : o.ExactSet) (hd : o.data = .set es ep t) (pr : Paired (Mem1 w) es1.toList L) (nd : L.Nodup)
    (hb : es1.size < scanBound) (hf : t2.fits es1.size = true) (hr : Ris t2.place.toList) (hl : w.params.followText "set-order" = true ∨ t2.led = true) {dm : Bool} {R : Option Bool → Shared → Prop}
    (hR : ∀ h' L', Heap.SameBut a s.heap h' → TxtSet w h' a L' → L'.Perm L → R (some true) { s with heap := h' }) :
    wpAny (model P w) A (do
        storeSet a es1 t2
        if (!dm && t2.tooFull) = true then do
            g (relayAll t2 es1 (SetTable.grown es1.size)).2.2
            storeSet a (relayAll t2 es1 (SetTable.grown es1.size)).1 (relayAll t2 es1 (SetTable.grown es1.size)).2.1
            pure (some true)
          else pure (some true)) R E s := by
  refine wpAny_bind (wpAny_storeSet_of ho hd ?_ (fits_of_scanBound hb))
  have o1 := store_at (es' := es1) (t' := t2) ho hd
  have sb := Heap.SameBut.update s.heap a (Obj.putSet es1 t2)
  split
  · have p1 := relayAll_perm t2 es1 (SetTable.grown es1.size)
    have p2 := relayAll_fits t2 es1 (SetTable.grown es1.size)
    have p3 := relayAll_ris t2 es1 (SetTable.grown es1.size)
    have p4 := relayAll_led t2 es1 (SetTable.grown es1.size)
    generalize relayAll t2 es1 (SetTable.grown es1.size) = Z at p1 p2 p3 p4 ⊢
    obtain ⟨es2, t3, gv⟩ := Z
    dsimp only at p1 p2 p3 p4 ⊢
    obtain ⟨L', q1, q2⟩ := paired_perm p1 pr
    have sz : es2.size = es1.size := by
      have := p1.length_eq
      simpa using this
    have hb2 : es2.size < scanBound := by omega
    refine wpAny_bind (hg gv _ _ ?_)
    refine wpAny_bind (wpAny_storeSet_of o1 rfl ?_ (fits_of_scanBound hb2))
    refine wpAny_pure (hR _ L' (sb.trans (Heap.SameBut.update _ a _)) ?_ q2)
    exact ⟨_, es2, _, t3, store_at (es' := es2) (t' := t3) o1 rfl, hex, rfl, q1, q2.nodup_iff.mpr nd, hb2, p2, p3, hl.imp id fun z => by rw [p4]; exact z⟩
  · exact wpAny_pure (hR _ L sb ⟨_, es1, _, t2, o1, hex, rfl, pr, nd, hb, hf, hr, hl⟩ (.refl _))
theorem txt_add {x : Str} {tk : Tok} {Q : Bool → Shared → Prop} (R : TxtSet w s.heap a L) (room : L.length + 1 < scanBound)
    (hQ : ∀ b h' L', Heap.SameBut a s.heap h' → TxtSet w h' a L' → (x ∈ L ∧ L' = L ∨ x ∉ L ∧ L'.Perm (x :: L)) → Q b { s with heap := h' }) :
    wpAny (model P w) A (setAddHashed a (.str x tk) ((strKind P w).hash x)) Q E s := by
  obtain ⟨o, es, ep, t, ho, hex, hd, pr, nd, hb, hf, hr, hl⟩ := R
  have el : ElemsOf (strKind P w) es.toList := mem_elems pr
  have sc : (Value.str x tk).scannable = true := rfl
  have key : (strKind P w).is x (.str x tk) = true := strKind_is P w x tk
  have hlen : es.size = L.length := by have := pr.length; simpa using this
  unfold setAddHashed setAddHashedIn
  refine wpAny_holding (wpAny_bind (wpAny_setState_of ho hd hf ?_))
  dsimp only
  rw [byScan_of sc hb el]
  simp only [↓reduceIte]
  unfold setAddByScan
  refine wpAny_bind (wpAny_bind (wpAny_rule (wpAny_bind (wpAny_setScan_of key ho hd hf el ?_))))
  cases hfi : List.findIdx? (fun e => (strKind P w).is x e.2) es.toList with
  | some j =>
    obtain ⟨hj, pj, _⟩ := List.findIdx?_eq_some_iff_getElem.mp hfi
    have hx : x ∈ L := (found_mem (P := P) pr).mp ⟨_, List.getElem_mem hj, pj⟩
    exact wpAny_pure (wpAny_pure (hQ _ s.heap L (Heap.SameBut.refl a s.heap) ⟨o, es, ep, t, ho, hex, hd, pr, nd, hb, hf, hr, hl⟩ (.inl ⟨hx, rfl⟩)))
  | none =>
    dsimp only
    have hx : x ∉ L := fun z => by
      obtain ⟨e, he, q⟩ := (found_mem (P := P) pr).mpr z
      have c := List.findIdx?_eq_none_iff.mp hfi e he
      rw [q] at c
      cases c
    have gw : ∀ (b : Bool) {s₁ : Shared} {Q' : Unit → Shared → Prop}, Q' () s₁ → wpAny (model P w) A (match b with | true => rule "set.scan.the-table-gave-way" | false => pure ()) Q' E s₁ := by
      intro b s₁ Q' q
      cases b
      · exact wpAny_pure q
      · exact wpAny_rule q
    have p1 := layNew_perm t es ((strKind P w).hash x) (.str x tk)
    have p2 := layNew_fits t es ((strKind P w).hash x) (.str x tk)
    have p3 := layNew_ris t es ((strKind P w).hash x) (.str x tk) hr
    have p4 := layNew_led t es ((strKind P w).hash x) (.str x tk)
    generalize layNew t es ((strKind P w).hash x) (.str x tk) = Z at p1 p2 p3 p4 ⊢
    obtain ⟨es1, t1, dm, gv⟩ := Z
    dsimp only at p1 p2 p3 p4 ⊢
    rw [Array.toList_push] at p1
    have pr1 : Paired (Mem1 w) (((strKind P w).hash x, Value.str x tk) :: es.toList) (x :: L) := .cons ⟨tk, rfl, rfl⟩ pr
    obtain ⟨L1, q1, q2⟩ := paired_perm (p1.trans (List.perm_append_singleton _ _)) pr1
    have nd1 : L1.Nodup := q2.nodup_iff.mpr (List.nodup_cons.mpr ⟨hx, nd⟩)
    have sz1 : es1.size = L.length + 1 := by
      have h1 := q1.length
      have h2 := q2.length_eq
      simp at h1 h2
      omega
    have hb1 : es1.size < scanBound := by omega
    have hl1 : w.params.followText "set-order" = true ∨ t1.led = true := hl.imp id fun z => by rw [p4]; exact z
    have fin : ∀ h' L', Heap.SameBut a s.heap h' → TxtSet w h' a L' → L'.Perm L1 → Q true { s with heap := h' } := fun h' L' sb r pm => hQ true h' L' sb r (.inr ⟨hx, pm.trans q2⟩)
    refine wpAny_bind (gw _ ?_)
    split
    · refine wpAny_bind ?_
      rw [hashByValue_scannable 8 sc]
      refine wpAny_pure ?_
      refine txt_store (L := L1) ?_ ho hex hd q1 nd1 hb1 ?_ ?_ ?_ ?_
      · intro b s₁ Q' q; cases b <;> first | exact wpAny_pure q | exact wpAny_rule q
      · first | (split <;> first | exact p2 | exact SetTable.fits_plain_off p2) | exact p2
      · first | (split <;> exact p3) | exact p3
      · first | (split <;> exact hl1) | exact hl1
      · intro h' L' sb r pm; dsimp only; exact wpAny_pure (fin h' L' sb r pm)
    · refine wpAny_bind (wpAny_pure ?_)
      simp only [↓reduceIte]
      refine txt_store (L := L1) ?_ ho hex hd q1 nd1 hb1 p2 p3 hl1 ?_
      · intro b s₁ Q' q; cases b <;> first | exact wpAny_pure q | exact wpAny_rule q
      · intro h' L' sb r pm; dsimp only; exact wpAny_pure (fin h' L' sb r pm)
end
end Sw
set_option maxRecDepth 100000
set_option maxHeartbeats 4000000
namespace Sw
open PySem PySem.Spec PyProof.Rows L2
/-- L: what is met in the first i of xs -/
def Met (xs : List Str) (i : Nat) (L : List Str) : Prop := L.length ≤ i ∧ ∀ x, x ∈ L ↔ x ∈ xs.take i
theorem Met.step {xs L L' : List Str} {i : Nat} {x : Str} (g : Met xs i L) (hx : xs[i]? = some x) (h : x ∈ L ∧ L' = L ∨ x ∉ L ∧ L'.Perm (x :: L)) : Met xs (i + 1) L' := by
  have et : xs.take (i + 1) = xs.take i ++ [x] := by rw [List.take_add_one, hx]; rfl
  rcases h with ⟨hm, rfl⟩ | ⟨hm, pm⟩
  · refine ⟨Nat.le_succ_of_le g.1, fun y => ?_⟩
    rw [et, List.mem_append, ← g.2 y]
    constructor
    · exact .inl
    · rintro (h | h)
      · exact h
      · rw [List.mem_singleton.mp h]; exact hm
  · refine ⟨by rw [pm.length_eq, List.length_cons]; exact Nat.succ_le_succ g.1, fun y => ?_⟩
    rw [pm.mem_iff, et, List.mem_append, ← g.2 y, List.mem_cons, List.mem_singleton]
    exact Or.comm
section
variable {P : Program} {w : World} {A : Around} {E : Value → Shared → Prop} {s : Shared}
theorem txt_update {I : Addr} {fp wr : List Addr} {G : Array GenState → Array GenState → Prop} {n : Nat} {Pv : Nat → Value → Prop} {St : Nat → Shared → Prop} {R : Result → Shared → Prop} (W : WalksS P w A.in1 I fp wr G n Pv St)
    (S : Addr) (hSf : S ∉ fp) (xs : List Str) (hn : n = xs.length) (few : n + 1 < scanBound) (hval : ∀ i v, Pv i v → ∃ x t, xs[i]? = some x ∧ v = .str x t) :
    ∀ (k i : Nat) (s : Shared), n - i = k → i ≤ n → St i s → (∃ L, TxtSet w s.heap S L ∧ Met xs i L) → (∀ s' L, Moved (S :: wr) G s s' → TxtSet w s'.heap S L → Met xs n L → R (.ok (.ret .none)) s') →
      codeAny (model P w) A (.builtin "set.update.loop" ⟨[.ref S, .ref I], []⟩) R s := by
  have nw : S ∉ wr := fun h => hSf (W.sub _ h)
  have up : ∀ b ∈ wr, b ∈ S :: wr := fun b hb => List.mem_cons_of_mem _ hb
  intro k
  induction k with
  | zero =>
    rintro i s hk hi st ⟨L, hS, g⟩ hR
    obtain rfl : i = n := by omega
    refine codeAny_builtin PyProof.Rows.F.entry_set_update_loop ?_; rw [Around.under_plainId PyProof.Rows.F.plain_set_update_loop _]
    show wpAny _ A.in1 (pyNext (.ref I) >>= _) _ _ s
    refine wpAny_bind (W.done s _ _ st ?_)
    intro s' hm
    show wpAny _ A.in1 (ret Value.none) _ _ s'
    exact wpAny_pure (hR s' L (hm.mono up) (hS.at fun o e => hm.heap S o nw e) g)
  | succ k ih =>
    rintro i s hk hi st ⟨L, hS, g⟩ hR
    have lt : i < n := by omega
    refine codeAny_builtin PyProof.Rows.F.entry_set_update_loop ?_; rw [Around.under_plainId PyProof.Rows.F.plain_set_update_loop _]
    show wpAny _ A.in1 (pyNext (.ref I) >>= _) _ _ s
    refine wpAny_bind (W.item i s _ _ lt st ?_)
    intro v s' hP st' hm
    obtain ⟨x, t, hx, rfl⟩ := hval i v hP
    have hS' : TxtSet w s'.heap S L := hS.at fun o e => hm.heap S o nw e
    show wpAny _ A.in1 (holding [Value.str x t] (setAdd S (.str x t)) >>= _) _ _ s'
    refine wpAny_bind (wpAny_holding ?_)
    unfold setAdd
    refine wpAny_holding (wpAny_bind ((strKind P w).pyHash (k := x) (strKind_is P w x t) ?_))
    refine txt_add (s := { s' with toks := s'.toks + 1 }) hS' (by have := g.1; omega) ?_
    intro b h' L' sb hS2 hL
    refine wpAny_pure ⟨plainId_quiet PyProof.Rows.F.plain_set_update_loop _, ih (i + 1) _ (by omega) lt (W.frame _ s' _ _ st' (Nat.le_succ _) ?_) ⟨L', hS2, g.step hx hL⟩ ?_⟩
    · intro c hc o e
      rw [sb.2 c (fun z : c = S => hSf (z ▸ hc))]
      exact e
    · intro s'' L2 hm2 hS3 g3
      refine hR s'' L2 (Moved.trans W.gtrans ((hm.mono up).then_heap (Nat.le_succ _) ?_) hm2) hS3 g3
      intro c o hc e
      rw [sb.2 c (fun z : c = S => hc (by rw [z]; exact List.mem_cons_self))]
      exact e
/-- the object that set.__new__ lays -/
abbrev newSetO (w : World) : Obj := { cls := .type "set", dict := none, data := .set #[] 0 (.fresh 0 0 (!w.params.followText "set-order")) }
theorem txt_fresh {h : Heap} {a : Addr} (e : h.get? a = some (newSetO w)) : TxtSet w h a [] := by
  refine ⟨_, #[], 0, _, e, ⟨rfl, rfl, rfl⟩, rfl, .nil, List.nodup_nil, by decide, by rfl, List.Pairwise.nil, ?_⟩
  show _ ∨ (!w.params.followText "set-order") = true
  cases w.params.followText "set-order"
  · exact .inr rfl
  · exact .inl rfl
theorem call_set_txts {l : Addr} {items : Array Value} (xs : List Str) {Q : Value → Shared → Prop} (hh : A.handled = none) (hl : s.heap.IsList l items) (hit : StrsAre items.toList xs) (few : xs.length + 1 < scanBound)
    (h : ∀ (h' : Heap) (tk : Nat) L, TxtSet w h' s.heap.objs.size L → Met xs xs.length L → (∀ b o, s.heap.get? b = some o → h'.get? b = some o) → Q (.ref s.heap.objs.size) { s with heap := h', toks := tk }) :
    wpAny (model P w) A (call (.type "set") [.ref l]) Q E s := by
  have isz : items.size = xs.length := by have := hit.length; simpa using this
  obtain ⟨c, tl, hmro⟩ := F.called_set.mro
  have hmade := F.called_set.made
  have hsub := F.called_set.sub
  refine wpAny_call (codeAny_of_tree ?_)
  show wpAny _ _ (callAny (.type "set") _) _ _ _
  refine wpAny_pure ⟨Code.quiet_builtin _ (by decide +kernel), codeAny_builtin F.entry_type_call ?_⟩
  rw [Around.under_plain (weight_type_call_type "set" [.ref l] []) rfl]
  have h1 := F.called_set.notType
  have h2 := F.called_set.canCreate
  have hct := F.typeCall_set_1 (.ref l)
  repeat (any_goals (first | assumption | wp_step))
  refine codeAny_mono (code_set_led1 (.ref l) (E := E) (Q₁ := fun obj s1 => obj = .ref s.heap.objs.size ∧ s1 = { s with heap := s.heap.push (newSetO w) }) ⟨rfl, rfl⟩) ?_
  intro r s1 hr
  cases r with
  | error e => exact hr
  | ok fl =>
    cases fl with
    | ret obj =>
      obtain ⟨rfl, rfl⟩ := hr
      have hS : (s.heap.push (newSetO w)).get? s.heap.objs.size = some (newSetO w) := Heap.get?_push_size _ rfl
      have hT : Shared.TypeIs { s with heap := s.heap.push (newSetO w) } (.ref s.heap.objs.size) "set" := ⟨_, hS, rfl⟩
      have hli := F.called_set.init.lookup
      have hbi := F.called_set.init.bind (.ref s.heap.objs.size)
      repeat (any_goals (first | assumption | wp_step))
      refine codeAny_mono (codeAny_call_builtin (R := wants (fun r s2 => r = .none ∧ ∃ h' tk L, s2 = { s with heap := h', toks := tk } ∧ TxtSet w h' s.heap.objs.size L ∧ Met xs xs.length L ∧
          (∀ b o, s.heap.get? b = some o → h'.get? b = some o)) E) F.called_set.init.plain F.entry_set_init (check_set_init_1 hT ?_)) ?_
      · obtain ⟨ol, hol, hcl, nl, hdl⟩ := hl
        obtain ⟨ocls, odict, odata, oslots⟩ := ol
        simp only at hcl hdl
        subst hcl
        subst hdl
        have hol' : (s.heap.push (newSetO w)).get? l = some { cls := .type "list", dict := odict, data := .seq items nl, slots := oslots } := Heap.get?_push_of_some _ hol
        have hsls := F.sub_list_set
        have hslf := F.sub_list_frozenset
        have hne : (Value.type "list" == Value.type "dict") = false := by decide
        have hl1 : (s.heap.push (newSetO w)).IsList l items := ⟨_, hol', rfl, nl, rfl⟩
        unfold Builtin.«set.__init__» noKeywords Builtin.Frozenset.updateFrom
        generalize hPI : pyIter = PI
        wp_walk
        subst hPI
        refine wpAny_pyIter_list hl1 (wpAny_bind (wpAny_runValue ?_))
        have hlS : l < s.heap.objs.size := Heap.lt_size hol
        have zp : (s.heap.push (newSetO w)).objs.size = s.heap.objs.size + 1 := Heap.size_push ..
        have neI : l ≠ (s.heap.push (newSetO w)).objs.size := by rw [zp]; exact Nat.ne_of_lt (Nat.lt_succ_of_lt hlS)
        have nS : s.heap.objs.size ∉ [(s.heap.push (newSetO w)).objs.size, l] := by
          rw [zp]
          simp only [List.mem_cons, List.not_mem_nil, or_false, not_or]
          exact ⟨Nat.ne_of_lt (Nat.lt_succ_self _), Nat.ne_of_gt hlS⟩
        have hval : ∀ (i : Nat) (v : Value), items[i]? = some v → ∃ x t, xs[i]? = some x ∧ v = .str x t := fun i v hv => by
          obtain ⟨y, t, e1, e2⟩ := hit.item i v (by rw [Array.getElem?_toList]; exact hv)
          exact ⟨y, t, e2, e1⟩
        refine txt_update ((Walks.list (by simp [hh]) _ l neI items).toS) s.heap.objs.size nS xs isz (by omega) hval (items.size - 0) 0 _ (by omega) (Nat.zero_le _)
          ⟨⟨_, Heap.get?_push_size _ rfl, rfl, rfl⟩, (hl1.push _)⟩ ⟨[], txt_fresh (Heap.get?_push_of_some _ hS), Nat.le_refl _, by simp⟩ ?_
        intro s' L hm hS' g'
        obtain ⟨h', g2, d', tk', os'⟩ := s'
        have eg : g2 = s.gens := hm.gens
        have ed : d' = s.drawn := hm.drawn
        have eo : os' = s.os := hm.os
        subst eg ed eo
        show wpAny _ _ _ _ _ _
        refine wpAny_pure ?_
        show wpAny _ _ (ret Value.none) _ _ _
        rw [isz] at g'
        refine wpAny_pure ⟨rfl, h', tk', L, rfl, hS', g', fun c o e => ?_⟩
        have lc : c < s.heap.objs.size := Heap.lt_size e
        refine hm.heap c o ?_ (Heap.get?_push_of_some _ (Heap.get?_push_of_some _ e))
        simp only [List.mem_cons, List.not_mem_nil, or_false, not_or]
        refine ⟨Nat.ne_of_lt lc, ?_⟩
        rw [zp]
        exact Nat.ne_of_lt (Nat.lt_succ_of_lt lc)
      · intro r2 s2 hr2
        cases r2 with
        | error e => exact hr2
        | ok fl2 =>
          cases fl2 with
          | ret r =>
            obtain ⟨rfl, h', tk, L, rfl, hS', g', hk'⟩ := hr2
            repeat (any_goals (first | assumption | wp_step))
            exact h _ _ _ hS' g' hk'
          | _ => exact hr2.elim
    | _ => exact hr.elim
end
end Sw
set_option maxRecDepth 100000
set_option maxHeartbeats 4000000
namespace Sw
open PySem PySem.Spec PyProof.Rows L2
theorem strs_of_mem {w : World} : ∀ {l : List (Int × Value)} {L : List Str}, Paired (Mem1 w) l L → Paired (fun v x => ∃ t, v = Value.str x t) (l.map (·.2)) L
  | _, _, .nil => .nil
  | _, _, .cons ⟨t, h, _⟩ r => .cons ⟨t, h⟩ (strs_of_mem r)
theorem strs_of_paired : ∀ {l : List Value} {L : List Str}, Paired (fun v x => ∃ t, v = Value.str x t) l L → StrsAre l L
  | _, _, .nil => .nil
  | _, _, .cons ⟨t, h⟩ r => by
    subst h
    exact .cons _ t (strs_of_paired r)
section
variable {P : Program} {w : World} {A : Around} {E : Value → Shared → Prop} {s : Shared}
theorem sorted_txts {a : Addr} {L : List Str} {Q : Value → Shared → Prop} (R : TxtSet w s.heap a L) (hh : A.handled = none) (h64 : L.length < 64)
    (hQ : ∀ s' p (out : Array Value) (c : Nat) (ys : List Str), (∀ b o, s.heap.get? b = some o → s'.heap.get? b = some o) → s'.gens = s.gens → s'.os = s.os → s.heap.objs.size ≤ p →
      s'.heap.get? p = some (seqObj "list" out c) → StrsAre out.toList ys → ys.Perm L → sortedS ys = true → Q (.ref p) s') : wpAny (model P w) A (call (.builtin "sorted") [.ref a]) Q E s := by
  obtain ⟨o, es, ep, t, ho, hex, hd, pr, nd, hb, hf, hr, hl⟩ := R
  refine Calls.call_function_entry kind_sorted plain_sorted entry_sorted (args_sorted1 _) ?_
  unfold Builtin.«sorted»
  refine wpAny_bind (m := checkCount "sorted" 1 1 _) (wpAny_pure ?_)
  refine wpAny_bind (collect_set (A := A.in1) hh ⟨o, ho, hex.1, hd⟩ hf hb hr hl ?_)
  intro s1 vs k1 hz g1 o1 pm
  obtain ⟨L1, q1, q2⟩ := paired_perm pm (strs_of_mem pr)
  have hS := strs_of_paired q1
  have hvl : vs.length = L.length := by rw [q1.length, q2.length_eq]
  refine wpAny_bind (wpAny_newList ?_ (by rw [hvl, sizeLine_eq]; omega))
  have hoL : (s1.heap.push (seqObj "list" vs.toArray 0)).get? s1.heap.objs.size = some (seqObj "list" vs.toArray 0) := Heap.get?_push_size _ rfl
  refine wpAny_bind (wpAny_holding (wpAny_call_entry slot_list_sort ⟨_, hoL, rfl⟩ entry_list_sort (list_sort_treeK PyProof.Rows.strKind_oneLt hoL hS.keysOf (fun v₁ v₂ rest e => keyKind_strs (by rw [← e]; exact hS)) (by rw [hvl]; exact h64) ?_) (args_list_sort _)))
  intro st' hp hs
  obtain ⟨ys, a1, a2, a3⟩ := sorted_out_str hS hp hs
  generalize (arrOf st').map (·.2) = out at a1
  refine ⟨_, rfl, ?_⟩
  obtain ⟨c, hc⟩ := sortedHeap_at (vs := vs) (out := out) hoL
  refine wpAny_pure ⟨_, rfl, hQ _ s1.heap.objs.size out c ys ?_ g1 o1 hz hc a1 (a2.trans q2) a3⟩
  intro b u e
  have q := k1 b u e
  have lt := Heap.lt_size q
  show (sortedHeap (s1.heap.push (seqObj "list" vs.toArray 0)) s1.heap.objs.size vs out).get? b = some u
  rw [sortedHeap_old (Nat.ne_of_lt lt) (by rw [size_push']; exact Nat.lt_succ_of_lt lt)]
  exact Heap.get?_push_of_some _ q
end
/-- a set of texts as a thing of the abstract heap -/
def SetSO (w : World) (a : Addr) (L : List Str) : HO := .ext fun h => TxtSet w h a L
theorem setSO_ok {P : Program} {w : World} {H : Hp} {h : Heap} {a : Addr} {L : List Str} (R : TxtSet w h a L) : ObjOk P w H h a (SetSO w a L) := by
  refine ⟨R, ?_, fun h1 h2 r k => r.at k⟩
  obtain ⟨o, _, _, _, ho, _⟩ := R
  exact ⟨o, ho⟩
section
variable {X : Cx}
def rSetS (K : PySem.W.Frag) (w : World) : List V → Hp → VK → Prop := fun vs H Q => ∃ (l : Addr) (xs : List Str), vs = [.ref l] ∧ SqL K H l (xs.map V.str) ∧ xs.length ≤ 1000 ∧
  ∀ a L, H a = none → L.length ≤ xs.length → (∀ x, x ∈ L ↔ x ∈ xs) → Q (.ref a) (upd H a (SetSO w a L))
theorem cr_setS (hc : X.calm = true) : CallR X (.type "set") (rSetS X.K X.w) := by
  intro pins s σ H vs us Q I r h
  obtain ⟨l, xs, rfl, hl, hn, q⟩ := h
  obtain ⟨its, rv, hp, _⟩ := I.list hl
  rw [Vals.ref1 r]
  refine call_set_txts xs (I.ok.hd hc) hp.isList (by simpa using rv.strs) (by unfold scanBound; omega) ?_
  intro h' tk L hS g k
  have hf : H s.heap.objs.size = none := I.hok.fresh (Nat.le_refl _)
  refine ⟨.ref s.heap.objs.size, _, I.laid (t' := tk) (o := SetSO X.w s.heap.objs.size L) k (Nat.le_refl _) (setSO_ok hS), rfl, q _ L hf g.1 ?_⟩
  intro x
  have := g.2 x
  rwa [List.take_length] at this
def rSortedSS (w : World) : List V → Hp → VK → Prop := fun vs H Q => ∃ (a : Addr) (L : List Str), vs = [.ref a] ∧ H a = some (SetSO w a L) ∧ L.length < 64 ∧
  ∀ (ys : List Str) (p : Addr), ys.Perm L → L.Nodup → sortedS ys = true → H p = none → Q (.ref p) (upd H p (.lst (ys.map V.str)))
theorem cr_sortedSS (hc : X.calm = true) : CallR X (.builtin "sorted") (rSortedSS X.w) := by
  intro pins s σ H vs us Q I r h
  obtain ⟨a, L, rfl, ha, h64, q⟩ := h
  have R : TxtSet X.w s.heap a L := (I.hok a _ ha).1
  have nd : L.Nodup := by
    obtain ⟨_, _, _, _, _, _, _, _, nd, _⟩ := R
    exact nd
  rw [Vals.ref1 r]
  refine sorted_txts R (I.ok.hd hc) h64 ?_
  intro s' p out c ys k g o hp hg hi pm hs
  have hlen : (ys.map V.str).length ≤ sizeLine := by rw [List.length_map, pm.length_eq, sizeLine_eq]; omega
  have hn : H p = none := I.hok.fresh hp
  have J : Inv X pins σ (upd H p (.lst (ys.map V.str))) { s with heap := s'.heap, gens := s'.gens, drawn := s'.drawn, toks := s'.toks } :=
    I.call (ch := []) (Un.laid k hp hn) (I.hok.laid k hp ⟨hlen, out.toList, c, vals_of_strs hi, hg⟩) (by rw [g]; exact I.bare) (fun _ z => nomatch z)
  have e : s' = { s with heap := s'.heap, gens := s'.gens, drawn := s'.drawn, toks := s'.toks } := by
    cases s'; cases s; cases o; rfl
  rw [e]
  exact ⟨.ref p, _, J, rfl, q ys p pm nd hs hn⟩
end
end Sw
set_option maxRecDepth 100000
set_option maxHeartbeats 4000000
namespace Sw
open PySem PySem.Spec PyProof.Rows L2
def LtS (a b : Str) : Prop := a.cps.toList < b.cps.toList
theorem LtS.trans {a b c : Str} (h1 : LtS a b) (h2 : LtS b c) : LtS a c := List.lt_trans h1 h2
theorem LtS.irr {a : Str} : ¬ LtS a a := List.lt_irrefl _
theorem LtS.tri {a b : Str} (h : ¬ LtS b a) (hne : a ≠ b) : LtS a b := by
  have h1 : a.cps.toList ≤ b.cps.toList := h
  rcases List.le_iff_lt_or_eq.mp h1 with h2 | h2
  · exact h2
  · exfalso
    apply hne
    cases a with
    | mk x =>
      cases b with
      | mk y =>
        have : x = y := by
          have := congrArg List.toArray h2
          simpa using this
        rw [this]
theorem rises_pw : ∀ zs : List Str, rises zs = true ↔ zs.Pairwise LtS
  | [] => by simp [rises]
  | [_] => by simp [rises]
  | a :: b :: r => by
    have ih := rises_pw (b :: r)
    rw [show rises (a :: b :: r) = (decide (a.cps.toList < b.cps.toList) && rises (b :: r)) from rfl, Bool.and_eq_true, decide_eq_true_eq, ih]
    constructor
    · rintro ⟨h1, h2⟩
      refine List.pairwise_cons.mpr ⟨fun x hx => ?_, h2⟩
      rcases List.mem_cons.mp hx with rfl | hx
      · exact h1
      · exact LtS.trans h1 ((List.pairwise_cons.mp h2).1 x hx)
    · intro h
      obtain ⟨h1, h2⟩ := List.pairwise_cons.mp h
      exact ⟨h1 b List.mem_cons_self, h2⟩
theorem sorted_pw : ∀ (p : Str) (r : List Str), risingS p r = true → (p :: r).Nodup → (p :: r).Pairwise LtS
  | p, [], _, _ => by simp
  | p, x :: r, h, nd => by
    have h' : (!ltCps x.cps.toList p.cps.toList && risingS x r) = true := h
    rw [Bool.and_eq_true, ltCps_eq] at h'
    obtain ⟨n1, n2⟩ := List.nodup_cons.mp nd
    have ih := sorted_pw x r h'.2 n2
    have hx : LtS p x := LtS.tri (fun z => by have z2 := h'.1; rw [decide_eq_true (show x.cps.toList < p.cps.toList from z)] at z2; cases z2) (fun e => n1 (by rw [e]; exact List.mem_cons_self))
    refine List.pairwise_cons.mpr ⟨fun y hy => ?_, ih⟩
    rcases List.mem_cons.mp hy with rfl | hy
    · exact hx
    · exact LtS.trans hx ((List.pairwise_cons.mp ih).1 y hy)
theorem pw_unique : ∀ {ys zs : List Str}, ys.Pairwise LtS → zs.Pairwise LtS → (∀ x, x ∈ ys ↔ x ∈ zs) → ys = zs
  | [], [], _, _, _ => rfl
  | [], z :: zs, _, _, h => absurd ((h z).mpr List.mem_cons_self) List.not_mem_nil
  | y :: ys, [], _, _, h => absurd ((h y).mp List.mem_cons_self) List.not_mem_nil
  | y :: ys, z :: zs, h1, h2, h => by
    obtain ⟨a1, a2⟩ := List.pairwise_cons.mp h1
    obtain ⟨b1, b2⟩ := List.pairwise_cons.mp h2
    have e : y = z := by
      rcases List.mem_cons.mp ((h y).mp List.mem_cons_self) with e | m1
      · exact e
      · rcases List.mem_cons.mp ((h z).mpr List.mem_cons_self) with e | m2
        · exact e.symm
        · exact absurd ((b1 y m1).trans (a1 z m2)) LtS.irr
    subst e
    rw [pw_unique a2 b2]
    intro x
    constructor
    · intro hx
      rcases List.mem_cons.mp ((h x).mp (List.mem_cons_of_mem _ hx)) with e | m
      · subst e
        exact absurd (a1 x hx) LtS.irr
      · exact m
    · intro hx
      rcases List.mem_cons.mp ((h x).mpr (List.mem_cons_of_mem _ hx)) with e | m
      · subst e
        exact absurd (b1 x hx) LtS.irr
      · exact m
theorem eqvAll_strs : ∀ ys zs : List Str, PyData.eqvAll (ys.map .str) (zs.map .str) = decide (ys = zs)
  | [], [] => by simp [PyData.eqvAll]
  | [], _ :: _ => by simp [PyData.eqvAll]
  | _ :: _, [] => by simp [PyData.eqvAll]
  | y :: ys, z :: zs => by
    simp only [List.map_cons, PyData.eqvAll, PyData.eqv, eqvAll_strs ys zs]
    by_cases h1 : y = z <;> by_cases h2 : ys = zs <;> simp [h1, h2]
theorem eqv_strs (ys zs : List Str) : PyData.eqv (.list (ys.map .str)) (.list (zs.map .str)) = decide (ys = zs) := by
  simp only [PyData.eqv, eqvAll_strs]
theorem sorted_set_is {ys L zs : List Str} (pm : ys.Perm L) (nd : L.Nodup) (hs : sortedS ys = true) (hm : ∀ x, x ∈ L ↔ x ∈ zs) : decide (ys = zs) = rises zs := by
  have ndy : ys.Nodup := pm.nodup_iff.mpr nd
  have py : ys.Pairwise LtS := by
    cases ys with
    | nil => exact .nil
    | cons p r => exact sorted_pw p r hs ndy
  by_cases h : rises zs = true
  · rw [h, decide_eq_true_eq]
    exact pw_unique py ((rises_pw zs).mp h) fun x => by rw [pm.mem_iff, hm]
  · have h' : rises zs = false := by simpa using h
    rw [h', decide_eq_false_iff_not]
    intro e
    subst e
    exact h ((rises_pw _).mpr py)
end Sw
set_option maxRecDepth 100000
set_option maxHeartbeats 4000000
namespace Sw
open PySem PySem.Spec PyProof.Rows L2
/-- x is not True, x is not False, x an int or a bool -/
def rNotB2 : R2 := fun x y H Q => ∃ b : Bool, y = .bl b ∧ ((∃ i, x = .int i ∧ Q (.bl true) H) ∨ ∃ a, x = .bl a ∧ Q (.bl (!decide (a = b))) H)
theorem op_notB2 {X : Cx} : OpR X (compareOp .IsNot) rNotB2 := by
  intro pins s σ H x y v u Q I rx ry h
  obtain ⟨b, rfl, h⟩ := h
  cases (show u = Value.bool b from ry)
  rcases h with ⟨i, rfl, q⟩ | ⟨a, rfl, q⟩
  · obtain ⟨t, rfl⟩ := rx
    exact wpAny_isNot_other rfl (fun z => by cases z) ⟨.bl true, H, I, rfl, q⟩
  · cases (show v = Value.bool a from rx)
    by_cases e : a = b
    · subst e
      exact wpAny_isNot_self rfl ⟨.bl false, H, I, rfl, by simpa using q⟩
    · exact wpAny_isNot_other rfl (fun z => e (Value.bool.inj z)) ⟨.bl true, H, I, rfl, by simpa [e] using q⟩
section
variable {P : Program} {w : World} {K : PySem.W.Frag} {mg : Str → Option Value} {base : Heap}
theorem sc_lnum : FnScope ["_law_thing"] ["_law_thing"] (defScope (topS 16)) := ⟨rfl, rfl, rfl, by decide +kernel, rfl, by decide +kernel, by decide +kernel⟩
theorem ok_lnum {f : Addr} {fd : FuncData} (D : Df K mg "_law_number" (topS 16) ["_law_thing"] f fd) (B : Bt mg) : FnOk P w K mg base CX0 1 f fd ["_law_thing"] (spLook K dNum) := by
  refine D.fn.ok sc_lnum (fun vs H Q E h => ?_) (fun cdv A outer s H vs Q E hr h => ?_)
  · obtain ⟨v, d, rfl, _⟩ := h
    rfl
  obtain ⟨v, d, rfl, hd, hf, q⟩ := h
  refine ⟨_, pss_one (ps_ret (pe_and (pe_callB call_isi (by rfl) B.isi (by decide +kernel) (pa_cons (pv 0) (pa_cons (pe_bltn (v := .ty "int") (by rfl) B.int (by decide +kernel) rfl) pa_nil)))
    (pe_and (pe_cmpR op_notB2 (pv 0) pe_bl (nomark _)) (pe_one (pe_cmpR op_notB2 (pv 0) pe_bl (nomark _)))))), ?_⟩
  obtain ⟨t1, ty1, k1⟩ := isa_int hd
  refine ⟨v, rfl, v, .ty "int", t1, _, _, rfl, .ty _, ty1, k1, _, rfl, ?_⟩
  have q0 := q H (Same.refl H)
  cases hd with
  | int i =>
    refine iteT ⟨_, rfl, true, rfl, .inl ⟨i, rfl, _, rfl, ?_⟩⟩
    exact iteT ⟨_, rfl, false, rfl, .inl ⟨i, rfl, q0⟩⟩
  | bl b =>
    refine iteT ⟨_, rfl, true, rfl, .inr ⟨b, rfl, _, rfl, ?_⟩⟩
    cases b with
    | true => exact iteF q0
    | false => exact iteT ⟨_, rfl, false, rfl, .inr ⟨false, rfl, q0⟩⟩
  | non => exact iteF q0
  | str z => exact iteF q0
  | lst h r => exact iteF q0
  | tup h r => exact iteF q0
theorem sc_lword : FnScope ["_law_thing", "_law_sign"] ["_law_thing"] (defScope (topS 19)) := ⟨rfl, rfl, rfl, by decide +kernel, rfl, by decide +kernel, by decide +kernel⟩
/-- the signs that spoil a word -/
def bad (z : Str) : List Nat := z.cps.toList.filter fun c => !okSign c
theorem bad_nil (z : Str) : (bad z).isEmpty = z.cps.toList.all okSign := by
  unfold bad
  generalize z.cps.toList = l
  induction l with
  | nil => rfl
  | cons c l ih =>
    by_cases h : okSign c = true
    · simp [h, ← ih]
    · have h' : okSign c = false := by simpa using h
      simp [h']
theorem filter_signs {z : Str} : ((List.range z.cps.size).filter fun i => !okSign (z.cps.toList.getD i 0)).map (fun i => V.str ⟨#[z.cps.toList.getD i 0]⟩) = ((bad z).map fun c => (⟨#[c]⟩ : Str)).map V.str := by
  unfold bad
  have e : z.cps.toList = (List.range z.cps.size).map fun i => z.cps.toList.getD i 0 := by
    apply List.ext_getElem?
    intro i
    simp only [List.getElem?_map]
    by_cases h : i < z.cps.size
    · rw [List.getElem?_range h, List.getElem?_eq_getElem (by simpa using h)]
      simp [List.getD, List.getElem?_eq_getElem, h]
    · rw [List.getElem?_eq_none (by simpa using h), List.getElem?_eq_none (by simpa using h)]
      rfl
  conv => rhs; rw [e]
  rw [List.filter_map, List.map_map, List.map_map]
  rfl
theorem eqv_nil_list (xs : List PyData) : PyData.eqv (.list xs) (.list []) = xs.isEmpty := by
  cases xs <;> simp [PyData.eqv, PyData.eqvAll]
theorem eqv_nil_tup (xs : List PyData) : PyData.eqv (.tuple xs) (.tuple []) = xs.isEmpty := by
  cases xs <;> simp [PyData.eqv, PyData.eqvAll]
theorem strs_shaped {zs : List Str} (h : ∀ z ∈ zs, ∀ c ∈ z.cps.toList, c < 128) : SeqAt.shaped (.list (zs.map PyData.str)) = true := by
  have hf : leaf 0 (.list (zs.map PyData.str)) = true := by
    simp only [leaf]
    refine leafAll_iff.mpr fun x hx => ?_
    obtain ⟨z, hz, rfl⟩ := List.mem_map.mp hx
    exact leaf_str.mpr (h z hz)
  unfold SeqAt.shaped
  rw [leaf_canLay _ hf, Bool.true_and, decide_eq_true_eq]
  have : (PyData.list (zs.map PyData.str)).depth ≤ 0 + 1 := depth_list.mpr fun x hx => by
    obtain ⟨z, _, rfl⟩ := List.mem_map.mp hx
    simp [PyData.depth]
  omega
theorem nil_shaped : SeqAt.shaped (.list []) = true := by decide +kernel
theorem nilT_shaped : SeqAt.shaped (.tuple []) = true := by decide +kernel
theorem bad_sign (c : Nat) : (decide ((c : Int) < 97) || decide ((c : Int) > 122)) = !okSign c := by
  unfold okSign
  by_cases h1 : 97 ≤ c <;> by_cases h2 : c ≤ 122 <;> simp [h1, h2] <;> omega
theorem ok_lword {f : Addr} {fd : FuncData} (D : Df K mg "_law_worded" (topS 19) ["_law_thing"] f fd) (B : Bt mg) : FnOk P w K mg base CX0 1 f fd ["_law_thing"] (spLook K dWord) := by
  refine D.fn.ok sc_lword (fun vs H Q E h => ?_) (fun cdv A outer s H vs Q E hr h => ?_)
  · obtain ⟨v, d, rfl, _⟩ := h
    rfl
  obtain ⟨v, d, rfl, hd, ⟨M, hf⟩, q⟩ := h
  have hu := hr.units
  refine ⟨_, pss_cons (ps_if (PW.pt (pw_or (pt_not (pt_val (pe_callB call_isi (by rfl) B.isi (by decide +kernel) (pa_cons (pv 0) (pa_cons (pe_bltn (v := .ty "str") (by rfl) B.str (by decide +kernel) rfl) pa_nil)))))
      (pw_or (pt_cmpR op_eq (pv 0) pe_str (nomark _)) (pw_or1 (pt_cmpR op_gt (pe_callB call_len_str (by rfl) B.len PySem.boot_len (pa_cons (pv 0) pa_nil)) pe_int (nomark _)))))) (pss_one (ps_ret pe_bl)) pss_nil)
    (pss_one (ps_ret (pe_cmpR (op_eqD hu) (pe_lc (own := [("_law_sign", 1)]) (g := gName 1) rfl sc_lword.nd (pi_str (pv 0))
      (blkOk_by (N := ["_law_thing", "_law_sign"]) (sc := defScope (topS 19)) (by decide +kernel)) (fun _ _ _ _ _ => pg_name (i := 1) sc_lword.nd rfl (Or.inl rfl))
      (fun _ _ _ _ _ => pts_one (PW.pt (pw_or (pt_cmpR op_lt (pe_callB call_ord (by rfl) B.ord (by decide +kernel) (pa_cons (pv 1) pa_nil)) pe_int (nomark _)) (pw_or1 (pt_cmpR op_gt (pe_callB call_ord (by rfl) B.ord (by decide +kernel) (pa_cons (pv 1) pa_nil)) pe_int (nomark _))))))
      (fun _ _ _ _ _ => pv 1)) (pe_lst pa_nil) (nomark _)))), ?_⟩
  obtain ⟨t1, ty1, k1⟩ := isa_str hd
  refine ⟨v, rfl, v, .ty "str", t1, _, _, rfl, .ty _, ty1, k1, _, rfl, ?_⟩
  have q0 := q H (Same.refl H)
  cases hd with
  | str z =>
    have hz := fit_strlen hf (Nat.le_refl _)
    have hc := leaf_str.mp hf.lf
    refine iteF ⟨_, rfl, rfl, _, rfl, ?_⟩
    refine ite2 (fun c => ?_) (fun c => ?_)
    · have c' : z = Str.ofString "" := by
        have := of_decide_eq_true c
        injection this
      subst c'
      exact q0
    · have c' : ¬ z.length = 0 := fun e => c (by
        have : z = Str.ofString "" := by
          cases z with
          | mk cps =>
            have e' : cps.size = 0 := e
            have : cps = #[] := by simpa using e'
            subst this
            rfl
        rw [this]
        decide)
      refine ⟨_, rfl, z, rfl, hz, _, _, rfl, rfl, _, rfl, ?_⟩
      refine ite2 (fun c2 => ?_) (fun c2 => ?_)
      · have c3 : ¬ z.length ≤ 8 := by
          have := of_decide_eq_true c2
          omega
        have e : dWord (.str z) = false := by
          show wordS z = false
          unfold wordS
          rw [decide_eq_false c3]
          simp
        exact q_of e q0
      · have c3 : z.length ≤ 8 := by
          have := of_decide_eq_false (Bool.eq_false_iff.mpr c2)
          omega
        refine ⟨_, rfl, z, rfl, fun L hL => lc_pure walk_signs (fun i => !okSign (z.cps.toList.getD i 0)) (fun i => V.str ⟨#[z.cps.toList.getD i 0]⟩) hL (fun _ _ => trivial) (big_size (by have : z.cps.size = z.length := rfl; omega)) ?_ ?_ ?_⟩
        · intro i x H1 Q1 hi hx hs q1
          have hi' : i < z.cps.toList.length := by simpa using hi
          rw [List.getElem?_map, List.getElem?_eq_getElem hi'] at hx
          have hx' : V.str ⟨#[z.cps.toList[i]]⟩ = x := Option.some.inj hx
          subst hx'
          have eg : z.cps.toList.getD i 0 = z.cps.toList[i] := by simp [List.getD, List.getElem?_eq_getElem hi']
          rw [eg] at q1
          have eb := bad_sign z.cps.toList[i]
          refine ⟨_, rfl, _, rfl, rfl, _, _, rfl, rfl, _, rfl, ?_⟩
          refine ite2 (fun c4 => ?_) (fun c4 => ?_)
          · have e4 : (!okSign z.cps.toList[i]) = true := by rw [← eb]; simp only [Bool.or_eq_true]; exact .inl c4
            rw [e4] at q1
            exact q1 H1 (Same.refl H1)
          · refine ⟨_, rfl, _, rfl, rfl, _, _, rfl, rfl, _, rfl, ?_⟩
            have c5 : decide (((z.cps.toList[i] : Nat) : Int) < 97) = false := by simpa using c4
            rw [← eb, c5, Bool.false_or] at q1
            exact q1 H1 (Same.refl H1)
        · intro i x H1 Q1 hi hx hp hs q1
          have hi' : i < z.cps.toList.length := by simpa using hi
          rw [List.getElem?_map, List.getElem?_eq_getElem hi'] at hx
          have hx' : V.str ⟨#[z.cps.toList[i]]⟩ = x := Option.some.inj hx
          subst hx'
          have eg : z.cps.toList.getD i 0 = z.cps.toList[i] := by simp [List.getD, List.getElem?_eq_getElem hi']
          rw [eg] at q1
          exact ⟨_, rfl, q1 H1 (Same.refl H1)⟩
        · intro H1 s1 hL1
          rw [filter_signs] at hL1
          refine ⟨by show 0 ≤ sizeLine; exact Nat.zero_le _, fun N hN => ?_⟩
          have hLN : upd H1 N (.lst []) L = some (.lst (((bad z).map fun c => (⟨#[c]⟩ : Str)).map V.str)) := same_new hN _ _ hL1
          refine ⟨.list (((bad z).map fun c => (⟨#[c]⟩ : Str)).map PyData.str), .list [], .lst (SqL.of hLN) (DpAll_strs _), .lst (SqL.of upd_same) .nil, strs_shaped ?_, nil_shaped, ?_⟩
          · intro y hy c hcy
            obtain ⟨c0, hc0, rfl⟩ := List.mem_map.mp hy
            have : c = c0 := by simpa using hcy
            subst this
            exact hc c (List.mem_filter.mp hc0).1
          · rw [eqv_nil_list]
            have e : dWord (.str z) = (((bad z).map fun c => (⟨#[c]⟩ : Str)).map PyData.str).isEmpty := by
              show wordS z = _
              unfold wordS
              rw [decide_eq_true (show 1 ≤ z.length by omega), decide_eq_true c3, ← bad_nil]
              simp
            exact q_of e (q _ (s1.trans (same_new hN)))
  | non => exact iteT q0
  | bl b => exact iteT q0
  | int i => exact iteT q0
  | lst h r => exact iteT q0
  | tup h r => exact iteT q0
end
end Sw
set_option maxRecDepth 100000
set_option maxHeartbeats 4000000
namespace Sw
open PySem PySem.Spec PyProof.Rows L2
section
variable {P : Program} {w : World} {K : PySem.W.Frag} {mg : Str → Option Value} {base : Heap}
theorem sc_loper : FnScope ["_law_thing"] ["_law_thing"] (defScope (topS 20)) := ⟨rfl, rfl, rfl, by decide +kernel, rfl, by decide +kernel, by decide +kernel⟩
theorem ok_loper {f f1 f2 : Addr} {fd fd1 fd2 : FuncData} (D : Df K mg "_law_operanded" (topS 20) ["_law_thing"] f fd) (D1 : Df K mg "_law_number" (topS 16) ["_law_thing"] f1 fd1) (D2 : Df K mg "_law_worded" (topS 19) ["_law_thing"] f2 fd2)
    (G1 : FnOk P w K mg base CX0 1 f1 fd1 ["_law_thing"] (spLook K dNum)) (G2 : FnOk P w K mg base CX0 1 f2 fd2 ["_law_thing"] (spLook K dWord)) : FnOk P w K mg base CX0 2 f fd ["_law_thing"] (spLook K dOper) := by
  refine D.fn.ok sc_loper (fun vs H Q E h => ?_) (fun cdv A outer s H vs Q E hr h => ?_)
  · obtain ⟨v, d, rfl, _⟩ := h
    rfl
  obtain ⟨v, d, rfl, hd, hf, q⟩ := h
  refine ⟨_, pss_one (ps_ret (pe_or (pe_call G2 hr (by rfl) D2.gl D2.fn.kp D2.bd .nil pass0 (pa_cons (pv 0) pa_nil)) (pe_one (pe_call G1 hr (by rfl) D1.gl D1.fn.kp D1.bd .nil pass0 (pa_cons (pv 0) pa_nil))))), ?_⟩
  refine ⟨v, rfl, v, d, rfl, hd, hf, fun H1 s1 => ⟨_, rfl, ?_⟩⟩
  refine ite2 (fun c => ?_) (fun c => ?_)
  · exact q_of (by unfold dOper; rw [c, Bool.or_true]) (q H1 s1)
  · have c' : dWord d = false := by simpa using c
    refine ⟨v, rfl, v, d, rfl, Dp_same s1 hd, hf, fun H2 s2 => ?_⟩
    exact q_of (by unfold dOper; rw [c', Bool.or_false]) (q H2 (s1.trans s2))
/-- pairs whose first things are words -/
def dWp : PyData → Bool
  | .tuple [a, _] => dWord a
  | _ => false
def dPairs : PyData → Bool
  | .tuple ds => !ds.isEmpty && ds.all dWp && rises (ds.map fstS)
  | _ => false
theorem wp_parts {K : PySem.W.Frag} {H : Hp} {v : V} {d : PyData} (h : Dp K H v d) (o : dWp d = true) : ∃ (p : Addr) (z : Str) (v1 : V) (e : PyData), v = .ref p ∧ SqT K H p [.str z, v1] ∧ Dp K H v1 e ∧ fstS d = z ∧ d = .tuple [.str z, e] := by
  unfold dWp at o
  split at o
  · rename_i a b
    cases a with
    | str z =>
      cases h with
      | tup hs r =>
        cases r with
        | cons h0 r =>
          cases r with
          | cons h1 r =>
            cases r
            cases h0
            exact ⟨_, z, _, _, rfl, hs, h1, rfl, rfl⟩
    | _ => simp [dWord] at o
  · cases o
theorem sc_lpair : FnScope ["_law_thing", "_law_pair", "_law_words"] ["_law_thing"] (defScope (topS 21)) := ⟨rfl, rfl, rfl, by decide +kernel, rfl, by decide +kernel, by decide +kernel⟩
theorem isEmpty_len {α β : Type} {l : List α} {m : List β} (h : l.length = m.length) : l.isEmpty = m.isEmpty := by
  cases l <;> cases m <;> simp at h ⊢
theorem filter_none {α : Type} (l : List α) (p : α → Bool) : (l.filter fun x => !p x).isEmpty = l.all p := by
  induction l with
  | nil => rfl
  | cons c l ih =>
    by_cases h : p c = true
    · simp [h, ← ih]
    · have h' : p c = false := by simpa using h
      simp [h']
theorem range_filter_all {ds : List PyData} (p : PyData → Bool) : ((List.range ds.length).filter fun i => !p (ds.getD i .none)).isEmpty = ds.all p := by
  rw [filter_none]
  have e : ds = (List.range ds.length).map fun i => ds.getD i .none := by
    apply List.ext_getElem?
    intro i
    simp only [List.getElem?_map]
    by_cases h : i < ds.length
    · rw [List.getElem?_range h, List.getElem?_eq_getElem h]
      simp [List.getD, h]
    · rw [List.getElem?_eq_none (by omega), List.getElem?_eq_none (by simp; omega)]
      rfl
  conv => rhs; rw [e]
  rw [List.all_map]
  rfl
theorem fit_shaped {M l n B : Nat} {ds : List PyData} (h : ∀ d ∈ ds, Fit M l n B d) (hn : n ≤ 63) : SeqAt.shaped (.list ds) = true := by
  have hf : leaf M (.list ds) = true := by simp only [leaf]; exact leafAll_iff.mpr fun x hx => (h x hx).lf
  unfold SeqAt.shaped
  rw [leaf_canLay _ hf, Bool.true_and, decide_eq_true_eq]
  have : (PyData.list ds).depth ≤ n + 1 := depth_list.mpr fun x hx => (h x hx).dp
  omega
theorem ok_lpair {f f2 : Addr} {fd fd2 : FuncData} (D : Df K mg "_law_paired" (topS 21) ["_law_thing"] f fd) (D2 : Df K mg "_law_worded" (topS 19) ["_law_thing"] f2 fd2) (B : Bt mg)
    (G2 : FnOk P w K mg base CX0 1 f2 fd2 ["_law_thing"] (spLook K dWord)) : FnOk P w K mg base CX0 2 f fd ["_law_thing"] (spLook K dPairs) := by
  refine D.fn.ok sc_lpair (fun vs H Q E h => ?_) (fun cdv A outer s H vs Q E hr h => ?_)
  · obtain ⟨v, d, rfl, _⟩ := h
    rfl
  obtain ⟨v, d, rfl, hd, ⟨M, hf⟩, q⟩ := h
  have hu := hr.units
  refine ⟨_, pss_cons (ps_if (PW.pt (pw_or (pt_not (pt_val (pe_callB call_isi (by rfl) B.isi (by decide +kernel) (pa_cons (pv 0) (pa_cons (pe_bltn (v := .ty "tuple") (by rfl) B.tuple (by decide +kernel) rfl) pa_nil)))))
      (pw_or1 (pt_cmpR (op_eqD hu) (pv 0) (pe_tup pa_nil) (nomark _))))) (pss_one (ps_ret pe_bl)) pss_nil)
    (pss_cons (ps_if (pt_cmpR (op_neD hu) (pe_lc (own := [("_law_pair", 1)]) (g := gName 1) rfl sc_lpair.nd (pi_tup (pv 0))
        (blkOk_by (N := ["_law_thing", "_law_pair", "_law_words"]) (sc := defScope (topS 21)) (by decide +kernel)) (fun _ _ _ _ _ => pg_name (i := 1) sc_lpair.nd rfl (Or.inl rfl))
        (tt := tOr (tNot (tB (tCB (rIsi K) (tCons (tVar 1) (tCons (tC (.ty "tuple")) tNil))))) (tOr (tTest (tOp rNe (tCB (fun xs H Q => ∃ p ys, xs = [.ref p] ∧ (SqL K H p ys ∨ SqT K H p ys) ∧ Q (.int ys.length) H) (tCons (tVar 1) tNil)) (tC (.int 2)))) (tNot (tB (tCall (spLook K dWord) [] E0 (tCons (tOp (rIxT K) (tVar 1) (tC (.int 0))) tNil))))))
        (fun _ _ _ _ _ => pts_one (PW.pt (pw_or (pt_not (pt_val (pe_callB call_isi (by rfl) B.isi (by decide +kernel) (pa_cons (pv 1) (pa_cons (pe_bltn (v := .ty "tuple") (by rfl) B.tuple (by decide +kernel) rfl) pa_nil)))))
          (pw_or (pt_cmpR op_ne (pe_callB call_len_seq (by rfl) B.len PySem.boot_len (pa_cons (pv 1) pa_nil)) pe_int (nomark _))
          (pw_or1 (pt_not (pt_val (pe_call G2 hr (by rfl) D2.gl D2.fn.kp D2.bd .nil pass0 (pa_cons (pe_ix (r := rIxT K) ix_tup (pv 1) pe_int (fun _ _ => rfl)) pa_nil)))))))))
        (fun _ _ _ _ _ => pv 1)) (pe_lst pa_nil) (nomark _)) (pss_one (ps_ret pe_bl)) pss_nil)
    (pss_cons (ps_setLc (i := 2) (own := [("_law_pair", 1)]) (g := gName 1) (tt := tYes) rfl sc_lpair.nd rfl rfl (sw_true rfl rfl rfl (by decide +kernel)) (pi_tup (pv 0))
      (blkOk_by (N := ["_law_thing", "_law_pair", "_law_words"]) (sc := defScope (topS 21)) (by decide +kernel)) (fun _ _ _ _ _ => pg_name (i := 1) sc_lpair.nd rfl (Or.inl rfl)) (fun _ _ _ _ _ => pts_nil)
      (fun _ _ _ _ _ => pe_ix (r := rIxT K) ix_tup (pv 1) pe_int (fun _ _ => rfl)))
    (pss_one (ps_ret (pe_cmpR (op_eqD hu) (pe_callB (cr_sortedSS rfl) (by rfl) B.sorted (by decide +kernel) (pa_cons (pe_callTy (cr_setS rfl) (by rfl) B.set (by decide +kernel) (pa_cons (pv 2) pa_nil)) pa_nil)) (pv 2) (nomark _)))))), ?_⟩
  obtain ⟨t1, ty1, k1⟩ := isa_tup hd
  refine ⟨v, rfl, v, .ty "tuple", t1, _, _, rfl, .ty _, ty1, k1, _, rfl, ?_⟩
  have q0 := q H (Same.refl H)
  cases hd with
  | @tup a xs ds hx hr0 =>
    have hlen := DpAll_len hr0
    obtain ⟨hl, _, _, hin⟩ := hf.inTup
    have fin : ∀ d ∈ ds, Fit M 60 60 1000000 d := fun d hd => (hin d hd).mono (Nat.le_refl _) (Nat.le_refl _) (by omega) (Nat.le_refl _)
    refine iteF ⟨_, rfl, Nat.zero_le _, fun N hN => ?_⟩
    have sN : Same H (upd H N (.tup [])) := same_new hN
    refine ⟨.tuple ds, .tuple [], .tup (sameT sN hx) (DpAll_same sN hr0), .tup (SqT.of upd_same) .nil, hf.shaped (by omega), nilT_shaped, _, rfl, ?_⟩
    generalize upd H N (.tup []) = H0 at sN
    rw [eqv_nil_tup]
    refine ite2 (fun c => ?_) (fun c => ?_)
    · have e : ds = [] := by simpa using c
      subst e
      exact q H0 sN
    have hne : ds.isEmpty = false := by simpa using c
    -- the pairs that are none
    refine ⟨_, rfl, a, rfl, ⟨_, sameT sN hx⟩, fun L hL => lc_pure (walk_tup (xs := xs)) (fun i => !dWp (ds.getD i .none)) (fun i => xs.getD i .non) hL (fun _ h => sameT (sN.trans h) hx) (big_size (by omega)) ?_ ?_ ?_⟩
    · intro i x H1 Q1 hi hxi hs q1
      obtain ⟨d, hdi, hdp⟩ := DpAll_get (DpAll_same (sN.trans hs) hr0) hxi
      have e : ds.getD i .none = d := by simp [List.getD, hdi]
      rw [e] at q1
      have fd := fin d (List.mem_of_getElem? hdi)
      obtain ⟨t2, ty2, k2⟩ := isa_tup hdp
      refine ⟨x, rfl, x, .ty "tuple", t2, _, _, rfl, .ty _, ty2, k2, _, rfl, ?_⟩
      have q2 := q1 H1 (Same.refl H1)
      cases hdp with
      | @tup b ys es hy hre =>
        have hle := DpAll_len hre
        refine iteF ⟨_, rfl, b, ys, rfl, .inr hy, rfl, _, rfl, ?_⟩
        rw [int_two, hle]
        refine ite2 (fun c2 => ?_) (fun c2 => ?_)
        · have e2 : dWp (.tuple es) = false := by
            have c3 : ¬ es.length = 2 := by simpa using c2
            match es, c3 with
            | [], _ => rfl
            | [_], _ => rfl
            | [_, _], z => exact absurd rfl z
            | _ :: _ :: _ :: _, _ => rfl
          rw [e2] at q2
          exact q2
        · have c3 : es.length = 2 := by simpa using c2
          obtain ⟨d0, d1, rfl⟩ : ∃ d0 d1, es = [d0, d1] := by
            match es, c3 with
            | [x, y], _ => exact ⟨x, y, rfl⟩
          cases hre with
          | @cons v0 ys' _ _ h0 r' =>
            obtain ⟨_, _, _, hin2⟩ := fd.inTup
            refine ⟨_, rfl, b, _, 0, v0, rfl, rfl, hy, atI_nat (j := 0) rfl, v0, d0, rfl, h0, ⟨M, (hin2 d0 (by simp)).mono (Nat.le_refl _) (Nat.le_refl _) (by omega) (Nat.le_refl _)⟩, fun H2 s2 => ⟨_, rfl, ?_⟩⟩
            exact q1 H2 s2
      | non => exact iteT q2
      | bl b => exact iteT q2
      | int i => exact iteT q2
      | str z => exact iteT q2
      | lst h r => exact iteT q2
    · intro i x H1 Q1 hi hxi hp hs q1
      have e : xs.getD i .non = x := by simp [List.getD, hxi]
      rw [e] at q1
      exact ⟨x, rfl, q1 H1 (Same.refl H1)⟩
    intro H1 s1 hL1
    refine ⟨Nat.zero_le _, fun N2 hN2 => ?_⟩
    have s2 : Same H1 (upd H1 N2 (.lst [])) := same_new hN2
    -- the list of what is none, as data
    have hmem : ∀ i ∈ (List.range xs.length).filter (fun i => !dWp (ds.getD i .none)), i < ds.length := fun i hi => by
      have := List.mem_range.mp (List.mem_filter.mp hi).1
      omega
    have hdat : DpAll K (upd H1 N2 (.lst [])) (((List.range xs.length).filter (fun i => !dWp (ds.getD i .none))).map fun i => xs.getD i .non) (((List.range xs.length).filter (fun i => !dWp (ds.getD i .none))).map fun i => ds.getD i .none) := by
      generalize (List.range xs.length).filter (fun i => !dWp (ds.getD i .none)) = is at hmem
      induction is with
      | nil => exact .nil
      | cons i is ih =>
        have hi := hmem i List.mem_cons_self
        have hi2 : i < xs.length := by omega
        obtain ⟨d, hd1, hd2⟩ := DpAll_get (DpAll_same (sN.trans (s1.trans s2)) hr0) (List.getElem?_eq_getElem hi2)
        refine .cons ?_ (ih fun j hj => hmem j (List.mem_cons_of_mem _ hj))
        have e1 : xs.getD i .non = xs[i] := by simp [List.getD, hi2]
        have e2 : ds.getD i .none = d := by simp [List.getD, hd1]
        dsimp only
        rw [e1, e2]
        exact hd2
    refine ⟨.list (((List.range xs.length).filter (fun i => !dWp (ds.getD i .none))).map fun i => ds.getD i .none), .list [], .lst (SqL.of (s2 _ _ hL1)) hdat, .lst (SqL.of upd_same) .nil, fit_shaped (M := M) (l := 60) (n := 60) (B := 1000000) ?_ (by omega), nil_shaped, _, rfl, ?_⟩
    · intro d hd
      obtain ⟨i, hi, rfl⟩ := List.mem_map.mp hd
      have hi2 := hmem i hi
      have e : ds.getD i .none = ds[i] := by simp [List.getD, hi2]
      rw [e]
      exact fin _ (List.getElem_mem hi2)
    have s02 : Same H (upd H1 N2 (.lst [])) := sN.trans (s1.trans s2)
    generalize upd H1 N2 (.lst []) = H2 at s2 s02
    rw [eqv_nil_list]
    have ee : (((List.range xs.length).filter (fun i => !dWp (ds.getD i .none))).map fun i => ds.getD i .none).isEmpty = ds.all dWp := by
      rw [hlen, ← range_filter_all dWp]
      exact isEmpty_len (by rw [List.length_map])
    rw [ee]
    have edp : dPairs (.tuple ds) = (ds.all dWp && rises (ds.map fstS)) := by
      show (!ds.isEmpty && ds.all dWp && rises (ds.map fstS)) = _
      rw [hne]
      simp
    refine ite2 (fun c => ?_) (fun c => ?_)
    · have c' : ds.all dWp = false := by simpa using c
      exact q_of (by rw [edp, c', Bool.false_and]) (q H2 s02)
    have hall : ds.all dWp = true := by simpa using c
    -- the words
    refine ⟨_, rfl, a, rfl, ⟨_, sameT s02 hx⟩, fun L2 hL2 => lc_map (walk_tup (xs := xs)) (fun i => V.str ((ds.map fstS).getD i Str.empty)) hL2 (fun _ h => sameT (s02.trans h) hx) (big_size (by omega)) ?_ ?_⟩
    · intro i x H3 Q1 hi hxi hs q1
      obtain ⟨d, hdi, hdp⟩ := DpAll_get (DpAll_same (s02.trans hs) hr0) hxi
      obtain ⟨p, z, v1, e, rfl, hp, _, hz, rfl⟩ := wp_parts hdp (List.all_eq_true.mp hall d (List.mem_of_getElem? hdi))
      have e : (ds.map fstS).getD i Str.empty = z := by
        simp only [List.getD, List.getElem?_map, hdi]
        exact hz
      have q2 := q1 H3 (Same.refl H3)
      rw [e] at q2
      exact ⟨_, rfl, p, _, 0, _, rfl, rfl, hp, atI_nat (j := 0) rfl, q2⟩
    intro H3 s3 hL3
    have eL : (List.range xs.length).map (fun i => V.str ((ds.map fstS).getD i Str.empty)) = (ds.map fstS).map V.str := by
      apply List.ext_getElem?
      intro i
      simp only [List.getElem?_map]
      by_cases h : i < ds.length
      · rw [List.getElem?_range (by omega), List.getElem?_eq_getElem h]
        simp [List.getD, h]
      · rw [List.getElem?_eq_none (by first | omega | (simp; omega)), List.getElem?_eq_none (by first | omega | (simp; omega))]
        rfl
    rw [eL] at hL3
    have hasc : ∀ z ∈ ds.map fstS, ∀ c ∈ z.cps.toList, c < 128 := by
      intro z hz c hc
      obtain ⟨d, hd, rfl⟩ := List.mem_map.mp hz
      have hw := List.all_eq_true.mp hall d hd
      obtain ⟨i, hi, rfl⟩ := List.mem_iff_getElem.mp hd
      obtain ⟨v, _, hv⟩ := DpAll_get' hr0 (List.getElem?_eq_getElem hi)
      obtain ⟨p, z, v1, e, _, _, _, hz2, hde⟩ := wp_parts hv hw
      rw [hz2] at hc
      have lf := (fin _ hd).lf
      rw [hde] at lf
      simp only [leaf, leafAll, Bool.and_eq_true] at lf
      exact (leaf_str (M := M)).mp (by simpa only [leaf] using lf.1) c hc
    have hzl : (ds.map fstS).length = ds.length := List.length_map _
    generalize ds.map fstS = zs at hL3 edp hasc hzl
    have ez : dPairs (.tuple ds) = rises zs := by rw [edp, hall, Bool.true_and]
    -- sorted(set(words)) == words
    refine ⟨_, rfl, L2, zs, rfl, SqL.of hL3, by omega, fun S LL hS hle hm => ?_⟩
    have s4 : Same H3 (upd H3 S (SetSO w S LL)) := same_new hS
    refine ⟨S, LL, rfl, upd_same, by omega, fun ys p pm nd hs hp => ?_⟩
    have s5 := same_new (o := .lst (ys.map V.str)) hp
    refine ⟨_, rfl, .list (ys.map PyData.str), .list (zs.map PyData.str), .lst (SqL.of upd_same) (DpAll_strs _), .lst (SqL.of (s5 _ _ (s4 _ _ hL3))) (DpAll_strs _), strs_shaped (fun z hz => hasc z ((hm z).mp (pm.mem_iff.mp hz))), strs_shaped hasc, ?_⟩
    rw [eqv_strs, sorted_set_is pm nd hs hm]
    exact q_of ez (q _ (s02.trans (s3.trans (s4.trans s5))))
  | non => exact iteT q0
  | bl b => exact iteT q0
  | int i => exact iteT q0
  | str z => exact iteT q0
  | lst h r => exact iteT q0
theorem sc_lobj : FnScope ["_law_thing", "_law_pair"] ["_law_thing"] (defScope (topS 22)) := ⟨rfl, rfl, rfl, by decide +kernel, rfl, by decide +kernel, by decide +kernel⟩
theorem obj_all : ∀ (ds : List PyData), ds.all dObj = true → ds.all dWp = true := by
  intro ds h
  refine List.all_eq_true.mpr fun d hd => ?_
  have o := List.all_eq_true.mp h d hd
  unfold dObj at o
  split at o
  · rw [Bool.and_eq_true] at o
    exact o.1
  · cases o
theorem ok_lobj {f f1 f2 : Addr} {fd fd1 fd2 : FuncData} (D : Df K mg "_law_objected" (topS 22) ["_law_thing"] f fd) (D1 : Df K mg "_law_number" (topS 16) ["_law_thing"] f1 fd1) (D2 : Df K mg "_law_paired" (topS 21) ["_law_thing"] f2 fd2) (B : Bt mg)
    (G1 : FnOk P w K mg base CX0 1 f1 fd1 ["_law_thing"] (spLook K dNum)) (G2 : FnOk P w K mg base CX0 2 f2 fd2 ["_law_thing"] (spLook K dPairs)) : FnOk P w K mg base CX0 3 f fd ["_law_thing"] (spLook K dObjs) := by
  refine D.fn.ok sc_lobj (fun vs H Q E h => ?_) (fun cdv A outer s H vs Q E hr h => ?_)
  · obtain ⟨v, d, rfl, _⟩ := h
    rfl
  obtain ⟨v, d, rfl, hd, ⟨M, hf⟩, q⟩ := h
  have hu := hr.units
  refine ⟨_, pss_one (ps_ret (pe_and (pe_call G2 hr (by rfl) D2.gl D2.fn.kp D2.bd .nil pass0 (pa_cons (pv 0) pa_nil))
    (pe_one (pe_cmpR (op_eqD hu) (pe_lc (own := [("_law_pair", 1)]) (g := gName 1) rfl sc_lobj.nd (pi_tup (pv 0))
        (blkOk_by (N := ["_law_thing", "_law_pair"]) (sc := defScope (topS 22)) (by decide +kernel)) (fun _ _ _ _ _ => pg_name (i := 1) sc_lobj.nd rfl (Or.inl rfl))
        (tt := tOr (tNot (tB (tCall (spLook K dNum) [] E0 (tCons (tOp (rIxT K) (tVar 1) (tC (.int 1))) tNil)))) (tTest (tOp (rI0 fun i j => .bl (decide (i < j))) (tOp (rIxT K) (tVar 1) (tC (.int 1))) (tC (.int 1)))))
        (fun _ _ _ _ _ => pts_one (PW.pt (pw_or (pt_not (pt_val (pe_call G1 (hr.mono (by decide)) (by rfl) D1.gl D1.fn.kp D1.bd .nil pass0 (pa_cons (pe_ix (r := rIxT K) ix_tup (pv 1) pe_int (fun _ _ => rfl)) pa_nil))))
          (pw_or1 (pt_cmpR op_lt (pe_ix (r := rIxT K) ix_tup (pv 1) pe_int (fun _ _ => rfl)) pe_int (nomark _))))))
        (fun _ _ _ _ _ => pv 1)) (pe_lst pa_nil) (nomark _))))), ?_⟩
  refine ⟨v, rfl, v, d, rfl, hd, ⟨M, hf⟩, fun H0 sN => ⟨_, rfl, ?_⟩⟩
  refine ite2 (fun c => ?_) (fun c => ?_)
  rotate_left
  · have c' : dPairs d = false := by simpa using c
    refine q_of ?_ (q H0 sN)
    cases d with
    | tuple ds =>
      show (!ds.isEmpty && ds.all dObj && rises (ds.map fstS)) = false
      have c2 : (!ds.isEmpty && ds.all dWp && rises (ds.map fstS)) = false := c'
      by_cases h : ds.all dObj = true
      · rw [obj_all ds h] at c2
        rw [h]
        exact c2
      · have h' : ds.all dObj = false := by simpa using h
        rw [h']
        simp
    | _ => rfl
  cases d with
  | tuple ds =>
    cases hd with
    | @tup a xs _ hx hr0 =>
    have hlen := DpAll_len hr0
    have c2 : ((!ds.isEmpty && ds.all dWp) && rises (ds.map fstS)) = true := c
    rw [Bool.and_eq_true, Bool.and_eq_true] at c2
    obtain ⟨⟨hne, hall⟩, hrise⟩ := c2
    obtain ⟨hl, _, _, hin⟩ := hf.inTup
    have fin : ∀ d ∈ ds, Fit M 60 60 1000000 d := fun d hd => (hin d hd).mono (Nat.le_refl _) (Nat.le_refl _) (by omega) (Nat.le_refl _)
    refine ⟨_, rfl, a, rfl, ⟨_, sameT sN hx⟩, fun L hL => lc_pure (walk_tup (xs := xs)) (fun i => !dObj (ds.getD i .none)) (fun i => xs.getD i .non) hL (fun _ h => sameT (sN.trans h) hx) (big_size (by omega)) ?_ ?_ ?_⟩
    · intro i x H1 Q1 hi hxi hs q1
      obtain ⟨d, hdi, hdp⟩ := DpAll_get (DpAll_same (sN.trans hs) hr0) hxi
      have e : ds.getD i .none = d := by simp [List.getD, hdi]
      rw [e] at q1
      have fd := fin d (List.mem_of_getElem? hdi)
      have hw := List.all_eq_true.mp hall d (List.mem_of_getElem? hdi)
      obtain ⟨p, z, v1, e1, rfl, hp, h1, hz, rfl⟩ := wp_parts hdp hw
      have hw' : dWord (.str z) = true := hw
      obtain ⟨_, _, _, hin2⟩ := fd.inTup
      refine ⟨_, rfl, p, _, 1, v1, rfl, rfl, hp, atI_nat (j := 1) rfl, v1, e1, rfl, h1, ⟨M, (hin2 e1 (by simp)).mono (Nat.le_refl _) (Nat.le_refl _) (by omega) (Nat.le_refl _)⟩, fun H2 s2 => ⟨_, rfl, ?_⟩⟩
      have ed : dObj (.tuple [.str z, e1]) = dPos e1 := by
        show (dWord (.str z) && dPos e1) = dPos e1
        rw [hw', Bool.true_and]
      rw [ed] at q1
      cases e1 with
      | int k =>
        cases h1
        refine iteF ⟨_, rfl, p, _, 1, _, rfl, rfl, sameT s2 hp, atI_nat (j := 1) rfl, k, 1, rfl, rfl, _, rfl, ?_⟩
        have q2 := q1 H2 s2
        have e3 : (!dPos (.int k)) = decide (k < 1) := by
          show (!decide (1 ≤ k)) = _
          by_cases h : k < 1
          · rw [decide_eq_true h, decide_eq_false (by omega)]; rfl
          · rw [decide_eq_false h, decide_eq_true (by omega)]; rfl
        rw [e3] at q2
        exact q2
      | none => exact iteT (q1 H2 s2)
      | bool b => exact iteT (q1 H2 s2)
      | str z => exact iteT (q1 H2 s2)
      | list es => exact iteT (q1 H2 s2)
      | tuple es => exact iteT (q1 H2 s2)
      | dict es => exact iteT (q1 H2 s2)
    · intro i x H1 Q1 hi hxi hp hs q1
      have e : xs.getD i .non = x := by simp [List.getD, hxi]
      rw [e] at q1
      exact ⟨x, rfl, q1 H1 (Same.refl H1)⟩
    intro H1 s1 hL1
    refine ⟨Nat.zero_le _, fun N2 hN2 => ?_⟩
    have s2 : Same H1 (upd H1 N2 (.lst [])) := same_new hN2
    have hmem : ∀ i ∈ (List.range xs.length).filter (fun i => !dObj (ds.getD i .none)), i < ds.length := fun i hi => by
      have := List.mem_range.mp (List.mem_filter.mp hi).1
      omega
    have hdat : DpAll K (upd H1 N2 (.lst [])) (((List.range xs.length).filter (fun i => !dObj (ds.getD i .none))).map fun i => xs.getD i .non) (((List.range xs.length).filter (fun i => !dObj (ds.getD i .none))).map fun i => ds.getD i .none) := by
      generalize (List.range xs.length).filter (fun i => !dObj (ds.getD i .none)) = is at hmem
      induction is with
      | nil => exact .nil
      | cons i is ih =>
        have hi := hmem i List.mem_cons_self
        have hi2 : i < xs.length := by omega
        obtain ⟨d, hd1, hd2⟩ := DpAll_get (DpAll_same (sN.trans (s1.trans s2)) hr0) (List.getElem?_eq_getElem hi2)
        refine .cons ?_ (ih fun j hj => hmem j (List.mem_cons_of_mem _ hj))
        have e1 : xs.getD i .non = xs[i] := by simp [List.getD, hi2]
        have e2 : ds.getD i .none = d := by simp [List.getD, hd1]
        dsimp only
        rw [e1, e2]
        exact hd2
    refine ⟨.list (((List.range xs.length).filter (fun i => !dObj (ds.getD i .none))).map fun i => ds.getD i .none), .list [], .lst (SqL.of (s2 _ _ hL1)) hdat, .lst (SqL.of upd_same) .nil, fit_shaped (M := M) (l := 60) (n := 60) (B := 1000000) ?_ (by omega), nil_shaped, ?_⟩
    · intro d hd
      obtain ⟨i, hi, rfl⟩ := List.mem_map.mp hd
      have hi2 := hmem i hi
      have e : ds.getD i .none = ds[i] := by simp [List.getD, hi2]
      rw [e]
      exact fin _ (List.getElem_mem hi2)
    rw [eqv_nil_list]
    have ee : (((List.range xs.length).filter (fun i => !dObj (ds.getD i .none))).map fun i => ds.getD i .none).isEmpty = ds.all dObj := by
      rw [hlen, ← range_filter_all dObj]
      exact isEmpty_len (by rw [List.length_map])
    rw [ee]
    refine q_of ?_ (q _ (sN.trans (s1.trans s2)))
    show (!ds.isEmpty && ds.all dObj && rises (ds.map fstS)) = _
    rw [hne, hrise, Bool.true_and, Bool.and_true]
  | none => cases c
  | bool b => cases c
  | int i => cases c
  | str z => cases c
  | list ds => cases c
  | dict ds => cases c
end
end Sw
set_option maxRecDepth 100000
set_option maxHeartbeats 4000000
namespace Sw
open PySem PySem.Spec PyProof.Rows L2
/-! ### a heap without one place -/
def del (H : Hp) (p : Addr) : Hp := fun c => if c = p then none else H c
theorem del_some {H : Hp} {p c : Addr} {o : HO} (h : H c = some o) (hc : c ≠ p) : del H p c = some o := by unfold del; rw [if_neg hc]; exact h
theorem of_del {H : Hp} {p c : Addr} {o : HO} (h : del H p c = some o) : H c = some o ∧ c ≠ p := by
  unfold del at h
  by_cases hc : c = p
  · rw [if_pos hc] at h; cases h
  · rw [if_neg hc] at h; exact ⟨h, hc⟩
theorem del_same (H : Hp) (p : Addr) : Same (del H p) H := fun c o h => (of_del h).1
theorem same_del {H H' : Hp} {p : Addr} (h : Same H H') : Same (del H p) (del H' p) := fun c o e => del_some (h _ _ (of_del e).1) (of_del e).2
theorem del_upd {H : Hp} {p : Addr} {o : HO} : Same (del H p) (del (upd H p o) p) := fun c u e => del_some (by rw [upd_ne (of_del e).2]; exact (of_del e).1) (of_del e).2
theorem del_new {H : Hp} {p a : Addr} {o : HO} (ha : H a = none) : Same (del H p) (del (upd H a o) p) := same_del (same_new ha)
theorem new_del {H : Hp} {p a : Addr} {o u : HO} (hp : H p = some u) (ha : H a = none) : del (upd H a o) p a = some o := del_some upd_same (fun e => by rw [e, hp] at ha; cases ha)
/-! ### what the draws stand on -/
structure FeedAt (H : Hp) (p fq : Addr) (b : Nat) : Prop where
  ex : ∃ (ns : List Int) (i j k : Int), H p = some (.lst [.ref fq, .int i, .int j, .int k]) ∧ H fq = some (.lst (ns.map V.int)) ∧ p ≠ fq ∧ 0 ≤ i ∧ 0 ≤ j ∧ 0 ≤ k ∧ k ≤ (b : Int) ∧ ns.length ≤ 63
theorem FeedAt.there {H : Hp} {p fq : Addr} {b : Nat} (h : FeedAt H p fq b) : ∃ u, H p = some u := by
  obtain ⟨ns, i, j, k, hp, _⟩ := h.ex
  exact ⟨_, hp⟩
theorem FeedAt.mono {H : Hp} {p fq : Addr} {b c : Nat} (h : FeedAt H p fq b) (hb : b ≤ c) : FeedAt H p fq c := by
  obtain ⟨ns, i, j, k, h1, h2, h3, h4, h5, h6, h7, h8⟩ := h.ex
  exact ⟨ns, i, j, k, h1, h2, h3, h4, h5, h6, by omega, h8⟩
theorem FeedAt.same {H H' : Hp} {p fq : Addr} {b : Nat} (h : FeedAt H p fq b) (s : Same H H') : FeedAt H' p fq b := by
  obtain ⟨ns, i, j, k, h1, h2, h3⟩ := h.ex
  exact ⟨ns, i, j, k, s _ _ h1, s _ _ h2, h3⟩
/-- another list changes -/
theorem FeedAt.upd {H : Hp} {p fq a : Addr} {b : Nat} {o : HO} (h : FeedAt H p fq b) (h1 : a ≠ p) (h2 : a ≠ fq) : FeedAt (upd H a o) p fq b := by
  obtain ⟨ns, i, j, k, g1, g2, g3⟩ := h.ex
  exact ⟨ns, i, j, k, by rw [upd_ne (Ne.symm h1)]; exact g1, by rw [upd_ne (Ne.symm h2)]; exact g2, g3⟩
theorem FeedAt.ne {H : Hp} {p fq a : Addr} {b : Nat} (h : FeedAt H p fq b) (ha : H a = none) : a ≠ p ∧ a ≠ fq := by
  obtain ⟨ns, i, j, k, g1, g2, g3⟩ := h.ex
  exact ⟨Ne.symm (ne_of_none g1 ha), Ne.symm (ne_of_none g2 ha)⟩
/-- xs[i], for xs[i] += e -/
theorem get_list {X : Cx} : PGet X (fun o i H Q => ∃ p xs k v, o = .ref p ∧ i = .int k ∧ 0 ≤ k ∧ SqL X.K H p xs ∧ xs[k.toNat]? = some v ∧ Q v H) := by
  intro pins s σ H o i ov iv Q I ro ri h
  obtain ⟨p, xs, k, v, rfl, rfl, h0, hq, he, q⟩ := h
  cases ro
  obtain ⟨t, rfl⟩ := ri
  obtain ⟨its, r, pl, hz⟩ := I.list hq
  obtain ⟨u, eu, ru⟩ := r.get he
  have hl := (List.getElem?_eq_some_iff.mp he).1
  have hn := line63
  exact wpAny_getItem_list pl.isList h0 (by omega) (by simpa using eu) ⟨v, H, I, ru, q⟩
theorem ints_shaped (ns : List Int) : SeqAt.shaped (.list (ns.map PyData.int)) = true := by
  have hf : PyData.canLayAll0 (ns.map PyData.int) = true := by
    induction ns with
    | nil => simp [PyData.canLayAll0]
    | cons n ns ih => simp [PyData.canLayAll0, PyData.canLay0, ih]
  unfold SeqAt.shaped
  rw [show (PyData.list (ns.map PyData.int)).canLay0 = true by simpa [PyData.canLay0] using hf, Bool.true_and, decide_eq_true_eq]
  have : (PyData.list (ns.map PyData.int)).depth ≤ 0 + 1 := depth_list.mpr fun x hx => by
    obtain ⟨z, _, rfl⟩ := List.mem_map.mp hx
    simp [PyData.depth]
  omega
theorem DpAll_ints {K : PySem.W.Frag} {H : Hp} : ∀ ns : List Int, DpAll K H (ns.map V.int) (ns.map PyData.int)
  | [] => .nil
  | n :: ns => .cons (.int n) (DpAll_ints ns)
theorem md {x A : Int} (h : 0 < A) (hA : A ≤ 4294967296) : -(2 ^ 64) < x % A ∧ x % A < 2 ^ 64 := by
  have h1 := Int.emod_nonneg x (by omega : A ≠ 0)
  have h2 := Int.emod_lt_of_pos x h
  constructor <;> omega
section
variable {P : Program} {w : World} {K : PySem.W.Frag} {mg : Str → Option Value} {base : Heap}
def spDraw : Sp := fun vs H Q _ => ∃ (p fq : Addr) (m : Int) (b : Nat), vs = [.ref p, .int m] ∧ FeedAt H p fq b ∧ b ≤ 1000000000 ∧ 1 ≤ m ∧ m ≤ 1000000 ∧
  ∀ (r : Int) (H' : Hp), 0 ≤ r → r < m → Same (del H p) (del H' p) → FeedAt H' p fq (b + 1) → Q (.int r) H'
theorem sc_draw : FnScope ["_law_feed_here", "_law_many", "_law_told", "_law_cell", "_law_turn", "_law_mixed"] ["_law_feed_here", "_law_many"] (defScope (topS 11)) := ⟨rfl, rfl, rfl, by decide +kernel, rfl, by decide +kernel, by decide +kernel⟩
theorem ok_draw {f : Addr} {fd : FuncData} (D : Df K mg "_law_draw" (topS 11) ["_law_feed_here", "_law_many"] f fd) (B : Bt mg) : FnOk P w K mg base CX0 1 f fd ["_law_feed_here", "_law_many"] spDraw := by
  refine D.fn.ok sc_draw (fun vs H Q E h => ?_) (fun cdv A outer s H vs Q E hr h => ?_)
  · obtain ⟨p, qa, m, b, rfl, _⟩ := h
    rfl
  obtain ⟨p, qa, m, b, rfl, hF, hb, hm1, hm2, q⟩ := h
  obtain ⟨ns, i, j, k, hp, hq, hne, hi, hj, hk, hkb, hn⟩ := hF.ex
  have hu := hr.units
  have nd := sc_draw.nd
  refine ⟨_, pss_cons (ps_augS (pv 0) pe_int get_list pe_int ip_add set_list)
    (pss_cons (ps_if (pt_cmpR op_gt (pe_ix ix_list (pv 0) pe_int (fun _ _ => rfl)) pe_int (nomark _))
      (pss_cons (ps_set (i := 2) nd rfl (Or.inl rfl) (pe_op op_mod (pe_ix ix_list (pv 0) pe_int (fun _ _ => rfl)) (pv 1)))
      (pss_cons (ps_asg (pe_op op_fdiv (pe_ix ix_list (pv 0) pe_int (fun _ _ => rfl)) (pv 1)) (pg_sub (pv 0) pe_int set_list))
      (pss_one (ps_ret (pv 2))))) pss_nil)
    (pss_cons (ps_set (i := 3) nd rfl (Or.inl rfl) (pe_ifExp (pt_cmpR (op_eqD hu) (pe_ix ix_list (pv 0) pe_int (fun _ _ => rfl)) (pe_lst pa_nil) (nomark _)) pe_int
      (pe_ix ix_list (pe_ix ix_list (pv 0) pe_int (fun _ _ => rfl)) (pe_op op_mod (pe_ix ix_list (pv 0) pe_int (fun _ _ => rfl)) (pe_callB call_len_seq (by rfl) B.len PySem.boot_len (pa_cons (pe_ix ix_list (pv 0) pe_int (fun _ _ => rfl)) pa_nil))) (fun _ _ => rfl))))
    (pss_cons (ps_augS (pv 0) pe_int get_list pe_int ip_add set_list)
    (pss_cons (ps_if (PW.pt (pw_and (pt_cmpR op_ge (pv 3) (pe_op op_pow pe_int pe_int) (nomark _)) (pw_and1 (pt_cmpR op_le (pe_ix ix_list (pv 0) pe_int (fun _ _ => rfl)) (pe_callB call_len_seq (by rfl) B.len PySem.boot_len (pa_cons (pe_ix ix_list (pv 0) pe_int (fun _ _ => rfl)) pa_nil)) (nomark _)))))
      (pss_cons (ps_asg (pe_op op_fdiv (pv 3) (pv 1)) (pg_sub (pv 0) pe_int set_list))
      (pss_one (ps_ret (pe_op op_mod (pv 3) (pv 1))))) pss_nil)
    (pss_cons (ps_set (i := 4) nd rfl (Or.inl rfl) (pe_ix ix_list (pv 0) pe_int (fun _ _ => rfl)))
    (pss_cons (ps_set (i := 5) nd rfl (Or.inl rfl) (pe_op op_mod (pe_op op_add (pe_op op_add (pe_op op_mod (pv 3) pe_int) (pe_op op_mul (pe_op op_mul pe_int (pv 4)) (pv 4))) (pe_op op_mul pe_int (pv 4))) pe_int))
    (pss_cons (ps_set (i := 5) nd rfl (Or.inl rfl) (pe_op op_mod (pe_op op_add (pe_op op_mul (pv 5) (pv 5)) (pe_op op_mul pe_int (pv 4))) pe_int))
    (pss_cons (ps_set (i := 5) nd rfl (Or.inl rfl) (pe_op op_mod (pe_op op_add (pe_op op_mul (pv 5) (pv 5)) (pe_op op_mul pe_int (pv 4))) pe_int))
    (pss_one (ps_ret (pe_op op_mod (pe_op op_fdiv (pe_op op_mod (pe_op op_add (pe_op op_mul (pv 5) (pv 5)) (pv 4)) pe_int) pe_int) (pv 1)))))))))))), ?_⟩
  -- feed[3] += 1
  refine ⟨_, rfl, p, _, 3, _, rfl, rfl, by decide, SqL.of hp, rfl, k, 1, rfl, rfl, p, _, 3, 3, rfl, rfl, hp, rfl, ?_⟩
  generalize hH1 : upd H p (HO.lst ([V.ref qa, V.int i, V.int j, V.int k].set 3 (V.int ((fun i j => i + j) k 1)))) = H1
  have hp1 : H1 p = some (.lst [.ref qa, .int i, .int j, .int (k + 1)]) := by rw [← hH1]; exact upd_same
  have hq1 : H1 qa = some (.lst (ns.map V.int)) := by rw [← hH1, upd_ne (Ne.symm hne)]; exact hq
  have d1 : Same (del H p) (del H1 p) := by rw [← hH1]; exact del_upd
  clear hH1
  -- if feed[2] > 0
  refine ⟨_, rfl, p, _, 2, _, rfl, rfl, SqL.of hp1, atI_nat (j := 2) rfl, j, 0, rfl, rfl, _, rfl, ?_⟩
  refine ite2 (fun c => ?_) (fun c => ?_)
  · refine ⟨_, rfl, p, _, 2, _, rfl, rfl, SqL.of hp1, atI_nat (j := 2) rfl, _, rfl, j, m, rfl, rfl, (by show (0 : Int) < m; omega), ?_⟩
    refine ⟨_, rfl, p, _, 2, _, rfl, rfl, SqL.of hp1, atI_nat (j := 2) rfl, _, rfl, j, m, rfl, rfl, ⟨by omega, by omega⟩, _, rfl, p, _, 2, 2, rfl, rfl, hp1, rfl, ?_⟩
    refine ⟨_, rfl, q _ _ (Int.emod_nonneg _ (by omega)) (Int.emod_lt_of_pos _ (by omega)) (d1.trans del_upd) ⟨ns, i, j / m, k + 1, upd_same, ?_, hne, hi, Int.ediv_nonneg hj (by omega), by omega, by omega, hn⟩⟩
    rw [upd_ne (Ne.symm hne)]
    exact hq1
  -- the cell
  refine ⟨_, rfl, p, _, 0, _, rfl, rfl, SqL.of hp1, atI_nat (j := 0) rfl, Nat.zero_le _, fun N hN => ?_⟩
  have sN : Same H1 (upd H1 N (.lst [])) := same_new hN
  refine ⟨.list (ns.map PyData.int), .list [], .lst (SqL.of (sN _ _ hq1)) (DpAll_ints _), .lst (SqL.of upd_same) .nil, ints_shaped _, nil_shaped, _, rfl, ?_⟩
  have d2 : Same (del H p) (del (upd H1 N (.lst [])) p) := d1.trans (same_del sN)
  have hp2 := sN _ _ hp1
  have hq2 := sN _ _ hq1
  generalize upd H1 N (.lst []) = H2 at d2 hp2 hq2
  rw [eqv_nil_list]
  refine ite2 (fun c2 => ?_) (fun c2 => ?_)
  rotate_left
  · have hne0 : ns.length ≠ 0 := fun e => c2 (by rw [List.eq_nil_of_length_eq_zero e]; rfl)
    have hml : (ns.map V.int).length = ns.length := List.length_map _
    have e1 : 0 ≤ i % ((ns.map V.int).length : Int) := Int.emod_nonneg _ (by rw [hml]; omega)
    have e2 : i % ((ns.map V.int).length : Int) < ((ns.map V.int).length : Int) := Int.emod_lt_of_pos _ (by rw [hml]; omega)
    obtain ⟨t, ht⟩ : ∃ t : Nat, i % ((ns.map V.int).length : Int) = (t : Int) := ⟨_, (Int.toNat_of_nonneg e1).symm⟩
    have ht2 : t < ns.length := by rw [ht, hml] at e2; omega
    have hat : atI (ns.map V.int) (i % ((ns.map V.int).length : Int)) = some (V.int ns[t]) := by
      rw [ht]
      exact atI_nat (by rw [List.getElem?_map, List.getElem?_eq_getElem ht2]; rfl)
    refine ⟨_, rfl, p, _, 0, _, rfl, rfl, SqL.of hp2, atI_nat (j := 0) rfl, _, rfl, p, _, 1, _, rfl, rfl, SqL.of hp2, atI_nat (j := 1) rfl, _, rfl, p, _, 0, _, rfl, rfl, SqL.of hp2, atI_nat (j := 0) rfl, qa, _, rfl, .inl (SqL.of hq2), i, _, rfl, rfl, (by show (0 : Int) < _; rw [hml]; omega), qa, _, _, _, rfl, rfl, SqL.of hq2, hat, ?_⟩
    generalize ns[t] = cell
    refine ⟨_, rfl, p, _, 1, _, rfl, rfl, by decide, SqL.of hp2, rfl, i, 1, rfl, rfl, p, _, 1, 1, rfl, rfl, hp2, rfl, ?_⟩
    generalize hH3 : upd H2 p (HO.lst ([V.ref qa, V.int i, V.int j, V.int (k + 1)].set 1 (V.int ((fun i j => i + j) i 1)))) = H3
    have hp3 : H3 p = some (.lst [.ref qa, .int (i + 1), .int j, .int (k + 1)]) := by rw [← hH3]; exact upd_same
    have hq3 : H3 qa = some (.lst (ns.map V.int)) := by rw [← hH3, upd_ne (Ne.symm hne)]; exact hq2
    have d3 : Same (del H p) (del H3 p) := by rw [← hH3]; exact d2.trans del_upd
    clear hH3
    refine ⟨_, rfl, 10, 18, rfl, rfl, ⟨by decide, by decide, by decide⟩, _, _, rfl, rfl, _, rfl, ?_⟩
    refine ite2 (fun c3 => ?_) (fun c3 => ?_)
    · have c4 := of_decide_eq_true c3
      refine ⟨_, rfl, p, _, 1, _, rfl, rfl, SqL.of hp3, atI_nat (j := 1) rfl, _, rfl, p, _, 0, _, rfl, rfl, SqL.of hp3, atI_nat (j := 0) rfl, qa, _, rfl, .inl (SqL.of hq3), _, _, rfl, rfl, _, rfl, ?_⟩
      refine ite2 (fun c5 => ?_) (fun c5 => ?_)
      · refine ⟨_, rfl, _, rfl, _, m, rfl, rfl, ⟨by omega, by omega⟩, _, rfl, p, _, 2, 2, rfl, rfl, hp3, rfl, ?_⟩
        refine ⟨_, rfl, _, rfl, _, m, rfl, rfl, (by show (0 : Int) < m; omega), ?_⟩
        refine q _ _ (Int.emod_nonneg _ (by omega)) (Int.emod_lt_of_pos _ (by omega)) (d3.trans del_upd) ⟨ns, i + 1, _, k + 1, upd_same, ?_, hne, by omega, Int.ediv_nonneg (Int.le_trans (by decide) c4) (by omega), by omega, by omega, hn⟩
        rw [upd_ne (Ne.symm hne)]
        exact hq3
      · refine ⟨_, rfl, p, _, 3, _, rfl, rfl, SqL.of hp3, atI_nat (j := 3) rfl, ?_⟩
        refine ⟨_, rfl, _, 2147483629, rfl, rfl, (by show (0 : Int) < 2147483629; decide), _, rfl, 69621, k + 1, rfl, rfl, .inl ⟨by decide, by decide⟩, _, rfl, _, k + 1, rfl, rfl, .inr ⟨by omega, by omega⟩, _, _, rfl, rfl, _, rfl, 7, k + 1, rfl, rfl, .inl ⟨by decide, by decide⟩, _, _, rfl, rfl, _, 2147483629, rfl, rfl, (by show (0 : Int) < 2147483629; decide), ?_⟩
        refine ⟨_, rfl, _, rfl, _, _, rfl, rfl, .inl (md (by decide) (by decide)), _, rfl, 48271, k + 1, rfl, rfl, .inl ⟨by decide, by decide⟩, _, _, rfl, rfl, _, 2147483647, rfl, rfl, (by show (0 : Int) < 2147483647; decide), ?_⟩
        refine ⟨_, rfl, _, rfl, _, _, rfl, rfl, .inl (md (by decide) (by decide)), _, rfl, 16807, k + 1, rfl, rfl, .inl ⟨by decide, by decide⟩, _, _, rfl, rfl, _, 2147483587, rfl, rfl, (by show (0 : Int) < 2147483587; decide), ?_⟩
        refine ⟨_, rfl, _, rfl, _, _, rfl, rfl, .inl (md (by decide) (by decide)), _, rfl, _, k + 1, rfl, rfl, _, 2147483629, rfl, rfl, (by show (0 : Int) < 2147483629; decide), _, 131, rfl, rfl, ⟨by decide, by decide⟩, _, rfl, _, m, rfl, rfl, by show (0 : Int) < m; omega, ?_⟩
        exact q _ _ (Int.emod_nonneg _ (by omega)) (Int.emod_lt_of_pos _ (by omega)) d3 ⟨ns, i + 1, j, k + 1, hp3, hq3, hne, by omega, hj, by omega, by omega, hn⟩
    · refine iteF ?_
      refine ⟨_, rfl, p, _, 3, _, rfl, rfl, SqL.of hp3, atI_nat (j := 3) rfl, ?_⟩
      refine ⟨_, rfl, _, 2147483629, rfl, rfl, (by show (0 : Int) < 2147483629; decide), _, rfl, 69621, k + 1, rfl, rfl, .inl ⟨by decide, by decide⟩, _, rfl, _, k + 1, rfl, rfl, .inr ⟨by omega, by omega⟩, _, _, rfl, rfl, _, rfl, 7, k + 1, rfl, rfl, .inl ⟨by decide, by decide⟩, _, _, rfl, rfl, _, 2147483629, rfl, rfl, (by show (0 : Int) < 2147483629; decide), ?_⟩
      refine ⟨_, rfl, _, rfl, _, _, rfl, rfl, .inl (md (by decide) (by decide)), _, rfl, 48271, k + 1, rfl, rfl, .inl ⟨by decide, by decide⟩, _, _, rfl, rfl, _, 2147483647, rfl, rfl, (by show (0 : Int) < 2147483647; decide), ?_⟩
      refine ⟨_, rfl, _, rfl, _, _, rfl, rfl, .inl (md (by decide) (by decide)), _, rfl, 16807, k + 1, rfl, rfl, .inl ⟨by decide, by decide⟩, _, _, rfl, rfl, _, 2147483587, rfl, rfl, (by show (0 : Int) < 2147483587; decide), ?_⟩
      refine ⟨_, rfl, _, rfl, _, _, rfl, rfl, .inl (md (by decide) (by decide)), _, rfl, _, k + 1, rfl, rfl, _, 2147483629, rfl, rfl, (by show (0 : Int) < 2147483629; decide), _, 131, rfl, rfl, ⟨by decide, by decide⟩, _, rfl, _, m, rfl, rfl, by show (0 : Int) < m; omega, ?_⟩
      exact q _ _ (Int.emod_nonneg _ (by omega)) (Int.emod_lt_of_pos _ (by omega)) d3 ⟨ns, i + 1, j, k + 1, hp3, hq3, hne, by omega, hj, by omega, by omega, hn⟩
  · refine ⟨_, rfl, p, _, 1, _, rfl, rfl, by decide, SqL.of hp2, rfl, i, 1, rfl, rfl, p, _, 1, 1, rfl, rfl, hp2, rfl, ?_⟩
    generalize hH3 : upd H2 p (HO.lst ([V.ref qa, V.int i, V.int j, V.int (k + 1)].set 1 (V.int ((fun i j => i + j) i 1)))) = H3
    have hp3 : H3 p = some (.lst [.ref qa, .int (i + 1), .int j, .int (k + 1)]) := by rw [← hH3]; exact upd_same
    have hq3 : H3 qa = some (.lst (ns.map V.int)) := by rw [← hH3, upd_ne (Ne.symm hne)]; exact hq2
    have d3 : Same (del H p) (del H3 p) := by rw [← hH3]; exact d2.trans del_upd
    clear hH3
    refine ⟨_, rfl, 10, 18, rfl, rfl, ⟨by decide, by decide, by decide⟩, _, _, rfl, rfl, _, rfl, ?_⟩
    refine ite2 (fun c3 => ?_) (fun c3 => ?_)
    · have c4 := of_decide_eq_true c3
      refine ⟨_, rfl, p, _, 1, _, rfl, rfl, SqL.of hp3, atI_nat (j := 1) rfl, _, rfl, p, _, 0, _, rfl, rfl, SqL.of hp3, atI_nat (j := 0) rfl, qa, _, rfl, .inl (SqL.of hq3), _, _, rfl, rfl, _, rfl, ?_⟩
      refine ite2 (fun c5 => ?_) (fun c5 => ?_)
      · refine ⟨_, rfl, _, rfl, _, m, rfl, rfl, ⟨by omega, by omega⟩, _, rfl, p, _, 2, 2, rfl, rfl, hp3, rfl, ?_⟩
        refine ⟨_, rfl, _, rfl, _, m, rfl, rfl, (by show (0 : Int) < m; omega), ?_⟩
        refine q _ _ (Int.emod_nonneg _ (by omega)) (Int.emod_lt_of_pos _ (by omega)) (d3.trans del_upd) ⟨ns, i + 1, _, k + 1, upd_same, ?_, hne, by omega, Int.ediv_nonneg (Int.le_trans (by decide) c4) (by omega), by omega, by omega, hn⟩
        rw [upd_ne (Ne.symm hne)]
        exact hq3
      · refine ⟨_, rfl, p, _, 3, _, rfl, rfl, SqL.of hp3, atI_nat (j := 3) rfl, ?_⟩
        refine ⟨_, rfl, _, 2147483629, rfl, rfl, (by show (0 : Int) < 2147483629; decide), _, rfl, 69621, k + 1, rfl, rfl, .inl ⟨by decide, by decide⟩, _, rfl, _, k + 1, rfl, rfl, .inr ⟨by omega, by omega⟩, _, _, rfl, rfl, _, rfl, 7, k + 1, rfl, rfl, .inl ⟨by decide, by decide⟩, _, _, rfl, rfl, _, 2147483629, rfl, rfl, (by show (0 : Int) < 2147483629; decide), ?_⟩
        refine ⟨_, rfl, _, rfl, _, _, rfl, rfl, .inl (md (by decide) (by decide)), _, rfl, 48271, k + 1, rfl, rfl, .inl ⟨by decide, by decide⟩, _, _, rfl, rfl, _, 2147483647, rfl, rfl, (by show (0 : Int) < 2147483647; decide), ?_⟩
        refine ⟨_, rfl, _, rfl, _, _, rfl, rfl, .inl (md (by decide) (by decide)), _, rfl, 16807, k + 1, rfl, rfl, .inl ⟨by decide, by decide⟩, _, _, rfl, rfl, _, 2147483587, rfl, rfl, (by show (0 : Int) < 2147483587; decide), ?_⟩
        refine ⟨_, rfl, _, rfl, _, _, rfl, rfl, .inl (md (by decide) (by decide)), _, rfl, _, k + 1, rfl, rfl, _, 2147483629, rfl, rfl, (by show (0 : Int) < 2147483629; decide), _, 131, rfl, rfl, ⟨by decide, by decide⟩, _, rfl, _, m, rfl, rfl, by show (0 : Int) < m; omega, ?_⟩
        exact q _ _ (Int.emod_nonneg _ (by omega)) (Int.emod_lt_of_pos _ (by omega)) d3 ⟨ns, i + 1, j, k + 1, hp3, hq3, hne, by omega, hj, by omega, by omega, hn⟩
    · refine iteF ?_
      refine ⟨_, rfl, p, _, 3, _, rfl, rfl, SqL.of hp3, atI_nat (j := 3) rfl, ?_⟩
      refine ⟨_, rfl, _, 2147483629, rfl, rfl, (by show (0 : Int) < 2147483629; decide), _, rfl, 69621, k + 1, rfl, rfl, .inl ⟨by decide, by decide⟩, _, rfl, _, k + 1, rfl, rfl, .inr ⟨by omega, by omega⟩, _, _, rfl, rfl, _, rfl, 7, k + 1, rfl, rfl, .inl ⟨by decide, by decide⟩, _, _, rfl, rfl, _, 2147483629, rfl, rfl, (by show (0 : Int) < 2147483629; decide), ?_⟩
      refine ⟨_, rfl, _, rfl, _, _, rfl, rfl, .inl (md (by decide) (by decide)), _, rfl, 48271, k + 1, rfl, rfl, .inl ⟨by decide, by decide⟩, _, _, rfl, rfl, _, 2147483647, rfl, rfl, (by show (0 : Int) < 2147483647; decide), ?_⟩
      refine ⟨_, rfl, _, rfl, _, _, rfl, rfl, .inl (md (by decide) (by decide)), _, rfl, 16807, k + 1, rfl, rfl, .inl ⟨by decide, by decide⟩, _, _, rfl, rfl, _, 2147483587, rfl, rfl, (by show (0 : Int) < 2147483587; decide), ?_⟩
      refine ⟨_, rfl, _, rfl, _, _, rfl, rfl, .inl (md (by decide) (by decide)), _, rfl, _, k + 1, rfl, rfl, _, 2147483629, rfl, rfl, (by show (0 : Int) < 2147483629; decide), _, 131, rfl, rfl, ⟨by decide, by decide⟩, _, rfl, _, m, rfl, rfl, by show (0 : Int) < m; omega, ?_⟩
      exact q _ _ (Int.emod_nonneg _ (by omega)) (Int.emod_lt_of_pos _ (by omega)) d3 ⟨ns, i + 1, j, k + 1, hp3, hq3, hne, by omega, hj, by omega, by omega, hn⟩
end
end Sw
set_option maxRecDepth 100000
set_option maxHeartbeats 4000000
namespace Sw
open PySem PySem.Spec PyProof.Rows L2
abbrev abc : Str := "abcdefghijklmnopqrstuvwxyz"
theorem abc_list : abc.cps.toList = (List.range 26).map (97 + ·) := by decide +kernel
theorem abc_len : abc.length ≤ sizeLine := by decide +kernel
theorem abc_at {r : Int} (h0 : 0 ≤ r) (h1 : r < 26) : ∃ c, atI abc.cps.toList r = some c ∧ okSign c = true := by
  obtain ⟨n, rfl⟩ : ∃ n : Nat, r = (n : Int) := ⟨r.toNat, (Int.toNat_of_nonneg h0).symm⟩
  have hn : n < 26 := by omega
  refine ⟨97 + n, atI_nat (by rw [abc_list, List.getElem?_map, List.getElem?_range hn]; rfl), ?_⟩
  unfold okSign
  simp
  omega
theorem abc_index : ((List.range 26).all fun k => (Txt.index0 abc ⟨#[97 + k]⟩).isSome) = true := by decide +kernel
theorem abc_found {c : Nat} (h : okSign c = true) : Txt.index0 abc ⟨#[c]⟩ ≠ none := by
  unfold okSign at h
  rw [Bool.and_eq_true, decide_eq_true_eq, decide_eq_true_eq] at h
  have := List.all_eq_true.mp abc_index (c - 97) (List.mem_range.mpr (by omega))
  rw [show 97 + (c - 97) = c by omega] at this
  intro z
  rw [z] at this
  cases this
structure IsWord (z : Str) : Prop where
  lo : 1 ≤ z.length
  hi : z.length ≤ 8
  ok : ∀ c ∈ z.cps.toList, okSign c = true
theorem len_list (z : Str) : z.length = z.cps.toList.length := by simp [Str.length]
theorem app_list (x y : Str) : (x ++ y).cps.toList = x.cps.toList ++ y.cps.toList := by
  show (x.cps ++ y.cps).toList = _
  simp
theorem app_len (x y : Str) : (x ++ y).length = x.length + y.length := by
  rw [len_list, len_list, len_list, app_list, List.length_append]
theorem IsWord.small {z : Str} (h : IsWord z) : z.length ≤ sizeLine := by have := h.hi; rw [sizeLine_eq]; omega
theorem IsWord.ascii {z : Str} (h : IsWord z) : ∀ c ∈ z.cps.toList, c < 128 := fun c hc => by
  have := h.ok c hc
  unfold okSign at this
  rw [Bool.and_eq_true, decide_eq_true_eq, decide_eq_true_eq] at this
  omega
theorem one_sign {c : Nat} (h : okSign c = true) : IsWord ⟨#[c]⟩ := ⟨by show 1 ≤ 1; omega, by show 1 ≤ 8; omega, fun d hd => by
  have : d = c := by simpa using hd
  rw [this]; exact h⟩
theorem IsWord.app {x y : Str} (hx : IsWord x) (hy : ∀ c ∈ y.cps.toList, okSign c = true) (hl : x.length + y.length ≤ 8) : IsWord (x ++ y) := by
  refine ⟨by rw [app_len]; have := hx.lo; omega, by rw [app_len]; exact hl, fun c hc => ?_⟩
  rw [app_list, List.mem_append] at hc
  exact hc.elim (hx.ok c) (hy c)
theorem cutS_list (z : Str) {n : Nat} (hn : n ≤ z.length) : (cutS z none (some (n : Int))).cps.toList = z.cps.toList.take n := by
  unfold cutS
  simp only [HT.sIx_nat, HT.sIx_none]
  rw [Nat.min_eq_left hn]
  simp
theorem cutS_any (z : Str) (n : Nat) : (cutS z none (some (n : Int))).cps.toList = z.cps.toList.take (min n z.length) := by
  unfold cutS
  simp only [HT.sIx_nat, HT.sIx_none]
  simp
theorem mul_a : ∀ n : Nat, n ≤ 7 → MulOk "a" (n : Int) ∧ (Txt.mul "a" (n : Int)).cps.toList = List.replicate n 97
  | 0, _ => ⟨by unfold MulOk; decide +kernel, by decide +kernel⟩
  | 1, _ => ⟨by unfold MulOk; decide +kernel, by decide +kernel⟩
  | 2, _ => ⟨by unfold MulOk; decide +kernel, by decide +kernel⟩
  | 3, _ => ⟨by unfold MulOk; decide +kernel, by decide +kernel⟩
  | 4, _ => ⟨by unfold MulOk; decide +kernel, by decide +kernel⟩
  | 5, _ => ⟨by unfold MulOk; decide +kernel, by decide +kernel⟩
  | 6, _ => ⟨by unfold MulOk; decide +kernel, by decide +kernel⟩
  | 7, _ => ⟨by unfold MulOk; decide +kernel, by decide +kernel⟩
  | n + 8, h => by omega
theorem op_mulS {X : Cx} : OpR X (binaryOp .Mult) (fun x y H Q => ∃ z n, x = .str z ∧ y = .int n ∧ MulOk z n ∧ Q (.str (Txt.mul z n)) H) := by
  intro pins s σ H x y v u Q I rx ry h
  obtain ⟨z, n, rfl, rfl, ok, q⟩ := h
  obtain ⟨t, rfl⟩ := rx
  obtain ⟨t', rfl⟩ := ry
  exact SB.mul ok fun t2 k => ⟨.str _, H, I.tok k, ⟨_, rfl⟩, q⟩
theorem takesNo {X : Cx} : Takes X (fun _ _ _ _ => False) := fun u s' ⟨a, B, sI, pins, σ, H, cls, d, e, I, nb, up, sky, na, os, ag, w⟩ => w.elim
section
variable {P : Program} {w : World} {K : PySem.W.Frag} {mg : Str → Option Value} {base : Heap}
def spAfter : Sp := fun vs H Q _ => ∃ z : Str, vs = [.str z] ∧ IsWord z ∧ ∀ z', IsWord z' → Q (.str z') H
theorem sc_after : FnScope ["_law_word_here", "_law_letters", "_law_at", "_law_sign"] ["_law_word_here"] (defScope (topS 12)) := ⟨rfl, rfl, rfl, by decide +kernel, rfl, by decide +kernel, by decide +kernel⟩
theorem ok_after {f : Addr} {fd : FuncData} (D : Df K mg "_law_after" (topS 12) ["_law_word_here"] f fd) (B : Bt mg) : FnOk P w K mg base CX0 1 f fd ["_law_word_here"] spAfter := by
  refine D.fn.ok sc_after (fun vs H Q E h => ?_) (fun cdv A outer s H vs Q E hr h => ?_)
  · obtain ⟨z, rfl, _⟩ := h
    rfl
  obtain ⟨z, rfl, hz, q⟩ := h
  have nd := sc_after.nd
  refine ⟨_, pss_cons (ps_set (i := 1) nd rfl (Or.inl rfl) pe_str)
    (pss_cons (ps_if (pt_cmpR op_lt (pe_callB call_len_str (by rfl) B.len PySem.boot_len (pa_cons (pv 0) pa_nil)) pe_int (nomark _)) (pss_one (ps_ret (pe_op op_add_str (pv 0) pe_str))) pss_nil)
    (pss_cons (ps_set (i := 2) nd rfl (Or.inl rfl) pe_int)
    (pss_cons (ps_while PassesOwn.never (PW.pt (pw_and (pt_cmpR op_gt (pv 2) pe_int (nomark _)) (pw_and1 (pt_cmpR op_eq (pe_ix ix_str (pv 0) (pv 2) (fun _ _ => rfl)) pe_str (nomark _))))) (pss_one (ps_aug (i := 2) nd rfl (Or.inl rfl) pe_int ip_sub)))
    (pss_cons (ps_set (i := 3) nd rfl (Or.inl rfl) (pe_ix ix_str (pv 1) (pe_op op_mod (pe_op op_add (pe_bmS PySem.F.plainAttrs_str PySem.F.slot_str_index PySem.F.type_str_index (mt_indexX rfl takesNo) (pv 1) (pa_cons (pe_ix ix_str (pv 0) (pv 2) (fun _ _ => rfl)) pa_nil)) pe_int) pe_int) (fun _ _ => rfl)))
    (pss_one (ps_ret (pe_op op_add_str (pe_op op_add_str (pe_slice sl_str (pv 0) po_none (po_some (pv 2))) (pv 3)) (pe_op op_mulS pe_str (pe_op op_sub pe_int (pv 2)))))))))), ?_⟩
  refine ⟨_, rfl, z, rfl, hz.small, _, _, rfl, rfl, _, rfl, ?_⟩
  refine ite2 (fun c => ?_) (fun c => ?_)
  · have c' : z.length < 8 := by have := of_decide_eq_true c; omega
    refine ⟨_, rfl, _, _, rfl, rfl, ?_, q _ (hz.app (fun d hd => ?_) ?_)⟩
    · have : (Str.ofString "a").length = 1 := rfl
      rw [this, sizeLine_eq]; omega
    · have : d = 97 := by simpa using (show d ∈ [97] from hd)
      rw [this]; decide
    · have : (Str.ofString "a").length = 1 := rfl
      rw [this]; omega
  have hl8 : z.length = 8 := by
    have := of_decide_eq_false (Bool.eq_false_iff.mpr c)
    have := hz.hi
    omega
  have hl8' : z.cps.toList.length = 8 := by rw [← len_list]; exact hl8
  have at_ok : ∀ a : Nat, a ≤ 7 → ∃ c, atI z.cps.toList (a : Int) = some c ∧ okSign c = true := fun a ha => by
    have h8 : a < z.cps.toList.length := by omega
    exact ⟨z.cps.toList[a], atI_nat (List.getElem?_eq_getElem h8), hz.ok _ (List.getElem_mem h8)⟩
  refine while_by (fun σ H' => H' = H ∧ ∃ a : Nat, a ≤ 7 ∧ σ = [some (.str z), some (.str abc), some (.int (a : Int)), none]) (fun σ _ => match σ with | [_, _, some (.int a), _] => a.toNat | _ => 0) ⟨rfl, 7, by omega, rfl⟩ ?_ ?_
  · rintro σ H' ⟨rfl, a, ha, rfl⟩
    refine ⟨_, rfl, _, 0, rfl, rfl, _, rfl, ?_⟩
    refine ite2 (fun c1 => ?_) (fun c1 => ?_)
    · have c2 : 0 < a := by have := of_decide_eq_true c1; omega
      obtain ⟨c0, hat0, _⟩ := at_ok a ha
      refine ⟨_, rfl, _, rfl, z, (a : Int), c0, rfl, rfl, hz.small, hat0, rfl, _, rfl, ?_⟩
      refine ite2 (fun c3 => ?_) (fun c3 => ?_)
      · refine ⟨_, rfl, _, 1, rfl, rfl, ⟨rfl, a - 1, by omega, ?_⟩, ?_⟩
        · have : (a : Int) - 1 = ((a - 1 : Nat) : Int) := by omega
          rw [← this]
          rfl
        · show ((a : Int) - 1).toNat < ((a : Int)).toNat
          omega
      · obtain ⟨c1, hat, hok⟩ := at_ok a ha
        refine ⟨_, rfl, _, rfl, rfl, _, rfl, _, rfl, z, (a : Int), c1, rfl, rfl, hz.small, hat, abc, ⟨#[c1]⟩, rfl, rfl, fun k hk => ?_, fun hn => absurd hn (abc_found hok)⟩
        obtain ⟨c2, hat2, hok2⟩ := abc_at (r := ((k : Int) + 1) % 26) (Int.emod_nonneg _ (by decide)) (Int.emod_lt_of_pos _ (by decide))
        refine ⟨_, _, rfl, rfl, _, 26, rfl, rfl, (by show (0 : Int) < 26; decide), abc, _, c2, rfl, rfl, abc_len, hat2, ?_⟩
        obtain ⟨mo, ml⟩ := mul_a (7 - a) (by omega)
        have e7 : (7 : Int) - (a : Int) = ((7 - a : Nat) : Int) := by omega
        have lc : (cutS z none (some (a : Int))).length = a := by rw [len_list, cutS_list z (by omega), List.length_take]; omega
        have lm : (Txt.mul "a" ((7 - a : Nat) : Int)).length = 7 - a := by rw [len_list, ml, List.length_replicate]
        have l1 : (⟨#[c2]⟩ : Str).length = 1 := rfl
        refine ⟨_, rfl, _, rfl, (a : Int), rfl, z, rfl, hz.small, _, rfl, _, _, rfl, rfl, by rw [lc, l1, sizeLine_eq]; omega, _, rfl, 7, (a : Int), rfl, rfl, _, _, rfl, rfl, by rw [e7]; exact mo, _, _, rfl, rfl, by rw [e7, app_len, lc, l1, lm, sizeLine_eq]; omega, ?_⟩
        refine q _ ?_
        rw [e7]
        refine ⟨by rw [app_len, app_len, lc, l1]; omega, by rw [app_len, app_len, lc, l1, lm]; omega, fun d hd => ?_⟩
        rw [app_list, app_list, List.mem_append, List.mem_append, cutS_list z (by omega), ml] at hd
        rcases hd with (hd | hd) | hd
        · exact hz.ok d (List.mem_of_mem_take hd)
        · have : d = c2 := by simpa using hd
          rw [this]; exact hok2
        · rw [(List.mem_replicate.mp hd).2]; decide
    · refine iteF ?_
      obtain ⟨c1, hat, hok⟩ := at_ok a ha
      refine ⟨_, rfl, _, rfl, rfl, _, rfl, _, rfl, z, (a : Int), c1, rfl, rfl, hz.small, hat, abc, ⟨#[c1]⟩, rfl, rfl, fun k hk => ?_, fun hn => absurd hn (abc_found hok)⟩
      obtain ⟨c2, hat2, hok2⟩ := abc_at (r := ((k : Int) + 1) % 26) (Int.emod_nonneg _ (by decide)) (Int.emod_lt_of_pos _ (by decide))
      refine ⟨_, _, rfl, rfl, _, 26, rfl, rfl, (by show (0 : Int) < 26; decide), abc, _, c2, rfl, rfl, abc_len, hat2, ?_⟩
      obtain ⟨mo, ml⟩ := mul_a (7 - a) (by omega)
      have e7 : (7 : Int) - (a : Int) = ((7 - a : Nat) : Int) := by omega
      have lc : (cutS z none (some (a : Int))).length = a := by rw [len_list, cutS_list z (by omega), List.length_take]; omega
      have lm : (Txt.mul "a" ((7 - a : Nat) : Int)).length = 7 - a := by rw [len_list, ml, List.length_replicate]
      have l1 : (⟨#[c2]⟩ : Str).length = 1 := rfl
      refine ⟨_, rfl, _, rfl, (a : Int), rfl, z, rfl, hz.small, _, rfl, _, _, rfl, rfl, by rw [lc, l1, sizeLine_eq]; omega, _, rfl, 7, (a : Int), rfl, rfl, _, _, rfl, rfl, by rw [e7]; exact mo, _, _, rfl, rfl, by rw [e7, app_len, lc, l1, lm, sizeLine_eq]; omega, ?_⟩
      refine q _ ?_
      rw [e7]
      refine ⟨by rw [app_len, app_len, lc, l1]; omega, by rw [app_len, app_len, lc, l1, lm]; omega, fun d hd => ?_⟩
      rw [app_list, app_list, List.mem_append, List.mem_append, cutS_list z (by omega), ml] at hd
      rcases hd with (hd | hd) | hd
      · exact hz.ok d (List.mem_of_mem_take hd)
      · have : d = c2 := by simpa using hd
        rw [this]; exact hok2
      · rw [(List.mem_replicate.mp hd).2]; decide
  · intro σ H' Q1 Q2 h12 hc
    obtain ⟨v, h1, i, j, e1, e2, k, e3, h⟩ := hc
    refine ⟨v, h1, i, j, e1, e2, k, e3, ?_⟩
    cases k with
    | false => exact h12 _ _ h
    | true =>
      obtain ⟨v1, g1, v2, g2, z1, i1, c1, g3, g4, g5, g6, g7, k1, g8, g9⟩ := h
      exact ⟨v1, g1, v2, g2, z1, i1, c1, g3, g4, g5, g6, g7, k1, g8, h12 _ _ g9⟩
end
end Sw
set_option maxRecDepth 100000
set_option maxHeartbeats 4000000
namespace Sw
open PySem PySem.Spec PyProof.Rows L2
theorem flat_strs (zs : List Str) : (zs.map V.str).all flatV = true := by
  rw [List.all_map]
  exact List.all_eq_true.mpr fun _ _ => rfl
section
variable {P : Program} {w : World} {K : PySem.W.Frag} {mg : Str → Option Value} {base : Heap}
def spWord : Sp := fun vs H Q _ => ∃ (p fq l : Addr) (b : Nat) (zs : List Str), vs = [.ref p, .ref l] ∧ FeedAt H p fq b ∧ b + 20 ≤ 1000000000 ∧ del H p l = some (.lst (zs.map V.str)) ∧ zs.length ≤ 1000 ∧ (∀ z ∈ zs, IsWord z) ∧
  ∀ (z : Str) (H' : Hp), IsWord z → Same (del H p) (del H' p) → FeedAt H' p fq (b + 12) → Q (.str z) H'
theorem sc_lw : FnScope ["_law_feed_here", "_law_found", "_law_letters", "_law_way", "_law_word_here", "_law_k", "_law_own"] ["_law_feed_here", "_law_found"] (defScope (topS 13)) := ⟨rfl, rfl, rfl, by decide +kernel, rfl, by decide +kernel, by decide +kernel⟩
theorem ok_lw {f f1 f2 : Addr} {fd fd1 fd2 : FuncData} (D : Df K mg "_law_word" (topS 13) ["_law_feed_here", "_law_found"] f fd) (DD : Df K mg "_law_draw" (topS 11) ["_law_feed_here", "_law_many"] f1 fd1) (DA : Df K mg "_law_after" (topS 12) ["_law_word_here"] f2 fd2) (B : Bt mg)
    (GD : FnOk P w K mg base CX0 1 f1 fd1 ["_law_feed_here", "_law_many"] spDraw) (GA : FnOk P w K mg base CX0 1 f2 fd2 ["_law_word_here"] spAfter) : FnOk P w K mg base CX0 2 f fd ["_law_feed_here", "_law_found"] spWord := by
  refine D.fn.ok sc_lw (fun vs H Q E h => ?_) (fun cdv A outer s H vs Q E hr h => ?_)
  · obtain ⟨p, fq, l, b, zs, rfl, _⟩ := h
    rfl
  obtain ⟨p, fq, l, b, zs, rfl, hF, hb, hl, hzl, hzs, q⟩ := h
  have nd := sc_lw.nd
  have hu := hr.units
  refine ⟨_, pss_cons (ps_set (i := 2) nd rfl (Or.inl rfl) pe_str)
    (pss_cons (ps_set (i := 3) nd rfl (Or.inl rfl) (pe_call GD hr (by rfl) DD.gl DD.fn.kp DD.bd .nil pass0 (pa_cons (pv 0) (pa_cons pe_int pa_nil))))
    (pss_cons (ps_set (i := 4) nd rfl (Or.inl rfl) (pe_ix ix_str (pv 2) (pe_call GD hr (by rfl) DD.gl DD.fn.kp DD.bd .nil pass0 (pa_cons (pv 0) (pa_cons pe_int pa_nil))) (fun _ _ => rfl)))
    (pss_cons (ps_if (PW.pt (pw_or (pt_cmpR op_gt (pv 3) pe_int (nomark _)) (pw_or1 (pt_cmpR (op_eqD hu) (pv 1) (pe_lst pa_nil) (nomark _)))))
      (pss_one (ps_for PassesOwn.never rfl (pi_range1 (by rfl) B.range (pa_cons (pe_call GD hr (by rfl) DD.gl DD.fn.kp DD.bd .nil pass0 (pa_cons (pv 0) (pa_cons pe_int pa_nil))) pa_nil)) (pg_name (i := 5) nd rfl (Or.inl rfl)) (pss_one (ps_set (i := 4) nd rfl (Or.inl rfl) (pe_op op_add_str (pv 4) (pe_ix ix_str (pv 2) (pe_call GD hr (by rfl) DD.gl DD.fn.kp DD.bd .nil pass0 (pa_cons (pv 0) (pa_cons pe_int pa_nil))) (fun _ _ => rfl)))))))
      (pss_cons (ps_set (i := 6) nd rfl (Or.inl rfl) (pe_ix ix_list (pv 1) (pe_call GD hr (by rfl) DD.gl DD.fn.kp DD.bd .nil pass0 (pa_cons (pv 0) (pa_cons (pe_callB call_len_seq (by rfl) B.len PySem.boot_len (pa_cons (pv 1) pa_nil)) pa_nil))) (fun _ _ => rfl)))
      (pss_one (ps_set (i := 4) nd rfl (Or.inl rfl) (pe_ifExp (pt_cmpR op_eq (pv 3) pe_int (nomark _))
        (pe_slice sl_str (pv 6) po_none (po_some (pe_op op_add pe_int (pe_call GD hr (by rfl) DD.gl DD.fn.kp DD.bd .nil pass0 (pa_cons (pv 0) (pa_cons (pe_callB call_len_str (by rfl) B.len PySem.boot_len (pa_cons (pv 6) pa_nil)) pa_nil))))))
        (pe_op op_add_str (pe_slice sl_str (pv 6) po_none (po_some pe_int)) (pe_ix ix_str (pv 2) (pe_call GD hr (by rfl) DD.gl DD.fn.kp DD.bd .nil pass0 (pa_cons (pv 0) (pa_cons pe_int pa_nil))) (fun _ _ => rfl))))))))
    (pss_cons (ps_for PassesOwn.never rfl (pi_range1 (by rfl) B.range (pa_cons pe_int pa_nil)) (pg_name (i := 5) nd rfl (Or.inl rfl))
      (pss_cons (ps_if (pt_cmpR op_notIn_seq (pv 4) (pv 1) (by rfl)) (pss_one ps_break) pss_nil)
      (pss_one (ps_set (i := 4) nd rfl (Or.inl rfl) (pe_call GA hr (by rfl) DA.gl DA.fn.kp DA.bd .nil pass0 (pa_cons (pv 4) pa_nil))))))
    (pss_one (ps_ret (pv 4))))))), ?_⟩
  -- way
  refine ⟨_, rfl, p, fq, 5, b, rfl, hF, by omega, by decide, by decide, fun way H1 y0 y1 s1 F1 => ?_⟩
  -- the first letter
  refine ⟨_, rfl, _, rfl, p, fq, 26, b + 1, rfl, F1, by omega, by decide, by decide, fun r H2 r0 r1 s2 F2 => ?_⟩
  obtain ⟨c0, hat0, ok0⟩ := abc_at r0 r1
  refine ⟨abc, r, c0, rfl, rfl, abc_len, hat0, ?_⟩
  have hl2 := del_same _ _ _ _ ((s1.trans s2) _ _ hl)
  refine ⟨_, rfl, _, _, rfl, rfl, _, rfl, ?_⟩
  -- a fresh word, letter by letter
  refine ite2 (fun c => ?_) (fun c => ?_)
  · refine ⟨_, rfl, p, fq, 8, b + 2, rfl, F2, by omega, by decide, by decide, fun r8 H3 t0 t1 s3 F3 => ?_⟩
    refine ⟨r8, rfl, by omega, by omega, for_range (lo := 0) (n := r8.toNat) (fun i σ H' => ∃ (z : Str) (k : Option V), σ = [some (.ref p), some (.ref l), some (.str abc), some (.int way), some (.str z), k, none] ∧ IsWord z ∧ z.length ≤ 1 + i ∧ Same (del H p) (del H' p) ∧ FeedAt H' p fq (b + 3 + i)) ⟨_, none, rfl, one_sign ok0, by show 1 ≤ 1; omega, s1.trans (s2.trans s3), F3⟩ ?_ ?_⟩
    · rintro t σ H4 ht ⟨z4, k4, rfl, w4, l4, s4, F4⟩
      refine ⟨_, rfl, _, rfl, _, rfl, p, fq, 26, b + 3 + t, rfl, F4, by omega, by decide, by decide, fun r5 H5 u0 u1 s5 F5 => ?_⟩
      obtain ⟨c5, hat5, ok5⟩ := abc_at u0 u1
      have l1 : (⟨#[c5]⟩ : Str).length = 1 := rfl
      refine ⟨abc, r5, c5, rfl, rfl, abc_len, hat5, _, _, rfl, rfl, by rw [l1, sizeLine_eq]; omega, ?_⟩
      exact ⟨_, _, rfl, w4.app (one_sign ok5).ok (by rw [l1]; omega), by rw [app_len, l1]; omega, s4.trans s5, F5.mono (by omega)⟩
    · rintro σ H4 ⟨z4, k4, rfl, w4, l4, s4, F4⟩
      refine ⟨60, rfl, by decide, by decide, for_range (lo := 0) (n := 60) (fun _ σ H' => ∃ (z : Str) (k o : Option V), σ = [some (.ref p), some (.ref l), some (.str abc), some (.int way), some (.str z), k, o] ∧ IsWord z ∧ Same (del H p) (del H' p) ∧ FeedAt H' p fq (b + 12)) ⟨_, _, _, rfl, w4, s4, F4.mono (by omega)⟩ ?_ ?_⟩
      · rintro t σ H7 ht ⟨z7, k7, o7, rfl, w7, s7, f7⟩
        have hl7 := del_same _ _ _ _ (s7 _ _ hl)
        refine ⟨_, rfl, _, rfl, l, _, rfl, .inl (SqL.of hl7), rfl, flat_strs zs, _, rfl, ?_⟩
        refine ite2 (fun _ => ?_) (fun _ => ?_)
        · exact ⟨_, rfl, q _ _ w7 s7 f7⟩
        · exact ⟨_, rfl, z7, rfl, w7, fun z8 w8 => ⟨z8, _, o7, rfl, w8, s7, f7⟩⟩
      · rintro σ H7 ⟨z7, k7, o7, rfl, w7, s7, f7⟩
        exact ⟨_, rfl, q _ _ w7 s7 f7⟩
  refine ⟨_, rfl, Nat.zero_le _, fun N hN => ?_⟩
  have sN : Same H2 (upd H2 N (.lst [])) := same_new hN
  refine ⟨.list (zs.map PyData.str), .list [], .lst (SqL.of (sN _ _ hl2)) (DpAll_strs _), .lst (SqL.of upd_same) .nil, strs_shaped (fun z hz => (hzs z hz).ascii), nil_shaped, _, rfl, ?_⟩
  have F2 := F2.same sN
  have s2 := s2.trans (same_del sN)
  have hl2 := sN _ _ hl2
  generalize upd H2 N (.lst []) = H2 at F2 s2 hl2
  rw [eqv_nil_list]
  refine ite2 (fun c2 => ?_) (fun c2 => ?_)
  · refine ⟨_, rfl, p, fq, 8, b + 2, rfl, F2, by omega, by decide, by decide, fun r8 H3 t0 t1 s3 F3 => ?_⟩
    refine ⟨r8, rfl, by omega, by omega, for_range (lo := 0) (n := r8.toNat) (fun i σ H' => ∃ (z : Str) (k : Option V), σ = [some (.ref p), some (.ref l), some (.str abc), some (.int way), some (.str z), k, none] ∧ IsWord z ∧ z.length ≤ 1 + i ∧ Same (del H p) (del H' p) ∧ FeedAt H' p fq (b + 3 + i)) ⟨_, none, rfl, one_sign ok0, by show 1 ≤ 1; omega, s1.trans (s2.trans s3), F3⟩ ?_ ?_⟩
    · rintro t σ H4 ht ⟨z4, k4, rfl, w4, l4, s4, F4⟩
      refine ⟨_, rfl, _, rfl, _, rfl, p, fq, 26, b + 3 + t, rfl, F4, by omega, by decide, by decide, fun r5 H5 u0 u1 s5 F5 => ?_⟩
      obtain ⟨c5, hat5, ok5⟩ := abc_at u0 u1
      have l1 : (⟨#[c5]⟩ : Str).length = 1 := rfl
      refine ⟨abc, r5, c5, rfl, rfl, abc_len, hat5, _, _, rfl, rfl, by rw [l1, sizeLine_eq]; omega, ?_⟩
      exact ⟨_, _, rfl, w4.app (one_sign ok5).ok (by rw [l1]; omega), by rw [app_len, l1]; omega, s4.trans s5, F5.mono (by omega)⟩
    · rintro σ H4 ⟨z4, k4, rfl, w4, l4, s4, F4⟩
      refine ⟨60, rfl, by decide, by decide, for_range (lo := 0) (n := 60) (fun _ σ H' => ∃ (z : Str) (k o : Option V), σ = [some (.ref p), some (.ref l), some (.str abc), some (.int way), some (.str z), k, o] ∧ IsWord z ∧ Same (del H p) (del H' p) ∧ FeedAt H' p fq (b + 12)) ⟨_, _, _, rfl, w4, s4, F4.mono (by omega)⟩ ?_ ?_⟩
      · rintro t σ H7 ht ⟨z7, k7, o7, rfl, w7, s7, f7⟩
        have hl7 := del_same _ _ _ _ (s7 _ _ hl)
        refine ⟨_, rfl, _, rfl, l, _, rfl, .inl (SqL.of hl7), rfl, flat_strs zs, _, rfl, ?_⟩
        refine ite2 (fun _ => ?_) (fun _ => ?_)
        · exact ⟨_, rfl, q _ _ w7 s7 f7⟩
        · exact ⟨_, rfl, z7, rfl, w7, fun z8 w8 => ⟨z8, _, o7, rfl, w8, s7, f7⟩⟩
      · rintro σ H7 ⟨z7, k7, o7, rfl, w7, s7, f7⟩
        exact ⟨_, rfl, q _ _ w7 s7 f7⟩
  -- one of those that are there
  have hne : zs.length ≠ 0 := fun e => c2 (by rw [List.eq_nil_of_length_eq_zero e]; rfl)
  have hml : (zs.map V.str).length = zs.length := List.length_map _
  refine ⟨_, rfl, _, rfl, _, rfl, l, _, rfl, .inl (SqL.of hl2), p, fq, _, b + 2, rfl, F2, by omega, by rw [hml]; omega, by rw [hml]; omega, fun r3 H3 t0 t1 s3 F3 => ?_⟩
  rw [hml] at t1
  obtain ⟨n3, rfl⟩ : ∃ n : Nat, r3 = (n : Int) := ⟨r3.toNat, (Int.toNat_of_nonneg t0).symm⟩
  have hn3 : n3 < zs.length := by omega
  have w3 := hzs _ (List.getElem_mem hn3)
  have hl3 := del_same _ _ _ _ ((s1.trans (s2.trans s3)) _ _ hl)
  refine ⟨l, _, _, _, rfl, rfl, SqL.of hl3, atI_nat (j := n3) (by rw [List.getElem?_map, List.getElem?_eq_getElem hn3]; rfl), ?_⟩
  generalize zs[n3] = own at w3
  refine ⟨_, rfl, rfl, _, rfl, ?_⟩
  refine ite2 (fun c3 => ?_) (fun c3 => ?_)
  · refine ⟨_, rfl, _, rfl, _, rfl, own, rfl, w3.small, p, fq, _, b + 3, rfl, F3, by omega, by have := w3.lo; omega, by have := w3.hi; omega, fun r4 H4 u0 u1 s4 F4 => ?_⟩
    obtain ⟨n4, rfl⟩ : ∃ n : Nat, r4 = (n : Int) := ⟨r4.toNat, (Int.toNat_of_nonneg u0).symm⟩
    have e4 : (1 : Int) + (n4 : Int) = ((1 + n4 : Nat) : Int) := by omega
    have w4 : IsWord (cutS own none (some ((1 + n4 : Nat) : Int))) := by
      have hcl := cutS_list own (n := 1 + n4) (by omega)
      refine ⟨by rw [len_list, hcl, List.length_take, ← len_list]; omega, by rw [len_list, hcl, List.length_take, ← len_list]; have := w3.hi; omega, fun d hd => ?_⟩
      rw [hcl] at hd
      exact w3.ok d (List.mem_of_mem_take hd)
    rw [← e4] at w4
    refine ⟨_, _, rfl, rfl, _, rfl, own, rfl, w3.small, ?_⟩
    refine ⟨60, rfl, by decide, by decide, for_range (lo := 0) (n := 60) (fun _ σ H' => ∃ (z : Str) (k o : Option V), σ = [some (.ref p), some (.ref l), some (.str abc), some (.int way), some (.str z), k, o] ∧ IsWord z ∧ Same (del H p) (del H' p) ∧ FeedAt H' p fq (b + 12)) ⟨_, _, _, rfl, w4, s1.trans (s2.trans (s3.trans s4)), F4.mono (by omega)⟩ ?_ ?_⟩
    · rintro t σ H7 ht ⟨z7, k7, o7, rfl, w7, s7, f7⟩
      have hl7 := del_same _ _ _ _ (s7 _ _ hl)
      refine ⟨_, rfl, _, rfl, l, _, rfl, .inl (SqL.of hl7), rfl, flat_strs zs, _, rfl, ?_⟩
      refine ite2 (fun _ => ?_) (fun _ => ?_)
      · exact ⟨_, rfl, q _ _ w7 s7 f7⟩
      · exact ⟨_, rfl, z7, rfl, w7, fun z8 w8 => ⟨z8, _, o7, rfl, w8, s7, f7⟩⟩
    · rintro σ H7 ⟨z7, k7, o7, rfl, w7, s7, f7⟩
      exact ⟨_, rfl, q _ _ w7 s7 f7⟩
  · refine ⟨_, rfl, 7, rfl, own, rfl, w3.small, _, rfl, _, rfl, p, fq, 26, b + 3, rfl, F3, by omega, by decide, by decide, fun r4 H4 u0 u1 s4 F4 => ?_⟩
    obtain ⟨c4, hat4, ok4⟩ := abc_at u0 u1
    have hcl := cutS_any own 7
    have l7 : (cutS own none (some 7)).length ≤ 7 := by rw [len_list]; rw [show (7 : Int) = ((7 : Nat) : Int) from rfl, hcl, List.length_take]; omega
    have l7' : 1 ≤ (cutS own none (some 7)).length := by rw [len_list]; rw [show (7 : Int) = ((7 : Nat) : Int) from rfl, hcl, List.length_take, ← len_list]; have := w3.lo; omega
    have w7 : IsWord (cutS own none (some 7)) := ⟨l7', by omega, fun d hd => by
      rw [show (7 : Int) = ((7 : Nat) : Int) from rfl, hcl] at hd
      exact w3.ok d (List.mem_of_mem_take hd)⟩
    have l1 : (⟨#[c4]⟩ : Str).length = 1 := rfl
    have w4 := w7.app (one_sign ok4).ok (by rw [l1]; omega)
    refine ⟨abc, r4, c4, rfl, rfl, abc_len, hat4, _, _, rfl, rfl, by rw [l1, sizeLine_eq]; omega, ?_⟩
    refine ⟨60, rfl, by decide, by decide, for_range (lo := 0) (n := 60) (fun _ σ H' => ∃ (z : Str) (k o : Option V), σ = [some (.ref p), some (.ref l), some (.str abc), some (.int way), some (.str z), k, o] ∧ IsWord z ∧ Same (del H p) (del H' p) ∧ FeedAt H' p fq (b + 12)) ⟨_, _, _, rfl, w4, s1.trans (s2.trans (s3.trans s4)), F4.mono (by omega)⟩ ?_ ?_⟩
    · rintro t σ H7 ht ⟨z7, k7, o7, rfl, w7, s7, f7⟩
      have hl7 := del_same _ _ _ _ (s7 _ _ hl)
      refine ⟨_, rfl, _, rfl, l, _, rfl, .inl (SqL.of hl7), rfl, flat_strs zs, _, rfl, ?_⟩
      refine ite2 (fun _ => ?_) (fun _ => ?_)
      · exact ⟨_, rfl, q _ _ w7 s7 f7⟩
      · exact ⟨_, rfl, z7, rfl, w7, fun z8 w8 => ⟨z8, _, o7, rfl, w8, s7, f7⟩⟩
    · rintro σ H7 ⟨z7, k7, o7, rfl, w7, s7, f7⟩
      exact ⟨_, rfl, q _ _ w7 s7 f7⟩
end
end Sw
set_option maxRecDepth 100000
set_option maxHeartbeats 4000000
namespace Sw
open PySem PySem.Spec PyProof.Rows L2
section
variable {P : Program} {w : World} {K : PySem.W.Frag} {mg : Str → Option Value} {base : Heap}
def spGreat : Sp := fun vs H Q _ => ∃ (p fq : Addr) (b : Nat), vs = [.ref p] ∧ FeedAt H p fq b ∧ b + 60 ≤ 1000000000 ∧
  ∀ (i : Int) (H' : Hp), i.natAbs ≤ 10 ^ 199 → Same (del H p) (del H' p) → FeedAt H' p fq (b + 40) → Q (.int i) H'
theorem sc_great : FnScope ["_law_feed_here", "_law_told", "_law_k"] ["_law_feed_here"] (defScope (topS 17)) := ⟨rfl, rfl, rfl, by decide +kernel, rfl, by decide +kernel, by decide +kernel⟩
theorem great_bd {t n : Nat} (h : t < 100 * 1000000 ^ n) (hn : n ≤ 32) : t ≤ 10 ^ 199 := by
  have h1 : (1000000 : Nat) ^ n ≤ 1000000 ^ 32 := Nat.pow_le_pow_right (by decide) hn
  have h2 : 100 * (1000000 : Nat) ^ 32 ≤ 10 ^ 199 := by decide +kernel
  have h3 := Nat.mul_le_mul_left 100 h1
  omega
theorem ok_great {f f1 : Addr} {fd fd1 : FuncData} (D : Df K mg "_law_great" (topS 17) ["_law_feed_here"] f fd) (DD : Df K mg "_law_draw" (topS 11) ["_law_feed_here", "_law_many"] f1 fd1) (B : Bt mg)
    (GD : FnOk P w K mg base CX0 1 f1 fd1 ["_law_feed_here", "_law_many"] spDraw) : FnOk P w K mg base CX0 2 f fd ["_law_feed_here"] spGreat := by
  refine D.fn.ok sc_great (fun vs H Q E h => ?_) (fun cdv A outer s H vs Q E hr h => ?_)
  · obtain ⟨p, fq, b, rfl, _⟩ := h
    rfl
  obtain ⟨p, fq, b, rfl, hF, hb, q⟩ := h
  have nd := sc_great.nd
  refine ⟨_, pss_cons (ps_set (i := 1) nd rfl (Or.inl rfl) (pe_call GD hr (by rfl) DD.gl DD.fn.kp DD.bd .nil pass0 (pa_cons (pv 0) (pa_cons pe_int pa_nil))))
    (pss_cons (ps_for PassesOwn.never rfl (pi_range1 (by rfl) B.range (pa_cons (pe_ifExp (pt_cmpR op_eq (pe_call GD hr (by rfl) DD.gl DD.fn.kp DD.bd .nil pass0 (pa_cons (pv 0) (pa_cons pe_int pa_nil))) pe_int (nomark _))
        (pe_call GD hr (by rfl) DD.gl DD.fn.kp DD.bd .nil pass0 (pa_cons (pv 0) (pa_cons pe_int pa_nil))) pe_int) pa_nil)) (pg_name (i := 2) nd rfl (Or.inl rfl))
      (pss_one (ps_set (i := 1) nd rfl (Or.inl rfl) (pe_op op_add (pe_op op_mul (pv 1) (pe_op op_pow pe_int pe_int)) (pe_call GD hr (by rfl) DD.gl DD.fn.kp DD.bd .nil pass0 (pa_cons (pv 0) (pa_cons (pe_op op_pow pe_int pe_int) pa_nil)))))))
    (pss_one (ps_ret (pe_ifExp (pt_cmpR op_eq (pe_call GD hr (by rfl) DD.gl DD.fn.kp DD.bd .nil pass0 (pa_cons (pv 0) (pa_cons pe_int pa_nil))) pe_int (nomark _)) (pe_un un_neg (pv 1)) (pv 1))))), ?_⟩
  refine ⟨_, rfl, p, fq, 100, b, rfl, hF, by omega, by decide, by decide, fun t0 H1 a0 a1 s1 F1 => ?_⟩
  refine ⟨_, rfl, p, fq, 3, b + 1, rfl, F1, by omega, by decide, by decide, fun r1 H2 b0 b1 s2 F2 => ⟨rfl, _, rfl, ?_⟩⟩
  obtain ⟨t, rfl⟩ : ∃ n : Nat, t0 = (n : Int) := ⟨t0.toNat, (Int.toNat_of_nonneg a0).symm⟩
  refine ite2 (fun c => ?_) (fun c => ?_)
  · refine ⟨_, rfl, p, fq, 33, b + 2, rfl, F2, by omega, by decide, by decide, fun r H3 c0 c1 s3 F3 => ?_⟩
    refine ⟨r, rfl, by omega, by omega, for_range (lo := 0) (n := r.toNat) (fun i σ H' => ∃ (t : Nat) (k : Option V), σ = [some (.ref p), some (.int (t : Int)), k] ∧ t < 100 * 1000000 ^ i ∧ Same (del H p) (del H' p) ∧ FeedAt H' p fq (b + 3 + i)) ⟨t, none, rfl, by omega, s1.trans (s2.trans s3), F3⟩ ?_ ?_⟩
    · rintro i σ H4 hi ⟨t4, k4, rfl, l4, s4, F4⟩
      refine ⟨_, rfl, 10, 6, rfl, rfl, ⟨by decide, by decide, by decide⟩, _, _, rfl, rfl, .inr ⟨by decide, by decide⟩, _, rfl, 10, 6, rfl, rfl, ⟨by decide, by decide, by decide⟩, p, fq, _, b + 3 + i, rfl, F4, by omega, by decide, by decide, fun r5 H5 d0 d1 s5 F5 => ?_⟩
      refine ⟨_, _, rfl, rfl, t4 * 1000000 + r5.toNat, some (.int (0 + (i : Int))), ?_, ?_, s4.trans s5, F5.mono (by omega)⟩
      · have e : ((t4 * 1000000 + r5.toNat : Nat) : Int) = (t4 : Int) * 10 ^ (6 : Int).toNat + r5 := by
          have e6 : (10 : Int) ^ (6 : Int).toNat = 1000000 := by decide
          rw [e6]
          have := Int.toNat_of_nonneg d0
          omega
        rw [e]
        rfl
      · have d1' : r5 < 1000000 := d1
        have e : (1000000 : Nat) ^ (i + 1) = 1000000 ^ i * 1000000 := Nat.pow_succ ..
        rw [e]
        generalize (1000000 : Nat) ^ i = X at l4
        have : r5.toNat < 1000000 := by omega
        omega
    · rintro σ H4 ⟨t4, k4, rfl, l4, s4, F4⟩
      have bd : t4 ≤ 10 ^ 199 := great_bd l4 (by omega)
      refine ⟨_, rfl, p, fq, 2, b + 38, rfl, F4.mono (by omega), by omega, by decide, by decide, fun r9 H9 _ _ s9 F9 => ⟨rfl, _, rfl, ?_⟩⟩
      refine ite2 (fun _ => ?_) (fun _ => ?_)
      · exact ⟨_, rfl, _, rfl, q _ _ (by omega) (s4.trans s9) (F9.mono (by omega))⟩
      · exact ⟨_, rfl, q _ _ (by omega) (s4.trans s9) (F9.mono (by omega))⟩
  · refine ⟨0, rfl, by omega, by omega, for_range (lo := 0) (n := 0) (fun i σ H' => ∃ (k : Option V), σ = [some (.ref p), some (.int (t : Int)), k] ∧ Same (del H p) (del H' p) ∧ FeedAt H' p fq (b + 3)) ⟨none, rfl, s1.trans s2, F2.mono (by omega)⟩ ?_ ?_⟩
    · intro i σ H4 hi
      omega
    · rintro σ H4 ⟨k4, rfl, s4, F4⟩
      have bd : t ≤ 10 ^ 199 := by
        have : (100 : Nat) ≤ 10 ^ 199 := by decide +kernel
        omega
      refine ⟨_, rfl, p, fq, 2, b + 38, rfl, F4.mono (by omega), by omega, by decide, by decide, fun r9 H9 _ _ s9 F9 => ⟨rfl, _, rfl, ?_⟩⟩
      refine ite2 (fun _ => ?_) (fun _ => ?_)
      · exact ⟨_, rfl, _, rfl, q _ _ (by omega) (s4.trans s9) (F9.mono (by omega))⟩
      · exact ⟨_, rfl, q _ _ (by omega) (s4.trans s9) (F9.mono (by omega))⟩
theorem cutS_sub (z : Str) (lo hi : Option Int) : (∀ c ∈ (cutS z lo hi).cps.toList, c ∈ z.cps.toList) ∧ (cutS z lo hi).length ≤ z.length := by
  unfold cutS
  constructor
  · intro c hc
    exact List.mem_of_mem_drop (List.mem_of_mem_take (by simpa using hc))
  · rw [len_list, len_list]
    simp
    omega
def spSpoilt : Sp := fun vs H Q _ => ∃ (p fq : Addr) (z : Str) (b : Nat), vs = [.ref p, .str z] ∧ FeedAt H p fq b ∧ b + 20 ≤ 1000000000 ∧ IsWord z ∧
  ∀ (x : Str) (H' : Hp), (∀ c ∈ x.cps.toList, c < 128) → x.length ≤ 20 → Same (del H p) (del H' p) → FeedAt H' p fq (b + 3) → Q (.str x) H'
theorem sc_spoilt : FnScope ["_law_feed_here", "_law_word_here", "_law_signs", "_law_at", "_law_sign", "_law_way"] ["_law_feed_here", "_law_word_here"] (defScope (topS 18)) := ⟨rfl, rfl, rfl, by decide +kernel, rfl, by decide +kernel, by decide +kernel⟩
abbrev signsT : Str := " !\"#$&'()*+,-./0123456789:;<=>?@ABCDEFGHIJKLMNOPQRSTUVWXYZ[\\]^_`abcdefghijklmnopqrstuvwxyz{|}~"
theorem signs_ok : signsT.cps.toList.all (fun c => decide (c < 128)) = true ∧ signsT.length = 94 := by decide +kernel
theorem ok_spoilt {f f1 : Addr} {fd fd1 : FuncData} (D : Df K mg "_law_spoilt" (topS 18) ["_law_feed_here", "_law_word_here"] f fd) (DD : Df K mg "_law_draw" (topS 11) ["_law_feed_here", "_law_many"] f1 fd1) (B : Bt mg)
    (GD : FnOk P w K mg base CX0 1 f1 fd1 ["_law_feed_here", "_law_many"] spDraw) : FnOk P w K mg base CX0 2 f fd ["_law_feed_here", "_law_word_here"] spSpoilt := by
  refine D.fn.ok sc_spoilt (fun vs H Q E h => ?_) (fun cdv A outer s H vs Q E hr h => ?_)
  · obtain ⟨p, fq, z, b, rfl, _⟩ := h
    rfl
  obtain ⟨p, fq, z, b, rfl, hF, hb, hz, q⟩ := h
  have nd := sc_spoilt.nd
  refine ⟨_, pss_cons (ps_set (i := 2) nd rfl (Or.inl rfl) pe_str)
    (pss_cons (ps_set (i := 3) nd rfl (Or.inl rfl) (pe_call GD hr (by rfl) DD.gl DD.fn.kp DD.bd .nil pass0 (pa_cons (pv 0) (pa_cons (pe_callB call_len_str (by rfl) B.len PySem.boot_len (pa_cons (pv 1) pa_nil)) pa_nil))))
    (pss_cons (ps_set (i := 4) nd rfl (Or.inl rfl) (pe_ix ix_str (pv 2) (pe_call GD hr (by rfl) DD.gl DD.fn.kp DD.bd .nil pass0 (pa_cons (pv 0) (pa_cons (pe_callB call_len_str (by rfl) B.len PySem.boot_len (pa_cons (pv 2) pa_nil)) pa_nil))) (fun _ _ => rfl)))
    (pss_cons (ps_set (i := 5) nd rfl (Or.inl rfl) (pe_call GD hr (by rfl) DD.gl DD.fn.kp DD.bd .nil pass0 (pa_cons (pv 0) (pa_cons pe_int pa_nil))))
    (pss_one (ps_ret (pe_op op_add_str (pe_op op_add_str (pe_slice sl_str (pv 1) po_none (po_some (pv 3))) (pe_ifExp (pt_cmpR op_eq (pv 5) pe_int (nomark _)) pe_str (pv 4)))
      (pe_slice sl_str (pv 1) (po_some (pe_op op_add (pv 3) (pe_ifExp (pt_cmpR op_eq (pv 5) pe_int (nomark _)) pe_int pe_int))) po_none))))))), ?_⟩
  refine ⟨_, rfl, _, rfl, z, rfl, hz.small, p, fq, _, b, rfl, hF, by omega, by have := hz.lo; omega, by have := hz.hi; omega, fun at0 H1 a0 a1 s1 F1 => ?_⟩
  refine ⟨_, rfl, _, rfl, _, rfl, signsT, rfl, by rw [signs_ok.2, sizeLine_eq]; decide, p, fq, _, b + 1, rfl, F1, by omega, by rw [signs_ok.2]; decide, by rw [signs_ok.2]; decide, fun r H2 b0 b1 s2 F2 => ?_⟩
  obtain ⟨n, rfl⟩ : ∃ n : Nat, r = (n : Int) := ⟨r.toNat, (Int.toNat_of_nonneg b0).symm⟩
  have hn : n < signsT.cps.toList.length := by rw [← len_list]; omega
  have okc : signsT.cps.toList[n] < 128 := by simpa using List.all_eq_true.mp signs_ok.1 _ (List.getElem_mem hn)
  refine ⟨signsT, _, _, rfl, rfl, by rw [signs_ok.2, sizeLine_eq]; decide, atI_nat (List.getElem?_eq_getElem hn), ?_⟩
  generalize signsT.cps.toList[n] = c0 at okc
  refine ⟨_, rfl, p, fq, 3, b + 2, rfl, F2, by omega, by decide, by decide, fun way H3 d0 d1 s3 F3 => ?_⟩
  refine ⟨_, rfl, _, rfl, at0, rfl, z, rfl, hz.small, _, rfl, rfl, _, rfl, ?_⟩
  obtain ⟨m1, l1⟩ := cutS_sub z none (some at0)
  have h8 := hz.hi
  have fin : ∀ (y : Str) (n : Int), (∀ c ∈ y.cps.toList, c < 128) → y.length ≤ 1 → Q (.str (cutS z none (some at0) ++ y ++ cutS z (some n) none)) H3 := by
    intro y n hy ly
    obtain ⟨m2, l2⟩ := cutS_sub z (some n) none
    refine q _ _ (fun c hc => ?_) (by rw [app_len, app_len]; omega) (s1.trans (s2.trans s3)) F3
    rw [app_list, app_list, List.mem_append, List.mem_append] at hc
    rcases hc with (hc | hc) | hc
    · exact hz.ascii c (m1 c hc)
    · exact hy c hc
    · exact hz.ascii c (m2 c hc)
  have lim : ∀ (y : Str) (n : Int), y.length ≤ 1 → (cutS z none (some at0) ++ y).length + (cutS z (some n) none).length ≤ sizeLine := fun y n ly => by
    obtain ⟨_, l2⟩ := cutS_sub z (some n) none
    rw [app_len, sizeLine_eq]
    omega
  have lim1 : ∀ (y : Str), y.length ≤ 1 → (cutS z none (some at0)).length + y.length ≤ sizeLine := fun y ly => by
    rw [sizeLine_eq]
    omega
  refine ite2 (fun _ => ?_) (fun _ => ?_)
  · have l0 : (Str.ofString "").length ≤ 1 := by decide
    refine ⟨_, _, rfl, rfl, lim1 _ l0, _, rfl, _, rfl, _, rfl, rfl, _, rfl, ?_⟩
    refine ite2 (fun _ => ?_) (fun _ => ?_)
    · exact ⟨_, _, rfl, rfl, _, rfl, z, rfl, hz.small, _, _, rfl, rfl, lim _ _ l0, fin _ _ (fun c hc => by cases hc) l0⟩
    · exact ⟨_, _, rfl, rfl, _, rfl, z, rfl, hz.small, _, _, rfl, rfl, lim _ _ l0, fin _ _ (fun c hc => by cases hc) l0⟩
  · have l0 : (⟨#[c0]⟩ : Str).length ≤ 1 := by show 1 ≤ 1; omega
    have a0' : ∀ c ∈ (⟨#[c0]⟩ : Str).cps.toList, c < 128 := fun c hc => by
      have : c = c0 := by simpa using hc
      omega
    refine ⟨_, rfl, _, _, rfl, rfl, lim1 _ l0, _, rfl, _, rfl, _, rfl, rfl, _, rfl, ?_⟩
    refine ite2 (fun _ => ?_) (fun _ => ?_)
    · exact ⟨_, _, rfl, rfl, _, rfl, z, rfl, hz.small, _, _, rfl, rfl, lim _ _ l0, fin _ _ a0' l0⟩
    · exact ⟨_, _, rfl, rfl, _, rfl, z, rfl, hz.small, _, _, rfl, rfl, lim _ _ l0, fin _ _ a0' l0⟩
end
end Sw
set_option maxRecDepth 100000
set_option maxHeartbeats 4000000
namespace Sw
open PySem PySem.Spec PyProof.Rows L2
section
variable {P : Program} {w : World} {K : PySem.W.Frag} {mg : Str → Option Value} {base : Heap}
def spFeed (K : PySem.W.Frag) : Sp := fun vs H Q _ => ∃ (a : Addr) (ns : List Int), vs = [.ref a] ∧ SqL K H a (ns.map V.int) ∧ ns.length ≤ 63 ∧
  ∀ (p fq : Addr) (H' : Hp), Same H H' → H p = none → FeedAt H' p fq 0 → Q (.ref p) H'
theorem sc_feed : FnScope ["_law_script"] ["_law_script"] (defScope (topS 10)) := ⟨rfl, rfl, rfl, by decide +kernel, rfl, by decide +kernel, by decide +kernel⟩
theorem cut_ints (ns : List Int) (lo hi : Option Int) : ∃ ms : List Int, cutV (ns.map V.int) lo hi = ms.map V.int ∧ ms.length ≤ ns.length := by
  refine ⟨(ns.drop (HT.sIx ns.length 0 lo)).take (HT.sIx ns.length ns.length hi - HT.sIx ns.length 0 lo), ?_, ?_⟩
  · unfold cutV
    rw [List.length_map, List.map_take, List.map_drop]
  · rw [List.length_take, List.length_drop]
    omega
theorem ok_feed {f : Addr} {fd : FuncData} (D : Df K mg "_law_feed" (topS 10) ["_law_script"] f fd) : FnOk P w K mg base CX0 1 f fd ["_law_script"] (spFeed K) := by
  refine D.fn.ok sc_feed (fun vs H Q E h => ?_) (fun cdv A outer s H vs Q E hr h => ?_)
  · obtain ⟨a, ns, rfl, _⟩ := h
    rfl
  obtain ⟨a, ns, rfl, hS, hn, q⟩ := h
  refine ⟨_, pss_one (ps_ret (pe_lst (pa_cons (pe_slice sl_list (pv 0) po_none (po_some pe_int)) (pa_cons pe_int (pa_cons pe_int (pa_cons pe_int pa_nil)))))), ?_⟩
  obtain ⟨ms, e, hm⟩ := cut_ints ns none (some 63)
  refine ⟨_, rfl, 63, rfl, a, _, rfl, hS, fun c hc => ⟨by show 4 ≤ sizeLine; decide, fun p hp => ?_⟩⟩
  have s1 := same_new (o := .lst (cutV (ns.map V.int) none (some 63))) hc
  have s2 := same_new (o := .lst [.ref c, .int 0, .int 0, .int 0]) hp
  have hcp : c ≠ p := fun z => by rw [z] at hp; rw [upd_same] at hp; cases hp
  refine q p c _ (s1.trans s2) ?_ ⟨ms, 0, 0, 0, upd_same, ?_, Ne.symm hcp, by decide, by decide, by decide, by decide, by omega⟩
  · rw [upd_ne (Ne.symm hcp)] at hp
    exact hp
  · rw [upd_ne hcp, upd_same, e]
/-- one of OBJECTS, drawn -/
def ObjD (d : PyData) : Prop := ∃ (z : Str) (k : Int), d = .tuple [.str z, .int k] ∧ IsWord z ∧ 1 ≤ k ∧ k ≤ 4
theorem objD_fit {d : PyData} (h : ObjD d) : Fit 4 4 1 344 d := by
  obtain ⟨z, k, rfl, hz, h1, h4⟩ := h
  have := hz.hi
  refine Fit.tup (n := 0) (by show 2 ≤ 4; omega) ?_ (by simp only [wtAll, wt]; omega)
  intro x hx
  rcases List.mem_cons.mp hx with rfl | hx
  · exact ⟨leaf_str.mpr hz.ascii, rfl, by simp [PyData.depth]⟩
  · have : x = .int k := by simpa using hx
    subst this
    exact ⟨by simp only [leaf, decide_eq_true_eq]; omega, rfl, by simp [PyData.depth]⟩
theorem objs_fit {ds : List PyData} (hl : ds.length ≤ 4) (h : ∀ d ∈ ds, ObjD d) : Fit 4 4 2 1400 (.tuple ds) := by
  refine Fit.tup (n := 1) hl (fun x hx => ⟨(objD_fit (h x hx)).lf, (objD_fit (h x hx)).ln, (objD_fit (h x hx)).dp⟩) ?_
  have : ∀ l : List PyData, (∀ d ∈ l, ObjD d) → wtAll l ≤ 346 * l.length := by
    intro l
    induction l with
    | nil => intro _; simp [wtAll]
    | cons x l ih =>
      intro hx
      have h1 := (objD_fit (hx x List.mem_cons_self)).wg
      have h2 := ih fun d hd => hx d (List.mem_cons_of_mem _ hd)
      simp only [wtAll, List.length_cons]
      omega
  have := this ds h
  omega
def spObjs (K : PySem.W.Frag) : Sp := fun vs H Q _ => ∃ (p fq : Addr) (b : Nat), vs = [.ref p] ∧ FeedAt H p fq b ∧ b + 100 ≤ 1000000000 ∧
  ∀ (v : V) (ds : List PyData) (H' : Hp), Dp K (del H' p) v (.tuple ds) → ds.length ≤ 4 → 1 ≤ ds.length → (∀ d ∈ ds, ObjD d) → Same (del H p) (del H' p) → FeedAt H' p fq (b + 60) → Q v H'
theorem sc_objs2 : FnScope ["_law_feed_here", "_law_found", "_law_k", "_law_word_here"] ["_law_feed_here"] (defScope (topS 23)) := ⟨rfl, rfl, rfl, by decide +kernel, rfl, by decide +kernel, by decide +kernel⟩
theorem ok_objs2 {f f1 f2 : Addr} {fd fd1 fd2 : FuncData} (D : Df K mg "_law_objects" (topS 23) ["_law_feed_here"] f fd) (DD : Df K mg "_law_draw" (topS 11) ["_law_feed_here", "_law_many"] f1 fd1) (DW : Df K mg "_law_word" (topS 13) ["_law_feed_here", "_law_found"] f2 fd2) (B : Bt mg)
    (GD : FnOk P w K mg base CX0 1 f1 fd1 ["_law_feed_here", "_law_many"] spDraw) (GW : FnOk P w K mg base CX0 2 f2 fd2 ["_law_feed_here", "_law_found"] spWord) : FnOk P w K mg base CX0 3 f fd ["_law_feed_here"] (spObjs K) := by
  refine D.fn.ok sc_objs2 (fun vs H Q E h => ?_) (fun cdv A outer s H vs Q E hr h => ?_)
  · obtain ⟨p, fq, b, rfl, _⟩ := h
    rfl
  obtain ⟨p, fq, b, rfl, hF, hb, q⟩ := h
  have nd := sc_objs2.nd
  have hr1 : Room 1 _ := hr.mono (by decide)
  refine ⟨_, pss_cons (ps_set (i := 1) nd rfl (Or.inl rfl) (pe_lst pa_nil))
    (pss_cons (ps_for PassesOwn.never rfl (pi_range1 (by rfl) B.range (pa_cons (pe_op op_add pe_int (pe_call GD hr1 (by rfl) DD.gl DD.fn.kp DD.bd .nil pass0 (pa_cons (pv 0) (pa_cons pe_int pa_nil)))) pa_nil)) (pg_name (i := 2) nd rfl (Or.inl rfl))
      (pss_one (ps_expr (pe_bm PySem.F.plainAttrs_list PySem.F.slot_list_append PySem.F.type_list_append mt_append (pv 1) (pa_cons (pe_call GW hr (by rfl) DW.gl DW.fn.kp DW.bd .nil pass0 (pa_cons (pv 0) (pa_cons (pv 1) pa_nil))) pa_nil)))))
    (pss_one (ps_ret (pe_callTy call_tuple_of (by rfl) B.tuple (by decide +kernel) (pa_cons (pe_lc (own := [("_law_word_here", 3)]) (g := gName 3) (tt := tYes) rfl nd
        (pi_list (pe_callB cr_sortedS (by rfl) B.sorted (by decide +kernel) (pa_cons (pv 1) pa_nil)))
        (blkOk_by (N := ["_law_feed_here", "_law_found", "_law_k", "_law_word_here"]) (sc := defScope (topS 23)) (by decide +kernel)) (fun _ _ _ _ _ => pg_name (i := 3) nd rfl (Or.inl rfl)) (fun _ _ _ _ _ => pts_nil)
        (fun _ _ _ _ _ => pe_tup (pa_cons (pv 3) (pa_cons (pe_op op_add pe_int (pe_call GD hr1 (by rfl) DD.gl DD.fn.kp DD.bd .nil pass0 (pa_cons (pv 0) (pa_cons pe_int pa_nil)))) pa_nil)))) pa_nil))))), ?_⟩
  refine ⟨Nat.zero_le _, fun l hl => ?_⟩
  obtain ⟨nlp, nlq⟩ := hF.ne hl
  have s0 := same_new (o := .lst []) hl
  refine ⟨_, rfl, p, fq, 4, b, rfl, hF.same s0, by omega, by decide, by decide, fun r H1 r0 r1 s1 F1 => ⟨_, _, rfl, rfl, ?_⟩⟩
  -- the words: the heap without the feed and without found stays
  refine ⟨1 + r, rfl, by omega, by omega, for_range (lo := 0) (n := (1 + r).toNat) (fun i σ H' => ∃ (zs : List Str) (k : Option V), σ = [some (.ref p), some (.ref l), k, none] ∧ H' l = some (.lst (zs.map V.str)) ∧ zs.length = i ∧ (∀ z ∈ zs, IsWord z) ∧ Same (del H p) (del H' p) ∧ FeedAt H' p fq (b + 1 + 12 * i))
    ⟨[], none, rfl, del_same _ _ _ _ (s1 _ _ (del_some upd_same nlp)), rfl, by simp, (same_del s0).trans s1, F1⟩ ?_ ?_⟩
  · rintro i σ H2 hi ⟨zs, k2, rfl, hl2, hz2, w2, s2, F2⟩
    refine ⟨_, rfl, .inl ⟨rfl, _, SqL.of hl2⟩, _, rfl, _, rfl, p, fq, l, _, zs, rfl, F2, by omega, del_some hl2 nlp, by omega, w2, fun z H3 wz s3 F3 => ?_⟩
    have hl3 : H3 l = some (.lst (zs.map V.str)) := del_same _ _ _ _ (s3 _ _ (del_some hl2 nlp))
    refine ⟨l, _, _, rfl, rfl, hl3, by rw [List.length_map]; exact small1000 (by omega), zs ++ [z], _, rfl, by rw [upd_same, List.map_append]; rfl, by rw [List.length_append, hz2]; rfl, fun y hy => ?_, ?_, (F3.upd nlp nlq).mono (by omega)⟩
    · rcases List.mem_append.mp hy with hy | hy
      · exact w2 y hy
      · rw [List.mem_singleton.mp hy]; exact wz
    · intro c o e
      obtain ⟨e1, e2⟩ := of_del e
      have nc : c ≠ l := ne_of_none e1 hl
      have e3 := (s2.trans s3) _ _ e
      refine del_some ?_ e2
      rw [upd_ne nc]
      exact (of_del e3).1
  rintro σ H2 ⟨zs, k2, rfl, hl2, hz2, w2, s2, F2⟩
  have hz5 : zs.length ≤ 4 := by omega
  have hz1 : 1 ≤ zs.length := by omega
  -- sorted(found)
  refine ⟨_, rfl, l, zs, rfl, SqL.of hl2, by omega, fun ys S pm hs hS => ?_⟩
  have s3 := same_new (o := .lst (ys.map V.str)) hS
  obtain ⟨nSp, nSq⟩ := F2.ne hS
  have F3 := F2.same s3
  have hS3 : upd H2 S (.lst (ys.map V.str)) S = some (.lst (ys.map V.str)) := upd_same
  have s03 := s2.trans (same_del (p := p) s3)
  generalize upd H2 S (.lst (ys.map V.str)) = H3 at s3 F3 hS3 s03
  have hyl : ys.length = zs.length := pm.length_eq
  have wy : ∀ z ∈ ys, IsWord z := fun z hz => w2 z (pm.mem_iff.mp hz)
  refine ⟨S, rfl, ⟨_, SqL.of hS3⟩, fun L hL => ?_⟩
  obtain ⟨nLp, nLq⟩ := F3.ne hL
  have nLS : L ≠ S := Ne.symm (ne_of_none hS3 hL)
  refine lc_it (walk_list (xs := ys.map V.str)) (fun i H' => ∃ (vs : List V) (ds : List PyData), H' L = some (.lst vs) ∧ vs.length = i ∧ DpAll K (del (del H' p) L) vs ds ∧ (∀ d ∈ ds, ObjD d) ∧ Same (del (del H3 p) L) (del (del H' p) L) ∧ FeedAt H' p fq (b + 13 + 12 * 4 - 12 + i))
    ⟨[], [], upd_same, rfl, .nil, by simp, same_del (same_del (same_new hL)), (F3.upd nLp nLq).mono (by omega)⟩ (fun i H' hi h => ?_) ?_ ?_
  · obtain ⟨vs, ds, _, _, _, _, sx, _⟩ := h
    exact SqL.of (del_same _ _ _ _ (del_same _ _ _ _ (sx _ _ (del_some (del_some hS3 nSp) (Ne.symm nLS)))))
  · rintro i x H4 H5 hi ⟨vs, ds, hL4, hv4, hd4, o4, s4, F4⟩ ⟨rfl, hx⟩
    rw [List.length_map] at hi
    rw [List.getElem?_map, List.getElem?_eq_getElem hi] at hx
    have hx' : V.str ys[i] = x := Option.some.inj hx
    subst hx'
    have wi := wy _ (List.getElem_mem hi)
    generalize ys[i] = z at wi
    refine ⟨rfl, ?_⟩
    unfold tYes
    dsimp only
    rw [if_pos rfl]
    refine ⟨_, rfl, _, rfl, p, fq, 4, _, rfl, F4, by omega, by decide, by decide, fun r5 H6 a0 a1 s6 F6 => ⟨_, _, rfl, rfl, by show 2 ≤ sizeLine; decide, fun T hT => ?_⟩⟩
    obtain ⟨nTp, nTq⟩ := F6.ne hT
    have hL6 : H6 L = some (.lst vs) := del_same _ _ _ _ (s6 _ _ (del_some hL4 nLp))
    have nTL : T ≠ L := Ne.symm (ne_of_none hL6 hT)
    have s7 := same_new (o := .tup [.str z, .int (1 + r5)]) hT
    have hT7 : upd H6 T (.tup [.str z, .int (1 + r5)]) T = some (.tup [.str z, .int (1 + r5)]) := upd_same
    generalize upd H6 T (.tup [.str z, .int (1 + r5)]) = H7 at s7 hT7
    have sx : Same (del (del H5 p) L) (del (del (upd H7 L (.lst (vs ++ [.ref T]))) p) L) := by
      intro c o e
      obtain ⟨e1, e2⟩ := of_del e
      obtain ⟨e3, e4⟩ := of_del e1
      have e5 := s7 _ _ (of_del (s6 _ _ e1)).1
      refine del_some (del_some ?_ e4) e2
      rw [upd_ne e2]
      exact e5
    refine ⟨vs, s7 _ _ hL6, small1000 (by omega), vs ++ [.ref T], ds ++ [.tuple [.str z, .int (1 + r5)]], upd_same, by rw [List.length_append, hv4]; rfl, ?_, ?_, s4.trans sx, ((F6.same s7).upd nLp nLq).mono (by omega)⟩
    · refine DpAll_append (DpAll_same sx hd4) (.cons (.tup (SqT.of (del_some (del_some (by rw [upd_ne nTL]; exact hT7) nTp) nTL)) (.cons (.str z) (.cons (.int _) .nil))) .nil)
    · intro d hd
      rcases List.mem_append.mp hd with hd | hd
      · exact o4 d hd
      · rw [List.mem_singleton.mp hd]
        exact ⟨z, 1 + r5, rfl, wi, by omega, by omega⟩
  · rintro H4 ⟨vs, ds, hL4, hv4, hd4, o4, s4, F4⟩
    rw [List.length_map] at hv4 F4
    refine ⟨L, vs, rfl, .inl ⟨SqL.of hL4, fun T hT => ?_⟩⟩
    obtain ⟨nTp, nTq⟩ := F4.ne hT
    have s8 := same_new (o := .tup vs) hT
    have hdl := DpAll_len hd4
    refine q _ ds _ (.tup (SqT.of (del_some upd_same nTp)) (DpAll_same (fun c o e => ?_) hd4)) (by omega) (by omega) o4 ?_ ((F4.same s8).mono (by omega))
    · obtain ⟨e1, e2⟩ := of_del e
      exact same_del s8 _ _ e1
    · intro c o e
      have e1 := s03 _ _ e
      have nc : c ≠ L := fun z => by
        rw [z] at e1
        rw [(of_del e1).1] at hL
        cases hL
      exact same_del s8 _ _ (of_del (s4 _ _ (del_some e1 nc))).1
end
end Sw
set_option maxRecDepth 100000
set_option maxHeartbeats 4000000
namespace Sw
open PySem PySem.Spec PyProof.Rows L2
/-- what is new in H' -/
def fr (H H' : Hp) : Hp := fun c => match H c with
  | none => H' c
  | some _ => none
theorem fr_some {H H' : Hp} {c : Addr} {o : HO} (h : H c = none) (h' : H' c = some o) : fr H H' c = some o := by unfold fr; rw [h]; exact h'
theorem of_fr {H H' : Hp} {c : Addr} {o : HO} (h : fr H H' c = some o) : H c = none ∧ H' c = some o := by
  unfold fr at h
  cases e : H c with
  | none => rw [e] at h; exact ⟨rfl, h⟩
  | some u => rw [e] at h; cases h
theorem fr_same (H H' : Hp) : Same (fr H H') H' := fun c o e => (of_fr e).2
theorem fr_next {H H1 H2 : Hp} (s : Same H1 H2) : Same (fr H H1) (fr H H2) := fun c o e => fr_some (of_fr e).1 (s _ _ (of_fr e).2)
theorem fr_prev {H H1 H2 : Hp} (s : Same H H1) : Same (fr H1 H2) (fr H H2) := fun c o e => fr_some (s.free (of_fr e).1) (of_fr e).2
theorem fr_del {H H' : Hp} {p : Addr} {u : HO} (hp : H p = some u) : Same (fr H H') (del H' p) := fun c o e => del_some (of_fr e).2 fun z => by
  have := (of_fr e).1
  rw [z, hp] at this
  cases this
/-- displays of constants; a name may stand for one int -/
abbrev Nm := Option (Str × Nat × Int)
def cstL (f : Expr → Option PyData) : List Expr → Option (List PyData)
  | [] => some []
  | e :: es => match f e, cstL f es with
    | some d, some ds => some (d :: ds)
    | _, _ => none
def cst (g : Nm) : Nat → Expr → Option PyData
  | 0, _ => none
  | n + 1, e => match e with
    | .Constant (.int i) _ _ => some (.int i)
    | .Constant (.str x) _ _ => some (.str x)
    | .Constant (.bool b) _ _ => some (.bool b)
    | .Constant .none _ _ => some .none
    | .Tuple es _ _ => if es.length ≤ 1000 then (cstL (cst g n) es).map .tuple else none
    | .List es _ => if es.length ≤ 1000 then (cstL (cst g n) es).map .list else none
    | .UnaryOp .USub a _ => match cst g n a with
      | some (.int i) => some (.int (-i))
      | _ => none
    | .BinOp a .Pow b _ => match cst g n a, cst g n b with
      | some (.int i), some (.int j) => if 0 ≤ j ∧ j ≤ 1000000 ∧ i.natAbs < 2 ^ 64 then some (.int (i ^ j.toNat)) else none
      | _, _ => none
    | .BinOp a .Mult b _ => match cst g n a, cst g n b with
      | some (.int i), some (.int j) => if i.natAbs < 2 ^ 5000 ∧ j.natAbs < 2 ^ 5000 then some (.int (i * j)) else none
      | _, _ => none
    | .Name x _ => match g with
      | some (y, _, v) => if x = y then some (.int v) else none
      | none => none
    | _ => none
def nmAt (g : Nm) (σ : L2.St) : Prop := match g with
  | none => True
  | some (_, i, v) => σ[i]? = some (some (.int v))
def nmOk (g : Nm) (X : Cx) : Prop := match g with
  | none => True
  | some (x, i, _) => X.N[i]? = some x ∧ Vis X.env.scope x ∧ (x == ("__debug__" : Str)) = false ∧ (x == ("__classdict__" : Str)) = false
def tDat (K : PySem.W.Frag) (g : Nm) (d : PyData) : TE := fun σ H Q => nmAt g σ ∧ ∀ v H', Same H H' → Dp K (fr H H') v d → Q v H'
def tDats (K : PySem.W.Frag) (g : Nm) (ds : List PyData) : TA := fun σ H Q => nmAt g σ ∧ ∀ vs H', Same H H' → DpAll K (fr H H') vs ds → Q vs H'
theorem pe_imp {X : Cx} {e : Expr} {t t' : TE} (h : PE X e t) (hi : ∀ σ H Q, t' σ H Q → t σ H Q) : PE X e t' := ⟨fun pins s σ H Q I q => h.run pins s σ H Q I (hi σ H Q q)⟩
theorem pa_imp {X : Cx} {es : List Expr} {t t' : TA} (h : PA X es t) (hi : ∀ σ H Q, t' σ H Q → t σ H Q) : PA X es t' := ⟨fun pos pins s σ H Q I q => h.run pos pins s σ H Q I (hi σ H Q q)⟩
theorem cst_star {g : Nm} {n : Nat} {e : Expr} {es : List Expr} {d : PyData} {env : Env} (h : cst g n e = some d) : starEach (e :: es) env = (false, eval e env) :: starEach es env := by
  cases n with
  | zero => simp [cst] at h
  | succ n => cases e <;> first | rfl | simp [cst] at h
theorem cstL_length {f : Expr → Option PyData} : ∀ {es : List Expr} {ds : List PyData}, cstL f es = some ds → ds.length = es.length
  | [], ds, h => by
    simp [cstL] at h
    subst h
    rfl
  | e :: es, ds, h => by
    simp only [cstL] at h
    cases h1 : f e with
    | none => rw [h1] at h; cases h
    | some d =>
      cases h2 : cstL f es with
      | none => rw [h1, h2] at h; cases h
      | some ds' =>
        rw [h1, h2] at h
        cases h
        rw [List.length_cons, List.length_cons, cstL_length h2]
section
variable {X : Cx} {g : Nm}
theorem pa_cst {f : Expr → Option PyData} (hf : ∀ e d, f e = some d → PE X e (tDat X.K g d)) (hs : ∀ e d es env, f e = some d → starEach (e :: es) env = (false, eval e env) :: starEach es env) :
    ∀ (es : List Expr) (ds : List PyData), cstL f es = some ds → PA X es (tDats X.K g ds)
  | [], ds, h => by
    simp [cstL] at h
    subst h
    exact pa_imp pa_nil fun σ H Q q => q.2 [] H (Same.refl H) .nil
  | e :: es, ds, h => by
    simp only [cstL] at h
    cases h1 : f e with
    | none => rw [h1] at h; cases h
    | some d =>
      cases h2 : cstL f es with
      | none => rw [h1, h2] at h; cases h
      | some ds' =>
        rw [h1, h2] at h
        cases h
        refine pa_imp (pa_cons (hf e d h1) (pa_cst hf hs es ds' h2) (hs e d es X.env h1)) fun σ H Q q => ?_
        refine ⟨q.1, fun v H1 s1 d1 => ⟨q.1, fun vs H2 s2 d2 => ?_⟩⟩
        exact q.2 _ H2 (s1.trans s2) (.cons (Dp_same (fr_next s2) d1) (DpAll_same (fr_prev s1) d2))
theorem pe_cst (ok : nmOk g X) : ∀ (n : Nat) (e : Expr) (d : PyData), cst g n e = some d → PE X e (tDat X.K g d)
  | 0, e, d, h => by simp [cst] at h
  | n + 1, e, d, h => by
    have ih := pe_cst ok n
    cases e with
    | Constant c k p =>
      cases c with
      | int i =>
        simp [cst] at h
        subst h
        exact pe_imp pe_int fun σ H Q q => q.2 _ H (Same.refl H) (.int i)
      | str x =>
        simp [cst] at h
        subst h
        exact pe_imp pe_str fun σ H Q q => q.2 _ H (Same.refl H) (.str x)
      | bool b =>
        simp [cst] at h
        subst h
        exact pe_imp pe_bl fun σ H Q q => q.2 _ H (Same.refl H) (.bl b)
      | none =>
        simp [cst] at h
        subst h
        exact pe_imp pe_non fun σ H Q q => q.2 _ H (Same.refl H) .non
      | _ => simp [cst] at h
    | Tuple es k p =>
      simp only [cst] at h
      split at h
      · rename_i hlen
        cases h2 : cstL (cst g n) es with
        | none => rw [h2] at h; cases h
        | some ds =>
          rw [h2] at h
          cases h
          refine pe_imp (pe_tup (pa_cst ih (fun e d es env h => cst_star h) es ds h2)) fun σ H Q q => ⟨q.1, fun vs H1 s1 d1 => ?_⟩
          have hl := DpAll_len d1
          have hl2 := cstL_length h2
          refine ⟨Nat.le_of_lt (small1000 (by omega)), fun a ha => ?_⟩
          have s2 := same_new (o := .tup vs) ha
          exact q.2 _ _ (s1.trans s2) (.tup (SqT.of (fr_some (s1.free ha) upd_same)) (DpAll_same (fr_next s2) d1))
      · cases h
    | List es p =>
      simp only [cst] at h
      split at h
      · rename_i hlen
        cases h2 : cstL (cst g n) es with
        | none => rw [h2] at h; cases h
        | some ds =>
          rw [h2] at h
          cases h
          refine pe_imp (pe_lst (pa_cst ih (fun e d es env h => cst_star h) es ds h2)) fun σ H Q q => ⟨q.1, fun vs H1 s1 d1 => ?_⟩
          have hl := DpAll_len d1
          have hl2 := cstL_length h2
          refine ⟨Nat.le_of_lt (small1000 (by omega)), fun a ha => ?_⟩
          have s2 := same_new (o := .lst vs) ha
          exact q.2 _ _ (s1.trans s2) (.lst (SqL.of (fr_some (s1.free ha) upd_same)) (DpAll_same (fr_next s2) d1))
      · cases h
    | UnaryOp op a p =>
      cases op with
      | USub =>
        simp only [cst] at h
        split at h
        · rename_i i h1
          cases h
          refine pe_imp (pe_un un_neg (ih a _ h1)) fun σ H Q q => ⟨q.1, fun v H1 s1 d1 => ?_⟩
          cases d1
          exact ⟨i, rfl, q.2 _ H1 s1 (.int _)⟩
        · cases h
      | _ => simp [cst] at h
    | BinOp a op b p =>
      cases op with
      | Pow =>
        simp only [cst] at h
        split at h
        · rename_i i j h1 h2
          split at h
          · rename_i hc
            cases h
            refine pe_imp (pe_op op_pow (ih a _ h1) (ih b _ h2)) fun σ H Q q => ⟨q.1, fun v H1 s1 d1 => ⟨q.1, fun u H2 s2 d2 => ?_⟩⟩
            cases d1
            cases d2
            exact ⟨i, j, rfl, rfl, hc, q.2 _ H2 (s1.trans s2) (.int _)⟩
          · cases h
        · cases h
      | Mult =>
        simp only [cst] at h
        split at h
        · rename_i i j h1 h2
          split at h
          · rename_i hc
            cases h
            refine pe_imp (pe_op op_mulW (ih a _ h1) (ih b _ h2)) fun σ H Q q => ⟨q.1, fun v H1 s1 d1 => ⟨q.1, fun u H2 s2 d2 => ?_⟩⟩
            cases d1
            cases d2
            exact ⟨i, j, rfl, rfl, wide_mul hc.1 hc.2 (by decide) (by decide) (by decide), q.2 _ H2 (s1.trans s2) (.int _)⟩
          · cases h
        · cases h
      | _ => simp [cst] at h
    | Name x p =>
      simp only [cst] at h
      split at h
      · rename_i y i v
        split at h
        · rename_i e
          cases h
          subst e
          obtain ⟨h1, h2, h3, h4⟩ := ok
          refine pe_imp (pe_var (i := i) h1 h2 h3 h4) fun σ H Q q => ⟨_, q.1, q.2 _ H (Same.refl H) (.int v)⟩
        · cases h
      · cases h
    | _ => simp [cst] at h
end
end Sw
set_option maxRecDepth 100000
set_option maxHeartbeats 4000000
namespace Sw
open PySem PySem.Spec PyProof.Rows L2
/-! ### the text's own expressions, by their places -/
def xNo : Expr := .Constant .none 0 ⟨0, 0, 0, 0⟩
def asgOf : Stmt → Expr
  | .Assign _ v _ => v
  | _ => xNo
def retOf : Stmt → Expr
  | .Return (some e) _ => e
  | _ => xNo
def exprOf : Stmt → Expr
  | .Expr e _ => e
  | _ => xNo
def binR : Expr → Expr
  | .BinOp _ _ r _ => r
  | _ => xNo
def arg0 : Expr → Expr
  | .Call _ (a :: _) _ _ => a
  | _ => xNo
def eltsOf : Expr → List Expr
  | .List es _ => es
  | .Tuple es _ _ => es
  | _ => []
def stAt (i j : Nat) : Stmt := (defBody (topS i)).getD j (.Pass ⟨0, 0, 0, 0⟩)
theorem some_of {α : Type} {x : Option α} {d : α} (h : x.isSome = true) : x = some (x.getD d) := by
  cases x with
  | none => cases h
  | some a => rfl
def tupL : PyData → List PyData
  | .tuple ds => ds
  | _ => []
theorem tup_of {d : PyData} (h : isaTup d = true) : d = .tuple (tupL d) := by cases d <;> first | rfl | cases h
def fitB (M l n B : Nat) (d : PyData) : Bool := leaf M d && lens l d && decide (d.depth ≤ n) && decide (wt d ≤ B)
theorem fitB_fit {M l n B : Nat} {d : PyData} (h : fitB M l n B d = true) : Fit M l n B d := by
  unfold fitB at h
  simp only [Bool.and_eq_true, decide_eq_true_eq] at h
  exact ⟨h.1.1.1, h.1.1.2, h.1.2, h.2⟩
theorem allFit {M l n B : Nat} {ds : List PyData} (h : ds.all (fitB M l n B) = true) : ∀ d ∈ ds, Fit M l n B d := fun d hd => fitB_fit (List.all_eq_true.mp h d hd)
/-! ### odd things -/
def oddD1 : PyData := (cst none 12 (asgOf (stAt 15 0))).getD .none
def oddD2 : PyData := (cst none 12 (binR (retOf (stAt 15 1)))).getD .none
theorem odd1 : cst none 12 (asgOf (stAt 15 0)) = some oddD1 := some_of (by decide +kernel)
theorem odd2 : cst none 12 (binR (retOf (stAt 15 1))) = some oddD2 := some_of (by decide +kernel)
theorem odd1t : oddD1 = .tuple (tupL oddD1) := tup_of (by decide +kernel)
theorem odd2t : oddD2 = .tuple (tupL oddD2) := tup_of (by decide +kernel)
theorem odd1f : (tupL oddD1).all (fitB (10 ^ 199) 2 2 520) = true := by decide +kernel
theorem odd2f : (tupL oddD2).all (fitB (10 ^ 199) 2 2 520) = true := by decide +kernel
theorem odd1n : (tupL oddD1).length = 16 := by decide +kernel
theorem odd2n : (tupL oddD2).length = 6 := by decide +kernel
section
variable {P : Program} {w : World} {K : PySem.W.Frag} {mg : Str → Option Value} {base : Heap}
def spOdd (K : PySem.W.Frag) : Sp := fun vs H Q _ => vs = [] ∧ ∀ (v : V) (ds : List PyData) (H' : Hp), Same H H' → Dp K (fr H H') v (.tuple ds) → ds.length = 22 → (∀ d ∈ ds, Fit (10 ^ 199) 2 2 520 d) → Q v H'
theorem sc_odd : FnScope ["_law_small"] [] (defScope (topS 15)) := ⟨rfl, rfl, rfl, by decide +kernel, rfl, by decide +kernel, by decide +kernel⟩
theorem ok_odd {f : Addr} {fd : FuncData} (D : Df K mg "_law_odd" (topS 15) [] f fd) : FnOk P w K mg base CX0 1 f fd [] (spOdd K) := by
  refine D.fn.ok sc_odd (fun vs H Q E h => ?_) (fun cdv A outer s H vs Q E hr h => ?_)
  · obtain ⟨rfl, _⟩ := h
    rfl
  obtain ⟨rfl, q⟩ := h
  refine ⟨_, pss_cons (ps_set (i := 0) sc_odd.nd rfl (Or.inl rfl) (pe_cst (g := none) trivial 12 (asgOf (stAt 15 0)) oddD1 odd1)) (pss_one (ps_ret (pe_op op_catA (pv 0) (pe_cst (g := none) trivial 12 (binR (retOf (stAt 15 1))) oddD2 odd2)))), ?_⟩
  refine ⟨trivial, fun v1 H1 s1 d1 => ?_⟩
  refine ⟨v1, rfl, trivial, fun v2 H2 s2 d2 => ?_⟩
  rw [odd1t] at d1
  rw [odd2t] at d2
  have n1 := odd1n
  have n2 := odd2n
  have f1 := allFit odd1f
  have f2 := allFit odd2f
  generalize tupL oddD1 = ds1 at d1 n1 f1
  generalize tupL oddD2 = ds2 at d2 n2 f2
  cases d1 with
  | @tup a1 xs1 _ h1 r1 =>
    cases d2 with
    | @tup a2 xs2 _ h2 r2 =>
      have l1 := DpAll_len r1
      have l2 := DpAll_len r2
      have e1 := sameT (fr_same _ _) (sameT (fr_next s2) h1)
      have e2 := sameT (fr_same _ _) h2
      refine ⟨a1, a2, xs1, xs2, rfl, rfl, e1, e2, Nat.le_of_lt (small1000 (by omega)), fun z => ?_, fun _ z => ?_, fun _ _ p hp => ?_⟩
      · rw [z] at l1; simp at l1; omega
      · rw [z] at l2; simp at l2; omega
      · have s3 := same_new (o := .tup (xs1 ++ xs2)) hp
        refine q _ (ds1 ++ ds2) _ (s1.trans (s2.trans s3)) (.tup (SqT.of (fr_some (s1.free (s2.free hp)) upd_same)) (DpAll_append (DpAll_same (fr_next (s2.trans s3)) r1) (DpAll_same ((fr_prev s1).trans (fr_next s3)) r2))) (by rw [List.length_append]; omega) fun d hd => ?_
        exact (List.mem_append.mp hd).elim (f1 d) (f2 d)
end
end Sw
set_option maxRecDepth 100000
set_option maxHeartbeats 4000000
namespace Sw
open PySem PySem.Spec PyProof.Rows L2
/-! ### ints and bools reckoned with -/
def asInt : PyData → Int
  | .int i => i
  | .bool b => if b = true then 1 else 0
  | _ => 0
section
variable {X : Cx}
def rNum (f : Int → Int → Int) : R2 := fun x y H Q => ∃ j, y = .int j ∧ ((∃ i, x = .int i ∧ Q (.int (f i j)) H) ∨ ∃ b : Bool, x = .bl b ∧ Q (.int (f (if b = true then 1 else 0) j)) H)
theorem op_addB : OpR X (binaryOp .Add) (rNum fun i j => i + j) := by
  intro pins s σ H x y v u Q I rx ry h
  obtain ⟨j, rfl, h⟩ := h
  obtain ⟨t', rfl⟩ := ry
  rcases h with ⟨i, rfl, q⟩ | ⟨b, rfl, q⟩
  · obtain ⟨t, rfl⟩ := rx
    exact add_int ⟨.int _, H, I.tok _, ⟨_, rfl⟩, q⟩
  · cases (show v = Value.bool b from rx)
    exact PySem.IntBool.add_bool_int ⟨.int _, H, I.tok _, ⟨_, rfl⟩, q⟩
theorem op_subB : OpR X (binaryOp .Sub) (rNum fun i j => i - j) := by
  intro pins s σ H x y v u Q I rx ry h
  obtain ⟨j, rfl, h⟩ := h
  obtain ⟨t', rfl⟩ := ry
  rcases h with ⟨i, rfl, q⟩ | ⟨b, rfl, q⟩
  · obtain ⟨t, rfl⟩ := rx
    exact sub_int ⟨.int _, H, I.tok _, ⟨_, rfl⟩, q⟩
  · cases (show v = Value.bool b from rx)
    exact PySem.IntBool.sub_bool_int ⟨.int _, H, I.tok _, ⟨_, rfl⟩, q⟩
theorem gives_neg_bool (b : Bool) : Gives (Builtin.«int.__neg__» ⟨[.bool b], []⟩) (.int (-(if b = true then 1 else 0))) := by
  cases b <;> exact .of_eq rfl
theorem un_negB : UnR X (unaryOp .USub) (fun x H Q => (∃ i, x = .int i ∧ Q (.int (-i)) H) ∨ ∃ b : Bool, x = .bl b ∧ Q (.int (-(if b = true then 1 else 0))) H) := by
  intro pins s σ H x v Q I rx h
  rcases h with ⟨i, rfl, q⟩ | ⟨b, rfl, q⟩
  · obtain ⟨t, rfl⟩ := rx
    exact PyProof.Rows.neg_int ⟨.int _, H, I.tok _, ⟨_, rfl⟩, q⟩
  · cases (show v = Value.bool b from rx)
    exact unaryOp_gives (op := .USub) (T := "bool") rfl rfl PySem.F.slot_bool_neg PySem.F.entry_int_neg (PySem.F.args_int_neg_1 _) (gives_neg_bool b) ⟨.int _, H, I.tok _, ⟨_, rfl⟩, q⟩
end
/-! ### tuples of data: cut and put together -/
def cutD (ds : List PyData) (lo hi : Option Int) : List PyData := (ds.drop (HT.sIx ds.length 0 lo)).take (HT.sIx ds.length ds.length hi - HT.sIx ds.length 0 lo)
theorem DpAll_take {K : PySem.W.Frag} {H : Hp} : ∀ {vs : List V} {ds : List PyData} (n : Nat), DpAll K H vs ds → DpAll K H (vs.take n) (ds.take n)
  | _, _, 0, _ => by simp; exact .nil
  | _, _, _ + 1, .nil => by simp; exact .nil
  | _, _, n + 1, .cons h r => .cons h (DpAll_take n r)
theorem DpAll_drop {K : PySem.W.Frag} {H : Hp} : ∀ {vs : List V} {ds : List PyData} (n : Nat), DpAll K H vs ds → DpAll K H (vs.drop n) (ds.drop n)
  | _, _, 0, h => h
  | _, _, _ + 1, .nil => by simp; exact .nil
  | _, _, n + 1, .cons h r => DpAll_drop n r
theorem cut_dat {K : PySem.W.Frag} {H : Hp} {p a : Addr} {ds : List PyData} {lo hi : Option Int} {Q : VK} (hp : ∃ u, H p = some u) (h : Dp K (del H p) (.ref a) (.tuple ds)) (q : ∀ v H', Same H H' → Dp K (del H' p) v (.tuple (cutD ds lo hi)) → Q v H') : rSlA K (.ref a) lo hi H Q := by
  obtain ⟨u, hp⟩ := hp
  cases h with
  | @tup _ xs _ hx hr =>
    have hl := DpAll_len hr
    refine ⟨a, xs, rfl, sameT (del_same _ _) hx, fun hw => ?_, fun hw t ht => ?_⟩
    · rw [hl] at hw
      have e : cutD ds lo hi = ds := by
        unfold cutD
        rw [hw.1, hw.2]
        simp
      exact q _ H (Same.refl H) (by rw [e]; exact .tup hx hr)
    · have s := same_new (o := .tup (cutV xs lo hi)) ht
      refine q _ _ s (.tup (SqT.of (new_del hp ht)) ?_)
      have r2 := DpAll_same (same_del (p := p) s) hr
      generalize upd H t (.tup (cutV xs lo hi)) = H2 at r2
      unfold cutV cutD
      rw [hl]
      exact DpAll_take _ (DpAll_drop _ r2)
theorem cat_dat {K : PySem.W.Frag} {H : Hp} {p a b : Addr} {ds es : List PyData} {Q : VK} (hp : ∃ u, H p = some u) (ha : Dp K (del H p) (.ref a) (.tuple ds)) (hb : Dp K (del H p) (.ref b) (.tuple es)) (hl : ds.length + es.length ≤ 1000)
    (q : ∀ v H', Same H H' → Dp K (del H' p) v (.tuple (ds ++ es)) → Q v H') : rCatA K (.ref a) (.ref b) H Q := by
  obtain ⟨u, hp⟩ := hp
  cases ha with
  | @tup _ xs _ hx hrx =>
    cases hb with
    | @tup _ ys _ hy hry =>
      have l1 := DpAll_len hrx
      have l2 := DpAll_len hry
      refine ⟨a, b, xs, ys, rfl, rfl, sameT (del_same _ _) hx, sameT (del_same _ _) hy, Nat.le_of_lt (small1000 (by omega)), fun z => ?_, fun _ z => ?_, fun _ _ t ht => ?_⟩
      · have e : ds = [] := List.eq_nil_of_length_eq_zero (by rw [← l1, z]; rfl)
        subst e
        exact q _ H (Same.refl H) (.tup hy hry)
      · have e : es = [] := List.eq_nil_of_length_eq_zero (by rw [← l2, z]; rfl)
        subst e
        rw [List.append_nil] at q
        exact q _ H (Same.refl H) (.tup hx hrx)
      · have s := same_new (o := .tup (xs ++ ys)) ht
        exact q _ _ s (.tup (SqT.of (new_del hp ht)) (DpAll_append (DpAll_same (same_del s) hrx) (DpAll_same (same_del s) hry)))
theorem sIx_at (n d k : Nat) (h : k ≤ n) : HT.sIx n d (some (k : Int)) = k := by rw [HT.sIx_nat]; omega
theorem cutD_to (ds : List PyData) {k : Nat} (h : k ≤ ds.length) : cutD ds none (some (k : Int)) = ds.take k := by
  unfold cutD
  rw [sIx_at _ _ _ h, HT.sIx_none]
  simp
theorem cutD_from (ds : List PyData) {k : Nat} (h : k ≤ ds.length) : cutD ds (some (k : Int)) none = ds.drop k := by
  unfold cutD
  rw [sIx_at _ _ _ h, HT.sIx_none]
  exact List.take_of_length_le (by rw [List.length_drop]; omega)
/-! ### how large what is put together is -/
theorem wtAll_cut (ds : List PyData) {k : Nat} {x : PyData} (h : ds[k]? = some x) : wtAll (ds.take k) + (wt x + 2) + wtAll (ds.drop (k + 1)) = wtAll ds := by
  obtain ⟨hk, e⟩ := List.getElem?_eq_some_iff.mp h
  have e2 : ds = ds.take k ++ x :: ds.drop (k + 1) := by
    rw [← e, List.getElem_cons_drop]
    exact (List.take_append_drop k ds).symm
  conv => rhs; rw [e2]
  rw [wtAll_append]
  simp only [wtAll]
  omega
theorem fit_any {M l n B M' l' n' B' : Nat} {ds es : List PyData} (h : Fit M l (n + 1) B (.tuple ds)) (hM : M ≤ M') (hl : l ≤ l') (hn : n ≤ n') (hm : ∀ x ∈ es, x ∈ ds ∨ (leaf M' x = true ∧ lens l' x = true ∧ x.depth ≤ n')) (hel : es.length ≤ l') (hw : wtAll es + 5 ≤ B') : Fit M' l' (n' + 1) B' (.tuple es) := by
  obtain ⟨h1, h2, h3, h4⟩ := h.inTup
  refine Fit.tup hel (fun x hx => ?_) hw
  rcases hm x hx with hx | hx
  · have := (h4 x hx).mono hM hl (show n + 1 - 1 ≤ n' by omega) (Nat.le_refl _)
    exact ⟨this.lf, this.ln, this.dp⟩
  · exact hx
end Sw
set_option maxRecDepth 100000
set_option maxHeartbeats 4000000
namespace Sw
open PySem PySem.Spec PyProof.Rows L2
section
variable {P : Program} {w : World} {K : PySem.W.Frag} {mg : Str → Option Value} {base : Heap}
/-- n is more than the thing is deep -/
def spBend (K : PySem.W.Frag) (n : Nat) : Sp := fun vs H Q _ => ∃ (p fq : Addr) (v vo : V) (b m M l B : Nat) (d : PyData) (os : List PyData), vs = [.ref p, v, vo] ∧ n = m + 1 ∧ n ≤ 30 ∧ FeedAt H p fq b ∧ b + 10 * n + 10 ≤ 1000000000 ∧
  Dp K (del H p) v d ∧ Dp K (del H p) vo (.tuple os) ∧ os.length = 22 ∧ (∀ o ∈ os, Fit (10 ^ 199) 2 2 520 o) ∧ Fit M l m B d ∧ 10 ^ 199 ≤ M ∧ l ≤ 100 ∧ B ≤ 100000 ∧
  ∀ (v' : V) (d' : PyData) (H' : Hp), Dp K (del H' p) v' d' → Fit (M + 1) (2 * l + 2) (m + 2) (2 * B + 1100) d' → Same (del H p) (del H' p) → FeedAt H' p fq (b + 10 * n) → Q v' H'
theorem cutD_sub (ds : List PyData) (lo hi : Option Int) : (∀ x ∈ cutD ds lo hi, x ∈ ds) ∧ (cutD ds lo hi).length ≤ ds.length ∧ wtAll (cutD ds lo hi) ≤ wtAll ds := by
  unfold cutD
  refine ⟨fun x hx => List.mem_of_mem_drop (List.mem_of_mem_take hx), by rw [List.length_take, List.length_drop]; omega, ?_⟩
  exact Nat.le_trans (wtAll_take _ _) (wtAll_drop _ _)
theorem tup_at {a b : V} {xs : List V} {i : Int} (h0 : 0 ≤ i) {n : Nat} (e : i = (n : Int)) (h : xs[n]? = some a) : atI xs i = some a := by rw [e]; exact atI_nat h
theorem sc_bend : FnScope ["_law_feed_here", "_law_thing", "_law_odd_here", "_law_at", "_law_way"] ["_law_feed_here", "_law_thing", "_law_odd_here"] (defScope (topS 14)) := ⟨rfl, rfl, rfl, by decide +kernel, rfl, by decide +kernel, by decide +kernel⟩
theorem ok_bend1 {n : Nat} {f f1 : Addr} {fd fd1 : FuncData} (D : Df K mg "_law_bend" (topS 14) ["_law_feed_here", "_law_thing", "_law_odd_here"] f fd) (DD : Df K mg "_law_draw" (topS 11) ["_law_feed_here", "_law_many"] f1 fd1) (B : Bt mg)
    (GD : FnOk P w K mg base CX0 1 f1 fd1 ["_law_feed_here", "_law_many"] spDraw) (G : FnOk P w K mg base CX0 (n + 1) f fd ["_law_feed_here", "_law_thing", "_law_odd_here"] (spBend K n)) :
    FnOk P w K mg base CX0 (n + 2) f fd ["_law_feed_here", "_law_thing", "_law_odd_here"] (spBend K (n + 1)) := by
  refine D.fn.ok sc_bend (fun vs H Q E h => ?_) (fun cdv A outer s H vs Q E hr h => ?_)
  · obtain ⟨p, fq, v, vo, b, m, M, l, B, d, os, rfl, _⟩ := h
    rfl
  obtain ⟨p, fq, v, vo, b, m, M, l, Bw, d, os, rfl, hnm, hn30, hF, hb, hd, ho, hol, hof, hfit, hM, hl, hB, q⟩ := h
  obtain rfl : n = m := by omega
  have nd := sc_bend.nd
  have hu := hr.units
  have hr1 : Room 1 _ := hr.mono (by omega)
  refine ⟨_, C8.pss_cut (ps_if (PW.pt (pw_and (pt_val (pe_callB call_isi (by rfl) B.isi (by decide +kernel) (pa_cons (pv 1) (pa_cons (pe_bltn (v := .ty "tuple") (by rfl) B.tuple (by decide +kernel) rfl) pa_nil))))
        (pw_and (pt_cmpR (op_neD hu) (pv 1) (pe_tup pa_nil) (nomark _)) (pw_and1 (pt_cmpR op_gt (pe_call GD hr1 (by rfl) DD.gl DD.fn.kp DD.bd .nil pass0 (pa_cons (pv 0) (pa_cons pe_int pa_nil))) pe_int (nomark _))))))
      (pss_cons (ps_set (i := 3) nd rfl (Or.inl rfl) (pe_call GD hr1 (by rfl) DD.gl DD.fn.kp DD.bd .nil pass0 (pa_cons (pv 0) (pa_cons (pe_callB call_len_seq (by rfl) B.len PySem.boot_len (pa_cons (pv 1) pa_nil)) pa_nil))))
      (pss_one (ps_ret (pe_op op_catA (pe_op op_catA (pe_slice sl_tupA (pv 1) po_none (po_some (pv 3)))
        (pe_tup (pa_cons (pe_call G hr (by rfl) D.gl D.fn.kp D.bd .nil pass0 (pa_cons (pv 0) (pa_cons (pe_ix ix_tup (pv 1) (pv 3) (fun _ _ => rfl)) (pa_cons (pv 2) pa_nil)))) pa_nil)))
        (pe_slice sl_tupA (pv 1) (po_some (pe_op op_add (pv 3) pe_int)) po_none))))) pss_nil)
    (pss_cons (ps_set (i := 4) nd rfl (Or.inl rfl) (pe_call GD hr1 (by rfl) DD.gl DD.fn.kp DD.bd .nil pass0 (pa_cons (pv 0) (pa_cons pe_int pa_nil))))
    (C8.pss_cut (ps_if (PW.pt (pw_and (pt_val (pe_callB call_isi (by rfl) B.isi (by decide +kernel) (pa_cons (pv 1) (pa_cons (pe_bltn (v := .ty "tuple") (by rfl) B.tuple (by decide +kernel) rfl) pa_nil)))) (pw_and1 (pt_cmpR op_lt (pv 4) pe_int (nomark _)))))
      (pss_cons (ps_set (i := 3) nd rfl (Or.inl rfl) (pe_call GD hr1 (by rfl) DD.gl DD.fn.kp DD.bd .nil pass0 (pa_cons (pv 0) (pa_cons (pe_op op_add (pe_callB call_len_seq (by rfl) B.len PySem.boot_len (pa_cons (pv 1) pa_nil)) pe_int) pa_nil))))
      (pss_cons (ps_if (pt_cmpR op_eq (pv 4) pe_int (nomark _))
        (pss_one (ps_ret (pe_op op_catA (pe_op op_catA (pe_slice sl_tupA (pv 1) po_none (po_some (pv 3)))
          (pe_tup (pa_cons (pe_ix ix_tup (pv 2) (pe_call GD hr1 (by rfl) DD.gl DD.fn.kp DD.bd .nil pass0 (pa_cons (pv 0) (pa_cons (pe_callB call_len_seq (by rfl) B.len PySem.boot_len (pa_cons (pv 2) pa_nil)) pa_nil))) (fun _ _ => rfl)) pa_nil)))
          (pe_slice sl_tupA (pv 1) (po_some (pv 3)) po_none)))) pss_nil)
      (pss_one (ps_ret (pe_ifExp (pt_cmpR op_eq (pv 4) pe_int (nomark _)) (pe_op op_catA (pe_slice sl_tupA (pv 1) po_none (po_some (pv 3))) (pe_slice sl_tupA (pv 1) (po_some (pe_op op_add (pv 3) pe_int)) po_none))
        (pe_ifExp (pt_cmpR op_eq (pv 4) pe_int (nomark _)) (pe_callTy call_list_of (by rfl) B.list (by decide +kernel) (pa_cons (pv 1) pa_nil)) (pe_op op_catA (pv 1) (pe_slice sl_tupA (pv 1) po_none (po_some (pv 3))))))))))  pss_nil)
    (C8.pss_cut (ps_if (PW.pt (pw_and (pt_val (pe_callB call_isi (by rfl) B.isi (by decide +kernel) (pa_cons (pv 1) (pa_cons (pe_bltn (v := .ty "int") (by rfl) B.int (by decide +kernel) rfl) pa_nil)))) (pw_and1 (pt_cmpR op_lt (pv 4) pe_int (nomark _)))))
      (pss_one (ps_ret (pe_ix ix_tup (pe_tup (pa_cons (pe_op op_addB (pv 1) pe_int) (pa_cons (pe_op op_subB (pv 1) pe_int) (pa_cons (pe_un un_negB (pv 1)) (pa_cons (pe_tup (pa_cons (pv 1) pa_nil)) pa_nil))))) (pv 4) (fun _ _ => rfl)))) pss_nil)
    (C8.pss_cut (ps_if (PW.pt (pw_and (pt_val (pe_callB call_isi (by rfl) B.isi (by decide +kernel) (pa_cons (pv 1) (pa_cons (pe_bltn (v := .ty "str") (by rfl) B.str (by decide +kernel) rfl) pa_nil)))) (pw_and1 (pt_cmpR op_lt (pv 4) pe_int (nomark _)))))
      (pss_one (ps_ret (pe_ix ix_tup (pe_tup (pa_cons (pe_op op_add_str (pv 1) pe_str) (pa_cons (pe_slice sl_str (pv 1) (po_some pe_int) po_none) (pa_cons (pe_lst (pa_cons (pv 1) pa_nil)) pa_nil)))) (pv 4) (fun _ _ => rfl)))) pss_nil)
    (pss_one (ps_ret (pe_ix ix_tup (pv 2) (pe_call GD hr1 (by rfl) DD.gl DD.fn.kp DD.bd .nil pass0 (pa_cons (pv 0) (pa_cons (pe_callB call_len_seq (by rfl) B.len PySem.boot_len (pa_cons (pv 2) pa_nil)) pa_nil))) (fun _ _ => rfl)))))))), ?_⟩
  have hdH := Dp_same (del_same _ _) hd
  refine ⟨fun σ H' => ∃ b' : Nat, σ = [some (.ref p), some v, some vo, none, none] ∧ b' ≤ b + 1 ∧ Same (del H p) (del H' p) ∧ FeedAt H' p fq b', ?_, ?_⟩
  · obtain ⟨t1, ty1, k1⟩ := isa_tup hdH
    refine ⟨v, rfl, v, .ty "tuple", t1, _, _, rfl, .ty _, ty1, k1, _, rfl, ?_⟩
    cases d with
    | tuple ds =>
      obtain ⟨hdl, hn1, hdw, hdin⟩ := hfit.inTup
      cases id hd with
      | @tup a xs _ hx hrx =>
      have hxl := DpAll_len hrx
      refine iteT ⟨_, rfl, Nat.zero_le _, fun N hN => ?_⟩
      have sN := same_new (o := .tup []) hN
      refine ⟨.tuple ds, .tuple [], Dp_same sN hdH, .tup (SqT.of upd_same) .nil, (hfit.mono (Nat.le_refl _) (Nat.le_refl _) (Nat.le_refl _) (Nat.le_refl _)).shaped (by omega), nilT_shaped, _, rfl, ?_⟩
      have F0 := hF.same sN
      have S0 := same_del (p := p) sN
      generalize upd H N (.tup []) = H0 at sN F0 S0
      rw [eqv_nil_tup]
      refine ite2 (fun c => ?_) (fun c => ?_)
      rotate_left
      · exact iteF ⟨b, rfl, by omega, S0, F0⟩
      have hne : 1 ≤ ds.length := by
        cases ds with
        | nil => cases c
        | cons x r => simp
      refine ⟨_, rfl, p, fq, 4, b, rfl, F0, by omega, by decide, by decide, fun r H1 r0 r1 s1 F1 => ⟨r, 0, rfl, rfl, _, rfl, ?_⟩⟩
      have S1 := S0.trans s1
      refine ite2 (fun _ => ?_) (fun _ => ?_)
      rotate_left
      · exact ⟨b + 1, rfl, by omega, S1, F1⟩
      -- one of its things is bent
      refine ⟨_, rfl, _, rfl, a, xs, rfl, .inr (sameT (del_same _ _) (sameT S1 hx)), p, fq, _, b + 1, rfl, F1, by omega, by omega, by omega, fun at0 H2 a0 a1 s2 F2 => ?_⟩
      obtain ⟨k, rfl⟩ : ∃ k : Nat, at0 = (k : Int) := ⟨at0.toNat, (Int.toNat_of_nonneg a0).symm⟩
      have hk : k < ds.length := by omega
      have S2 := S1.trans s2
      refine ⟨_, rfl, _, rfl, (k : Int), rfl, ?_⟩
      refine cut_dat F2.there (Dp_same S2 hd) (fun v1 H3 s3 d3 => ?_)
      have S3 := S2.trans (same_del s3)
      have F3 := F2.same s3
      have hkx : k < xs.length := by omega
      obtain ⟨dx, hdx, hdpx⟩ := DpAll_get (DpAll_same S3 hrx) (List.getElem?_eq_getElem hkx)
      have fx := hdin dx (List.mem_of_getElem? hdx)
      refine ⟨_, rfl, _, rfl, _, rfl, a, xs, _, _, rfl, rfl, sameT (del_same _ _) (sameT S3 hx), atI_nat (List.getElem?_eq_getElem hkx), _, rfl, p, fq, _, vo, b + 2, n - 1, M, l, wt dx, dx, os, rfl, by omega, by omega, F3, by omega, hdpx, Dp_same S3 ho, hol, hof, ⟨fx.lf, fx.ln, fx.dp, Nat.le_refl _⟩, hM, hl, by have := fx.wg; omega, fun v' d' H4 dd f4 s4 F4 => ?_⟩
      refine ⟨by show 1 ≤ sizeLine; decide, fun T hT => ?_⟩
      obtain ⟨u4, hp4⟩ := F4.there
      have s5 := same_new (o := .tup [v']) hT
      have dT : Dp K (del (upd H4 T (.tup [v'])) p) (.ref T) (.tuple [d']) := .tup (SqT.of (new_del hp4 hT)) (.cons (Dp_same (same_del s5) dd) .nil)
      have F5 := F4.same s5
      have S5 := (S3.trans s4).trans (same_del (p := p) s5)
      have d5 := Dp_same (s4.trans (same_del (p := p) s5)) d3
      generalize upd H4 T (.tup [v']) = H5 at s5 dT F5 S5 d5
      rw [cutD_to ds (by omega)] at d5
      cases id d5 with
      | @tup a1 _ _ _ _ =>
      refine cat_dat F5.there d5 dT (by rw [List.length_take]; show _ + 1 ≤ 1000; omega) (fun v2 H6 s6 d6 => ?_)
      have S6 := S5.trans (same_del (p := p) s6)
      have F6 := F5.same s6
      refine ⟨_, rfl, _, rfl, _, _, rfl, rfl, (k : Int) + 1, rfl, ?_⟩
      dsimp only [tNoPart]
      refine cut_dat F6.there (Dp_same S6 hd) (fun v3 H7 s7 d7 => ?_)
      have S7 := S6.trans (same_del (p := p) s7)
      have F7 := F6.same s7
      have d67 := Dp_same (same_del (p := p) s7) d6
      rw [show (k : Int) + 1 = ((k + 1 : Nat) : Int) by omega, cutD_from ds (by omega)] at d7
      cases id d67 with
      | @tup a2 _ _ _ _ =>
      cases id d7 with
      | @tup a3 _ _ _ _ =>
      refine cat_dat F7.there d67 d7 (by rw [List.length_append, List.length_take, List.length_drop]; show _ + 1 + _ ≤ 1000; omega) (fun v4 H8 s8 d8 => ?_)
      refine q v4 _ H8 d8 ?_ (S7.trans (same_del (p := p) s8)) ((F7.same s8).mono (by omega))
      have hwc := wtAll_cut ds hdx
      have hwx := wt_mem (List.mem_of_getElem? hdx)
      have hw4 := f4.wg
      obtain ⟨n', rfl⟩ : ∃ n', n = n' + 1 := ⟨n - 1, by omega⟩
      refine fit_any (n' := n' + 2) hfit (by omega) (by omega) (by omega) (fun x hx' => ?_) ?_ ?_
      · rcases List.mem_append.mp hx' with hx' | hx'
        · rcases List.mem_append.mp hx' with hx' | hx'
          · exact .inl (List.mem_of_mem_take hx')
          · rw [List.mem_singleton.mp hx']
            exact .inr ⟨f4.lf, f4.ln, f4.dp⟩
        · exact .inl (List.mem_of_mem_drop hx')
      · rw [List.length_append, List.length_append, List.length_take, List.length_drop]
        show _ + 1 + _ ≤ _
        omega
      · rw [wtAll_append, wtAll_append]
        simp only [wtAll]
        omega
    | none => exact iteF (iteF ⟨b, rfl, by omega, Same.refl _, hF⟩)
    | bool _ => exact iteF (iteF ⟨b, rfl, by omega, Same.refl _, hF⟩)
    | int _ => exact iteF (iteF ⟨b, rfl, by omega, Same.refl _, hF⟩)
    | str _ => exact iteF (iteF ⟨b, rfl, by omega, Same.refl _, hF⟩)
    | list _ => exact iteF (iteF ⟨b, rfl, by omega, Same.refl _, hF⟩)
    | dict _ => exact iteF (iteF ⟨b, rfl, by omega, Same.refl _, hF⟩)
  rintro σ H1 ⟨b1, rfl, hb1, S1, F1⟩
  refine ⟨_, rfl, p, fq, 6, b1, rfl, F1, by omega, by decide, by decide, fun way H2 y0 y1 s2 F2 => ?_⟩
  have S2 := S1.trans s2
  have hd2 := Dp_same S2 hd
  have hd2H := Dp_same (del_same _ _) hd2
  have ho2 := Dp_same S2 ho
  -- an odd thing, at any later state
  have fodd : ∀ o ∈ os, Fit (M + 1) (2 * l + 2) (n + 2) (2 * Bw + 1100) o := fun o h => (hof o h).mono (by omega) (by omega) (by omega) (by omega)
  cases id ho2 with
  | @tup ao xo _ hxo hro =>
  have hxol := DpAll_len hro
  refine ⟨fun σ H' => σ = [some (.ref p), some v, some (.ref ao), none, some (.int way)] ∧ H' = H2, ?_, ?_⟩
  · obtain ⟨t1, ty1, k1⟩ := isa_tup hd2H
    refine ⟨v, rfl, v, .ty "tuple", t1, _, _, rfl, .ty _, ty1, k1, _, rfl, ?_⟩
    cases d with
    | tuple ds =>
      obtain ⟨hdl, hn1, hdw, hdin⟩ := hfit.inTup
      cases id hd2 with
      | @tup a xs _ hx hrx =>
      have hxl := DpAll_len hrx
      obtain ⟨n', rfl⟩ : ∃ n', n = n' + 1 := ⟨n - 1, by omega⟩
      refine iteT ⟨_, rfl, _, _, rfl, rfl, _, rfl, ?_⟩
      refine ite2 (fun c => ?_) (fun c => ⟨rfl, rfl⟩)
      refine ⟨_, rfl, _, rfl, a, xs, rfl, .inr (sameT (del_same _ _) hx), _, _, rfl, rfl, p, fq, _, b1 + 1, rfl, F2, by omega, by omega, by omega, fun at0 H3 a0 a1 s3 F3 => ?_⟩
      have hd3 := Dp_same s3 hd2
      have S3 := S2.trans s3
      refine ⟨_, rfl, rfl, _, rfl, ?_⟩
      refine ite2 (fun c0 => ?_) (fun c0 => ?_)
      · -- one more thing
        refine ⟨_, rfl, _, rfl, at0, rfl, ?_⟩
        refine cut_dat F3.there hd3 (fun v1 H4 s4 d4 => ?_)
        have F4 := F3.same s4
        have S4 := S3.trans (same_del (p := p) s4)
        have e4 := sameT (del_same _ _) (sameT (s3.trans (same_del (p := p) s4)) hxo)
        refine ⟨_, rfl, _, rfl, _, rfl, ao, xo, rfl, .inr e4, p, fq, _, b1 + 2, rfl, F4, by omega, by omega, by omega, fun r5 H5 u0 u1 s5 F5 => ?_⟩
        obtain ⟨k5, rfl⟩ : ∃ k : Nat, r5 = (k : Int) := ⟨r5.toNat, (Int.toNat_of_nonneg u0).symm⟩
        have hk5 : k5 < xo.length := by omega
        have sAll := s3.trans ((same_del (p := p) s4).trans s5)
        obtain ⟨dx, hdx, hdpx⟩ := DpAll_get (DpAll_same sAll hro) (List.getElem?_eq_getElem hk5)
        have fx := hof dx (List.mem_of_getElem? hdx)
        refine ⟨ao, xo, _, _, rfl, rfl, sameT (del_same _ _) (sameT sAll hxo), atI_nat (List.getElem?_eq_getElem hk5), by show 1 ≤ sizeLine; decide, fun T hT => ?_⟩
        generalize xo[k5] = vx at hdpx
        obtain ⟨u5, hp5⟩ := F5.there
        have s6 := same_new (o := .tup [vx]) hT
        have dT : Dp K (del (upd H5 T (.tup [vx])) p) (.ref T) (.tuple [dx]) := .tup (SqT.of (new_del hp5 hT)) (.cons (Dp_same (same_del s6) hdpx) .nil)
        have F6 := F5.same s6
        have S6 := (S4.trans s5).trans (same_del (p := p) s6)
        have d6 := Dp_same (s5.trans (same_del (p := p) s6)) d4
        generalize upd H5 T (.tup [vx]) = H6 at s6 dT F6 S6 d6
        obtain ⟨m1, l1, w1⟩ := cutD_sub ds none (some at0)
        generalize cutD ds none (some at0) = es1 at d6 m1 l1 w1
        cases id d6 with
        | @tup a1 _ _ _ _ =>
        refine cat_dat F6.there d6 dT (by show _ + 1 ≤ 1000; omega) (fun v2 H7 s7 d7 => ?_)
        have S7 := S6.trans (same_del (p := p) s7)
        have F7 := F6.same s7
        refine ⟨_, rfl, _, rfl, at0, rfl, ?_⟩
        dsimp only [tNoPart]
        refine cut_dat F7.there (Dp_same S7 hd) (fun v3 H8 s8 d8 => ?_)
        have S8 := S7.trans (same_del (p := p) s8)
        have F8 := F7.same s8
        have d78 := Dp_same (same_del (p := p) s8) d7
        obtain ⟨m2, l2, w2⟩ := cutD_sub ds (some at0) none
        generalize cutD ds (some at0) none = es2 at d8 m2 l2 w2
        cases id d78 with
        | @tup a2 _ _ _ _ =>
        cases id d8 with
        | @tup a3 _ _ _ _ =>
        refine cat_dat F8.there d78 d8 (by rw [List.length_append]; show _ + 1 + _ ≤ 1000; omega) (fun v4 H9 s9 d9 => ?_)
        refine q v4 _ H9 d9 ?_ (S8.trans (same_del (p := p) s9)) ((F8.same s9).mono (by omega))
        have fw := fx.wg
        refine fit_any (n' := n' + 2) hfit (by omega) (by omega) (by omega) (fun x hx' => ?_) ?_ ?_
        · rcases List.mem_append.mp hx' with hx' | hx'
          · rcases List.mem_append.mp hx' with hx' | hx'
            · exact .inl (m1 x hx')
            · rw [List.mem_singleton.mp hx']
              exact .inr ⟨leaf_mono (by omega) _ fx.lf, lens_mono (by omega) _ fx.ln, by have := fx.dp; omega⟩
          · exact .inl (m2 x hx')
        · rw [List.length_append, List.length_append]
          show _ + 1 + _ ≤ _
          omega
        · rw [wtAll_append, wtAll_append]
          simp only [wtAll]
          omega
      · refine ⟨_, rfl, rfl, _, rfl, ?_⟩
        refine ite2 (fun c1 => ?_) (fun c1 => ?_)
        · -- one less
          refine ⟨_, rfl, _, rfl, at0, rfl, ?_⟩
          refine cut_dat F3.there hd3 (fun v1 H4 s4 d4 => ?_)
          have F4 := F3.same s4
          have S4 := S3.trans (same_del (p := p) s4)
          refine ⟨_, rfl, _, rfl, _, _, rfl, rfl, at0 + 1, rfl, ?_⟩
          dsimp only [tNoPart]
          refine cut_dat F4.there (Dp_same S4 hd) (fun v3 H5 s5 d5 => ?_)
          have S5 := S4.trans (same_del (p := p) s5)
          have F5 := F4.same s5
          have d45 := Dp_same (same_del (p := p) s5) d4
          obtain ⟨m1, l1, w1⟩ := cutD_sub ds none (some at0)
          obtain ⟨m2, l2, w2⟩ := cutD_sub ds (some (at0 + 1)) none
          generalize cutD ds none (some at0) = es1 at d45 m1 l1 w1
          generalize cutD ds (some (at0 + 1)) none = es2 at d5 m2 l2 w2
          cases id d45 with
          | @tup a2 _ _ _ _ =>
          cases id d5 with
          | @tup a3 _ _ _ _ =>
          refine cat_dat F5.there d45 d5 (by omega) (fun v4 H6 s6 d6 => ?_)
          refine q v4 _ H6 d6 ?_ (S5.trans (same_del (p := p) s6)) ((F5.same s6).mono (by omega))
          refine fit_any (n' := n' + 2) hfit (by omega) (by omega) (by omega) (fun x hx' => .inl ((List.mem_append.mp hx').elim (m1 x) (m2 x))) ?_ ?_
          · rw [List.length_append]
            omega
          · rw [wtAll_append]
            omega
        · refine ⟨_, rfl, rfl, _, rfl, ?_⟩
          refine ite2 (fun c2 => ?_) (fun c2 => ?_)
          · -- a list
            refine ⟨_, rfl, a, xs, rfl, .inr (sameT (del_same _ _) (sameT s3 hx)), fun L hL => ?_⟩
            obtain ⟨u3, hp3⟩ := F3.there
            have s4 := same_new (o := .lst xs) hL
            refine q _ (.list ds) _ (.lst (SqL.of (new_del hp3 hL)) (DpAll_same (s3.trans (same_del s4)) hrx)) ?_ (S3.trans (same_del s4)) ((F3.same s4).mono (by omega))
            refine Fit.lst (n := n' + 2) (by omega) (fun x hx' => ?_) (by omega)
            have := (hdin x hx').mono (show M ≤ M + 1 by omega) (show l ≤ 2 * l + 2 by omega) (show n' + 1 - 1 ≤ n' + 2 by omega) (Nat.le_refl _)
            exact ⟨this.lf, this.ln, this.dp⟩
          · -- itself, and its beginning again
            refine ⟨_, rfl, _, rfl, _, rfl, at0, rfl, ?_⟩
            refine cut_dat F3.there hd3 (fun v1 H4 s4 d4 => ?_)
            have F4 := F3.same s4
            have S4 := S3.trans (same_del (p := p) s4)
            obtain ⟨m1, l1, w1⟩ := cutD_sub ds none (some at0)
            generalize cutD ds none (some at0) = es1 at d4 m1 l1 w1
            cases id d4 with
            | @tup a2 _ _ _ _ =>
            refine cat_dat F4.there (Dp_same S4 hd) d4 (by omega) (fun v4 H6 s6 d6 => ?_)
            refine q v4 _ H6 d6 ?_ (S4.trans (same_del (p := p) s6)) ((F4.same s6).mono (by omega))
            refine fit_any (n' := n' + 2) hfit (by omega) (by omega) (by omega) (fun x hx' => .inl ((List.mem_append.mp hx').elim id (m1 x))) ?_ ?_
            · rw [List.length_append]
              omega
            · rw [wtAll_append]
              omega
    | none => exact iteF (iteF ⟨rfl, rfl⟩)
    | bool _ => exact iteF (iteF ⟨rfl, rfl⟩)
    | int _ => exact iteF (iteF ⟨rfl, rfl⟩)
    | str _ => exact iteF (iteF ⟨rfl, rfl⟩)
    | list _ => exact iteF (iteF ⟨rfl, rfl⟩)
    | dict _ => exact iteF (iteF ⟨rfl, rfl⟩)
  rintro σ H3 ⟨rfl, e3⟩
  subst e3
  obtain ⟨u3, hp3⟩ := F2.there
  have hdF : ∀ {H' : Hp}, Same H3 H' → ∀ {z : V} {y : PyData}, Dp K (del H' p) z y → Fit (M + 1) (2 * l + 2) (n + 2) (2 * Bw + 1100) y → Q z H' := fun s _ _ h f => q _ _ _ h f (S2.trans (same_del s)) ((F2.same s).mono (by omega))
  refine ⟨fun σ H' => σ = [some (.ref p), some v, some (.ref ao), none, some (.int way)] ∧ H' = H3, ?_, ?_⟩
  · obtain ⟨t1, ty1, k1⟩ := isa_int hd2H
    refine ⟨v, rfl, v, .ty "int", t1, _, _, rfl, .ty _, ty1, k1, _, rfl, ?_⟩
    -- the four numbers and the tuple: i is what the thing is as a number
    have pick : ∀ (i : Int) (T1 T2 : Addr) (h1 : H3 T1 = none) (h2 : upd H3 T1 (.tup [v]) T2 = none), i.natAbs ≤ M → 0 ≤ way → way < 4 → leaf M d = true → lens l d = true → d.depth ≤ 0 → wt d ≤ 250 →
        ∃ p' xs' i' v', V.ref T2 = .ref p' ∧ V.int way = .int i' ∧ SqT K (upd (upd H3 T1 (.tup [v])) T2 (.tup [.int (i + 1), .int (i - 1), .int (-i), .ref T1])) p' xs' ∧ atI xs' i' = some v' ∧ Q v' (upd (upd H3 T1 (.tup [v])) T2 (.tup [.int (i + 1), .int (i - 1), .int (-i), .ref T1])) := by
      intro i T1 T2 h1 h2 hi w0 w4 f1 f2 f3 f4
      have s1 := same_new (o := .tup [v]) h1
      have s2 := same_new (o := .tup [.int (i + 1), .int (i - 1), .int (-i), .ref T1]) h2
      have dT : Dp K (del (upd (upd H3 T1 (.tup [v])) T2 (.tup [.int (i + 1), .int (i - 1), .int (-i), .ref T1])) p) (.ref T1) (.tuple [d]) := Dp_same (same_del s2) (.tup (SqT.of (new_del hp3 h1)) (.cons (Dp_same (same_del s1) hd2) .nil))
      have hT : upd (upd H3 T1 (.tup [v])) T2 (.tup [.int (i + 1), .int (i - 1), .int (-i), .ref T1]) T2 = some (.tup [.int (i + 1), .int (i - 1), .int (-i), .ref T1]) := upd_same
      generalize upd (upd H3 T1 (.tup [v])) T2 (.tup [.int (i + 1), .int (i - 1), .int (-i), .ref T1]) = H5 at s2 dT hT
      have s5 := s1.trans s2
      have hw : way = 0 ∨ way = 1 ∨ way = 2 ∨ way = 3 := by omega
      rcases hw with rfl | rfl | rfl | rfl
      · exact ⟨T2, _, 0, _, rfl, rfl, SqT.of hT, atI_nat (j := 0) rfl, hdF s5 (.int _) (Fit.int (by omega) (by omega))⟩
      · exact ⟨T2, _, 1, _, rfl, rfl, SqT.of hT, atI_nat (j := 1) rfl, hdF s5 (.int _) (Fit.int (by omega) (by omega))⟩
      · exact ⟨T2, _, 2, _, rfl, rfl, SqT.of hT, atI_nat (j := 2) rfl, hdF s5 (.int _) (Fit.int (by omega) (by omega))⟩
      · refine ⟨T2, _, 3, _, rfl, rfl, SqT.of hT, atI_nat (j := 3) rfl, hdF s5 dT (Fit.tup (n := n + 1) (by show 1 ≤ _; omega) (fun x hx => ?_) (by simp only [wtAll]; omega))⟩
        rw [List.mem_singleton.mp hx]
        exact ⟨leaf_mono (by omega) _ f1, lens_mono (by omega) _ f2, by omega⟩
    cases d with
    | int i =>
      cases hd2
      have hi : i.natAbs ≤ M := by have := hfit.lf; simpa [leaf] using this
      refine iteT ⟨_, rfl, _, _, rfl, rfl, _, rfl, ?_⟩
      refine ite2 (fun c => ?_) (fun c => ⟨rfl, rfl⟩)
      have c4 : way < 4 := of_decide_eq_true c
      refine ⟨_, rfl, 1, rfl, .inl ⟨i, rfl, _, rfl, 1, rfl, .inl ⟨i, rfl, _, rfl, .inl ⟨i, rfl, _, rfl, by show 1 ≤ sizeLine; decide, fun T1 h1 => ⟨by show 4 ≤ sizeLine; decide, fun T2 h2 => ⟨_, rfl, ?_⟩⟩⟩⟩⟩⟩
      exact pick i T1 T2 h1 h2 hi y0 c4 hfit.lf hfit.ln (by simp [PyData.depth]) (by simp [wt])
    | bool b0 =>
      cases hd2
      refine iteT ⟨_, rfl, _, _, rfl, rfl, _, rfl, ?_⟩
      refine ite2 (fun c => ?_) (fun c => ⟨rfl, rfl⟩)
      have c4 : way < 4 := of_decide_eq_true c
      refine ⟨_, rfl, 1, rfl, .inr ⟨b0, rfl, _, rfl, 1, rfl, .inr ⟨b0, rfl, _, rfl, .inr ⟨b0, rfl, _, rfl, by show 1 ≤ sizeLine; decide, fun T1 h1 => ⟨by show 4 ≤ sizeLine; decide, fun T2 h2 => ⟨_, rfl, ?_⟩⟩⟩⟩⟩⟩
      exact pick (if b0 = true then 1 else 0) T1 T2 h1 h2 (by cases b0 <;> simp <;> omega) y0 c4 hfit.lf hfit.ln (by simp [PyData.depth]) (by simp [wt])
    | none => exact iteF (iteF ⟨rfl, rfl⟩)
    | tuple _ => exact iteF (iteF ⟨rfl, rfl⟩)
    | str _ => exact iteF (iteF ⟨rfl, rfl⟩)
    | list _ => exact iteF (iteF ⟨rfl, rfl⟩)
    | dict _ => exact iteF (iteF ⟨rfl, rfl⟩)
  rintro σ H4 ⟨rfl, e4⟩
  subst e4
  refine ⟨fun σ H' => σ = [some (.ref p), some v, some (.ref ao), none, some (.int way)] ∧ H' = H4, ?_, ?_⟩
  · obtain ⟨t1, ty1, k1⟩ := isa_str hd2H
    refine ⟨v, rfl, v, .ty "str", t1, _, _, rfl, .ty _, ty1, k1, _, rfl, ?_⟩
    cases d with
    | str z =>
      cases id hd2
      refine iteT ⟨_, rfl, _, _, rfl, rfl, _, rfl, ?_⟩
      refine ite2 (fun c => ?_) (fun c => ⟨rfl, rfl⟩)
      have c3 : way < 3 := of_decide_eq_true c
      have hz : 10 * z.length + 5 ≤ Bw := by have := hfit.wg; simpa [wt] using this
      have la : (Str.ofString "a").length = 1 := rfl
      have hzs : z.length ≤ sizeLine := by rw [sizeLine_eq]; omega
      have hasc := leaf_str.mp hfit.lf
      refine ⟨_, rfl, _, _, rfl, rfl, by rw [la, sizeLine_eq]; omega, _, rfl, 1, rfl, z, rfl, hzs, _, rfl, by show 1 ≤ sizeLine; decide, fun T1 h1 => ⟨by show 3 ≤ sizeLine; decide, fun T2 h2 => ⟨_, rfl, ?_⟩⟩⟩
      have s1 := same_new (o := .lst [.str z]) h1
      have hL1 : upd H4 T1 (.lst [.str z]) T1 = some (.lst [.str z]) := upd_same
      have s2 := same_new (o := .tup [.str (z ++ Str.ofString "a"), .str (cutS z (some 1) none), .ref T1]) h2
      have dT : Dp K (del (upd (upd H4 T1 (.lst [.str z])) T2 (.tup [.str (z ++ Str.ofString "a"), .str (cutS z (some 1) none), .ref T1])) p) (.ref T1) (.list [.str z]) := Dp_same (same_del s2) (.lst (SqL.of (new_del hp3 h1)) (.cons (.str z) .nil))
      have hT : upd (upd H4 T1 (.lst [.str z])) T2 (.tup [.str (z ++ Str.ofString "a"), .str (cutS z (some 1) none), .ref T1]) T2 = some (.tup [.str (z ++ Str.ofString "a"), .str (cutS z (some 1) none), .ref T1]) := upd_same
      have s5 := s1.trans s2
      have hw : way = 0 ∨ way = 1 ∨ way = 2 := by omega
      obtain ⟨mc, lc⟩ := cutS_sub z (some 1) none
      rcases hw with rfl | rfl | rfl
      · refine ⟨T2, _, 0, _, rfl, rfl, SqT.of hT, atI_nat (j := 0) rfl, hdF s5 (.str _) (Fit.str (fun c hc => ?_) (by rw [app_len, la]; omega))⟩
        rw [app_list] at hc
        rcases List.mem_append.mp hc with hc | hc
        · exact hasc c hc
        · have : c = 97 := by simpa using (show c ∈ [97] from hc)
          omega
      · exact ⟨T2, _, 1, _, rfl, rfl, SqT.of hT, atI_nat (j := 1) rfl, hdF s5 (.str _) (Fit.str (fun c hc => hasc c (mc c hc)) (by omega))⟩
      · refine ⟨T2, _, 2, _, rfl, rfl, SqT.of hT, atI_nat (j := 2) rfl, hdF s5 dT (Fit.lst (n := n + 1) (by show 1 ≤ _; omega) (fun x hx => ?_) (by simp only [wtAll, wt]; omega))⟩
        rw [List.mem_singleton.mp hx]
        exact ⟨leaf_str.mpr hasc, rfl, by simp [PyData.depth]⟩
    | none => exact iteF (iteF ⟨rfl, rfl⟩)
    | tuple _ => exact iteF (iteF ⟨rfl, rfl⟩)
    | bool _ => exact iteF (iteF ⟨rfl, rfl⟩)
    | int _ => exact iteF (iteF ⟨rfl, rfl⟩)
    | list _ => exact iteF (iteF ⟨rfl, rfl⟩)
    | dict _ => exact iteF (iteF ⟨rfl, rfl⟩)
  rintro σ H5 ⟨rfl, e5⟩
  subst e5
  -- an odd thing
  refine ⟨_, rfl, _, rfl, _, rfl, ao, xo, rfl, .inr (sameT (del_same _ _) hxo), p, fq, _, b1 + 1, rfl, F2, by omega, by omega, by omega, fun r6 H6 u0 u1 s6 F6 => ?_⟩
  obtain ⟨k6, rfl⟩ : ∃ k : Nat, r6 = (k : Int) := ⟨r6.toNat, (Int.toNat_of_nonneg u0).symm⟩
  have hk6 : k6 < xo.length := by omega
  obtain ⟨dx, hdx, hdpx⟩ := DpAll_get (DpAll_same s6 hro) (List.getElem?_eq_getElem hk6)
  exact ⟨ao, xo, _, _, rfl, rfl, sameT (del_same _ _) (sameT s6 hxo), atI_nat (List.getElem?_eq_getElem hk6), q _ dx _ hdpx (fodd dx (List.mem_of_getElem? hdx)) (S2.trans s6) (F6.mono (by omega))⟩
theorem ok_bend {f f1 : Addr} {fd fd1 : FuncData} (D : Df K mg "_law_bend" (topS 14) ["_law_feed_here", "_law_thing", "_law_odd_here"] f fd) (DD : Df K mg "_law_draw" (topS 11) ["_law_feed_here", "_law_many"] f1 fd1) (B : Bt mg)
    (GD : FnOk P w K mg base CX0 1 f1 fd1 ["_law_feed_here", "_law_many"] spDraw) : ∀ n : Nat, FnOk P w K mg base CX0 (n + 1) f fd ["_law_feed_here", "_law_thing", "_law_odd_here"] (spBend K n)
  | 0 => by
    have no : ∀ vs H Q E, ¬ spBend K 0 vs H Q E := fun vs H Q E h => by
      obtain ⟨p, fq, v, vo, b, m, M, l, B, d, os, _, hnm, _⟩ := h
      omega
    exact ⟨fun vs H Q E h => absurd h (no vs H Q E), fun A outer s H args us vs Q E _ _ _ _ h => absurd h (no vs H Q E)⟩
  | n + 1 => ok_bend1 D DD B GD (ok_bend D DD B GD n)
end
end Sw
set_option maxRecDepth 100000
set_option maxHeartbeats 4000000
namespace Sw
open PySem PySem.Spec PyProof.Rows L2
/-- what is new since H0, but for L -/
def nw (H0 : Hp) (L : Addr) (H : Hp) : Hp := del (fr H0 H) L
theorem nw_next {H0 H H' : Hp} {L : Addr} (s : Same H H') : Same (nw H0 L H) (nw H0 L H') := same_del (fr_next s)
theorem nw_sub {H0 H : Hp} {L : Addr} : Same (nw H0 L H) H := fun c o e => fr_same _ _ _ _ (del_same _ _ _ _ e)
theorem nw_new {H0 H : Hp} {L a : Addr} {o u : HO} (s : Same H0 H) (hL : H L = some u) (ha : H a = none) : nw H0 L (upd H a o) a = some o :=
  del_some (fr_some (s.free ha) upd_same) (fun e => by rw [e, hL] at ha; cases ha)
theorem nw_fr {H0 H H' : Hp} {L : Addr} {u : HO} (s : Same H0 H) (hL : H L = some u) : Same (fr H H') (nw H0 L H') := fun c o e =>
  del_some (fr_some (s.free (of_fr e).1) (of_fr e).2) (fun z => by rw [z] at e; rw [(of_fr e).1] at hL; cases hL)
theorem nw_upd {H0 H : Hp} {L : Addr} {o : HO} : Same (nw H0 L H) (nw H0 L (upd H L o)) := fun c x e => by
  obtain ⟨e1, e2⟩ := of_del e
  obtain ⟨e3, e4⟩ := of_fr e1
  exact del_some (fr_some e3 (by rw [upd_ne e2]; exact e4)) e2
theorem cut_nw {K : PySem.W.Frag} {H0 H : Hp} {L a : Addr} {ds : List PyData} {lo hi : Option Int} {Q : VK} {u : HO} (s0 : Same H0 H) (hL : H L = some u) (h : Dp K (nw H0 L H) (.ref a) (.tuple ds)) (q : ∀ v H', Same H H' → Dp K (nw H0 L H') v (.tuple (cutD ds lo hi)) → Q v H') : rSlA K (.ref a) lo hi H Q := by
  cases h with
  | @tup _ xs _ hx hr =>
    have hl := DpAll_len hr
    refine ⟨a, xs, rfl, sameT nw_sub hx, fun hw => ?_, fun hw t ht => ?_⟩
    · rw [hl] at hw
      have e : cutD ds lo hi = ds := by
        unfold cutD
        rw [hw.1, hw.2]
        simp
      exact q _ H (Same.refl H) (by rw [e]; exact .tup hx hr)
    · have s := same_new (o := .tup (cutV xs lo hi)) ht
      refine q _ _ s (.tup (SqT.of (nw_new s0 hL ht)) ?_)
      have r2 := DpAll_same (nw_next (H0 := H0) (L := L) s) hr
      generalize upd H t (.tup (cutV xs lo hi)) = H2 at r2
      unfold cutV cutD
      rw [hl]
      exact DpAll_take _ (DpAll_drop _ r2)
theorem cat_nw {K : PySem.W.Frag} {H0 H : Hp} {L a b : Addr} {ds es : List PyData} {Q : VK} {u : HO} (s0 : Same H0 H) (hL : H L = some u) (ha : Dp K (nw H0 L H) (.ref a) (.tuple ds)) (hb : Dp K (nw H0 L H) (.ref b) (.tuple es)) (hl : ds.length + es.length ≤ 1000)
    (q : ∀ v H', Same H H' → Dp K (nw H0 L H') v (.tuple (ds ++ es)) → Q v H') : rCatA K (.ref a) (.ref b) H Q := by
  cases ha with
  | @tup _ xs _ hx hrx =>
    cases hb with
    | @tup _ ys _ hy hry =>
      have l1 := DpAll_len hrx
      have l2 := DpAll_len hry
      refine ⟨a, b, xs, ys, rfl, rfl, sameT nw_sub hx, sameT nw_sub hy, Nat.le_of_lt (small1000 (by omega)), fun z => ?_, fun _ z => ?_, fun _ _ t ht => ?_⟩
      · have e : ds = [] := List.eq_nil_of_length_eq_zero (by rw [← l1, z]; rfl)
        subst e
        exact q _ H (Same.refl H) (.tup hy hry)
      · have e : es = [] := List.eq_nil_of_length_eq_zero (by rw [← l2, z]; rfl)
        subst e
        rw [List.append_nil] at q
        exact q _ H (Same.refl H) (.tup hx hrx)
      · have s := same_new (o := .tup (xs ++ ys)) ht
        exact q _ _ s (.tup (SqT.of (nw_new s0 hL ht)) (DpAll_append (DpAll_same (nw_next s) hrx) (DpAll_same (nw_next s) hry)))
/-- the list found at L: all of it new since H0 -/
structure FoundAt (K : PySem.W.Frag) (H0 : Hp) (L : Addr) (H : Hp) (vs : List V) (ds : List PyData) : Prop where
  s0 : Same H0 H
  n0 : H0 L = none
  at_ : H L = some (.lst vs)
  dat : DpAll K (nw H0 L H) vs ds
theorem FoundAt.next {K : PySem.W.Frag} {H0 H H' : Hp} {L : Addr} {vs : List V} {ds : List PyData} (F : FoundAt K H0 L H vs ds) (s : Same H H') : FoundAt K H0 L H' vs ds := ⟨F.s0.trans s, F.n0, s _ _ F.at_, DpAll_same (nw_next s) F.dat⟩
theorem FoundAt.more {K : PySem.W.Frag} {H0 H H1 : Hp} {L : Addr} {vs us : List V} {ds es : List PyData} (F : FoundAt K H0 L H vs ds) (s : Same H H1) (h : DpAll K (nw H0 L H1) us es) : FoundAt K H0 L (upd H1 L (.lst (vs ++ us))) (vs ++ us) (ds ++ es) := by
  refine ⟨fun c o e => ?_, F.n0, upd_same, DpAll_append (DpAll_same ((nw_next s).trans nw_upd) F.dat) (DpAll_same nw_upd h)⟩
  rw [upd_ne (ne_of_none e F.n0)]
  exact s _ _ (F.s0 _ _ e)
/-! ### the fixed things, as data -/
abbrev gN : Nm := some ("_law_great_here", 0, 10 ^ 60)
def fixE (j : Nat) : List Expr := eltsOf (if j = 1 then asgOf (stAt 24 1) else arg0 (exprOf (stAt 24 j)))
def fixL (j : Nat) : List PyData := (cstL (cst gN 12) (fixE j)).getD []
def fixA (j : Nat) : PyData := (cst none 12 (arg0 (exprOf (stAt 24 j)))).getD .none
theorem fix1 : cstL (cst gN 12) (fixE 1) = some (fixL 1) := some_of (by decide +kernel)
theorem fix2 : cstL (cst gN 12) (fixE 2) = some (fixL 2) := some_of (by decide +kernel)
theorem fix4 : cstL (cst gN 12) (fixE 4) = some (fixL 4) := some_of (by decide +kernel)
theorem fix5 : cstL (cst gN 12) (fixE 5) = some (fixL 5) := some_of (by decide +kernel)
theorem fix7 : cstL (cst gN 12) (fixE 7) = some (fixL 7) := some_of (by decide +kernel)
theorem fix3 : cst none 12 (arg0 (exprOf (stAt 24 3))) = some (fixA 3) := some_of (by decide +kernel)
theorem fix6 : cst none 12 (arg0 (exprOf (stAt 24 6))) = some (fixA 6) := some_of (by decide +kernel)
theorem fix8 : cst none 12 (arg0 (exprOf (stAt 24 8))) = some (fixA 8) := some_of (by decide +kernel)
theorem fixF : ((fixL 1 ++ fixL 2 ++ [fixA 3] ++ fixL 4 ++ fixL 5 ++ [fixA 6] ++ fixL 7 ++ [fixA 8]).all (fitB (10 ^ 199) 30 3 20000)) = true := by decide +kernel
theorem fixN : (fixL 1 ++ fixL 2 ++ [fixA 3] ++ fixL 4 ++ fixL 5 ++ [fixA 6] ++ fixL 7 ++ [fixA 8]).length = 46 := by decide +kernel
end Sw
set_option maxRecDepth 100000
set_option maxHeartbeats 4000000
namespace Sw
open PySem PySem.Spec PyProof.Rows L2
def compIter : Expr → Expr
  | .ListComp _ (⟨_, it, _, _⟩ :: _) _ _ => it
  | _ => xNo
def binL : Expr → Expr
  | .BinOp a _ _ _ => a
  | _ => xNo
def fixE9 : Expr := compIter (arg0 (exprOf (stAt 24 9)))
def fixD9 : PyData := (cst none 12 fixE9).getD .none
theorem fix9 : cst none 12 fixE9 = some fixD9 := some_of (by decide +kernel)
theorem fix9t : fixD9 = .tuple (tupL fixD9) := tup_of (by decide +kernel)
def strL : PyData → Str
  | .str z => z
  | _ => Str.empty
theorem fix9s : (tupL fixD9).all (fun d => isaStr d && (strL d).cps.toList.all (fun c => decide (c < 128)) && decide ((strL d).length ≤ 1)) = true := by decide +kernel
theorem fix9n : (tupL fixD9).length = 7 := by decide +kernel
def fixEa : Expr := binR ((eltsOf (binR (retOf (stAt 24 11)))).getD 1 xNo)
def fixDa : PyData := (cst none 12 fixEa).getD .none
theorem fixa : cst none 12 fixEa = some fixDa := some_of (by decide +kernel)
theorem fixat : fixDa = .tuple (tupL fixDa) := tup_of (by decide +kernel)
def fixEb : Expr := binR (binL ((eltsOf (binR (retOf (stAt 24 11)))).getD 2 xNo))
def fixDb : PyData := (cst none 12 fixEb).getD .none
theorem fixb : cst none 12 fixEb = some fixDb := some_of (by decide +kernel)
theorem fixbt : fixDb = .tuple (tupL fixDb) := tup_of (by decide +kernel)
theorem fixabf : (tupL fixDa ++ tupL fixDb).all (fitB (10 ^ 199) 30 1 300) = true := by decide +kernel
theorem fixabn : (tupL fixDa).length = 1 ∧ (tupL fixDb).length = 1 := by decide +kernel
theorem leaf4 : leaf (10 ^ 199) (.int 4) = true := by decide +kernel
theorem n1 : (fixL 1).length = 17 := by decide +kernel
theorem n2 : (fixL 2).length = 9 := by decide +kernel
theorem n4 : (fixL 4).length = 6 := by decide +kernel
theorem n5 : (fixL 5).length = 6 := by decide +kernel
theorem n7 : (fixL 7).length = 5 := by decide +kernel
section
variable {P : Program} {w : World} {K : PySem.W.Frag} {mg : Str → Option Value} {base : Heap}
def spFixed (K : PySem.W.Frag) : Sp := fun vs H Q _ => vs = [] ∧ ∀ (T : Addr) (us : List V) (ds : List PyData) (H' : Hp), FoundAt K H T H' us ds → ds.length = 56 → (∀ d ∈ ds, Fit (10 ^ 199) 30 3 20000 d) → Q (.ref T) H'
theorem sc_fixed : FnScope ["_law_great_here", "_law_found", "_law_sign", "_law_many"] [] (defScope (topS 24)) := ⟨rfl, rfl, rfl, by decide +kernel, rfl, by decide +kernel, by decide +kernel⟩
theorem ok_fixed {f : Addr} {fd : FuncData} (D : Df K mg "_law_fixed" (topS 24) [] f fd) (B : Bt mg) : FnOk P w K mg base CX0 1 f fd [] (spFixed K) := by
  refine D.fn.ok sc_fixed (fun vs H Q E h => ?_) (fun cdv A outer s H vs Q E hr h => ?_)
  · obtain ⟨rfl, _⟩ := h
    rfl
  obtain ⟨rfl, q⟩ := h
  have nd := sc_fixed.nd
  refine ⟨_, pss_cons (ps_set (i := 0) nd rfl (Or.inl rfl) (pe_op op_pow pe_int pe_int))
    (pss_cons (ps_set (i := 1) nd rfl (Or.inl rfl) (pe_lst (pa_cst (g := gN) (f := cst gN 12) (fun e d h => pe_cst (g := gN) ⟨rfl, Or.inl rfl, by decide, by decide⟩ 12 e d h) (fun e d es env h => cst_star h) (fixE 1) (fixL 1) fix1)))
    (pss_cons (ps_expr (pe_bm PySem.F.plainAttrs_list PySem.F.slot_list_extend PySem.F.type_list_extend mt_extend (pv 1) (pa_cons (pe_lst (pa_cst (g := gN) (f := cst gN 12) (fun e d h => pe_cst (g := gN) ⟨rfl, Or.inl rfl, by decide, by decide⟩ 12 e d h) (fun e d es env h => cst_star h) (fixE 2) (fixL 2) fix2)) pa_nil)))
    (pss_cons (ps_expr (pe_bm PySem.F.plainAttrs_list PySem.F.slot_list_append PySem.F.type_list_append mt_append (pv 1) (pa_cons (pe_cst (g := none) trivial 12 (arg0 (exprOf (stAt 24 3))) (fixA 3) fix3) pa_nil)))
    (pss_cons (ps_expr (pe_bm PySem.F.plainAttrs_list PySem.F.slot_list_extend PySem.F.type_list_extend mt_extend (pv 1) (pa_cons (pe_lst (pa_cst (g := gN) (f := cst gN 12) (fun e d h => pe_cst (g := gN) ⟨rfl, Or.inl rfl, by decide, by decide⟩ 12 e d h) (fun e d es env h => cst_star h) (fixE 4) (fixL 4) fix4)) pa_nil)))
    (pss_cons (ps_expr (pe_bm PySem.F.plainAttrs_list PySem.F.slot_list_extend PySem.F.type_list_extend mt_extend (pv 1) (pa_cons (pe_lst (pa_cst (g := gN) (f := cst gN 12) (fun e d h => pe_cst (g := gN) ⟨rfl, Or.inl rfl, by decide, by decide⟩ 12 e d h) (fun e d es env h => cst_star h) (fixE 5) (fixL 5) fix5)) pa_nil)))
    (pss_cons (ps_expr (pe_bm PySem.F.plainAttrs_list PySem.F.slot_list_append PySem.F.type_list_append mt_append (pv 1) (pa_cons (pe_cst (g := none) trivial 12 (arg0 (exprOf (stAt 24 6))) (fixA 6) fix6) pa_nil)))
    (pss_cons (ps_expr (pe_bm PySem.F.plainAttrs_list PySem.F.slot_list_extend PySem.F.type_list_extend mt_extend (pv 1) (pa_cons (pe_lst (pa_cst (g := gN) (f := cst gN 12) (fun e d h => pe_cst (g := gN) ⟨rfl, Or.inl rfl, by decide, by decide⟩ 12 e d h) (fun e d es env h => cst_star h) (fixE 7) (fixL 7) fix7)) pa_nil)))
    (pss_cons (ps_expr (pe_bm PySem.F.plainAttrs_list PySem.F.slot_list_append PySem.F.type_list_append mt_append (pv 1) (pa_cons (pe_cst (g := none) trivial 12 (arg0 (exprOf (stAt 24 8))) (fixA 8) fix8) pa_nil)))
    (pss_cons (ps_expr (pe_bm PySem.F.plainAttrs_list PySem.F.slot_list_extend PySem.F.type_list_extend mt_extend (pv 1) (pa_cons (pe_lc (own := [("_law_sign", 2)]) (g := gName 2) (tt := tYes) rfl nd (pi_tup (pe_cst (g := none) trivial 12 fixE9 fixD9 fix9))
        (blkOk_by (N := ["_law_great_here", "_law_found", "_law_sign", "_law_many"]) (sc := defScope (topS 24)) (by decide +kernel)) (fun _ _ _ _ _ => pg_name (i := 2) nd rfl (Or.inl rfl)) (fun _ _ _ _ _ => pts_nil) (fun _ _ _ _ _ => pe_op op_add_str pe_str (pv 2))) pa_nil)))
    (pss_cons (ps_set (i := 3) nd rfl (Or.inl rfl) (pe_callTy call_tuple_of (by rfl) B.tuple (by decide +kernel) (pa_cons (pe_lc (own := [("_law_sign", 2)]) (g := gName 2) (tt := tYes) rfl nd (pi_str pe_str)
        (blkOk_by (N := ["_law_great_here", "_law_found", "_law_sign", "_law_many"]) (sc := defScope (topS 24)) (by decide +kernel)) (fun _ _ _ _ _ => pg_name (i := 2) nd rfl (Or.inl rfl)) (fun _ _ _ _ _ => pts_nil) (fun _ _ _ _ _ => pe_tup (pa_cons (pe_op op_add_str pe_str (pv 2)) (pa_cons pe_int pa_nil)))) pa_nil)))
    (pss_one (ps_ret (pe_op op_cat (pv 1) (pe_lst (pa_cons (pv 3) (pa_cons (pe_op op_catA (pv 3) (pe_cst (g := none) trivial 12 fixEa fixDa fixa))
      (pa_cons (pe_op op_catA (pe_op op_catA (pe_slice sl_tupA (pv 3) po_none (po_some pe_int)) (pe_cst (g := none) trivial 12 fixEb fixDb fixb)) (pe_slice sl_tupA (pv 3) (po_some pe_int) po_none)) pa_nil))))))))))))))))), ?_⟩
  refine ⟨10, 60, rfl, rfl, ⟨by decide, by decide, by decide⟩, ?_⟩
  refine ⟨rfl, fun us1 H1 s1 d1 => ?_⟩
  have l1 := DpAll_len d1
  rw [n1] at l1
  refine ⟨by rw [sizeLine_eq]; omega, fun L hL => ?_⟩
  have F1 : FoundAt K H L (upd H1 L (.lst us1)) us1 (fixL 1) := ⟨s1.trans (same_new hL), s1.free hL, upd_same, DpAll_same (fun c o e => del_some (fr_some (of_fr e).1 (same_new hL _ _ (of_fr e).2)) (ne_of_none (of_fr e).2 hL)) d1⟩
  generalize upd H1 L (.lst us1) = G1 at F1
  -- extend by list 2
  refine ⟨_, rfl, .inl ⟨rfl, _, SqL.of F1.at_⟩, rfl, fun us2 H2 s2 d2 => ?_⟩
  have l2 := DpAll_len d2
  rw [n2] at l2
  refine ⟨by rw [sizeLine_eq]; omega, fun b2 hb2 => ?_⟩
  have t2 := same_new (o := .lst us2) hb2
  have hbb2 : upd H2 b2 (.lst us2) b2 = some (.lst us2) := upd_same
  have dd2 := DpAll_same ((fr_next t2).trans (nw_fr F1.s0 F1.at_)) d2
  have tt2 := s2.trans t2
  generalize upd H2 b2 (.lst us2) = I2 at t2 hbb2 dd2 tt2
  refine ⟨L, b2, _, us2, rfl, rfl, tt2 _ _ F1.at_, hbb2, (by rw [sizeLine_eq]; first | omega | (simp only [List.length_append, List.length_singleton]; omega)), ?_⟩
  have F2 := F1.more tt2 dd2
  generalize upd I2 L (.lst (us1 ++ us2)) = G2 at F2
  -- append 3
  refine ⟨_, rfl, .inl ⟨rfl, _, SqL.of F2.at_⟩, trivial, fun v3 H3 s3 d3 => ?_⟩
  refine ⟨L, _, _, rfl, rfl, s3 _ _ F2.at_, (by rw [sizeLine_eq]; first | omega | (simp only [List.length_append, List.length_singleton]; omega)), ?_⟩
  have F3 := F2.more s3 (.cons (Dp_same (nw_fr F2.s0 F2.at_) d3) .nil)
  generalize upd H3 L (.lst (us1 ++ us2 ++ [v3])) = G3 at F3
  -- extend by list 4
  refine ⟨_, rfl, .inl ⟨rfl, _, SqL.of F3.at_⟩, rfl, fun us4 H4 s4 d4 => ?_⟩
  have l4 := DpAll_len d4
  rw [n4] at l4
  refine ⟨by rw [sizeLine_eq]; omega, fun b4 hb4 => ?_⟩
  have t4 := same_new (o := .lst us4) hb4
  have hbb4 : upd H4 b4 (.lst us4) b4 = some (.lst us4) := upd_same
  have dd4 := DpAll_same ((fr_next t4).trans (nw_fr F3.s0 F3.at_)) d4
  have tt4 := s4.trans t4
  generalize upd H4 b4 (.lst us4) = I4 at t4 hbb4 dd4 tt4
  refine ⟨L, b4, _, us4, rfl, rfl, tt4 _ _ F3.at_, hbb4, (by rw [sizeLine_eq]; first | omega | (simp only [List.length_append, List.length_singleton]; omega)), ?_⟩
  have F4 := F3.more tt4 dd4
  generalize upd I4 L (.lst (us1 ++ us2 ++ [v3] ++ us4)) = G4 at F4
  -- extend by list 5
  refine ⟨_, rfl, .inl ⟨rfl, _, SqL.of F4.at_⟩, rfl, fun us5 H5 s5 d5 => ?_⟩
  have l5 := DpAll_len d5
  rw [n5] at l5
  refine ⟨by rw [sizeLine_eq]; omega, fun b5 hb5 => ?_⟩
  have t5 := same_new (o := .lst us5) hb5
  have hbb5 : upd H5 b5 (.lst us5) b5 = some (.lst us5) := upd_same
  have dd5 := DpAll_same ((fr_next t5).trans (nw_fr F4.s0 F4.at_)) d5
  have tt5 := s5.trans t5
  generalize upd H5 b5 (.lst us5) = I5 at t5 hbb5 dd5 tt5
  refine ⟨L, b5, _, us5, rfl, rfl, tt5 _ _ F4.at_, hbb5, (by rw [sizeLine_eq]; first | omega | (simp only [List.length_append, List.length_singleton]; omega)), ?_⟩
  have F5 := F4.more tt5 dd5
  generalize upd I5 L (.lst (us1 ++ us2 ++ [v3] ++ us4 ++ us5)) = G5 at F5
  -- append 6
  refine ⟨_, rfl, .inl ⟨rfl, _, SqL.of F5.at_⟩, trivial, fun v6 H6 s6 d6 => ?_⟩
  refine ⟨L, _, _, rfl, rfl, s6 _ _ F5.at_, (by rw [sizeLine_eq]; first | omega | (simp only [List.length_append, List.length_singleton]; omega)), ?_⟩
  have F6 := F5.more s6 (.cons (Dp_same (nw_fr F5.s0 F5.at_) d6) .nil)
  generalize upd H6 L (.lst (us1 ++ us2 ++ [v3] ++ us4 ++ us5 ++ [v6])) = G6 at F6
  -- extend by list 7
  refine ⟨_, rfl, .inl ⟨rfl, _, SqL.of F6.at_⟩, rfl, fun us7 H7 s7 d7 => ?_⟩
  have l7 := DpAll_len d7
  rw [n7] at l7
  refine ⟨by rw [sizeLine_eq]; omega, fun b7 hb7 => ?_⟩
  have t7 := same_new (o := .lst us7) hb7
  have hbb7 : upd H7 b7 (.lst us7) b7 = some (.lst us7) := upd_same
  have dd7 := DpAll_same ((fr_next t7).trans (nw_fr F6.s0 F6.at_)) d7
  have tt7 := s7.trans t7
  generalize upd H7 b7 (.lst us7) = I7 at t7 hbb7 dd7 tt7
  refine ⟨L, b7, _, us7, rfl, rfl, tt7 _ _ F6.at_, hbb7, (by rw [sizeLine_eq]; first | omega | (simp only [List.length_append, List.length_singleton]; omega)), ?_⟩
  have F7 := F6.more tt7 dd7
  generalize upd I7 L (.lst (us1 ++ us2 ++ [v3] ++ us4 ++ us5 ++ [v6] ++ us7)) = G7 at F7
  -- append 8
  refine ⟨_, rfl, .inl ⟨rfl, _, SqL.of F7.at_⟩, trivial, fun v8 H8 s8 d8 => ?_⟩
  refine ⟨L, _, _, rfl, rfl, s8 _ _ F7.at_, (by rw [sizeLine_eq]; first | omega | (simp only [List.length_append, List.length_singleton]; omega)), ?_⟩
  have F8 := F7.more s8 (.cons (Dp_same (nw_fr F7.s0 F7.at_) d8) .nil)
  generalize upd H8 L (.lst (us1 ++ us2 ++ [v3] ++ us4 ++ us5 ++ [v6] ++ us7 ++ [v8])) = G8 at F8
  have hfx := allFit fixF
  have hfn := fixN
  generalize hww : us1 ++ us2 ++ [v3] ++ us4 ++ us5 ++ [v6] ++ us7 ++ [v8] = ww at F8
  generalize fixL 1 ++ fixL 2 ++ [fixA 3] ++ fixL 4 ++ fixL 5 ++ [fixA 6] ++ fixL 7 ++ [fixA 8] = dd at F8 hfx hfn
  have hwl := DpAll_len F8.dat
  -- extend by the words with a strange sign
  refine ⟨_, rfl, .inl ⟨rfl, _, SqL.of F8.at_⟩, trivial, fun v9 H9 s9 d9 => ?_⟩
  rw [fix9t] at d9
  have hs9 := List.all_eq_true.mp fix9s
  have hn9 := fix9n
  generalize tupL fixD9 = ds9 at d9 hs9 hn9
  cases d9 with
  | @tup a9 xs9 _ h9 r9 =>
  have hl9 := DpAll_len r9
  have h9' := sameT (fr_same _ _) h9
  refine ⟨a9, rfl, ⟨_, h9'⟩, fun D9 hD9 => lc_map (walk_tup (xs := xs9)) (fun i => V.str ("a" ++ strL (ds9.getD i .none))) hD9 (fun _ h => sameT h h9') (big_size (by omega)) ?_ ?_⟩
  · intro i x Hx Qx hi hx hs qx
    obtain ⟨d, hdi, hdp⟩ := DpAll_get (DpAll_same ((fr_same _ _).trans hs) r9) hx
    have e : ds9.getD i .none = d := by simp [List.getD, hdi]
    have hd := hs9 d (List.mem_of_getElem? hdi)
    rw [Bool.and_eq_true, Bool.and_eq_true] at hd
    rw [e] at qx
    cases d with
    | str z =>
      cases hdp
      have hz : z.length ≤ 1 := of_decide_eq_true hd.2
      have la : (Str.ofString "a").length = 1 := rfl
      exact ⟨_, rfl, _, _, rfl, rfl, by rw [la, sizeLine_eq]; omega, qx Hx (Same.refl Hx)⟩
    | _ => simp [isaStr] at hd
  intro H10 s10 hD10
  have eD : (List.range xs9.length).map (fun i => V.str ("a" ++ strL (ds9.getD i .none))) = ((List.range xs9.length).map fun i => (("a" : Str) ++ strL (ds9.getD i .none))).map V.str := by rw [List.map_map]; rfl
  rw [eD] at hD10
  have hall9 : ∀ z ∈ (List.range xs9.length).map (fun i => (("a" : Str) ++ strL (ds9.getD i .none))), z.length ≤ 2 ∧ ∀ c ∈ z.cps.toList, c < 128 := by
    intro z hz
    obtain ⟨i, hi, rfl⟩ := List.mem_map.mp hz
    have hi2 : i < ds9.length := by have := List.mem_range.mp hi; omega
    have e : ds9.getD i .none = ds9[i] := by simp [List.getD, hi2]
    have hd := hs9 ds9[i] (List.getElem_mem hi2)
    rw [Bool.and_eq_true, Bool.and_eq_true, decide_eq_true_eq, List.all_eq_true] at hd
    rw [e]
    have la : (Str.ofString "a").length = 1 := rfl
    refine ⟨by rw [app_len, la]; omega, fun c hc => ?_⟩
    rw [app_list] at hc
    rcases List.mem_append.mp hc with hc | hc
    · have : c = 97 := by simpa using (show c ∈ [97] from hc)
      omega
    · simpa using hd.1.2 c hc
  have hzl : ((List.range xs9.length).map (fun i => (("a" : Str) ++ strL (ds9.getD i .none)))).length = 7 := by rw [List.length_map, List.length_range]; omega
  generalize (List.range xs9.length).map (fun i => (("a" : Str) ++ strL (ds9.getD i .none))) = zs9 at hD10 hall9 hzl
  have s810 := s9.trans s10
  refine ⟨L, D9, _, _, rfl, rfl, s810 _ _ F8.at_, hD10, by rw [List.length_map, sizeLine_eq]; omega, ?_⟩
  have F9 := F8.more s810 (DpAll_strs zs9)
  have hfx9 : ∀ d ∈ dd ++ zs9.map PyData.str, Fit (10 ^ 199) 30 3 20000 d := fun d hd => by
    rcases List.mem_append.mp hd with hd | hd
    · exact hfx d hd
    · obtain ⟨z, hz, rfl⟩ := List.mem_map.mp hd
      obtain ⟨h1, h2⟩ := hall9 z hz
      exact Fit.str h2 (by omega)
  generalize upd H10 L (.lst (ww ++ zs9.map V.str)) = G9 at F9
  have hwl9 : (ww ++ zs9.map V.str).length = 53 := by rw [List.length_append, List.length_map]; omega
  have hdl9 : (dd ++ zs9.map PyData.str).length = 53 := by rw [List.length_append, List.length_map]; omega
  generalize ww ++ zs9.map V.str = ww9 at F9 hwl9
  generalize dd ++ zs9.map PyData.str = dd9 at F9 hfx9 hdl9
  -- many
  refine ⟨abc, rfl, fun D2 hD2 => lc_it walk_signs (fun i H' => ∃ (vs : List V) (ds : List PyData), H' D2 = some (.lst vs) ∧ vs.length = i ∧ DpAll K (del (nw H L H') D2) vs ds ∧ (∀ d ∈ ds, Fit (10 ^ 199) 30 1 300 d) ∧ Same G9 H')
    ⟨[], [], upd_same, rfl, .nil, by simp, same_new hD2⟩ (fun _ _ _ _ => trivial) ?_ ?_⟩
  · rintro i x H3 H4 hi ⟨vs, ds, hv, hvl, hdp, hft, s3⟩ ⟨rfl, hx⟩
    have hi26 : i < abc.cps.toList.length := by simpa using hi
    rw [List.getElem?_map, List.getElem?_eq_getElem hi26] at hx
    have hx' : V.str ⟨#[abc.cps.toList[i]]⟩ = x := Option.some.inj hx
    subst hx'
    have hok : abc.cps.toList[i] < 128 := by
      have : abc.cps.toList.all (fun c => decide (c < 128)) = true := by decide +kernel
      simpa using List.all_eq_true.mp this _ (List.getElem_mem hi26)
    generalize abc.cps.toList[i] = c0 at hok
    have h26 : i < 26 := by
      have : abc.cps.toList.length = 26 := by decide +kernel
      omega
    refine ⟨rfl, ?_⟩
    unfold tYes
    dsimp only
    rw [if_pos rfl]
    have lq : (Str.ofString "q").length = 1 := rfl
    have lc : (⟨#[c0]⟩ : Str).length = 1 := rfl
    refine ⟨_, rfl, _, _, rfl, rfl, by rw [lq, lc, sizeLine_eq]; omega, by show 2 ≤ sizeLine; decide, fun T hT => ?_⟩
    have sT := same_new (o := .tup [.str (Str.ofString "q" ++ ⟨#[c0]⟩), .int 4]) hT
    have nTD : T ≠ D2 := Ne.symm (ne_of_none hv hT)
    have nTL : nw H L (upd H4 T (.tup [.str (Str.ofString "q" ++ ⟨#[c0]⟩), .int 4])) T = some (.tup [.str (Str.ofString "q" ++ ⟨#[c0]⟩), .int 4]) := nw_new (F9.s0.trans s3) (s3 _ _ F9.at_) hT
    generalize upd H4 T (.tup [.str (Str.ofString "q" ++ ⟨#[c0]⟩), .int 4]) = H5 at sT nTL
    have hv5 := sT _ _ hv
    have nLD : L ≠ D2 := ne_of_none F9.at_ hD2
    have sx : Same (del (nw H L H5) D2) (del (nw H L (upd H5 D2 (.lst (vs ++ [.ref T])))) D2) := by
      intro c o e
      obtain ⟨e1, e2⟩ := of_del e
      obtain ⟨e3, e4⟩ := of_del e1
      obtain ⟨e5, e6⟩ := of_fr e3
      exact del_some (del_some (fr_some e5 (by rw [upd_ne e2]; exact e6)) e4) e2
    refine ⟨vs, hv5, small1000 (by omega), vs ++ [.ref T], ds ++ [.tuple [.str (Str.ofString "q" ++ ⟨#[c0]⟩), .int 4]], upd_same, by rw [List.length_append, hvl]; rfl, DpAll_append (DpAll_same ((same_del (nw_next sT)).trans sx) hdp) (.cons (.tup (SqT.of (sx _ _ (del_some nTL nTD))) (.cons (.str _) (.cons (.int 4) .nil))) .nil), fun d hd => ?_, fun c o e => ?_⟩
    · rcases List.mem_append.mp hd with hd | hd
      · exact hft d hd
      · rw [List.mem_singleton.mp hd]
        refine Fit.tup (n := 0) (by show 2 ≤ 30; omega) (fun y hy => ?_) (by simp only [wtAll, wt]; rw [app_len, lq, lc]; omega)
        rcases List.mem_cons.mp hy with rfl | hy
        · refine ⟨leaf_str.mpr fun c hc => ?_, rfl, by simp [PyData.depth]⟩
          rw [app_list] at hc
          rcases List.mem_append.mp hc with hc | hc
          · have : c = 113 := by simpa using (show c ∈ [113] from hc)
            omega
          · have : c = c0 := by simpa using hc
            omega
        · have : y = .int 4 := by simpa using hy
          subst this
          exact ⟨leaf4, rfl, by simp [PyData.depth]⟩
    · rw [upd_ne (ne_of_none e hD2)]
      exact sT _ _ (s3 _ _ e)
  rintro H3 ⟨vs, ms, hv, hvl, hdp, hft, s3⟩
  have hvl26 : vs.length = 26 := by
    have : abc.cps.size = 26 := by decide +kernel
    omega
  refine ⟨D2, vs, rfl, .inl ⟨SqL.of hv, fun T hT => ?_⟩⟩
  have sT := same_new (o := .tup vs) hT
  have F10 := F9.next (s3.trans sT)
  have dM : Dp K (nw H L (upd H3 T (.tup vs))) (.ref T) (.tuple ms) := .tup (SqT.of (nw_new (F9.s0.trans s3) (s3 _ _ F9.at_) hT)) (DpAll_same ((del_same _ _).trans (nw_next sT)) hdp)
  have hml : ms.length = 26 := by rw [← DpAll_len hdp]; exact hvl26
  generalize upd H3 T (.tup vs) = H4 at F10 dM
  clear hdp hv sT
  -- what is told
  have hfab := allFit fixabf
  have hnab := fixabn
  refine ⟨_, rfl, _, rfl, _, rfl, trivial, fun va H5 s5 da => ?_⟩
  have F11 := F10.next s5
  have dM5 := Dp_same (nw_next (H0 := H) (L := L) s5) dM
  have da5 := Dp_same (nw_fr (H0 := H) (L := L) F10.s0 F10.at_) da
  rw [fixat] at da5
  have hna := hnab.1
  have hfa : ∀ d ∈ tupL fixDa, Fit (10 ^ 199) 30 1 300 d := fun d hd => hfab d (List.mem_append_left _ hd)
  generalize tupL fixDa = dsa at da5 hna hfa
  cases id da5 with
  | @tup aa _ _ _ _ =>
  refine cat_nw F11.s0 F11.at_ dM5 da5 (by omega) (fun vb H6 s6 db => ?_)
  have F12 := F11.next s6
  have dM6 := Dp_same (nw_next (H0 := H) (L := L) s6) dM5
  refine ⟨_, rfl, 9, rfl, ?_⟩
  refine cut_nw F12.s0 F12.at_ dM6 (fun vc H7 s7 dc => ?_)
  have F13 := F12.next s7
  refine ⟨trivial, fun vd H8 s8 dD => ?_⟩
  have F14 := F13.next s8
  have dD8 := Dp_same (nw_fr (H0 := H) (L := L) F13.s0 F13.at_) dD
  rw [fixbt] at dD8
  have hnb := hnab.2
  have hfb : ∀ d ∈ tupL fixDb, Fit (10 ^ 199) 30 1 300 d := fun d hd => hfab d (List.mem_append_right _ hd)
  generalize tupL fixDb = dsb at dD8 hnb hfb
  have dc8 := Dp_same (nw_next (H0 := H) (L := L) s8) dc
  rw [show (9 : Int) = ((9 : Nat) : Int) from rfl, cutD_to ms (by omega)] at dc8
  cases id dc8 with
  | @tup ac _ _ _ _ =>
  cases id dD8 with
  | @tup ad _ _ _ _ =>
  refine cat_nw F14.s0 F14.at_ dc8 dD8 (by rw [List.length_take]; omega) (fun ve H9 s9' de => ?_)
  have F15 := F14.next s9'
  have sM := s6.trans (s7.trans (s8.trans s9'))
  refine ⟨_, rfl, 10, rfl, ?_⟩
  dsimp only [tNoPart]
  refine cut_nw F15.s0 F15.at_ (Dp_same (nw_next (H0 := H) (L := L) sM) dM5) (fun vf H10' s10' df => ?_)
  have F16 := F15.next s10'
  rw [show (10 : Int) = ((10 : Nat) : Int) from rfl, cutD_from ms (by omega)] at df
  have de10 := Dp_same (nw_next (H0 := H) (L := L) s10') de
  cases id de10 with
  | @tup ae _ _ _ _ =>
  cases id df with
  | @tup af _ _ _ _ =>
  refine cat_nw F16.s0 F16.at_ de10 df (by rw [List.length_append, List.length_take, List.length_drop]; omega) (fun vg H11 s11 dg => ?_)
  have F17 := F16.next s11
  refine ⟨by show 3 ≤ sizeLine; decide, fun N hN => ?_⟩
  have sN := same_new (o := .lst [.ref T, vb, vg]) hN
  have F18 := F17.next sN
  have hN2 : upd H11 N (.lst [.ref T, vb, vg]) N = some (.lst [.ref T, vb, vg]) := upd_same
  generalize upd H11 N (.lst [.ref T, vb, vg]) = H12 at sN F18 hN2
  have sL := sM.trans (s10'.trans (s11.trans sN))
  refine ⟨L, N, ww9, _, rfl, rfl, F18.at_, hN2, by rw [hwl9, sizeLine_eq]; show 53 + 3 ≤ _; omega, fun R hR => ?_⟩
  have sR : Same (nw H L H12) (nw H R (upd H12 R (.lst (ww9 ++ [.ref T, vb, vg])))) := fun c o e => by
    obtain ⟨e1, e2⟩ := of_del e
    obtain ⟨e3, e4⟩ := of_fr e1
    have nc := ne_of_none e4 hR
    exact del_some (fr_some e3 (by rw [upd_ne nc]; exact e4)) nc
  have db' : Dp K (nw H L H6) vb (.tuple (ms ++ dsa)) := db
  have dg' : Dp K (nw H L H11) vg (.tuple (ms.take 9 ++ dsb ++ ms.drop 10)) := dg
  refine q R (ww9 ++ [.ref T, vb, vg]) (dd9 ++ [.tuple ms, .tuple (ms ++ dsa), .tuple (ms.take 9 ++ dsb ++ ms.drop 10)]) _ ⟨F18.s0.trans (same_new hR), F18.s0.free hR, upd_same, DpAll_append (DpAll_same sR F18.dat) (.cons (Dp_same ((nw_next sL).trans sR) dM5) (.cons (Dp_same ((nw_next (s7.trans (s8.trans (s9'.trans (s10'.trans (s11.trans sN)))))).trans sR) db') (.cons (Dp_same ((nw_next sN).trans sR) dg') .nil)))⟩ (by rw [List.length_append, hdl9]; rfl) fun d hd => ?_
  have wAll : ∀ l : List PyData, (∀ d ∈ l, Fit (10 ^ 199) 30 1 300 d) → wtAll l ≤ 302 * l.length := by
    intro l
    induction l with
    | nil => intro _; simp [wtAll]
    | cons x l ih =>
      intro hx
      have h1 := (hx x List.mem_cons_self).wg
      have h2 := ih fun d hd => hx d (List.mem_cons_of_mem _ hd)
      simp only [wtAll, List.length_cons]
      omega
  have tf : ∀ l : List PyData, l.length ≤ 30 → (∀ d ∈ l, Fit (10 ^ 199) 30 1 300 d) → Fit (10 ^ 199) 30 3 20000 (.tuple l) := fun l hl hx => by
    have := wAll l hx
    exact (Fit.tup (n := 1) hl (fun x h => ⟨(hx x h).lf, (hx x h).ln, (hx x h).dp⟩) (B := 20000) (by omega)).mono (Nat.le_refl _) (Nat.le_refl _) (by omega) (Nat.le_refl _)
  rcases List.mem_append.mp hd with hd | hd
  · exact hfx9 d hd
  · rcases List.mem_cons.mp hd with rfl | hd
    · exact tf ms (by omega) hft
    · rcases List.mem_cons.mp hd with rfl | hd
      · exact tf _ (by rw [List.length_append]; omega) fun d hd => (List.mem_append.mp hd).elim (hft d) (hfa d)
      · have : d = .tuple (ms.take 9 ++ dsb ++ ms.drop 10) := by simpa using hd
        subst this
        refine tf _ (by rw [List.length_append, List.length_append, List.length_take, List.length_drop]; omega) fun d hd => ?_
        rcases List.mem_append.mp hd with hd | hd
        · rcases List.mem_append.mp hd with hd | hd
          · exact hft d (List.mem_of_mem_take hd)
          · exact hfb d hd
        · exact hft d (List.mem_of_mem_drop hd)
end
end Sw
set_option maxRecDepth 100000
set_option maxHeartbeats 4000000
namespace Sw
open PySem PySem.Spec PyProof.Rows L2
section
variable {prog : Program} {w : World} {A : Around} {E : Value → Shared → Prop} {s : Shared}
theorem rev_places (n : Nat) : Builtin.Slice.slicePlaces ((n : Int) - 1) (-1) (-1) = n := by
  unfold Builtin.Slice.slicePlaces
  simp
  omega
theorem applied_rev {sl : Addr} {vl vu vs : Value} {n : Nat} {Q : Int × Int × Nat → Shared → Prop} (hs : s.heap.IsSliceOf sl vl vu vs) (pl : IsPart vl none) (pu : IsPart vu none) (ps : IsPart vs (some (-1)))
    (h : Q ((n : Int) - 1, -1, n) s) : wpAny (model prog w) A (Builtin.Slice.sliceApplied (.ref sl) (pure (n : Int))) Q E s := by
  obtain ⟨os, hos, hcs, hds⟩ := id hs
  unfold Builtin.Slice.sliceApplied Builtin.Slice.sliceFields
  refine wpAny_bind (wpAny_bind (wpAny_field hos hds (x := vl) rfl (wpAny_bind (wpAny_field hos hds (x := vu) rfl (wpAny_bind (wpAny_field hos hds (x := vs) rfl (wpAny_pure ?_)))))))
  refine wpAny_bind (HT.slicePart_ ps ?_)
  show wpAny _ _ (if ((-1 : Int) == 0) = true then _ else _) _ _ s
  rw [if_neg (by decide)]
  refine wpAny_bind (HT.slicePart_ pl (wpAny_bind (HT.slicePart_ pu (wpAny_bind (wpAny_pure ?_)))))
  have e : Builtin.Slice.sliceAdjust none none (-1) (n : Int) = ((n : Int) - 1, -1) := by
    unfold Builtin.Slice.sliceAdjust
    simp
  show wpAny _ _ (match Builtin.Slice.sliceAdjust none none (-1) (n : Int) with | (lo, hi) => pure (lo, (-1 : Int), Builtin.Slice.slicePlaces lo hi (-1))) _ _ s
  rw [e]
  show wpAny _ _ (pure ((n : Int) - 1, (-1 : Int), Builtin.Slice.slicePlaces ((n : Int) - 1) (-1) (-1))) _ _ s
  rw [rev_places]
  exact wpAny_pure h
theorem fm_map {α β : Type} (f : α → Option β) (g : α → β) : ∀ l : List α, (∀ k ∈ l, f k = some (g k)) → l.filterMap f = l.map g
  | [], _ => rfl
  | k :: l, h => by
    rw [List.filterMap_cons, h k List.mem_cons_self, List.map_cons]
    dsimp only
    rw [fm_map f g l fun j hj => h j (List.mem_cons_of_mem _ hj)]
theorem rev_pick (xs : Array Value) : ((List.range xs.size).filterMap fun (k : Nat) => xs[(((xs.size : Int) - 1) + (k : Int) * (-1)).toNat]?) = xs.toList.reverse := by
  have e : ((List.range xs.size).filterMap fun (k : Nat) => xs[(((xs.size : Int) - 1) + (k : Int) * (-1)).toNat]?) = (List.range xs.size).map fun k => xs.toList.reverse.getD k .none := by
    refine fm_map _ _ _ fun k hk => ?_
    have hk' : k < xs.size := List.mem_range.mp hk
    have e1 : (((xs.size : Int) - 1) + (k : Int) * (-1)).toNat = xs.size - 1 - k := by omega
    have e2 : xs.size - 1 - k < xs.size := by omega
    rw [e1, Array.getElem?_eq_getElem e2]
    simp [List.getD, List.getElem?_reverse, hk']
  rw [e]
  apply List.ext_getElem?
  intro i
  rw [List.getElem?_map]
  by_cases h : i < xs.size
  · rw [List.getElem?_range h]
    have : i < xs.toList.reverse.length := by simpa using h
    rw [List.getElem?_eq_getElem this]
    simp [List.getD, List.getElem?_eq_getElem this]
  · rw [List.getElem?_eq_none (by simpa using h), List.getElem?_eq_none (by simpa using h)]
    rfl
theorem tuple_rev {t sl : Addr} {items : Array Value} {vl vu vs : Value} {Q : Value → Shared → Prop} (ht : IsTup s.heap t items) (hs : s.heap.IsSliceOf sl vl vu vs) (pl : IsPart vl none) (pu : IsPart vu none) (ps : IsPart vs (some (-1)))
    (h : Q (.ref s.heap.objs.size) { s with heap := s.heap.push { cls := .type "tuple", data := .seq items.toList.reverse.toArray } }) (hsz : items.size ≤ sizeLine) : wpAny (model prog w) A (getItem (.ref t) (.ref sl)) Q E s := by
  obtain ⟨os, hos, hcs, hds⟩ := id hs
  have hTs : s.TypeIs (.ref sl) "slice" := ⟨os, hos, hcs⟩
  have htake : sizeOk (.seq items.toList.reverse.toArray) := by
    show items.toList.reverse.toArray.size ≤ sizeLine
    simpa using hsz
  unfold getItem
  try with_reducible refine wpAny_holding ?_
  first | refine wpAny_bind (wpAny_pure ?_) | skip
  refine wpAny_bind (wpAny_sequenceKey ht.typeIs (by decide) ?_)
  refine wpAny_bind (wpAny_callSpecial?_slot (name := Str.ofString "__getitem__") ht.typeIs PyProof.Rows.slot_tuple_getitem (wpAny_call_entry PyProof.Rows.slot_tuple_getitem ht.typeIs entry_tuple_getitem ?_ (args_tuple_getitem _ _)))
  show wpAny _ _ (Builtin.Tuple.tupleItemsOf (.ref t) >>= _) _ _ s
  refine wpAny_bind (tupleItemsOf_ ht (wpAny_bind (wpAny_typeOf hTs ?_)))
  rw [if_pos (by decide)]
  refine wpAny_bind (applied_rev hs pl pu ps ?_)
  show wpAny _ _ (if ((((items.size : Int) - 1) == 0 && (-1 : Int) == 1 && items.size == items.size) = true) then _ else _) _ _ s
  rw [if_neg (by simp), rev_pick]
  first
    | exact wpAny_bind (m := Builtin.Tuple.tupleExact _) (wpAny_newObj_type (wpAny_pure ⟨_, rfl, wpAny_pure h⟩) htake)
    | exact wpAny_bind (m := Builtin.Tuple.tupleExact _) (wpAny_newObj_type (wpAny_bind (wpAny_pure (wpAny_pure ⟨_, rfl, wpAny_pure h⟩))) htake)
    | exact wpAny_bind (wpAny_bind (m := Builtin.Tuple.tupleExact _) (wpAny_newObj_type (wpAny_pure (wpAny_pure ⟨_, rfl, wpAny_pure h⟩)) htake))
    | exact wpAny_bind (wpAny_bind (m := Builtin.Tuple.tupleExact _) (wpAny_newObj_type (wpAny_pure ⟨_, rfl, wpAny_pure h⟩) htake))
end
section
variable {X : Cx}
/-- t[::-1] -/
def tRevT (K : PySem.W.Frag) (te : TE) : TE := fun σ H Q => te σ H fun x H1 => ∃ a xs, x = .ref a ∧ SqT K H1 a xs ∧ ∀ p, H1 p = none → Q (.ref p) (upd H1 p (.tup xs.reverse))
theorem pe_revT {e : Expr} {te : TE} {k : Nat} {p1 p2 p3 pos : Pos} (he : PE X e te) : PE X (.Subscript e (.Slice none none (some (.UnaryOp .USub (.Constant (.int 1) k p1) p2)) p3) pos) (tRevT X.K te) := by
  refine ⟨fun pins s σ H Q I h => Subscript_ (thn (he.run pins s σ H _ I h) fun v s1 ⟨x, H1, I1, r1, q1⟩ => ?_)⟩
  obtain ⟨a, xs, ex, hx, q⟩ := q1
  subst ex
  cases r1
  have hst : PO X (some (.UnaryOp .USub (.Constant (.int 1) k p1) p2)) (tPart (tUn (rU fun i => .int (-i)) (tC (.int 1)))) := po_some (pe_un un_neg pe_int)
  refine wpAny_Slice (thn (po_none.run pins s1 σ H1 (fun o G => o = none ∧ G = H1) I1 ⟨rfl, rfl⟩) fun vl s2 hl2 => ?_)
  obtain ⟨_, _, I2, pl, rfl, rfl⟩ := hl2
  refine thn (po_none.run pins s2 σ _ (fun o G => o = none ∧ G = _) I2 ⟨rfl, rfl⟩) fun vu s3 hl3 => ?_
  obtain ⟨_, _, I3, pu, rfl, rfl⟩ := hl3
  refine thn (hst.run pins s3 σ _ (fun o G => o = some (-1) ∧ G = _) I3 ⟨1, rfl, -1, rfl, rfl, rfl⟩) fun vs s4 hl4 => ?_
  obtain ⟨_, H4, I4, ps, rfl, rfl⟩ := hl4
  have I5 : Inv X pins σ H4 { s4 with heap := s4.heap.push { cls := .type "slice", data := .fields #[vl, vu, vs] } } := I4.kept (t' := s4.toks) fun b ob q => Heap.get?_push_of_some _ q
  obtain ⟨its, r, ht, hz⟩ := I5.tuple hx
  have hlen := r.length
  show wpAny (model X.prog X.w) X.A (subscriptTail e (.Slice none none (some (.UnaryOp .USub (.Constant (.int 1) k p1) p2)) p3) (.ref a) (.ref s4.heap.objs.size)) (EP X pins σ Q) X.xe { s4 with heap := s4.heap.push { cls := .type "slice", data := .fields #[vl, vu, vs] } }
  refine tail_any (ops := [.ref a, .ref s4.heap.objs.size]) ht.typeIs (PyProof.Rows.slot_tuple_getitem.lookup) ?_ (by with_unfolding_all rfl)
  refine tuple_rev ht (Heap.IsSliceOf.new _ vl vu vs) pl pu ps ?_ (by rw [List.size_toArray]; omega)
  have e : its.toArray.toList.reverse = its.reverse := by simp
  rw [e]
  refine ⟨.ref _, _, I5.laid (t' := s4.toks) (o := .tup xs.reverse) (fun b ob q => Heap.get?_push_of_some _ q) (Nat.le_refl _) ?_, rfl, q _ (I5.hok.fresh (Nat.le_refl _))⟩
  exact ⟨by rw [List.length_reverse]; exact hz, its.reverse, r.reverse, ⟨_, Heap.get?_push_size _ rfl, rfl, _, rfl⟩⟩
end
end Sw
set_option maxRecDepth 100000
set_option maxHeartbeats 4000000
namespace Sw
open PySem PySem.Spec PyProof.Rows L2
mutual
/-- a long list is no part of data whose lists are short -/
theorem Dp_off {K : PySem.W.Frag} {G : Hp} {T : Addr} {us : List V} {l : Nat} (hT : G T = some (.lst us)) (hl : l < us.length) : ∀ {v : V} {d : PyData}, Dp K G v d → lens l d = true → Dp K (del G T) v d
  | _, _, .non, _ => .non
  | _, _, .bl b, _ => .bl b
  | _, _, .int i, _ => .int i
  | _, _, .str x, _ => .str x
  | _, _, .lst (a := a) (xs := xs) (ds := ds) h r, hf => by
    have hf' : ds.length ≤ l ∧ lensAll l ds = true := by simpa [lens] using hf
    have hlen := DpAll_len r
    refine .lst ?_ (DpAll_off hT hl r hf'.2)
    rcases h with (h | ⟨o, h⟩) | h
    · refine .inl (.inl (del_some h fun e => ?_))
      rw [e, hT] at h
      cases h
      omega
    · refine .inl (.inr ⟨o, del_some h fun e => ?_⟩)
      rw [e, hT] at h
      cases h
    · exact .inr h
  | _, _, .tup (a := a) (xs := xs) (ds := ds) h r, hf => by
    have hf' : ds.length ≤ l ∧ lensAll l ds = true := by simpa [lens] using hf
    refine .tup ?_ (DpAll_off hT hl r hf'.2)
    rcases h with (h | ⟨o, h⟩) | h
    · refine .inl (.inl (del_some h fun e => ?_))
      rw [e, hT] at h
      cases h
    · refine .inl (.inr ⟨o, del_some h fun e => ?_⟩)
      rw [e, hT] at h
      cases h
    · exact .inr h
theorem DpAll_off {K : PySem.W.Frag} {G : Hp} {T : Addr} {us : List V} {l : Nat} (hT : G T = some (.lst us)) (hl : l < us.length) : ∀ {vs : List V} {ds : List PyData}, DpAll K G vs ds → lensAll l ds = true → DpAll K (del G T) vs ds
  | _, _, .nil, _ => .nil
  | _, _, .cons (d := d) (ds := ds) h r, hf => by
    have hf' : lens l d = true ∧ lensAll l ds = true := by simpa [lensAll] using hf
    exact .cons (Dp_off hT hl h hf'.1) (DpAll_off hT hl r hf'.2)
end
/-- what repr asks of data -/
theorem repr_of {M l n B : Nat} {d : PyData} (h : Fit M l n B d) (hM : M ≤ 10 ^ 200) (hn : n ≤ 60) (hB : B ≤ 16777216) : d.showable = true ∧ d.hasDict = false ∧ d.depth ≤ 60 ∧ d.shown.length ≤ sizeLine := by
  have e1 : M < 2 ^ 1920 := Nat.lt_of_le_of_lt hM (by decide +kernel)
  have e2 : M < 10 ^ 240 := Nat.lt_of_le_of_lt hM (by decide +kernel)
  refine ⟨leaf_shows e1 d h.lf, leaf_noDict d h.lf, Nat.le_trans h.dp hn, ?_⟩
  have h1 := shown_wt e2 d h.lf
  have h2 := h.wg
  rw [sizeLine_eq]
  omega
/-- things as they are told to the looks -/
abbrev FitT (d : PyData) : Prop := Fit (10 ^ 199 + 2) 60 50 20000 d
theorem list_fit {ds : List PyData} (h : ∀ d ∈ ds, FitT d) (hl : ds.length ≤ 400) : Fit (10 ^ 199 + 2) 400 51 16000000 (.list ds) := by
  have hw : ∀ l : List PyData, (∀ d ∈ l, FitT d) → wtAll l ≤ 20002 * l.length := by
    intro l
    induction l with
    | nil => intro _; simp [wtAll]
    | cons x l ih =>
      intro hx
      have h1 := (hx x List.mem_cons_self).wg
      have h2 := ih fun d hd => hx d (List.mem_cons_of_mem _ hd)
      simp only [wtAll, List.length_cons]
      omega
  have := hw ds h
  refine Fit.lst (n := 50) hl (fun x hx => ?_) (by omega)
  have := (h x hx).mono (Nat.le_refl _) (show 60 ≤ 400 by omega) (Nat.le_refl _) (Nat.le_refl _)
  exact ⟨this.lf, this.ln, this.dp⟩
end Sw
set_option maxRecDepth 100000
set_option maxHeartbeats 4000000
namespace Sw
open PySem PySem.Spec PyProof.Rows L2
/-- the things while they grow: T holds them, p and fq are the feed's -/
structure LI (K : PySem.W.Frag) (p fq T : Addr) (vo : V) (os : List PyData) (b : Nat) (H : Hp) (us : List V) (ds : List PyData) : Prop where
  feed : FeedAt H p fq b
  at_ : H T = some (.lst us)
  np : T ≠ p
  nq : T ≠ fq
  dat : DpAll K (del (del H p) T) us ds
  odd : Dp K (del (del H p) T) vo (.tuple os)
  long : 56 ≤ us.length
  fit : ∀ d ∈ ds, FitT d
section
variable {K : PySem.W.Frag} {p fq T : Addr} {vo : V} {os : List PyData} {b : Nat} {H H' : Hp} {us : List V} {ds : List PyData}
theorem LI.next {b' : Nat} (I : LI K p fq T vo os b H us ds) (s : Same (del H p) (del H' p)) (F : FeedAt H' p fq b') : LI K p fq T vo os b' H' us ds :=
  ⟨F, (of_del (s _ _ (del_some I.at_ I.np))).1, I.np, I.nq, DpAll_same (same_del s) I.dat, Dp_same (same_del s) I.odd, I.long, I.fit⟩
theorem LI.lay (I : LI K p fq T vo os b H us ds) (s : Same H H') : LI K p fq T vo os b H' us ds := I.next (same_del s) (I.feed.same s)
theorem LI.mono {c : Nat} (I : LI K p fq T vo os b H us ds) (h : b ≤ c) : LI K p fq T vo os c H us ds := ⟨I.feed.mono h, I.at_, I.np, I.nq, I.dat, I.odd, I.long, I.fit⟩
theorem LI.off (I : LI K p fq T vo os b H us ds) {v : V} {d : PyData} (h : Dp K (del H p) v d) {M l n B : Nat} (hf : Fit M l n B d) (hl : l < 56) : Dp K (del (del H p) T) v d :=
  Dp_off (l := l) (del_some I.at_ I.np) (Nat.lt_of_lt_of_le hl I.long) h hf.ln
theorem LI.new (I : LI K p fq T vo os b H us ds) {a : Addr} {o : HO} (ha : H a = none) : del (del (upd H a o) p) T a = some o :=
  del_some (del_some upd_same (I.feed.ne ha).1) (Ne.symm (ne_of_none I.at_ ha))
theorem LI.more (I : LI K p fq T vo os b H us ds) {ws : List V} {es : List PyData} (h : DpAll K (del (del H p) T) ws es) (hf : ∀ d ∈ es, FitT d) : LI K p fq T vo os b (upd H T (.lst (us ++ ws))) (us ++ ws) (ds ++ es) := by
  have s : Same (del (del H p) T) (del (del (upd H T (.lst (us ++ ws))) p) T) := fun c o e => by
    obtain ⟨e1, e2⟩ := of_del e
    obtain ⟨e3, e4⟩ := of_del e1
    exact del_some (del_some (by rw [upd_ne e2]; exact e3) e4) e2
  refine ⟨I.feed.upd I.np I.nq, upd_same, I.np, I.nq, DpAll_same s (DpAll_append I.dat h), Dp_same s I.odd, ?_, fun d hd => (List.mem_append.mp hd).elim (I.fit d) (hf d)⟩
  have := I.long
  rw [List.length_append]
  omega
end
/-- objects, few -/
theorem objs_wt : ∀ l : List PyData, (∀ d ∈ l, ObjD d) → wtAll l ≤ 346 * l.length
  | [], _ => by simp [wtAll]
  | x :: l, h => by
    have h1 := (objD_fit (h x List.mem_cons_self)).wg
    have h2 := objs_wt l fun d hd => h d (List.mem_cons_of_mem _ hd)
    simp only [wtAll, List.length_cons]
    omega
theorem objs_any {ds : List PyData} (hl : ds.length ≤ 8) (h : ∀ d ∈ ds, ObjD d) : FitT (.tuple ds) ∧ FitT (.list ds) := by
  have hw := objs_wt ds h
  have hx : ∀ x ∈ ds, leaf (10 ^ 199 + 2) x = true ∧ lens 60 x = true ∧ x.depth ≤ 49 := fun x hx => by
    have := (objD_fit (h x hx)).mono (M' := 10 ^ 199 + 2) (l' := 60) (n' := 49) (B' := 344) (show 4 ≤ 10 ^ 199 + 2 by decide +kernel) (by omega) (by omega) (Nat.le_refl _)
    exact ⟨this.lf, this.ln, this.dp⟩
  exact ⟨Fit.tup (n := 49) (by omega) hx (by omega), Fit.lst (n := 49) (by omega) hx (by omega)⟩
theorem DpAll_reverse {K : PySem.W.Frag} {H : Hp} : ∀ {vs : List V} {ds : List PyData}, DpAll K H vs ds → DpAll K H vs.reverse ds.reverse
  | _, _, .nil => .nil
  | _, _, .cons h r => by
    rw [List.reverse_cons, List.reverse_cons]
    exact DpAll_append (DpAll_reverse r) (.cons h .nil)
abbrev eight : Str := "abcdefgh"
theorem eight_len : eight.length = 8 := by decide +kernel
theorem eight_ok : ∀ c ∈ eight.cps.toList, c < 128 := by
  have : eight.cps.toList.all (fun c => decide (c < 128)) = true := by decide +kernel
  exact fun c hc => by simpa using List.all_eq_true.mp this c hc
theorem app_ok {x y : Str} (hx : ∀ c ∈ x.cps.toList, c < 128) (hy : ∀ c ∈ y.cps.toList, c < 128) : ∀ c ∈ (x ++ y).cps.toList, c < 128 := fun c hc => by
  rw [app_list] at hc
  exact (List.mem_append.mp hc).elim (hx c) (hy c)
theorem a_ok : ∀ c ∈ (Str.ofString "a").cps.toList, c < 128 := fun c hc => by
  have : c = 97 := by simpa using (show c ∈ [97] from hc)
  omega
/-- four answers, as data -/
theorem four_fit (a b c d : Bool) : Fit 0 4 1 100 (.tuple [.bool a, .bool b, .bool c, .bool d]) := by
  refine Fit.tup (n := 0) (by show 4 ≤ 4; omega) (fun x hx => ?_) (by simp only [wtAll, wt]; omega)
  simp only [List.mem_cons, List.not_mem_nil, or_false] at hx
  rcases hx with rfl | rfl | rfl | rfl <;> exact ⟨rfl, rfl, by simp [PyData.depth]⟩
end Sw
set_option maxRecDepth 100000
set_option maxHeartbeats 4000000
namespace Sw
open PySem PySem.Spec PyProof.Rows L2
section
variable {P : Program} {w : World} {K : PySem.W.Frag} {mg : Str → Option Value} {base : Heap}
def spLaw (K : PySem.W.Frag) : Sp := fun vs H Q _ => ∃ (a : Addr) (ns : List Int), vs = [.ref a] ∧ SqL K H a (ns.map V.int) ∧ ns.length ≤ 63 ∧ ∀ H', Q (.bl true) H'
theorem sc_law : FnScope ["_law_script", "_law_feed_here", "_law_odd_here", "_law_things", "_law_k", "_law_word_here", "_law_number_here", "_law_objects_here", "_law_long", "_law_bent", "_law_kept", "_law_thing", "_law_told", "_law_due"] ["_law_script"] (defScope (topS 25)) := ⟨rfl, rfl, rfl, by decide +kernel, rfl, by decide +kernel, by decide +kernel⟩
theorem ok_law {f fBE fFE fOD fFX fWO fGR fOB fSP fN1 fW1 fO1 fJ1 fN2 fW2 fO2 fJ2 : Addr} {fd dBE dFE dOD dFX dWO dGR dOB dSP dN1 dW1 dO1 dJ1 dN2 dW2 dO2 dJ2 : FuncData} (D : Fun K "law" "law" (topS 25) f fd) (B : Bt mg) (DFE : Df K mg "_law_feed" (topS 10) ["_law_script"] fFE dFE) (GFE : FnOk P w K mg base CX0 1 fFE dFE ["_law_script"] (spFeed K)) (DOD : Df K mg "_law_odd" (topS 15) [] fOD dOD) (GOD : FnOk P w K mg base CX0 1 fOD dOD [] (spOdd K)) (DFX : Df K mg "_law_fixed" (topS 24) [] fFX dFX) (GFX : FnOk P w K mg base CX0 1 fFX dFX [] (spFixed K)) (DWO : Df K mg "_law_word" (topS 13) ["_law_feed_here", "_law_found"] fWO dWO) (GWO : FnOk P w K mg base CX0 2 fWO dWO ["_law_feed_here", "_law_found"] (spWord)) (DGR : Df K mg "_law_great" (topS 17) ["_law_feed_here"] fGR dGR) (GGR : FnOk P w K mg base CX0 2 fGR dGR ["_law_feed_here"] (spGreat)) (DOB : Df K mg "_law_objects" (topS 23) ["_law_feed_here"] fOB dOB) (GOB : FnOk P w K mg base CX0 3 fOB dOB ["_law_feed_here"] (spObjs K)) (DSP : Df K mg "_law_spoilt" (topS 18) ["_law_feed_here", "_law_word_here"] fSP dSP) (GSP : FnOk P w K mg base CX0 2 fSP dSP ["_law_feed_here", "_law_word_here"] (spSpoilt)) (DN1 : Df K mg "is_number" (topS 2) ["thing"] fN1 dN1) (GN1 : FnOk P w K mg base CX0 1 fN1 dN1 ["thing"] (spLook K dNum)) (DW1 : Df K mg "is_word" (topS 3) ["thing"] fW1 dW1) (GW1 : FnOk P w K mg base CX0 1 fW1 dW1 ["thing"] (spLook K dWord)) (DO1 : Df K mg "is_operand" (topS 4) ["thing"] fO1 dO1) (GO1 : FnOk P w K mg base CX0 2 fO1 dO1 ["thing"] (spLook K dOper)) (DJ1 : Df K mg "is_objects" (topS 8) ["thing"] fJ1 dJ1) (GJ1 : FnOk P w K mg base CX0 3 fJ1 dJ1 ["thing"] (spLook K dObjs)) (DN2 : Df K mg "_law_number" (topS 16) ["_law_thing"] fN2 dN2) (GN2 : FnOk P w K mg base CX0 1 fN2 dN2 ["_law_thing"] (spLook K dNum)) (DW2 : Df K mg "_law_worded" (topS 19) ["_law_thing"] fW2 dW2) (GW2 : FnOk P w K mg base CX0 1 fW2 dW2 ["_law_thing"] (spLook K dWord)) (DO2 : Df K mg "_law_operanded" (topS 20) ["_law_thing"] fO2 dO2) (GO2 : FnOk P w K mg base CX0 2 fO2 dO2 ["_law_thing"] (spLook K dOper)) (DJ2 : Df K mg "_law_objected" (topS 22) ["_law_thing"] fJ2 dJ2) (GJ2 : FnOk P w K mg base CX0 3 fJ2 dJ2 ["_law_thing"] (spLook K dObjs)) (DBE : Df K mg "_law_bend" (topS 14) ["_law_feed_here", "_law_thing", "_law_odd_here"] fBE dBE) (GB3 : FnOk P w K mg base CX0 4 fBE dBE ["_law_feed_here", "_law_thing", "_law_odd_here"] (spBend K 3)) (GB5 : FnOk P w K mg base CX0 6 fBE dBE ["_law_feed_here", "_law_thing", "_law_odd_here"] (spBend K 5)) :
    FnG P w K mg base 7 f fd ["_law_script"] (spLaw K) := by
  refine fun_okG D sc_law (fun vs H Q E h => ?_) (fun cdv A outer s H vs Q E hg hr h => ?_)
  · obtain ⟨a, ns, rfl, _⟩ := h
    rfl
  obtain ⟨a, ns, rfl, hS, hn, q⟩ := h
  have nd := sc_law.nd
  have hu := hr.units
  have hg2 : (A.deeper (envOfC "law" (defScope (topS 25)) s.heap.objs.size f cdv)).guards = some [] := hg
  refine ⟨_, pss_cons (ps_set (i := 1) nd rfl (Or.inl rfl) (pe_call GFE (hr.mono (by decide)) (by rfl) DFE.gl DFE.fn.kp DFE.bd .nil pass0 (pa_cons (pv 0) pa_nil)))
    (pss_cons (ps_set (i := 2) nd rfl (Or.inl rfl) (pe_call0 GOD (hr.mono (by decide)) (by rfl) DOD.gl DOD.fn.kp DOD.bd .nil pass0))
    (pss_cons (ps_set (i := 3) nd rfl (Or.inl rfl) (pe_call0 GFX (hr.mono (by decide)) (by rfl) DFX.gl DFX.fn.kp DFX.bd .nil pass0))
    (C8.pss_cut (ps_for PassesOwn.never rfl (pi_range1 (by rfl) B.range (pa_cons pe_int pa_nil)) (pg_name (i := 4) nd rfl (Or.inl rfl))
      (pss_cons (ps_par3 (i := 5) (j := 6) (l := 7) rfl nd rfl rfl rfl (by decide) (by decide) (by decide) rfl rfl rfl (pa_cons (pe_call GWO (hr.mono (by decide)) (by rfl) DWO.gl DWO.fn.kp DWO.bd .nil pass0 (pa_cons (pv 1) (pa_cons (pe_lst pa_nil) pa_nil))) (pa_cons (pe_call GGR (hr.mono (by decide)) (by rfl) DGR.gl DGR.fn.kp DGR.bd .nil pass0 (pa_cons (pv 1) pa_nil)) (pa_cons (pe_call GOB (hr.mono (by decide)) (by rfl) DOB.gl DOB.fn.kp DOB.bd .nil pass0 (pa_cons (pv 1) pa_nil)) pa_nil))) (by rfl))
      (pss_cons (ps_set (i := 8) nd rfl (Or.inl rfl) (pe_slice sl_str (pe_op op_add_str (pv 5) pe_str) po_none (po_some pe_int)))
      (pss_cons (ps_set (i := 9) nd rfl (Or.inl rfl) (pe_call GB3 (hr.mono (by decide)) (by rfl) DBE.gl DBE.fn.kp DBE.bd .nil pass0 (pa_cons (pv 1) (pa_cons (pv 7) (pa_cons (pv 2) pa_nil)))))
      (pss_cons (ps_expr (pe_bm PySem.F.plainAttrs_list PySem.F.slot_list_extend PySem.F.type_list_extend mt_extend (pv 3) (pa_cons (pe_lst (pa_cons (pv 5) (pa_cons (pe_call GSP (hr.mono (by decide)) (by rfl) DSP.gl DSP.fn.kp DSP.bd .nil pass0 (pa_cons (pv 1) (pa_cons (pv 5) pa_nil))) (pa_cons (pv 8) (pa_cons (pe_op op_add_str (pv 8) pe_str) (pa_cons (pv 6) (pa_cons (pe_un un_neg (pv 6)) (pa_cons (pv 7) (pa_cons (pv 9) (pa_cons (pe_revT (pv 7)) pa_nil)))))))))) pa_nil)))
      (pss_one (ps_expr (pe_bm PySem.F.plainAttrs_list PySem.F.slot_list_extend PySem.F.type_list_extend mt_extend (pv 3) (pa_cons (pe_lst (pa_cons (pe_call GB5 (hr.mono (by decide)) (by rfl) DBE.gl DBE.fn.kp DBE.bd .nil pass0 (pa_cons (pv 1) (pa_cons (pv 9) (pa_cons (pv 2) pa_nil)))) (pa_cons (pe_op op_catA (pv 7) (pe_slice sl_tupA (pv 7) po_none (po_some pe_int))) (pa_cons (pe_callTy call_list_of (by rfl) B.list (by decide +kernel) (pa_cons (pv 7) pa_nil)) pa_nil)))) pa_nil)))))))))
    (pss_cons (ps_set (i := 10) nd rfl (Or.inl rfl) (pe_callB (call_repr hg2 hu) (by rfl) B.repr (by decide +kernel) (pa_cons (pv 3) pa_nil)))
    (C8.pss_cut (ps_for PassesOwn.never rfl (pi_list (pv 3)) (pg_name (i := 11) nd rfl (Or.inl rfl))
      (pss_cons (ps_set (i := 12) nd rfl (Or.inl rfl) (pe_tup (pa_cons (pe_call GN1 (hr.mono (by decide)) (by rfl) DN1.gl DN1.fn.kp DN1.bd .nil pass0 (pa_cons (pv 11) pa_nil)) (pa_cons (pe_call GW1 (hr.mono (by decide)) (by rfl) DW1.gl DW1.fn.kp DW1.bd .nil pass0 (pa_cons (pv 11) pa_nil)) (pa_cons (pe_call GO1 (hr.mono (by decide)) (by rfl) DO1.gl DO1.fn.kp DO1.bd .nil pass0 (pa_cons (pv 11) pa_nil)) (pa_cons (pe_call GJ1 (hr.mono (by decide)) (by rfl) DJ1.gl DJ1.fn.kp DJ1.bd .nil pass0 (pa_cons (pv 11) pa_nil)) pa_nil))))))
      (pss_cons (ps_set (i := 13) nd rfl (Or.inl rfl) (pe_tup (pa_cons (pe_call GN2 (hr.mono (by decide)) (by rfl) DN2.gl DN2.fn.kp DN2.bd .nil pass0 (pa_cons (pv 11) pa_nil)) (pa_cons (pe_call GW2 (hr.mono (by decide)) (by rfl) DW2.gl DW2.fn.kp DW2.bd .nil pass0 (pa_cons (pv 11) pa_nil)) (pa_cons (pe_call GO2 (hr.mono (by decide)) (by rfl) DO2.gl DO2.fn.kp DO2.bd .nil pass0 (pa_cons (pv 11) pa_nil)) (pa_cons (pe_call GJ2 (hr.mono (by decide)) (by rfl) DJ2.gl DJ2.fn.kp DJ2.bd .nil pass0 (pa_cons (pv 11) pa_nil)) pa_nil))))))
      (pss_one (ps_if (pt_cmpR op_ne (pe_callB (call_repr hg2 hu) (by rfl) B.repr (by decide +kernel) (pa_cons (pv 12) pa_nil)) (pe_callB (call_repr hg2 hu) (by rfl) B.repr (by decide +kernel) (pa_cons (pv 13) pa_nil)) (nomark _)) (pss_one (ps_ret pe_bl)) pss_nil)))))
    (pss_one (ps_ret (pe_cmpR op_eq (pe_callB (call_repr hg2 hu) (by rfl) B.repr (by decide +kernel) (pa_cons (pv 3) pa_nil)) (pv 10) (nomark _))))))))), ?_⟩
  clear D B DFE GFE DOD GOD DFX GFX DWO GWO DGR GGR DOB GOB DSP GSP DN1 GN1 DW1 GW1 DO1 GO1 DJ1 GJ1 DN2 GN2 DW2 GW2 DO2 GO2 DJ2 GJ2 DBE GB3 GB5 hr nd hu hg hg2
  refine ⟨_, rfl, a, ns, rfl, hS, hn, fun p fq H1 s1 np F1 => ?_⟩
  refine ⟨rfl, fun vo os H2 s2 dO hol hof => ?_⟩
  refine ⟨rfl, fun T us0 ds0 H3 FT hlen hfit0 => ?_⟩
  have hul0 := DpAll_len FT.dat
  have F2 := F1.same s2
  obtain ⟨nTp, nTq⟩ := F2.ne FT.n0
  have I0 : LI K p fq T vo os 0 H3 us0 ds0 := by
    obtain ⟨u, hpu⟩ := F1.there
    obtain ⟨u2, hpu2⟩ := F2.there
    refine ⟨F2.same FT.s0, FT.at_, nTp, nTq, DpAll_same (fun c o e => ?_) FT.dat, Dp_same (fun c o e => ?_) dO, by omega, fun d hd => (hfit0 d hd).mono (by omega) (by omega) (by omega) (by omega)⟩
    · obtain ⟨e1, e2⟩ := of_del e
      obtain ⟨e3, e4⟩ := of_fr e1
      exact del_some (del_some e4 (Ne.symm (ne_of_none hpu2 e3))) e2
    · obtain ⟨e1, e2⟩ := of_fr e
      exact del_some (del_some (FT.s0 _ _ e2) (Ne.symm (ne_of_none hpu e1))) (ne_of_none e2 FT.n0)
  refine ⟨fun σ H' => ∃ (us : List V) (ds : List PyData) (x4 x5 x6 x7 x8 x9 : Option V), σ = [some (.ref a), some (.ref p), some vo, some (.ref T), x4, x5, x6, x7, x8, x9, none, none, none, none] ∧ LI K p fq T vo os 2000 H' us ds ∧ ds.length = 128, ?_, ?_⟩
  · refine ⟨6, rfl, by decide, by decide, for_range (lo := 0) (n := 6) (fun i σ H' => ∃ (us : List V) (ds : List PyData) (x4 x5 x6 x7 x8 x9 : Option V), σ = [some (.ref a), some (.ref p), some vo, some (.ref T), x4, x5, x6, x7, x8, x9, none, none, none, none] ∧ LI K p fq T vo os (300 * i) H' us ds ∧ ds.length = 56 + 12 * i)
      ⟨us0, ds0, _, _, _, _, _, _, rfl, I0, hlen⟩ ?_ ?_⟩
    rotate_left
    · rintro σ H4 ⟨us, ds, x4, x5, x6, x7, x8, x9, rfl, I4, hl4⟩
      exact ⟨us, ds, _, _, _, _, _, _, rfl, I4.mono (by omega), by omega⟩
    rintro i σ H4 hi ⟨us, ds, x4, x5, x6, x7, x8, x9, rfl, I4, hl4⟩
    -- word, number, objects
    refine ⟨_, rfl, Nat.zero_le _, fun N hN => ?_⟩
    have I5 := I4.lay (same_new (o := .lst []) hN)
    obtain ⟨nNp, nNq⟩ := I4.feed.ne hN
    refine ⟨p, fq, N, _, [], rfl, I5.feed, by omega, del_some upd_same nNp, by simp, by simp, fun z H6 wz s6 F6 => ?_⟩
    have I6 := I5.next s6 F6
    refine ⟨_, rfl, p, fq, _, rfl, I6.feed, by omega, fun g H7 hg7 s7 F7 => ?_⟩
    have I7 := I6.next s7 F7
    refine ⟨_, rfl, p, fq, _, rfl, I7.feed, by omega, fun v8 os8 H8 d8 hl8 h18 ho8 s8 F8 => ?_⟩
    have I8 := I7.next s8 F8
    refine ⟨_, _, _, rfl, ?_⟩
    have h8z := wz.hi
    have lz := eight_len
    have la : (Str.ofString "a").length = 1 := rfl
    have hzz : (z ++ eight).length ≤ 16 := by rw [app_len]; omega
    obtain ⟨mc, lc⟩ := cutS_sub (z ++ eight) none (some 8)
    have okL : ∀ c ∈ (cutS (z ++ eight) none (some 8)).cps.toList, c < 128 := fun c hc => app_ok wz.ascii eight_ok c (mc c hc)
    refine ⟨_, rfl, _, _, rfl, rfl, (by show z.length + eight.length ≤ _; rw [sizeLine_eq]; omega), 8, rfl, _, rfl, (by show (z ++ eight).length ≤ _; rw [sizeLine_eq]; omega), ?_⟩
    clear mc
    generalize cutS (z ++ eight) none (some 8) = lg at okL lc
    have llg : lg.length ≤ 16 := by omega
    -- bent
    have hfo := objs_fit hl8 ho8
    have hfo2 : Fit (10 ^ 199) 4 2 1400 (.tuple os8) := hfo.mono (show 4 ≤ 10 ^ 199 by decide +kernel) (by omega) (by omega) (by omega)
    have t8 := I8.off d8 hfo (by omega)
    refine ⟨_, rfl, _, rfl, _, rfl, p, fq, v8, vo, _, 2, 10 ^ 199, 4, 1400, .tuple os8, os, rfl, rfl, by decide, I8.feed, by omega, d8, Dp_same (del_same _ _) I8.odd, hol, hof, hfo2, Nat.le_refl _, by decide, by decide, fun v9 d9 H9 dd9 hf9 s9 F9 => ?_⟩
    have I9 := I8.next s9 F9
    have t9 := I9.off dd9 hf9 (by omega)
    have t89 := Dp_same (same_del s9) t8
    clear t8 d8
    -- the first extend
    cases id t89 with
    | @tup a8 xs8 _ h8 r8 =>
    refine ⟨_, rfl, .inl ⟨rfl, _, SqL.of I9.at_⟩, _, rfl, _, rfl, _, rfl, p, fq, z, _, rfl, I9.feed, by omega, wz, fun x10 H10 hx10 lx10 s10 F10 => ?_⟩
    have I10 := I9.next s10 F10
    have t10 := Dp_same (same_del s10) t89
    have h10 := sameT (same_del s10) h8
    have r10 := DpAll_same (same_del s10) r8
    have u10 := Dp_same (same_del s10) t9
    refine ⟨_, rfl, _, rfl, _, _, rfl, rfl, (by rw [la, sizeLine_eq]; omega), _, rfl, _, rfl, _, rfl, _, rfl, _, rfl, _, rfl, a8, xs8, rfl, sameT ((del_same _ _).trans (del_same _ _)) h10, fun R hR => ?_⟩
    have sR := same_new (o := .tup xs8.reverse) hR
    have nR := I10.new (o := .tup xs8.reverse) hR
    have I11 := I10.lay sR
    have t11 := Dp_same (same_del (same_del sR)) t10
    have h11 := sameT (same_del (same_del sR)) h10
    have r11 := DpAll_same (same_del (same_del sR)) r10
    have u11 := Dp_same (same_del (same_del sR)) u10
    generalize upd H10 R (.tup xs8.reverse) = H11 at sR nR I11 t11 h11 r11 u11
    refine ⟨by show 9 ≤ sizeLine; decide, fun N2 hN2 => ?_⟩
    have e12 : upd H11 N2 (.lst [.str z, .str x10, .str lg, .str (lg ++ Str.ofString "a"), .int g, .int (-g), .ref a8, v9, .ref R]) N2 = some (.lst [.str z, .str x10, .str lg, .str (lg ++ Str.ofString "a"), .int g, .int (-g), .ref a8, v9, .ref R]) := upd_same
    have s12 := same_new (o := .lst [.str z, .str x10, .str lg, .str (lg ++ Str.ofString "a"), .int g, .int (-g), .ref a8, v9, .ref R]) hN2
    have I12 := I11.lay s12
    have t12 := Dp_same (same_del (same_del s12)) t11
    have h12 := sameT (same_del (same_del s12)) h11
    have r12 := DpAll_same (same_del (same_del s12)) r11
    have u12 := Dp_same (same_del (same_del s12)) u11
    have nR12 := same_del (p := T) (same_del (p := p) s12) _ _ nR
    generalize upd H11 N2 (.lst [.str z, .str x10, .str lg, .str (lg ++ Str.ofString "a"), .int g, .int (-g), .ref a8, v9, .ref R]) = H12 at e12 s12 I12 t12 h12 r12 u12 nR12
    have hul := DpAll_len I12.dat
    refine ⟨T, N2, _, _, rfl, rfl, I12.at_, e12, (by rw [hul, hl4, sizeLine_eq]; show 56 + 12 * i + 9 ≤ _; omega), ?_⟩
    have I13 := I12.more (ws := [.str z, .str x10, .str lg, .str (lg ++ Str.ofString "a"), .int g, .int (-g), .ref a8, v9, .ref R])
      (es := [.str z, .str x10, .str lg, .str (lg ++ Str.ofString "a"), .int g, .int (-g), .tuple os8, d9, .tuple os8.reverse])
      (.cons (.str _) (.cons (.str _) (.cons (.str _) (.cons (.str _) (.cons (.int _) (.cons (.int _) (.cons t12 (.cons u12 (.cons (.tup (SqT.of nR12) (DpAll_reverse r12)) .nil))))))))) (by
        have fo := (objs_any (ds := os8) (by omega) ho8).1
        have fr8 := (objs_any (ds := os8.reverse) (by rw [List.length_reverse]; omega) (fun d hd => ho8 d (List.mem_reverse.mp hd))).1
        have f9 : FitT d9 := hf9.mono (by omega) (by omega) (by omega) (by omega)
        intro d hd
        simp only [List.mem_cons, List.not_mem_nil, or_false] at hd
        rcases hd with rfl | rfl | rfl | rfl | rfl | rfl | rfl | rfl | rfl
        · exact Fit.str wz.ascii (by omega)
        · exact Fit.str hx10 (by omega)
        · exact Fit.str okL (by omega)
        · exact Fit.str (app_ok okL a_ok) (by rw [app_len, la]; omega)
        · exact Fit.int (by omega) (by omega)
        · exact Fit.int (by omega) (by omega)
        · exact fo
        · exact f9
        · exact fr8)
    have sU : Same (del (del H12 p) T) (del (del (upd H12 T (.lst (us ++ [.str z, .str x10, .str lg, .str (lg ++ Str.ofString "a"), .int g, .int (-g), .ref a8, v9, .ref R]))) p) T) := fun c o e => by
      obtain ⟨e1, e2⟩ := of_del e
      obtain ⟨e3, e4⟩ := of_del e1
      exact del_some (del_some (by rw [upd_ne e2]; exact e3) e4) e2
    have t13 := Dp_same sU t12
    have u13 := Dp_same sU u12
    have hl13 : (ds ++ [.str z, .str x10, .str lg, .str (lg ++ Str.ofString "a"), .int g, .int (-g), .tuple os8, d9, .tuple os8.reverse]).length = 65 + 12 * i := by rw [List.length_append, hl4]; show 56 + 12 * i + 9 = _; omega
    generalize upd H12 T (.lst (us ++ [.str z, .str x10, .str lg, .str (lg ++ Str.ofString "a"), .int g, .int (-g), .ref a8, v9, .ref R])) = H13 at I13 sU t13 u13
    generalize ds ++ [.str z, .str x10, .str lg, .str (lg ++ Str.ofString "a"), .int g, .int (-g), .tuple os8, d9, .tuple os8.reverse] = ds13 at I13 hl13
    generalize us ++ [.str z, .str x10, .str lg, .str (lg ++ Str.ofString "a"), .int g, .int (-g), .ref a8, v9, .ref R] = us13 at I13
    clear e12 s12 I12 t12 h12 r12 u12 nR12 sU I11 t11 h11 r11 u11 sR nR I10 t10 h10 r10 u10 I9 t9 t89 I8 I7 I6 I5 I4
    -- the second extend
    refine ⟨_, rfl, .inl ⟨rfl, _, SqL.of I13.at_⟩, _, rfl, _, rfl, _, rfl, p, fq, v9, vo, _, 4, 10 ^ 199 + 1, 10, 3900, d9, os, rfl, rfl, by decide, I13.feed, by omega, Dp_same (del_same _ _) u13, Dp_same (del_same _ _) I13.odd, hol, hof, hf9, Nat.le_succ _, by decide, by decide, fun v14 d14 H14 dd14 hf14 s14 F14 => ?_⟩
    have I14 := I13.next s14 F14
    have u14 := I14.off dd14 hf14 (by omega)
    have t14 := Dp_same (same_del s14) t13
    refine ⟨_, rfl, _, rfl, 1, rfl, ?_⟩
    refine cut_dat I14.feed.there (Dp_same (del_same _ T) t14) (fun vc H15 s15 dc => ?_)
    have I15 := I14.lay s15
    have t15 := Dp_same (same_del (same_del s15)) t14
    rw [show (1 : Int) = ((1 : Nat) : Int) from rfl, cutD_to os8 (by omega)] at dc
    cases id dc with
    | @tup ac _ _ _ _ =>
    refine cat_dat I15.feed.there (Dp_same (del_same _ T) t15) dc (by rw [List.length_take]; omega) (fun ve H16 s16 de => ?_)
    have I16 := I15.lay s16
    have hoe : ∀ d ∈ os8 ++ os8.take 1, ObjD d := fun d hd => (List.mem_append.mp hd).elim (ho8 d) (fun h => ho8 d (List.mem_of_mem_take h))
    have fe := objs_any (ds := os8 ++ os8.take 1) (by rw [List.length_append, List.length_take]; omega) hoe
    have w16 : Dp K (del (del H16 p) T) ve (.tuple (os8 ++ os8.take 1)) := Dp_off (l := 8) (del_some I16.at_ I16.np) (by have := I16.long; omega) de (by
      have h1 : (os8 ++ os8.take 1).length ≤ 8 := by rw [List.length_append, List.length_take]; omega
      have h2 : lensAll 8 (os8 ++ os8.take 1) = true := lensAll_iff.mpr fun x hx => ((objD_fit (hoe x hx)).mono (Nat.le_refl _) (show 4 ≤ 8 by omega) (Nat.le_refl _) (Nat.le_refl _)).ln
      simp only [lens]
      rw [h2, Bool.and_true, decide_eq_true_eq]
      exact h1)
    have t16 := Dp_same (same_del (same_del s16)) t15
    have u16 := Dp_same (same_del (same_del (s15.trans s16))) u14
    cases id t16 with
    | @tup a16 xs16 _ h16 r16 =>
    refine ⟨_, rfl, a8, xs16, rfl, .inr (sameT ((del_same _ _).trans (del_same _ _)) h16), fun L hL => ?_⟩
    have sL := same_new (o := .lst xs16) hL
    have nL := I16.new (o := .lst xs16) hL
    have I17 := I16.lay sL
    have w17 := Dp_same (same_del (same_del sL)) w16
    have u17 := Dp_same (same_del (same_del sL)) u16
    have r17 := DpAll_same (same_del (p := T) (same_del (p := p) sL)) r16
    generalize upd H16 L (.lst xs16) = H17 at sL nL I17 w17 u17 r17
    refine ⟨by show 3 ≤ sizeLine; decide, fun N3 hN3 => ?_⟩
    have e18 : upd H17 N3 (.lst [v14, ve, .ref L]) N3 = some (.lst [v14, ve, .ref L]) := upd_same
    have s18 := same_new (o := .lst [v14, ve, .ref L]) hN3
    have I18 := I17.lay s18
    have w18 := Dp_same (same_del (same_del s18)) w17
    have u18 := Dp_same (same_del (same_del s18)) u17
    have r18 := DpAll_same (same_del (p := T) (same_del (p := p) s18)) r17
    have nL18 := same_del (p := T) (same_del (p := p) s18) _ _ nL
    generalize upd H17 N3 (.lst [v14, ve, .ref L]) = H18 at e18 s18 I18 w18 u18 r18 nL18
    have hul2 := DpAll_len I18.dat
    refine ⟨T, N3, _, _, rfl, rfl, I18.at_, e18, (by rw [hul2, hl13, sizeLine_eq]; show 65 + 12 * i + 3 ≤ _; omega), ?_⟩
    have I19 := I18.more (ws := [v14, ve, .ref L]) (es := [d14, .tuple (os8 ++ os8.take 1), .list os8]) (.cons u18 (.cons w18 (.cons (.lst (SqL.of nL18) r18) .nil))) (by
      have f14 : FitT d14 := hf14.mono (by omega) (by omega) (by omega) (by omega)
      have fl := (objs_any (ds := os8) (by omega) ho8).2
      intro d hd
      simp only [List.mem_cons, List.not_mem_nil, or_false] at hd
      rcases hd with rfl | rfl | rfl
      · exact f14
      · exact fe.1
      · exact fl)
    refine ⟨_, _, _, _, _, _, _, _, rfl, I19.mono (by omega), ?_⟩
    rw [List.length_append, hl13]
    show 65 + 12 * i + 3 = _
    omega
  rintro σ H4 ⟨us, ds, x4, x5, x6, x7, x8, x9, rfl, I4, hl4⟩
  have dT : Dp K H4 (.ref T) (.list ds) := .lst (SqL.of I4.at_) (DpAll_same ((del_same _ _).trans (del_same _ _)) I4.dat)
  have dA : DpAll K H4 us ds := DpAll_same ((del_same _ _).trans (del_same _ _)) I4.dat
  obtain ⟨g1, g2, g3, g4⟩ := repr_of (list_fit I4.fit (by omega)) (by decide +kernel) (by decide) (by decide)
  have atT := I4.at_
  have hfT := I4.fit
  generalize hkp : (PyData.list ds).shown = kept at g4
  refine ⟨_, rfl, T, .list ds, rfl, dT, g1, g2, g3, (by rw [hkp]; exact g4), ?_⟩
  refine ⟨fun σ H' => Same H4 H' ∧ ∃ x11 x12 x13 : Option V, σ = [some (.ref a), some (.ref p), some vo, some (.ref T), x4, x5, x6, x7, x8, x9, some (.str kept), x11, x12, x13], ?_, ?_⟩
  · refine ⟨_, rfl, T, rfl, ⟨_, SqL.of atT⟩, for_it (walk_list (xs := us)) (fun i σ H' => Same H4 H' ∧ ∃ x11 x12 x13 : Option V, σ = [some (.ref a), some (.ref p), some vo, some (.ref T), x4, x5, x6, x7, x8, x9, some (.str kept), x11, x12, x13])
      ⟨Same.refl _, none, none, none, by rw [← hkp]; rfl⟩ (fun i σ H' _ h => SqL.of (h.1 _ _ atT)) ?_ (fun σ H' h => h)⟩
    rintro i x σ H5 H6 hi ⟨s5, x11, x12, x13, rfl⟩ ⟨rfl, hx⟩
    obtain ⟨d, hd, dx⟩ := DpAll_get (DpAll_same s5 dA) hx
    have hf : FitT d := hfT d (List.mem_of_getElem? hd)
    have hf2 : ∃ M, Fit M 60 60 1000000 d := ⟨_, hf.mono (Nat.le_refl _) (by omega) (by omega) (by omega)⟩
    refine ⟨_, rfl, x, d, rfl, dx, hf2, fun J1 q1 => ?_⟩
    refine ⟨_, rfl, x, d, rfl, Dp_same q1 dx, hf2, fun J2 q2 => ?_⟩
    have k2 := q1.trans q2
    refine ⟨_, rfl, x, d, rfl, Dp_same k2 dx, hf2, fun J3 q3 => ?_⟩
    have k3 := k2.trans q3
    refine ⟨_, rfl, x, d, rfl, Dp_same k3 dx, hf2, fun J4 q4 => ?_⟩
    have k4 := k3.trans q4
    refine ⟨by show 4 ≤ sizeLine; decide, fun A1 hA1 => ?_⟩
    have k5 := k4.trans (same_new (o := .tup [.bl (dNum d), .bl (dWord d), .bl (dOper d), .bl (dObjs d)]) hA1)
    have e5 : upd J4 A1 (.tup [.bl (dNum d), .bl (dWord d), .bl (dOper d), .bl (dObjs d)]) A1 = some (.tup [.bl (dNum d), .bl (dWord d), .bl (dOper d), .bl (dObjs d)]) := upd_same
    generalize upd J4 A1 (.tup [.bl (dNum d), .bl (dWord d), .bl (dOper d), .bl (dObjs d)]) = J5 at k5 e5
    refine ⟨_, rfl, x, d, rfl, Dp_same k5 dx, hf2, fun J6 q6 => ?_⟩
    have k6 := k5.trans q6
    refine ⟨_, rfl, x, d, rfl, Dp_same k6 dx, hf2, fun J7 q7 => ?_⟩
    have k7 := k6.trans q7
    refine ⟨_, rfl, x, d, rfl, Dp_same k7 dx, hf2, fun J8 q8 => ?_⟩
    have k8 := k7.trans q8
    refine ⟨_, rfl, x, d, rfl, Dp_same k8 dx, hf2, fun J9 q9 => ?_⟩
    have k9 := k8.trans q9
    refine ⟨by show 4 ≤ sizeLine; decide, fun A2 hA2 => ?_⟩
    have n9 := same_new (o := .tup [.bl (dNum d), .bl (dWord d), .bl (dOper d), .bl (dObjs d)]) hA2
    have e9 : upd J9 A2 (.tup [.bl (dNum d), .bl (dWord d), .bl (dOper d), .bl (dObjs d)]) A2 = some (.tup [.bl (dNum d), .bl (dWord d), .bl (dOper d), .bl (dObjs d)]) := upd_same
    have e95 := ((((q6.trans q7).trans q8).trans q9).trans n9) _ _ e5
    have ka := k9.trans n9
    generalize upd J9 A2 (.tup [.bl (dNum d), .bl (dWord d), .bl (dOper d), .bl (dObjs d)]) = J10 at n9 e9 e95 ka
    have db : ∀ c : Addr, J10 c = some (.tup [.bl (dNum d), .bl (dWord d), .bl (dOper d), .bl (dObjs d)]) → Dp K J10 (.ref c) (.tuple [.bool (dNum d), .bool (dWord d), .bool (dOper d), .bool (dObjs d)]) := fun c hc => .tup (SqT.of hc) (.cons (.bl _) (.cons (.bl _) (.cons (.bl _) (.cons (.bl _) .nil))))
    obtain ⟨j1, j2, j3, j4⟩ := repr_of (four_fit (dNum d) (dWord d) (dOper d) (dObjs d)) (Nat.zero_le _) (by decide) (by decide)
    refine ⟨_, rfl, A1, _, rfl, db A1 e95, j1, j2, j3, j4, _, rfl, A2, _, rfl, db A2 e9, j1, j2, j3, j4, rfl, _, rfl, ?_⟩
    refine ite2 (fun c => absurd c (by simp)) (fun _ => ?_)
    exact ⟨s5.trans ka, _, _, _, rfl⟩
  rintro σ H5 ⟨s5, x11, x12, x13, rfl⟩
  refine ⟨_, rfl, T, .list ds, rfl, Dp_same s5 dT, g1, g2, g3, (by rw [hkp]; exact g4), _, rfl, rfl, ?_⟩
  have et : decide ((V.str (PyData.list ds).shown) = V.str kept) = true := by rw [hkp]; simp
  rw [et]
  exact q H5
end
end Sw
set_option maxRecDepth 100000
set_option maxHeartbeats 4000000
namespace Sw
open PySem PySem.Spec PyProof.Rows L2
theorem all_mk {l : PySem.W.OpenLaw} {w : World} {K : PySem.W.Frag} {h : Heap} {mg : Str → Option Value} {fa f2 f3 f4 f5 f6 f7 f8 f10 f11 f12 f13 f14 f15 f16 f17 f18 f19 f20 f21 f22 f23 f24 f25 : Addr} (X : K.In h) (G : h.Ns mainGlobals mg) (hfa : mg "law" = some (.ref fa))
    {od2 od3 od4 od5 od6 od7 od8 od10 od11 od12 od13 od14 od15 od16 od17 od18 od19 od20 od21 od22 od23 od24 od25 an2 an3 an4 an5 an6 an7 an8 an10 an11 an12 an13 an14 an15 an16 an17 an18 an19 an20 an21 an22 an23 an24 an25 : Option Addr} {sl2 sl3 sl4 sl5 sl6 sl7 sl8 sl10 sl11 sl12 sl13 sl14 sl15 sl16 sl17 sl18 sl19 sl20 sl21 sl22 sl23 sl24 sl25 : Array (Option Value)} {oc2 oc3 oc4 oc5 oc6 oc7 oc8 oc10 oc11 oc12 oc13 oc14 oc15 oc16 oc17 oc18 oc19 oc20 oc21 oc22 oc23 oc24 oc25 kV2 kV3 kV4 kV5 kV6 kV7 kV8 kV10 kV11 kV12 kV13 kV14 kV15 kV16 kV17 kV18 kV19 kV20 kV21 kV22 kV23 kV24 kV25 dc2 dc3 dc4 dc5 dc6 dc7 dc8 dc10 dc11 dc12 dc13 dc14 dc15 dc16 dc17 dc18 dc19 dc20 dc21 dc22 dc23 dc24 dc25 pm2 pm3 pm4 pm5 pm6 pm7 pm8 pm10 pm11 pm12 pm13 pm14 pm15 pm16 pm17 pm18 pm19 pm20 pm21 pm22 pm23 pm24 pm25 cd2 cd3 cd4 cd5 cd6 cd7 cd8 cd10 cd11 cd12 cd13 cd14 cd15 cd16 cd17 cd18 cd19 cd20 cd21 cd22 cd23 cd24 cd25 ct2 ct3 ct4 ct5 ct6 ct7 ct8 ct10 ct11 ct12 ct13 ct14 ct15 ct16 ct17 ct18 ct19 ct20 ct21 ct22 ct23 ct24 ct25 : Value} {tL : Tok}
    (a2 : PySem.W.nsIn K mainGlobals "is_number" = some (some (.ref f2))) (l2 : K.lookup f2 = some ⟨oc2, od2, .func (PySem.W.fnOf "is_number" "is_number" (defArgs (topS 2)) (defBody (topS 2)) (defScope (topS 2)) .none kV2 dc2 pm2 an2 cd2 ct2), sl2⟩) (c2 : PySem.W.codeIn K cd2 "is_number" = true) (k2 : PySem.W.keepIn K (.ref f2) = true)
    (a3 : PySem.W.nsIn K mainGlobals "is_word" = some (some (.ref f3))) (l3 : K.lookup f3 = some ⟨oc3, od3, .func (PySem.W.fnOf "is_word" "is_word" (defArgs (topS 3)) (defBody (topS 3)) (defScope (topS 3)) .none kV3 dc3 pm3 an3 cd3 ct3), sl3⟩) (c3 : PySem.W.codeIn K cd3 "is_word" = true) (k3 : PySem.W.keepIn K (.ref f3) = true)
    (a4 : PySem.W.nsIn K mainGlobals "is_operand" = some (some (.ref f4))) (l4 : K.lookup f4 = some ⟨oc4, od4, .func (PySem.W.fnOf "is_operand" "is_operand" (defArgs (topS 4)) (defBody (topS 4)) (defScope (topS 4)) .none kV4 dc4 pm4 an4 cd4 ct4), sl4⟩) (c4 : PySem.W.codeIn K cd4 "is_operand" = true) (k4 : PySem.W.keepIn K (.ref f4) = true)
    (a5 : PySem.W.nsIn K mainGlobals "is_pair" = some (some (.ref f5))) (l5 : K.lookup f5 = some ⟨oc5, od5, .func (PySem.W.fnOf "is_pair" "is_pair" (defArgs (topS 5)) (defBody (topS 5)) (defScope (topS 5)) .none kV5 dc5 pm5 an5 cd5 ct5), sl5⟩) (c5 : PySem.W.codeIn K cd5 "is_pair" = true) (k5 : PySem.W.keepIn K (.ref f5) = true)
    (a6 : PySem.W.nsIn K mainGlobals "has_rising_firsts" = some (some (.ref f6))) (l6 : K.lookup f6 = some ⟨oc6, od6, .func (PySem.W.fnOf "has_rising_firsts" "has_rising_firsts" (defArgs (topS 6)) (defBody (topS 6)) (defScope (topS 6)) .none kV6 dc6 pm6 an6 cd6 ct6), sl6⟩) (c6 : PySem.W.codeIn K cd6 "has_rising_firsts" = true) (k6 : PySem.W.keepIn K (.ref f6) = true)
    (a7 : PySem.W.nsIn K mainGlobals "is_object" = some (some (.ref f7))) (l7 : K.lookup f7 = some ⟨oc7, od7, .func (PySem.W.fnOf "is_object" "is_object" (defArgs (topS 7)) (defBody (topS 7)) (defScope (topS 7)) .none kV7 dc7 pm7 an7 cd7 ct7), sl7⟩) (c7 : PySem.W.codeIn K cd7 "is_object" = true) (k7 : PySem.W.keepIn K (.ref f7) = true)
    (a8 : PySem.W.nsIn K mainGlobals "is_objects" = some (some (.ref f8))) (l8 : K.lookup f8 = some ⟨oc8, od8, .func (PySem.W.fnOf "is_objects" "is_objects" (defArgs (topS 8)) (defBody (topS 8)) (defScope (topS 8)) .none kV8 dc8 pm8 an8 cd8 ct8), sl8⟩) (c8 : PySem.W.codeIn K cd8 "is_objects" = true) (k8 : PySem.W.keepIn K (.ref f8) = true)
    (a10 : PySem.W.nsIn K mainGlobals "_law_feed" = some (some (.ref f10))) (l10 : K.lookup f10 = some ⟨oc10, od10, .func (PySem.W.fnOf "_law_feed" "_law_feed" (defArgs (topS 10)) (defBody (topS 10)) (defScope (topS 10)) .none kV10 dc10 pm10 an10 cd10 ct10), sl10⟩) (c10 : PySem.W.codeIn K cd10 "_law_feed" = true) (k10 : PySem.W.keepIn K (.ref f10) = true)
    (a11 : PySem.W.nsIn K mainGlobals "_law_draw" = some (some (.ref f11))) (l11 : K.lookup f11 = some ⟨oc11, od11, .func (PySem.W.fnOf "_law_draw" "_law_draw" (defArgs (topS 11)) (defBody (topS 11)) (defScope (topS 11)) .none kV11 dc11 pm11 an11 cd11 ct11), sl11⟩) (c11 : PySem.W.codeIn K cd11 "_law_draw" = true) (k11 : PySem.W.keepIn K (.ref f11) = true)
    (a12 : PySem.W.nsIn K mainGlobals "_law_after" = some (some (.ref f12))) (l12 : K.lookup f12 = some ⟨oc12, od12, .func (PySem.W.fnOf "_law_after" "_law_after" (defArgs (topS 12)) (defBody (topS 12)) (defScope (topS 12)) .none kV12 dc12 pm12 an12 cd12 ct12), sl12⟩) (c12 : PySem.W.codeIn K cd12 "_law_after" = true) (k12 : PySem.W.keepIn K (.ref f12) = true)
    (a13 : PySem.W.nsIn K mainGlobals "_law_word" = some (some (.ref f13))) (l13 : K.lookup f13 = some ⟨oc13, od13, .func (PySem.W.fnOf "_law_word" "_law_word" (defArgs (topS 13)) (defBody (topS 13)) (defScope (topS 13)) .none kV13 dc13 pm13 an13 cd13 ct13), sl13⟩) (c13 : PySem.W.codeIn K cd13 "_law_word" = true) (k13 : PySem.W.keepIn K (.ref f13) = true)
    (a14 : PySem.W.nsIn K mainGlobals "_law_bend" = some (some (.ref f14))) (l14 : K.lookup f14 = some ⟨oc14, od14, .func (PySem.W.fnOf "_law_bend" "_law_bend" (defArgs (topS 14)) (defBody (topS 14)) (defScope (topS 14)) .none kV14 dc14 pm14 an14 cd14 ct14), sl14⟩) (c14 : PySem.W.codeIn K cd14 "_law_bend" = true) (k14 : PySem.W.keepIn K (.ref f14) = true)
    (a15 : PySem.W.nsIn K mainGlobals "_law_odd" = some (some (.ref f15))) (l15 : K.lookup f15 = some ⟨oc15, od15, .func (PySem.W.fnOf "_law_odd" "_law_odd" (defArgs (topS 15)) (defBody (topS 15)) (defScope (topS 15)) .none kV15 dc15 pm15 an15 cd15 ct15), sl15⟩) (c15 : PySem.W.codeIn K cd15 "_law_odd" = true) (k15 : PySem.W.keepIn K (.ref f15) = true)
    (a16 : PySem.W.nsIn K mainGlobals "_law_number" = some (some (.ref f16))) (l16 : K.lookup f16 = some ⟨oc16, od16, .func (PySem.W.fnOf "_law_number" "_law_number" (defArgs (topS 16)) (defBody (topS 16)) (defScope (topS 16)) .none kV16 dc16 pm16 an16 cd16 ct16), sl16⟩) (c16 : PySem.W.codeIn K cd16 "_law_number" = true) (k16 : PySem.W.keepIn K (.ref f16) = true)
    (a17 : PySem.W.nsIn K mainGlobals "_law_great" = some (some (.ref f17))) (l17 : K.lookup f17 = some ⟨oc17, od17, .func (PySem.W.fnOf "_law_great" "_law_great" (defArgs (topS 17)) (defBody (topS 17)) (defScope (topS 17)) .none kV17 dc17 pm17 an17 cd17 ct17), sl17⟩) (c17 : PySem.W.codeIn K cd17 "_law_great" = true) (k17 : PySem.W.keepIn K (.ref f17) = true)
    (a18 : PySem.W.nsIn K mainGlobals "_law_spoilt" = some (some (.ref f18))) (l18 : K.lookup f18 = some ⟨oc18, od18, .func (PySem.W.fnOf "_law_spoilt" "_law_spoilt" (defArgs (topS 18)) (defBody (topS 18)) (defScope (topS 18)) .none kV18 dc18 pm18 an18 cd18 ct18), sl18⟩) (c18 : PySem.W.codeIn K cd18 "_law_spoilt" = true) (k18 : PySem.W.keepIn K (.ref f18) = true)
    (a19 : PySem.W.nsIn K mainGlobals "_law_worded" = some (some (.ref f19))) (l19 : K.lookup f19 = some ⟨oc19, od19, .func (PySem.W.fnOf "_law_worded" "_law_worded" (defArgs (topS 19)) (defBody (topS 19)) (defScope (topS 19)) .none kV19 dc19 pm19 an19 cd19 ct19), sl19⟩) (c19 : PySem.W.codeIn K cd19 "_law_worded" = true) (k19 : PySem.W.keepIn K (.ref f19) = true)
    (a20 : PySem.W.nsIn K mainGlobals "_law_operanded" = some (some (.ref f20))) (l20 : K.lookup f20 = some ⟨oc20, od20, .func (PySem.W.fnOf "_law_operanded" "_law_operanded" (defArgs (topS 20)) (defBody (topS 20)) (defScope (topS 20)) .none kV20 dc20 pm20 an20 cd20 ct20), sl20⟩) (c20 : PySem.W.codeIn K cd20 "_law_operanded" = true) (k20 : PySem.W.keepIn K (.ref f20) = true)
    (a21 : PySem.W.nsIn K mainGlobals "_law_paired" = some (some (.ref f21))) (l21 : K.lookup f21 = some ⟨oc21, od21, .func (PySem.W.fnOf "_law_paired" "_law_paired" (defArgs (topS 21)) (defBody (topS 21)) (defScope (topS 21)) .none kV21 dc21 pm21 an21 cd21 ct21), sl21⟩) (c21 : PySem.W.codeIn K cd21 "_law_paired" = true) (k21 : PySem.W.keepIn K (.ref f21) = true)
    (a22 : PySem.W.nsIn K mainGlobals "_law_objected" = some (some (.ref f22))) (l22 : K.lookup f22 = some ⟨oc22, od22, .func (PySem.W.fnOf "_law_objected" "_law_objected" (defArgs (topS 22)) (defBody (topS 22)) (defScope (topS 22)) .none kV22 dc22 pm22 an22 cd22 ct22), sl22⟩) (c22 : PySem.W.codeIn K cd22 "_law_objected" = true) (k22 : PySem.W.keepIn K (.ref f22) = true)
    (a23 : PySem.W.nsIn K mainGlobals "_law_objects" = some (some (.ref f23))) (l23 : K.lookup f23 = some ⟨oc23, od23, .func (PySem.W.fnOf "_law_objects" "_law_objects" (defArgs (topS 23)) (defBody (topS 23)) (defScope (topS 23)) .none kV23 dc23 pm23 an23 cd23 ct23), sl23⟩) (c23 : PySem.W.codeIn K cd23 "_law_objects" = true) (k23 : PySem.W.keepIn K (.ref f23) = true)
    (a24 : PySem.W.nsIn K mainGlobals "_law_fixed" = some (some (.ref f24))) (l24 : K.lookup f24 = some ⟨oc24, od24, .func (PySem.W.fnOf "_law_fixed" "_law_fixed" (defArgs (topS 24)) (defBody (topS 24)) (defScope (topS 24)) .none kV24 dc24 pm24 an24 cd24 ct24), sl24⟩) (c24 : PySem.W.codeIn K cd24 "_law_fixed" = true) (k24 : PySem.W.keepIn K (.ref f24) = true)
    (a25 : PySem.W.nsIn K mainGlobals "law" = some (some (.ref f25))) (l25 : K.lookup f25 = some ⟨oc25, od25, .func (PySem.W.fnOf "law" "law" (defArgs (topS 25)) (defBody (topS 25)) (defScope (topS 25)) .none kV25 dc25 pm25 an25 cd25 ct25), sl25⟩) (c25 : PySem.W.codeIn K cd25 "law" = true) (k25 : PySem.W.keepIn K (.ref f25) = true)
    (aL : PySem.W.nsIn K mainGlobals "LONGEST_WORD" = some (some (.int 8 tL))) (z0 : PySem.W.nsIn K mainGlobals "isinstance" = some none) (z1 : PySem.W.nsIn K mainGlobals "int" = some none) (z2 : PySem.W.nsIn K mainGlobals "bool" = some none) (z3 : PySem.W.nsIn K mainGlobals "str" = some none) (z4 : PySem.W.nsIn K mainGlobals "tuple" = some none) (z5 : PySem.W.nsIn K mainGlobals "list" = some none) (z6 : PySem.W.nsIn K mainGlobals "len" = some none) (z7 : PySem.W.nsIn K mainGlobals "all" = some none) (z8 : PySem.W.nsIn K mainGlobals "zip" = some none) (z9 : PySem.W.nsIn K mainGlobals "range" = some none) (z10 : PySem.W.nsIn K mainGlobals "ord" = some none) (z11 : PySem.W.nsIn K mainGlobals "sorted" = some none) (z12 : PySem.W.nsIn K mainGlobals "set" = some none) (z13 : PySem.W.nsIn K mainGlobals "repr" = some none) :
    ∃ fd : FuncData, (∀ (s : Shared) (v : Value), BindsTo s fd ⟨[v], []⟩ [("_law_script", v)]) ∧ ∀ base : Heap, K.In base → base.Ns mainGlobals mg → FnG l.prog w K mg base 7 fa fd ["_law_script"] (spLaw K) := by
  have e := hfa.symm.trans (PySem.W.mg_of X G a25)
  cases e
  have B : Bt mg := ⟨PySem.W.mg_none_of X G z0, PySem.W.mg_none_of X G z1, PySem.W.mg_none_of X G z2, PySem.W.mg_none_of X G z3, PySem.W.mg_none_of X G z4, PySem.W.mg_none_of X G z5, PySem.W.mg_none_of X G z6, PySem.W.mg_none_of X G z7, PySem.W.mg_none_of X G z8, PySem.W.mg_none_of X G z9, PySem.W.mg_none_of X G z10, PySem.W.mg_none_of X G z11, PySem.W.mg_none_of X G z12, PySem.W.mg_none_of X G z13⟩
  have F2 := fun_mk (st := topS 2) l2 c2 k2
  have D2 : Df K mg "is_number" (topS 2) ["thing"] f2 _ := ⟨F2, F2.binds (ps := ["thing"]) fun _ _ _ _ _ _ us hl => match us, hl with | [_], _ => rfl, PySem.W.mg_of X G a2⟩
  have F3 := fun_mk (st := topS 3) l3 c3 k3
  have D3 : Df K mg "is_word" (topS 3) ["thing"] f3 _ := ⟨F3, F3.binds (ps := ["thing"]) fun _ _ _ _ _ _ us hl => match us, hl with | [_], _ => rfl, PySem.W.mg_of X G a3⟩
  have F4 := fun_mk (st := topS 4) l4 c4 k4
  have D4 : Df K mg "is_operand" (topS 4) ["thing"] f4 _ := ⟨F4, F4.binds (ps := ["thing"]) fun _ _ _ _ _ _ us hl => match us, hl with | [_], _ => rfl, PySem.W.mg_of X G a4⟩
  have F5 := fun_mk (st := topS 5) l5 c5 k5
  have D5 : Df K mg "is_pair" (topS 5) ["thing"] f5 _ := ⟨F5, F5.binds (ps := ["thing"]) fun _ _ _ _ _ _ us hl => match us, hl with | [_], _ => rfl, PySem.W.mg_of X G a5⟩
  have F6 := fun_mk (st := topS 6) l6 c6 k6
  have D6 : Df K mg "has_rising_firsts" (topS 6) ["pairs"] f6 _ := ⟨F6, F6.binds (ps := ["pairs"]) fun _ _ _ _ _ _ us hl => match us, hl with | [_], _ => rfl, PySem.W.mg_of X G a6⟩
  have F7 := fun_mk (st := topS 7) l7 c7 k7
  have D7 : Df K mg "is_object" (topS 7) ["thing"] f7 _ := ⟨F7, F7.binds (ps := ["thing"]) fun _ _ _ _ _ _ us hl => match us, hl with | [_], _ => rfl, PySem.W.mg_of X G a7⟩
  have F8 := fun_mk (st := topS 8) l8 c8 k8
  have D8 : Df K mg "is_objects" (topS 8) ["thing"] f8 _ := ⟨F8, F8.binds (ps := ["thing"]) fun _ _ _ _ _ _ us hl => match us, hl with | [_], _ => rfl, PySem.W.mg_of X G a8⟩
  have F10 := fun_mk (st := topS 10) l10 c10 k10
  have D10 : Df K mg "_law_feed" (topS 10) ["_law_script"] f10 _ := ⟨F10, F10.binds (ps := ["_law_script"]) fun _ _ _ _ _ _ us hl => match us, hl with | [_], _ => rfl, PySem.W.mg_of X G a10⟩
  have F11 := fun_mk (st := topS 11) l11 c11 k11
  have D11 : Df K mg "_law_draw" (topS 11) ["_law_feed_here", "_law_many"] f11 _ := ⟨F11, F11.binds (ps := ["_law_feed_here", "_law_many"]) fun _ _ _ _ _ _ us hl => match us, hl with | [_, _], _ => rfl, PySem.W.mg_of X G a11⟩
  have F12 := fun_mk (st := topS 12) l12 c12 k12
  have D12 : Df K mg "_law_after" (topS 12) ["_law_word_here"] f12 _ := ⟨F12, F12.binds (ps := ["_law_word_here"]) fun _ _ _ _ _ _ us hl => match us, hl with | [_], _ => rfl, PySem.W.mg_of X G a12⟩
  have F13 := fun_mk (st := topS 13) l13 c13 k13
  have D13 : Df K mg "_law_word" (topS 13) ["_law_feed_here", "_law_found"] f13 _ := ⟨F13, F13.binds (ps := ["_law_feed_here", "_law_found"]) fun _ _ _ _ _ _ us hl => match us, hl with | [_, _], _ => rfl, PySem.W.mg_of X G a13⟩
  have F14 := fun_mk (st := topS 14) l14 c14 k14
  have D14 : Df K mg "_law_bend" (topS 14) ["_law_feed_here", "_law_thing", "_law_odd_here"] f14 _ := ⟨F14, F14.binds (ps := ["_law_feed_here", "_law_thing", "_law_odd_here"]) fun _ _ _ _ _ _ us hl => match us, hl with | [_, _, _], _ => rfl, PySem.W.mg_of X G a14⟩
  have F15 := fun_mk (st := topS 15) l15 c15 k15
  have D15 : Df K mg "_law_odd" (topS 15) [] f15 _ := ⟨F15, F15.binds (ps := []) fun _ _ _ _ _ _ us hl => match us, hl with | [], _ => rfl, PySem.W.mg_of X G a15⟩
  have F16 := fun_mk (st := topS 16) l16 c16 k16
  have D16 : Df K mg "_law_number" (topS 16) ["_law_thing"] f16 _ := ⟨F16, F16.binds (ps := ["_law_thing"]) fun _ _ _ _ _ _ us hl => match us, hl with | [_], _ => rfl, PySem.W.mg_of X G a16⟩
  have F17 := fun_mk (st := topS 17) l17 c17 k17
  have D17 : Df K mg "_law_great" (topS 17) ["_law_feed_here"] f17 _ := ⟨F17, F17.binds (ps := ["_law_feed_here"]) fun _ _ _ _ _ _ us hl => match us, hl with | [_], _ => rfl, PySem.W.mg_of X G a17⟩
  have F18 := fun_mk (st := topS 18) l18 c18 k18
  have D18 : Df K mg "_law_spoilt" (topS 18) ["_law_feed_here", "_law_word_here"] f18 _ := ⟨F18, F18.binds (ps := ["_law_feed_here", "_law_word_here"]) fun _ _ _ _ _ _ us hl => match us, hl with | [_, _], _ => rfl, PySem.W.mg_of X G a18⟩
  have F19 := fun_mk (st := topS 19) l19 c19 k19
  have D19 : Df K mg "_law_worded" (topS 19) ["_law_thing"] f19 _ := ⟨F19, F19.binds (ps := ["_law_thing"]) fun _ _ _ _ _ _ us hl => match us, hl with | [_], _ => rfl, PySem.W.mg_of X G a19⟩
  have F20 := fun_mk (st := topS 20) l20 c20 k20
  have D20 : Df K mg "_law_operanded" (topS 20) ["_law_thing"] f20 _ := ⟨F20, F20.binds (ps := ["_law_thing"]) fun _ _ _ _ _ _ us hl => match us, hl with | [_], _ => rfl, PySem.W.mg_of X G a20⟩
  have F21 := fun_mk (st := topS 21) l21 c21 k21
  have D21 : Df K mg "_law_paired" (topS 21) ["_law_thing"] f21 _ := ⟨F21, F21.binds (ps := ["_law_thing"]) fun _ _ _ _ _ _ us hl => match us, hl with | [_], _ => rfl, PySem.W.mg_of X G a21⟩
  have F22 := fun_mk (st := topS 22) l22 c22 k22
  have D22 : Df K mg "_law_objected" (topS 22) ["_law_thing"] f22 _ := ⟨F22, F22.binds (ps := ["_law_thing"]) fun _ _ _ _ _ _ us hl => match us, hl with | [_], _ => rfl, PySem.W.mg_of X G a22⟩
  have F23 := fun_mk (st := topS 23) l23 c23 k23
  have D23 : Df K mg "_law_objects" (topS 23) ["_law_feed_here"] f23 _ := ⟨F23, F23.binds (ps := ["_law_feed_here"]) fun _ _ _ _ _ _ us hl => match us, hl with | [_], _ => rfl, PySem.W.mg_of X G a23⟩
  have F24 := fun_mk (st := topS 24) l24 c24 k24
  have D24 : Df K mg "_law_fixed" (topS 24) [] f24 _ := ⟨F24, F24.binds (ps := []) fun _ _ _ _ _ _ us hl => match us, hl with | [], _ => rfl, PySem.W.mg_of X G a24⟩
  have F25 := fun_mk (st := topS 25) l25 c25 k25
  refine ⟨PySem.W.fnOf "law" "law" (defArgs (topS 25)) (defBody (topS 25)) (defScope (topS 25)) .none kV25 dc25 pm25 an25 cd25 ct25, fun s v => .of_eq rfl, fun base _ _ => ?_⟩
  have G2 := ok_num (P := l.prog) (w := w) (base := base) D2 B
  have G3 := ok_word (P := l.prog) (w := w) (base := base) D3 B ⟨_, PySem.W.mg_of X G aL⟩
  have G4 := ok_oper D4 D2 D3 G2 G3
  have G5 := ok_pair (P := l.prog) (w := w) (base := base) D5 B
  have G6 := ok_rise (P := l.prog) (w := w) (base := base) D6 B
  have G7 := ok_obj D7 D2 D3 D5 G2 G3 G5
  have G8 := ok_objs D8 D7 D6 B G7 G6
  have G10 := ok_feed (P := l.prog) (w := w) (base := base) D10
  have G11 := ok_draw (P := l.prog) (w := w) (base := base) D11 B
  have G12 := ok_after (P := l.prog) (w := w) (base := base) D12 B
  have G13 := ok_lw D13 D11 D12 B G11 G12
  have G14 := ok_bend D14 D11 B G11
  have G15 := ok_odd (P := l.prog) (w := w) (base := base) D15
  have G16 := ok_lnum (P := l.prog) (w := w) (base := base) D16 B
  have G17 := ok_great D17 D11 B G11
  have G18 := ok_spoilt D18 D11 B G11
  have G19 := ok_lword (P := l.prog) (w := w) (base := base) D19 B
  have G20 := ok_loper D20 D16 D19 G16 G19
  have G21 := ok_lpair D21 D19 B G19
  have G22 := ok_lobj D22 D16 D21 B G16 G21
  have G23 := ok_objs2 D23 D11 D13 B G11 G13
  have G24 := ok_fixed (P := l.prog) (w := w) (base := base) D24 B
  exact ok_law F25 B D10 G10 D15 G15 D24 G24 D13 G13 D17 G17 D23 G23 D18 G18 D2 G2 D3 G3 D4 G4 D8 G8 D16 G16 D19 G19 D20 G20 D22 G22 D14 (G14 3) (G14 5)
theorem walk {l : PySem.W.OpenLaw} {q : Program} {loose : List Str} {XP : (Str → Option Value) → Heap → Prop} {YP : World → Heap → Prop} {d : DefRec} {K : Params → PySem.W.Frag} (hn : l.most = some 63) (hdf : d.params.defaults = [])
    (hY : ∀ (w : World) (h : Heap), YP w h → (K w.params).In h)
    (F : ∀ (w : World) (mg : Str → Option Value) (fa : Addr) (h : Heap), (K w.params).In h → h.Ns mainGlobals mg → mg d.name = some (.ref fa) →
      ∃ fd : FuncData, (∀ (s : Shared) (u : Value), BindsTo s fd ⟨[u], []⟩ [("_law_script", u)]) ∧ ∀ base : Heap, (K w.params).In base → base.Ns mainGlobals mg → FnG l.prog w (K w.params) mg base 7 fa fd ["_law_script"] (spLaw (K w.params))) :
    PySem.W.WalkO q loose XP YP l.row.toRowW d [] (fun f vs => PySem.call f vs) :=
  walkG (n := 63) (k := 7) (x := "_law_script") (sp := spLaw) hn (by decide) hdf ⟨rfl, by decide, by decide⟩ hY F (fun K H a ns hl _ hS => ⟨a, ns, rfl, hS, hl, fun _ => rfl⟩)
end Sw
open PySem PySem.W PyProof.Rows
set_option maxRecDepth 100000 in
set_option maxHeartbeats 0 in
theorem PySem.Challenge.cw_storeways_k01_kinds_holds : PySem.Challenge.rw_storeways_k01_kinds.Holds := by
  w_on; o_law; k_head; (case hw => w_witness2)
  k_fill
  refine Sw.walk (l := PySem.Challenge.rw_storeways_k01_kinds) rfl rfl (fun w h Y => PySem.W.kIn_of Y) ?F
  case F =>
    intro w mg fa h KX G hmg
    refine' Sw.all_mk KX G hmg ?a2 ?l2 ?c2 ?k2 ?a3 ?l3 ?c3 ?k3 ?a4 ?l4 ?c4 ?k4 ?a5 ?l5 ?c5 ?k5 ?a6 ?l6 ?c6 ?k6 ?a7 ?l7 ?c7 ?k7 ?a8 ?l8 ?c8 ?k8 ?a10 ?l10 ?c10 ?k10 ?a11 ?l11 ?c11 ?k11 ?a12 ?l12 ?c12 ?k12 ?a13 ?l13 ?c13 ?k13 ?a14 ?l14 ?c14 ?k14 ?a15 ?l15 ?c15 ?k15 ?a16 ?l16 ?c16 ?k16 ?a17 ?l17 ?c17 ?k17 ?a18 ?l18 ?c18 ?k18 ?a19 ?l19 ?c19 ?k19 ?a20 ?l20 ?c20 ?k20 ?a21 ?l21 ?c21 ?k21 ?a22 ?l22 ?c22 ?k22 ?a23 ?l23 ?c23 ?k23 ?a24 ?l24 ?c24 ?k24 ?a25 ?l25 ?c25 ?k25 ?aL ?z0 ?z1 ?z2 ?z3 ?z4 ?z5 ?z6 ?z7 ?z8 ?z9 ?z10 ?z11 ?z12 ?z13
    (case a2 => k_is); (case l2 => k_is); (case c2 => k_is); (case k2 => k_is); (case a3 => k_is); (case l3 => k_is); (case c3 => k_is); (case k3 => k_is)
    (case a4 => k_is); (case l4 => k_is); (case c4 => k_is); (case k4 => k_is); (case a5 => k_is); (case l5 => k_is); (case c5 => k_is); (case k5 => k_is)
    (case a6 => k_is); (case l6 => k_is); (case c6 => k_is); (case k6 => k_is); (case a7 => k_is); (case l7 => k_is); (case c7 => k_is); (case k7 => k_is)
    (case a8 => k_is); (case l8 => k_is); (case c8 => k_is); (case k8 => k_is); (case a10 => k_is); (case l10 => k_is); (case c10 => k_is); (case k10 => k_is)
    (case a11 => k_is); (case l11 => k_is); (case c11 => k_is); (case k11 => k_is); (case a12 => k_is); (case l12 => k_is); (case c12 => k_is); (case k12 => k_is)
    (case a13 => k_is); (case l13 => k_is); (case c13 => k_is); (case k13 => k_is); (case a14 => k_is); (case l14 => k_is); (case c14 => k_is); (case k14 => k_is)
    (case a15 => k_is); (case l15 => k_is); (case c15 => k_is); (case k15 => k_is); (case a16 => k_is); (case l16 => k_is); (case c16 => k_is); (case k16 => k_is)
    (case a17 => k_is); (case l17 => k_is); (case c17 => k_is); (case k17 => k_is); (case a18 => k_is); (case l18 => k_is); (case c18 => k_is); (case k18 => k_is)
    (case a19 => k_is); (case l19 => k_is); (case c19 => k_is); (case k19 => k_is); (case a20 => k_is); (case l20 => k_is); (case c20 => k_is); (case k20 => k_is)
    (case a21 => k_is); (case l21 => k_is); (case c21 => k_is); (case k21 => k_is); (case a22 => k_is); (case l22 => k_is); (case c22 => k_is); (case k22 => k_is)
    (case a23 => k_is); (case l23 => k_is); (case c23 => k_is); (case k23 => k_is); (case a24 => k_is); (case l24 => k_is); (case c24 => k_is); (case k24 => k_is)
    (case a25 => k_is); (case l25 => k_is); (case c25 => k_is); (case k25 => k_is); (case aL => k_is); (case z0 => k_is); (case z1 => k_is); (case z2 => k_is)
    (case z3 => k_is); (case z4 => k_is); (case z5 => k_is); (case z6 => k_is); (case z7 => k_is); (case z8 => k_is); (case z9 => k_is); (case z10 => k_is)
    (case z11 => k_is); (case z12 => k_is); (case z13 => k_is)
