import PyProof.Rows.All
import Wide.All
import OpenK.AllK
import Wide.FinOn
import HandS.ForMost
import HandS.IsInst
import HandS.EndBits
import PyProof.ReprRoads
import HandS.Walk
import HandS.TupAny
import HandS.Style
import HandS.Zip
import HandS.Set
import HandS.SetFor
import PyProof.Rows.SortShellAny
import HandS.Codes
import HandS.Flow
import HandS.StrMore
import PyProof.StrBlock2
import HandS.Wide
import PyProof.Rows.IntBool
import KE.KDictPairs
import HandS.Dict
import PyProof.SetRoads
import HandS.SortOrd
import HandS.SortRule
import PyProof.Rows.SortKeyStr
import HandS.Conv
import HandS.Strs
import HandS.Sort
import PySem.Challenge.RW_storeways_k02_addresses
set_option Elab.async false
set_option linter.all false
set_option maxRecDepth 100000
set_option maxHeartbeats 4000000
namespace Sw
open PySem PySem.Spec PyProof.Rows L2

/-- repr of data at a place, where no repr is under way -/
def rRepr (K : PySem.W.Frag) : List V → Hp → VK → Prop := fun xs H Q =>
  ∃ (a : Addr) (d : PyData), xs = [.ref a] ∧ Dp K H (.ref a) d ∧ d.showable = true ∧ d.hasDict = false ∧ d.depth ≤ 60 ∧ d.shown.length ≤ sizeLine ∧ Q (.str d.shown) H
theorem call_repr {X : Cx} (hg : X.A.guards = some []) (hu : X.A.units + 64 < cLine) : CallR X (.builtin "repr") (rRepr X.K) := by
  intro pins s σ H xs us Q I r h
  obtain ⟨a, d, rfl, hd, h1, h2, h3, h4, q⟩ := h
  cases r with
  | cons r0 r1 =>
    cases r1
    cases (show _ = Value.ref a from r0)
    obtain ⟨as, rd⟩ := Dp.reads I d _ _ hd rfl
    exact repr_of_reads' rd h1 (PyData.noDict_hsm h2) hg (by omega) (fun b o e => e) (fun h' u tk k => ⟨.str d.shown, H, I.kept k, ⟨u, rfl⟩, q⟩) h4

/-- a promise that is kept where no repr is under way -/
structure FnG (P : Program) (w : World) (K : PySem.W.Frag) (mg : Str → Option Value) (base : Heap) (k : Nat) (f : Addr) (fd : FuncData) (ps : List Str) (sp : Sp) : Prop where
  size : ∀ vs H Q E, sp vs H Q E → vs.length = ps.length
  goes : ∀ (A : Around) (outer : List Env) (s : Shared) (H : Hp) (args : Args) (us : List Value) (vs : List V) (Q : VK) (E : XK), A.guards = some [] →
    Room k A → Env0 P w K mg base A outer s H → BindsTo s fd args (ps.zip us) → Vals vs us → sp vs H Q E → codeAny (model P w) A (.call (.ref f) args) (CR CX0 outer P w H s Q E) s
section
variable {P : Program} {w : World} {K : PySem.W.Frag} {mg : Str → Option Value} {base : Heap}
theorem fun_okG {x qual : Str} {st : Stmt} {f : Addr} {fd : FuncData} {N ps : List Str} {k : Nat} {sp : Sp} (F : Fun K x qual st f fd) (S : FnScope N ps (defScope st))
    (len : ∀ vs H Q E, sp vs H Q E → vs.length = ps.length)
    (hb : ∀ (cdv : Value) (A : Around) (outer : List Env) (s : Shared) (H : Hp) (vs : List V) (Q : VK) (E : XK), A.guards = some [] → Room k (A.deeper (envOfC qual (defScope st) s.heap.objs.size f cdv)) → sp vs H Q E →
      ∃ t, PSs (cxOf CX0 P w K mg base N qual (defScope st) f cdv A outer s H E).nox (defBody st) t ∧
        t { nx := fun _ H' => Q .non H', rt := Q } (start N vs) H) : FnG P w K mg base (k + 1) f fd ps sp := by
  refine ⟨len, fun A outer s H args us vs Q E hg => ?_⟩
  obtain ⟨oc, od, kV, doc, pm, an, cdv, ct, osl, rfl, lk, hcd⟩ := F.ex
  intro hr e0 bd r hsp
  obtain ⟨t, ht0, hq⟩ := hb cdv A outer s H vs Q E hg (hr.deeper _) hsp
  have ht := ht0.nox
  have kin : K.In s.heap := e0.mod.kin.keeps fun b o e => (e0.bs b o e).1
  refine codeAny_call_function hr.depth (kin _ _ lk) rfl S.co S.gen rfl (PySem.W.codeRec_of kin hcd) (bd _ _ _ _ ?_)
  refine wpAny_newFunctionEnv_cells S.kind ?_ fun env he s1 x => ?_
  · rintro ⟨n, v⟩ hy
    rcases S.par n (List.of_mem_zip hy).1 with q | q
    · exact .inl q
    · exact .inr ⟨q, PySem.W.cellsFrom_some _ _ _ (.inl q)⟩
  · subst he
    refine ⟨(e0.mod.nolimit.keeps fun b o e => (e0.bs b o e).1).keeps x.toInCall.keep, codeAny_func ?_⟩
    refine wpAny_mono (ht.run [] s1 (start N vs) H _ (inv_start S hr.hd e0 (len _ _ _ _ hsp) r x) hq) (fun fl s' hs => ?_) fun e s' hs => hs
    cases fl with
    | ret u =>
      obtain ⟨v, σ', H', J, rv, q⟩ := hs
      exact ⟨v, H', J.os, J.bare, J.base, J.hok, rv, q⟩
    | next =>
      obtain ⟨σ', H', J, q⟩ := hs
      exact ⟨V.non, H', J.os, J.bare, J.base, J.hok, rfl, q⟩
    | brk =>
      obtain ⟨_, _, _, q⟩ := hs
      exact q.elim
    | cont =>
      obtain ⟨_, _, _, q⟩ := hs
      exact q.elim
end
/-- the law's own call, from the promise of its def: the script is locked, or it is one of the module's own objects -/
theorem law_goes {P : Program} {w : World} {K : PySem.W.Frag} {mg mb : Str → Option Value} {k : Nat} {fa a : Addr} {fd : FuncData} {x : Str} {sp : Sp} {s : Shared} {vs : List Value} {ns : List Int}
    (kin : K.In s.heap) (g : s.heap.Ns mainGlobals mg) (b : s.heap.Ns builtinsNs mb) (hbb : ∀ y : Str, y ≠ "__name__" → mb y = bootBuiltins y) (nl : s.heap.NoLimit) (gn : s.gens = #[])
    (ha : s.heap.get? a = some { cls := .type "list", data := .seq vs.toArray }) (hi : IntsAre vs ns) (hl : ns.length ≤ sizeLine) (hr : Room k callerA)
    (F : ∀ base : Heap, K.In base → base.Ns mainGlobals mg → FnG P w K mg base k fa fd [x] sp) (bd : ∀ (s : Shared) (u : Value), BindsTo s fd ⟨[u], []⟩ [(x, u)])
    (hsp : ∀ H : Hp, SqL K H a (ns.map V.int) → sp [.ref a] H (fun v _ => v = .bl true) fun _ _ _ => False) :
    codeAny (model P w) callerA (.call (.ref fa) ⟨[.ref a], []⟩) (fun r s' => r = .ok (.ret (.bool true)) ∧ OldK s.heap s'.heap ∧ s'.os = s.os ∧ AllBare s'.gens) s := by
  have rv := vals_ints hi
  have step : ∀ H : Hp, SqL K H a (ns.map V.int) → HOk P w H s.heap → (∀ c u, H c = some u → c = a ∧ u = .frz { cls := .type "list", data := .seq vs.toArray } (.lst (ns.map V.int)) ∧ K.lookup a = none) →
      codeAny (model P w) callerA (.call (.ref fa) ⟨[.ref a], []⟩) (fun r s' => r = .ok (.ret (.bool true)) ∧ OldK s.heap s'.heap ∧ s'.os = s.os ∧ AllBare s'.gens) s := by
    intro H hS hok only
    have dictFree : ∀ {c : Addr} {o : Obj} {es : Array DictEntry} {ep : Nat}, s.heap.get? c = some o → o.data = .dict es ep → H c = none := by
      intro c o es ep e d
      cases q : H c with
      | none => rfl
      | some u =>
        obtain ⟨rfl, _, _⟩ := only c u q
        rw [ha] at e
        cases e
        cases d
    have ns2 : ∀ {c : Addr} {m : Str → Option Value}, s.heap.Ns c m → (hidT s.heap H).Ns c m := by
      rintro c m ⟨o, es, ep, e, d, r⟩
      exact ⟨o, es, ep, hidT_get e (dictFree e d), d, r⟩
    have kb : K.In (hidT s.heap H) := by
      intro c o e
      refine hidT_get (kin c o e) ?_
      cases q : H c with
      | none => rfl
      | some u =>
        obtain ⟨rfl, _, z⟩ := only c u q
        rw [z] at e
        cases e
    have md : Mod K mg (hidT s.heap H) := ⟨kb, ns2 g, ⟨mb, ns2 b, hbb⟩, by
      obtain ⟨mc, h1, h2⟩ := nl
      exact ⟨mc, ns2 h1, h2⟩⟩
    have e0 : Env0 P w K mg (hidT s.heap H) callerA [] s H := ⟨rfl, md, fun c o e => of_hidT e, Nat.le_of_eq (hidT_size _ _), trivial, fun c hc => (nomatch hc), hok, .of_eq gn⟩
    refine codeAny_mono ((F _ kb (ns2 g)).goes callerA [] s H ⟨[.ref a], []⟩ [.ref a] [.ref a] _ _ rfl hr e0 (bd s (.ref a)) (.cons rfl .nil) (hsp H hS)) ?_
    intro r s' h
    cases r with
    | error e => exact h.elim
    | ok fl =>
      cases fl with
      | ret u =>
        obtain ⟨v, H', os, bare, un, hok', r', q⟩ := h
        cases (show v = .bl true from q)
        cases (show u = Value.bool true from r')
        refine ⟨rfl, OldK.of_keep fun c o e => ?_, os, bare⟩
        cases q : H c with
        | none => exact un.keep c o e q (fun z => nomatch z) (fun z => nomatch z)
        | some u =>
          obtain ⟨rfl, rfl, _⟩ := only c u q
          obtain ⟨e2, _⟩ := hok' _ _ (un.frzs _ _ _ q)
          rw [ha] at e
          cases e
          exact e2
      | next => exact False.elim h
      | brk => exact False.elim h
      | cont => exact False.elim h
  cases hk : K.lookup a with
  | some o =>
    have e := kin a o hk
    rw [ha] at e
    cases e
    refine step (fun _ => none) (.inr ⟨_, vs.toArray, _, hk, rfl, rfl, rfl, ?_, by simpa using rv⟩) (fun c u z => nomatch z) (fun c u z => nomatch z)
    rw [List.size_toArray, hi.length]
    exact hl
  | none =>
    refine step (fun c => if c = a then some (.frz { cls := .type "list", data := .seq vs.toArray } (.lst (ns.map V.int))) else none) (.inl (.inr ⟨_, if_pos rfl⟩)) ?_ ?_
    · intro c u z
      by_cases hc : c = a
      · have z' := (if_pos hc).symm.trans z
        cases z'
        subst hc
        exact ⟨ha, by rw [List.length_map]; exact hl, vs, _, rv, ha⟩
      · have z' := (if_neg hc).symm.trans z
        cases z'
    · intro c u z
      by_cases hc : c = a
      · have z' := (if_pos hc).symm.trans z
        exact ⟨hc, (Option.some.inj z').symm, hk⟩
      · have z' := (if_neg hc).symm.trans z
        cases z'
/-- the goal that k_head leaves, from the promise of the law's def -/
theorem walkG {l : PySem.W.OpenLaw} {n k : Nat} {q : Program} {loose : List Str} {XP : (Str → Option Value) → Heap → Prop} {YP : World → Heap → Prop} {d : DefRec} {K : Params → PySem.W.Frag} {sp : PySem.W.Frag → Sp} {x : Str}
    (hn : l.most = some n) (hn2 : n ≤ sizeLine) (hdf : d.params.defaults = []) (hr : Room k callerA) (hY : ∀ (w : World) (h : Heap), YP w h → (K w.params).In h)
    (F : ∀ (w : World) (mg : Str → Option Value) (fa : Addr) (h : Heap), (K w.params).In h → h.Ns mainGlobals mg → mg d.name = some (.ref fa) →
      ∃ fd : FuncData, (∀ (s : Shared) (u : Value), BindsTo s fd ⟨[u], []⟩ [(x, u)]) ∧ ∀ base : Heap, (K w.params).In base → base.Ns mainGlobals mg → FnG l.prog w (K w.params) mg base k fa fd [x] (sp (K w.params)))
    (hsp : ∀ (K : PySem.W.Frag) (H : Hp) (a : Addr) (ns : List Int), ns.length ≤ n → (∀ z ∈ ns, Builtin.Int.intBits z ≤ 1048576) → SqL K H a (ns.map V.int) → sp K [.ref a] H (fun v _ => v = .bl true) fun _ _ _ => False) :
    PySem.W.WalkO q loose XP YP l.row.toRowW d [] (fun f vs => PySem.call f vs) := by
  refine Att.attach_callB hn hdf ?_
  intro w s₀ s₁ mg mb fa o pm cd doc a vs ns G Y ho hd hcd hmg hobj hints hlen hbits hg
  obtain ⟨fd, hb, hF⟩ := F w mg fa _ (hY w _ Y) G.T.g hmg
  exact law_goes (hY w _ Y) G.T.g G.T.b G.T.builtins G.T.nolimit hg hobj hints (Nat.le_trans hlen hn2) hr hF hb fun H hS => hsp _ H a ns hlen hbits hS
end Sw
set_option maxRecDepth 100000
set_option maxHeartbeats 4000000
namespace Sw
open PySem PySem.Spec PyProof.Rows L2

/-! ### heaps -/
theorem same_new {H : Hp} {p : Addr} {o : HO} (h : H p = none) : Same H (upd H p o) := fun b x e => by
  rw [upd_ne (ne_of_none e h)]
  exact e
theorem sameT {K : PySem.W.Frag} {H H' : Hp} {a : Addr} {xs : List V} (e : Same H H') (h : SqT K H a xs) : SqT K H' a xs := by
  rcases h with (h | ⟨o, h⟩) | h
  · exact .inl (.inl (e _ _ h))
  · exact .inl (.inr ⟨o, e _ _ h⟩)
  · exact .inr h
mutual
theorem Dp_same {K : PySem.W.Frag} {H H' : Hp} (e : Same H H') : ∀ {v : V} {d : PyData}, Dp K H v d → Dp K H' v d
  | _, _, .non => .non
  | _, _, .bl b => .bl b
  | _, _, .int i => .int i
  | _, _, .str x => .str x
  | _, _, .lst h r => .lst (e.seq h) (DpAll_same e r)
  | _, _, .tup h r => .tup (sameT e h) (DpAll_same e r)
theorem DpAll_same {K : PySem.W.Frag} {H H' : Hp} (e : Same H H') : ∀ {vs : List V} {ds : List PyData}, DpAll K H vs ds → DpAll K H' vs ds
  | _, _, .nil => .nil
  | _, _, .cons h r => .cons (Dp_same e h) (DpAll_same e r)
end
theorem DpAll_len {K : PySem.W.Frag} {H : Hp} : ∀ {vs : List V} {ds : List PyData}, DpAll K H vs ds → vs.length = ds.length
  | _, _, .nil => rfl
  | _, _, .cons _ r => by rw [List.length_cons, List.length_cons, DpAll_len r]
theorem DpAll_get {K : PySem.W.Frag} {H : Hp} : ∀ {vs : List V} {ds : List PyData} {i : Nat} {v : V}, DpAll K H vs ds → vs[i]? = some v → ∃ d, ds[i]? = some d ∧ Dp K H v d
  | _, _, _, _, .nil, e => by simp at e
  | _, _, 0, _, .cons h _, e => by simp at e; subst e; exact ⟨_, rfl, h⟩
  | _, _, i + 1, v, .cons _ r, e => by
    obtain ⟨d, h1, h2⟩ := DpAll_get (i := i) (v := v) r (by simpa using e)
    exact ⟨d, by simpa using h1, h2⟩
theorem DpAll_get' {K : PySem.W.Frag} {H : Hp} {vs : List V} {ds : List PyData} {i : Nat} {d : PyData} (h : DpAll K H vs ds) (e : ds[i]? = some d) : ∃ v, vs[i]? = some v ∧ Dp K H v d := by
  have hl := DpAll_len h
  obtain ⟨hi, _⟩ := List.getElem?_eq_some_iff.mp e
  have hv : i < vs.length := by omega
  obtain ⟨d', h1, h2⟩ := DpAll_get h (List.getElem?_eq_getElem hv)
  rw [e] at h1
  cases h1
  exact ⟨_, List.getElem?_eq_getElem hv, h2⟩
theorem DpAll_append {K : PySem.W.Frag} {H : Hp} : ∀ {vs us : List V} {ds es : List PyData}, DpAll K H vs ds → DpAll K H us es → DpAll K H (vs ++ us) (ds ++ es)
  | _, _, _, _, .nil, r => r
  | _, _, _, _, .cons h t, r => .cons h (DpAll_append t r)
theorem DpAll_of {K : PySem.W.Frag} {H : Hp} : ∀ {vs : List V} {ds : List PyData}, vs.length = ds.length → (∀ (i : Nat) v d, vs[i]? = some v → ds[i]? = some d → Dp K H v d) → DpAll K H vs ds
  | [], [], _, _ => .nil
  | v :: vs, d :: ds, hl, h => .cons (h 0 v d rfl rfl) (DpAll_of (by simpa using hl) fun i x y e1 e2 => h (i + 1) x y (by simpa using e1) (by simpa using e2))
  | [], _ :: _, hl, _ => by simp at hl
  | _ :: _, [], hl, _ => by simp at hl
theorem DpAll_strs {K : PySem.W.Frag} {H : Hp} : ∀ zs : List Str, DpAll K H (zs.map V.str) (zs.map PyData.str)
  | [] => .nil
  | z :: zs => .cons (.str z) (DpAll_strs zs)

/-! ### comprehensions over what stays: the tests and the items change nothing that stood -/
theorem lc_pure {J : It} {n : Nat} {G : Hp → Prop} {xs : List V} (w : Walk J n G (YAt xs)) {tt : TT} {te : TE} {j : Nat} {σ : L2.St} {H1 : Hp} {D : Addr} {Qd : Hp → Prop} (p : Nat → Bool) (f : Nat → V) (hD : H1 D = none)
    (hG : ∀ H, Same H1 H → G H) (hn : n < sizeLine)
    (ht : ∀ (i : Nat) x H (Q : Bool → Hp → Prop), i < n → xs[i]? = some x → Same H1 H → (∀ H', Same H H' → Q (p i) H') → tt ((wipe σ [j]).set j (some x)) H Q)
    (he : ∀ (i : Nat) x H (Q : VK), i < n → xs[i]? = some x → p i = true → Same H1 H → (∀ H', Same H H' → Q (f i) H') → te ((wipe σ [j]).set j (some x)) H Q)
    (hd : ∀ H', Same H1 H' → H' D = some (.lst (((List.range n).filter p).map f)) → Qd H') :
    ∃ W : Nat → Nat → Hp → Prop, (∃ m, W 0 m (upd H1 D (.lst []))) ∧ ∀ i m H, W i m H → (J.stop i H ∧ Qd H) ∨ (J.go i H ∧ ∃ Nx : Hp → Prop, (∀ H', Nx H' → ∃ m', m' < m ∧ W (i + 1) m' H') ∧
      ∀ x H', J.yld i H x H' → gName j x (wipe σ [j]) H' fun σ2 H2 => wipe σ2 [j] = wipe σ [j] ∧ tt σ2 H2 fun b H3 =>
        if b = true then te σ2 H3 fun y H4 => ∃ acc, H4 D = some (.lst acc) ∧ acc.length < sizeLine ∧ Nx (upd H4 D (.lst (acc ++ [y]))) else Nx H3) := by
  refine lc_it w (fun i H => Same H1 H ∧ H D = some (.lst (((List.range i).filter p).map f))) ⟨same_new hD, by rw [upd_same]; rfl⟩ (fun i H _ h => hG H h.1) ?_ (fun H h => hd H h.1 h.2)
  rintro i x H H' hi ⟨hs, hacc⟩ ⟨rfl, hx⟩
  refine ⟨?_, ?_⟩
  · show ((List.set (List.set σ j none) j (some x)).set j none) = List.set σ j none
    rw [List.set_set, List.set_set]
  have hr : (List.range (i + 1)).filter p = (List.range i).filter p ++ (if p i = true then [i] else []) := by
    rw [List.range_succ, List.filter_append]
    congr 1
    by_cases hp : p i = true <;> simp [hp]
  refine ht i x H' _ hi hx hs fun H2 h2 => ?_
  by_cases hp : p i = true
  · rw [hp]
    refine iteT ?_
    refine he i x H2 _ hi hx hp (hs.trans h2) fun H3 h3 => ?_
    have h3D := h3 _ _ (h2 _ _ hacc)
    refine ⟨_, h3D, ?_, ?_, ?_⟩
    · rw [List.length_map]
      have := List.length_filter_le p (List.range i)
      rw [List.length_range] at this
      omega
    · intro b o e
      rw [upd_ne (ne_of_none e hD)]
      exact h3 _ _ (h2 _ _ (hs _ _ e))
    · rw [upd_same, hr, if_pos hp, List.map_append]
      rfl
  · have hp' : p i = false := by simpa using hp
    rw [hp']
    refine iteF ?_
    refine ⟨hs.trans h2, ?_⟩
    rw [hr, if_neg hp, List.append_nil]
    exact h2 _ _ hacc
theorem range_all {n : Nat} {f : Nat → V} : ((List.range n).filter (fun _ => true)).map f = (List.range n).map f := by
  rw [List.filter_eq_self.mpr (by simp)]
/-- without tests -/
theorem lc_map {J : It} {n : Nat} {G : Hp → Prop} {xs : List V} (w : Walk J n G (YAt xs)) {te : TE} {j : Nat} {σ : L2.St} {H1 : Hp} {D : Addr} {Qd : Hp → Prop} (f : Nat → V) (hD : H1 D = none)
    (hG : ∀ H, Same H1 H → G H) (hn : n < sizeLine)
    (he : ∀ (i : Nat) x H (Q : VK), i < n → xs[i]? = some x → Same H1 H → (∀ H', Same H H' → Q (f i) H') → te ((wipe σ [j]).set j (some x)) H Q)
    (hd : ∀ H', Same H1 H' → H' D = some (.lst ((List.range n).map f)) → Qd H') :
    ∃ W : Nat → Nat → Hp → Prop, (∃ m, W 0 m (upd H1 D (.lst []))) ∧ ∀ i m H, W i m H → (J.stop i H ∧ Qd H) ∨ (J.go i H ∧ ∃ Nx : Hp → Prop, (∀ H', Nx H' → ∃ m', m' < m ∧ W (i + 1) m' H') ∧
      ∀ x H', J.yld i H x H' → gName j x (wipe σ [j]) H' fun σ2 H2 => wipe σ2 [j] = wipe σ [j] ∧ tYes σ2 H2 fun b H3 =>
        if b = true then te σ2 H3 fun y H4 => ∃ acc, H4 D = some (.lst acc) ∧ acc.length < sizeLine ∧ Nx (upd H4 D (.lst (acc ++ [y]))) else Nx H3) :=
  lc_pure w (tt := tYes) (fun _ => true) f hD hG hn (fun i x H Q _ _ _ q => q H (Same.refl H)) (fun i x H Q hi hx _ hs q => he i x H Q hi hx hs q) fun H' hs h => hd H' hs (by rw [h, range_all])
/-- a text's signs as its walk's items -/
theorem walk_signs {z : Str} : Walk (Its z) z.cps.size (fun _ => True) (YAt (z.cps.toList.map fun c => V.str ⟨#[c]⟩)) := by
  refine ⟨walk_str.goes, walk_str.stops, fun i H x H' hi hg y => ?_⟩
  obtain ⟨rfl, c, hc, rfl⟩ := walk_str.yields i H x H' hi hg y
  refine ⟨rfl, ?_⟩
  rw [List.getElem?_map, Array.getElem?_toList, hc]
  rfl
end Sw
set_option maxRecDepth 100000
set_option maxHeartbeats 4000000
namespace Sw
open PySem PySem.Spec PyProof.Rows L2

/-! ### how large data are -/
mutual
/-- leaves: ints at most M, texts of ASCII; no dict -/
def leaf (M : Nat) : PyData → Bool
  | .none | .bool _ => true
  | .int i => decide (i.natAbs ≤ M)
  | .str x => x.cps.toList.all (fun c => decide (c < 128))
  | .list xs | .tuple xs => leafAll M xs
  | .dict _ => false
def leafAll (M : Nat) : List PyData → Bool
  | [] => true
  | x :: xs => leaf M x && leafAll M xs
end
mutual
/-- no list or tuple in it is longer than l -/
def lens (l : Nat) : PyData → Bool
  | .none | .bool _ | .int _ | .str _ => true
  | .list xs | .tuple xs => decide (xs.length ≤ l) && lensAll l xs
  | .dict _ => false
def lensAll (l : Nat) : List PyData → Bool
  | [] => true
  | x :: xs => lens l x && lensAll l xs
end
mutual
/-- at least as much as its text is long -/
def wt : PyData → Nat
  | .none | .bool _ => 5
  | .int _ => 250
  | .str x => 10 * x.length + 5
  | .list xs | .tuple xs => wtAll xs + 5
  | .dict _ => 0
def wtAll : List PyData → Nat
  | [] => 0
  | x :: xs => wt x + 2 + wtAll xs
end
theorem leaf_str {M : Nat} {x : Str} : leaf M (.str x) = true ↔ ∀ c ∈ x.cps.toList, c < 128 := by
  simp only [leaf, List.all_eq_true, decide_eq_true_eq]
theorem leafAll_iff {M : Nat} : ∀ {xs : List PyData}, leafAll M xs = true ↔ ∀ x ∈ xs, leaf M x = true
  | [] => by simp [leafAll]
  | x :: xs => by simp [leafAll, leafAll_iff (xs := xs)]
theorem lensAll_iff {l : Nat} : ∀ {xs : List PyData}, lensAll l xs = true ↔ ∀ x ∈ xs, lens l x = true
  | [] => by simp [lensAll]
  | x :: xs => by simp [lensAll, lensAll_iff (xs := xs)]
theorem wtAll_append : ∀ xs ys : List PyData, wtAll (xs ++ ys) = wtAll xs + wtAll ys
  | [], ys => by simp [wtAll]
  | x :: xs, ys => by simp [wtAll, wtAll_append xs ys]; omega
theorem wt_mem : ∀ {xs : List PyData} {x : PyData}, x ∈ xs → wt x + 2 ≤ wtAll xs
  | y :: xs, x, h => by
    rcases List.mem_cons.mp h with rfl | h
    · simp [wtAll]
    · have := wt_mem h
      simp [wtAll]; omega
theorem wtAll_take (xs : List PyData) (k : Nat) : wtAll (xs.take k) ≤ wtAll xs := by
  have h := wtAll_append (xs.take k) (xs.drop k)
  rw [List.take_append_drop] at h
  omega
theorem wtAll_drop (xs : List PyData) (k : Nat) : wtAll (xs.drop k) ≤ wtAll xs := by
  have h := wtAll_append (xs.take k) (xs.drop k)
  rw [List.take_append_drop] at h
  omega
theorem depthAll_iff {n : Nat} : ∀ {xs : List PyData}, PyData.depthAll xs ≤ n ↔ ∀ x ∈ xs, x.depth ≤ n
  | [] => by simp [PyData.depthAll]
  | x :: xs => by simp [PyData.depthAll, depthAll_iff (xs := xs), Nat.max_le]
theorem depth_tuple {n : Nat} {xs : List PyData} : (PyData.tuple xs).depth ≤ n + 1 ↔ ∀ x ∈ xs, x.depth ≤ n := by
  simp [PyData.depth, depthAll_iff]
theorem depth_list {n : Nat} {xs : List PyData} : (PyData.list xs).depth ≤ n + 1 ↔ ∀ x ∈ xs, x.depth ≤ n := by
  simp [PyData.depth, depthAll_iff]

mutual
theorem leaf_noDict {M : Nat} : ∀ d : PyData, leaf M d = true → d.hasDict = false
  | .none, _ => by simp [PyData.hasDict]
  | .bool _, _ => by simp [PyData.hasDict]
  | .int _, _ => by simp [PyData.hasDict]
  | .str _, _ => by simp [PyData.hasDict]
  | .list xs, h => by simpa [PyData.hasDict] using leafAll_noDict xs (by simpa [leaf] using h)
  | .tuple xs, h => by simpa [PyData.hasDict] using leafAll_noDict xs (by simpa [leaf] using h)
  | .dict _, h => by simp [leaf] at h
theorem leafAll_noDict {M : Nat} : ∀ xs : List PyData, leafAll M xs = true → PyData.hasDictAll xs = false
  | [], _ => by simp [PyData.hasDictAll]
  | x :: xs, h => by
    have h' : leaf M x = true ∧ leafAll M xs = true := by simpa [leafAll] using h
    simp [PyData.hasDictAll, leaf_noDict x h'.1, leafAll_noDict xs h'.2]
end
mutual
theorem leaf_canLay {M : Nat} : ∀ d : PyData, leaf M d = true → d.canLay0 = true
  | .none, _ => by simp [PyData.canLay0]
  | .bool _, _ => by simp [PyData.canLay0]
  | .int _, _ => by simp [PyData.canLay0]
  | .str x, h => by
    have h' := leaf_str.mp h
    simp only [PyData.canLay0, PyData.strOk, Array.all_eq_true_iff_forall_mem, decide_eq_true_eq]
    intro c hc
    have := h' c (by simpa using hc)
    omega
  | .list xs, h => by simpa [PyData.canLay0] using leafAll_canLay xs (by simpa [leaf] using h)
  | .tuple xs, h => by simpa [PyData.canLay0] using leafAll_canLay xs (by simpa [leaf] using h)
  | .dict _, h => by simp [leaf] at h
theorem leafAll_canLay {M : Nat} : ∀ xs : List PyData, leafAll M xs = true → PyData.canLayAll0 xs = true
  | [], _ => by simp [PyData.canLayAll0]
  | x :: xs, h => by
    have h' : leaf M x = true ∧ leafAll M xs = true := by simpa [leafAll] using h
    simp [PyData.canLayAll0, leaf_canLay x h'.1, leafAll_canLay xs h'.2]
end
mutual
theorem leaf_shows {M : Nat} (hM : M < 2 ^ 1920) : ∀ d : PyData, leaf M d = true → d.showable = true
  | .none, _ => by simp [PyData.showable]
  | .bool _, _ => by simp [PyData.showable]
  | .int i, h => by
    have h' : i.natAbs ≤ M := by simpa [leaf] using h
    simp only [PyData.showable, decide_eq_true_eq]
    exact log2_small (Nat.lt_of_le_of_lt h' hM)
  | .str x, h => by simp [PyData.showable]
  | .list xs, h => by simpa [PyData.showable] using leafAll_shows hM xs (by simpa [leaf] using h)
  | .tuple xs, h => by simpa [PyData.showable] using leafAll_shows hM xs (by simpa [leaf] using h)
  | .dict _, h => by simp [leaf] at h
theorem leafAll_shows {M : Nat} (hM : M < 2 ^ 1920) : ∀ xs : List PyData, leafAll M xs = true → PyData.showableAll xs = true
  | [], _ => by simp [PyData.showableAll]
  | x :: xs, h => by
    have h' : leaf M x = true ∧ leafAll M xs = true := by simpa [leafAll] using h
    simp [PyData.showableAll, leaf_shows hM x h'.1, leafAll_shows hM xs h'.2]
end
mutual
theorem shown_wt {M : Nat} (hM : M < 10 ^ 240) : ∀ d : PyData, leaf M d = true → d.shown.length ≤ wt d
  | .none, _ => by simp only [PyData.shown, wt]; decide +kernel
  | .bool b, _ => by cases b <;> (simp only [PyData.shown, wt]; decide +kernel)
  | .int i, h => by
    have h' : i.natAbs ≤ M := by simpa [leaf] using h
    have e := int_text_length_le10 (k := 240) (by decide) (Nat.lt_of_le_of_lt h' hM)
    simp only [PyData.shown, wt]
    rw [PySem.ofString_length]
    omega
  | .str x, h => by
    have h' := leaf_str.mp h
    have e := StrLaws.reprText_len x (fun c hc => by have := h' c hc; omega)
    simp only [PyData.shown, wt]
    omega
  | .list xs, h => by
    have e1 := listText_len_le (PyData.shownAll xs)
    have e2 := shownAll_wt hM xs (by simpa [leaf] using h)
    rw [PyData.shownAll_length] at e1
    simp only [PyData.shown, wt]
    omega
  | .tuple xs, h => by
    have e1 := tupleText_len_le (PyData.shownAll xs)
    have e2 := shownAll_wt hM xs (by simpa [leaf] using h)
    rw [PyData.shownAll_length] at e1
    simp only [PyData.shown, wt]
    omega
  | .dict _, h => by simp [leaf] at h
theorem shownAll_wt {M : Nat} (hM : M < 10 ^ 240) : ∀ xs : List PyData, leafAll M xs = true → ((PyData.shownAll xs).map (·.length)).sum + 2 * xs.length ≤ wtAll xs
  | [], _ => by simp [PyData.shownAll, wtAll]
  | x :: xs, h => by
    have h' : leaf M x = true ∧ leafAll M xs = true := by simpa [leafAll] using h
    have e1 := shown_wt hM x h'.1
    have e2 := shownAll_wt hM xs h'.2
    simp only [PyData.shownAll, wtAll, List.map_cons, List.sum_cons, List.length_cons]
    omega
end
mutual
theorem leaf_mono {M N : Nat} (h : M ≤ N) : ∀ d : PyData, leaf M d = true → leaf N d = true
  | .none, _ => by simp [leaf]
  | .bool _, _ => by simp [leaf]
  | .int i, e => by
    have e' : i.natAbs ≤ M := by simpa [leaf] using e
    simp only [leaf, decide_eq_true_eq]; omega
  | .str _, e => by simpa [leaf] using e
  | .list xs, e => by simpa [leaf] using leafAll_mono h xs (by simpa [leaf] using e)
  | .tuple xs, e => by simpa [leaf] using leafAll_mono h xs (by simpa [leaf] using e)
  | .dict _, e => by simp [leaf] at e
theorem leafAll_mono {M N : Nat} (h : M ≤ N) : ∀ xs : List PyData, leafAll M xs = true → leafAll N xs = true
  | [], _ => by simp [leafAll]
  | x :: xs, e => by
    have e' : leaf M x = true ∧ leafAll M xs = true := by simpa [leafAll] using e
    simp [leafAll, leaf_mono h x e'.1, leafAll_mono h xs e'.2]
end
mutual
theorem lens_mono {k l : Nat} (h : k ≤ l) : ∀ d : PyData, lens k d = true → lens l d = true
  | .none, _ => by simp [lens]
  | .bool _, _ => by simp [lens]
  | .int _, _ => by simp [lens]
  | .str _, _ => by simp [lens]
  | .list xs, e => by
    have e' : xs.length ≤ k ∧ lensAll k xs = true := by simpa [lens] using e
    simp only [lens, Bool.and_eq_true, decide_eq_true_eq]
    exact ⟨by omega, lensAll_mono h xs e'.2⟩
  | .tuple xs, e => by
    have e' : xs.length ≤ k ∧ lensAll k xs = true := by simpa [lens] using e
    simp only [lens, Bool.and_eq_true, decide_eq_true_eq]
    exact ⟨by omega, lensAll_mono h xs e'.2⟩
  | .dict _, e => by simp [lens] at e
theorem lensAll_mono {k l : Nat} (h : k ≤ l) : ∀ xs : List PyData, lensAll k xs = true → lensAll l xs = true
  | [], _ => by simp [lensAll]
  | x :: xs, e => by
    have e' : lens k x = true ∧ lensAll k xs = true := by simpa [lensAll] using e
    simp [lensAll, lens_mono h x e'.1, lensAll_mono h xs e'.2]
end

/-- data of this size: ints at most M, sequences at most l long, n deep, B heavy -/
structure Fit (M l n B : Nat) (d : PyData) : Prop where
  lf : leaf M d = true
  ln : lens l d = true
  dp : d.depth ≤ n
  wg : wt d ≤ B
theorem Fit.mono {M l n B M' l' n' B' : Nat} {d : PyData} (h : Fit M l n B d) (h1 : M ≤ M') (h2 : l ≤ l') (h3 : n ≤ n') (h4 : B ≤ B') : Fit M' l' n' B' d :=
  ⟨leaf_mono h1 d h.lf, lens_mono h2 d h.ln, Nat.le_trans h.dp h3, Nat.le_trans h.wg h4⟩
theorem Fit.none {M l n B : Nat} (h : 5 ≤ B) : Fit M l n B .none := ⟨rfl, rfl, Nat.zero_le _, h⟩
theorem Fit.bool {M l n B : Nat} {b : Bool} (h : 5 ≤ B) : Fit M l n B (.bool b) := ⟨rfl, rfl, Nat.zero_le _, h⟩
theorem Fit.int {M l n B : Nat} {i : Int} (hi : i.natAbs ≤ M) (h : 250 ≤ B) : Fit M l n B (.int i) := ⟨by simpa [leaf] using hi, rfl, Nat.zero_le _, h⟩
theorem Fit.str {M l n B : Nat} {x : Str} (hx : ∀ c ∈ x.cps.toList, c < 128) (h : 10 * x.length + 5 ≤ B) : Fit M l n B (.str x) := ⟨leaf_str.mpr hx, rfl, Nat.zero_le _, h⟩
theorem Fit.tup {M l n B : Nat} {xs : List PyData} (hl : xs.length ≤ l) (h : ∀ x ∈ xs, leaf M x = true ∧ lens l x = true ∧ x.depth ≤ n) (hw : wtAll xs + 5 ≤ B) : Fit M l (n + 1) B (.tuple xs) :=
  ⟨by simpa [leaf] using leafAll_iff.mpr fun x hx => (h x hx).1, by simp only [lens, Bool.and_eq_true, decide_eq_true_eq]; exact ⟨hl, lensAll_iff.mpr fun x hx => (h x hx).2.1⟩, depth_tuple.mpr fun x hx => (h x hx).2.2, by simpa [wt] using hw⟩
theorem Fit.lst {M l n B : Nat} {xs : List PyData} (hl : xs.length ≤ l) (h : ∀ x ∈ xs, leaf M x = true ∧ lens l x = true ∧ x.depth ≤ n) (hw : wtAll xs + 5 ≤ B) : Fit M l (n + 1) B (.list xs) :=
  ⟨by simpa [leaf] using leafAll_iff.mpr fun x hx => (h x hx).1, by simp only [lens, Bool.and_eq_true, decide_eq_true_eq]; exact ⟨hl, lensAll_iff.mpr fun x hx => (h x hx).2.1⟩, depth_list.mpr fun x hx => (h x hx).2.2, by simpa [wt] using hw⟩
theorem Fit.inTup {M l n B : Nat} {xs : List PyData} (h : Fit M l n B (.tuple xs)) : xs.length ≤ l ∧ 1 ≤ n ∧ wtAll xs + 5 ≤ B ∧ ∀ x ∈ xs, Fit M l (n - 1) B x := by
  have h2 : xs.length ≤ l ∧ lensAll l xs = true := by simpa [lens] using h.ln
  have h3 : PyData.depthAll xs + 1 ≤ n := by simpa [PyData.depth] using h.dp
  have h4 : wtAll xs + 5 ≤ B := by simpa [wt] using h.wg
  refine ⟨h2.1, by omega, h4, fun x hx => ⟨leafAll_iff.mp (by simpa [leaf] using h.lf) x hx, lensAll_iff.mp h2.2 x hx, (depthAll_iff (n := n - 1)).mp (by omega) x hx, ?_⟩⟩
  have := wt_mem hx
  omega
theorem Fit.inLst {M l n B : Nat} {xs : List PyData} (h : Fit M l n B (.list xs)) : xs.length ≤ l ∧ 1 ≤ n ∧ wtAll xs + 5 ≤ B ∧ ∀ x ∈ xs, Fit M l (n - 1) B x := by
  have h2 : xs.length ≤ l ∧ lensAll l xs = true := by simpa [lens] using h.ln
  have h3 : PyData.depthAll xs + 1 ≤ n := by simpa [PyData.depth] using h.dp
  have h4 : wtAll xs + 5 ≤ B := by simpa [wt] using h.wg
  refine ⟨h2.1, by omega, h4, fun x hx => ⟨leafAll_iff.mp (by simpa [leaf] using h.lf) x hx, lensAll_iff.mp h2.2 x hx, (depthAll_iff (n := n - 1)).mp (by omega) x hx, ?_⟩⟩
  have := wt_mem hx
  omega
theorem Fit.shaped {M l n B : Nat} {d : PyData} (h : Fit M l n B d) (hn : n ≤ 64) : SeqAt.shaped d = true := by
  unfold SeqAt.shaped
  rw [leaf_canLay d h.lf, Bool.true_and, decide_eq_true_eq]
  exact Nat.le_trans h.dp hn
end Sw
set_option maxRecDepth 100000
set_option maxHeartbeats 4000000
namespace Sw
open PySem PySem.Spec PyProof.Rows L2

/-- a def of the text, how it binds, where it stands -/
structure Df (K : PySem.W.Frag) (mg : Str → Option Value) (x : Str) (st : Stmt) (ps : List Str) (f : Addr) (fd : FuncData) : Prop where
  fn : Fun K x x st f fd
  bd : Binds K fd ps []
  gl : mg x = some (.ref f)

/-! ### isinstance of data -/
def isaInt : PyData → Bool
  | .int _ => true
  | .bool _ => true
  | _ => false
def isaBool : PyData → Bool
  | .bool _ => true
  | _ => false
def isaStr : PyData → Bool
  | .str _ => true
  | _ => false
def isaTup : PyData → Bool
  | .tuple _ => true
  | _ => false
theorem ty_list {K : PySem.W.Frag} {H : Hp} {a : Addr} {xs : List V} (h : SqL K H a xs) : TyX K H (.ref a) (.type "list") := by
  rcases h with (h | ⟨o, h⟩) | ⟨o, its, n, h, hc, _⟩
  · exact .base (.lst h)
  · exact .base (.frz h)
  · exact .kList h hc
theorem ty_tup {K : PySem.W.Frag} {H : Hp} {a : Addr} {xs : List V} (h : SqT K H a xs) : TyX K H (.ref a) (.type "tuple") := by
  rcases h with (h | ⟨o, h⟩) | ⟨o, its, n, h, hc, _⟩
  · exact .base (.tup h)
  · exact .fTuple h
  · exact .kTuple h hc
theorem isa_data {K : PySem.W.Frag} {H : Hp} {v : V} {d : PyData} {T : String} {g : PyData → Bool} (h : Dp K H v d)
    (k0 : kitB "NoneType" T = some (g .none)) (k1 : ∀ b, kitB "bool" T = some (g (.bool b))) (k2 : ∀ i, kitB "int" T = some (g (.int i))) (k3 : ∀ x, kitB "str" T = some (g (.str x)))
    (k4 : ∀ xs, kitB "list" T = some (g (.list xs))) (k5 : ∀ xs, kitB "tuple" T = some (g (.tuple xs))) : ∃ t, TyX K H v t ∧ PySem.W.kitOne K t (.type T) = some (g d) := by
  cases h with
  | non => exact ⟨_, .base .non, kit_ty k0⟩
  | bl b => exact ⟨_, .base (.bl b), kit_ty (k1 b)⟩
  | int i => exact ⟨_, .base (.int i), kit_ty (k2 i)⟩
  | str x => exact ⟨_, .base (.str x), kit_ty (k3 x)⟩
  | lst h _ => exact ⟨_, ty_list h, kit_ty (k4 _)⟩
  | tup h _ => exact ⟨_, ty_tup h, kit_ty (k5 _)⟩
theorem isa_int {K : PySem.W.Frag} {H : Hp} {v : V} {d : PyData} (h : Dp K H v d) : ∃ t, TyX K H v t ∧ PySem.W.kitOne K t (.type "int") = some (isaInt d) :=
  isa_data (g := isaInt) h (by decide +kernel) (fun _ => by show _ = some true; decide +kernel) (fun _ => by show _ = some true; decide +kernel) (fun _ => by show _ = some false; decide +kernel) (fun _ => by show _ = some false; decide +kernel) (fun _ => by show _ = some false; decide +kernel)
theorem isa_bool {K : PySem.W.Frag} {H : Hp} {v : V} {d : PyData} (h : Dp K H v d) : ∃ t, TyX K H v t ∧ PySem.W.kitOne K t (.type "bool") = some (isaBool d) :=
  isa_data (g := isaBool) h (by decide +kernel) (fun _ => by show _ = some true; decide +kernel) (fun _ => by show _ = some false; decide +kernel) (fun _ => by show _ = some false; decide +kernel) (fun _ => by show _ = some false; decide +kernel) (fun _ => by show _ = some false; decide +kernel)
theorem isa_str {K : PySem.W.Frag} {H : Hp} {v : V} {d : PyData} (h : Dp K H v d) : ∃ t, TyX K H v t ∧ PySem.W.kitOne K t (.type "str") = some (isaStr d) :=
  isa_data (g := isaStr) h (by decide +kernel) (fun _ => by show _ = some false; decide +kernel) (fun _ => by show _ = some false; decide +kernel) (fun _ => by show _ = some true; decide +kernel) (fun _ => by show _ = some false; decide +kernel) (fun _ => by show _ = some false; decide +kernel)
theorem isa_tup {K : PySem.W.Frag} {H : Hp} {v : V} {d : PyData} (h : Dp K H v d) : ∃ t, TyX K H v t ∧ PySem.W.kitOne K t (.type "tuple") = some (isaTup d) :=
  isa_data (g := isaTup) h (by decide +kernel) (fun _ => by show _ = some false; decide +kernel) (fun _ => by show _ = some false; decide +kernel) (fun _ => by show _ = some false; decide +kernel) (fun _ => by show _ = some false; decide +kernel) (fun _ => by show _ = some true; decide +kernel)

/-! ### what a look promises -/
def dNum : PyData → Bool
  | .int _ => true
  | _ => false
def okSign (c : Nat) : Bool := decide (97 ≤ c) && decide (c ≤ 122)
def wordS (z : Str) : Bool := decide (1 ≤ z.length) && decide (z.length ≤ 8) && z.cps.toList.all okSign
def dWord : PyData → Bool
  | .str z => wordS z
  | _ => false
def dOper (d : PyData) : Bool := dNum d || dWord d
def dPair : PyData → Bool
  | .tuple ds => decide (ds.length = 2)
  | _ => false
def dPos : PyData → Bool
  | .int i => decide (1 ≤ i)
  | _ => false
def dObj : PyData → Bool
  | .tuple [a, b] => dWord a && dPos b
  | _ => false
def fstS : PyData → Str
  | .tuple (.str z :: _) => z
  | _ => Str.empty
def rises : List Str → Bool
  | a :: b :: r => decide (a.cps.toList < b.cps.toList) && rises (b :: r)
  | _ => true
def dObjs : PyData → Bool
  | .tuple ds => !ds.isEmpty && ds.all dObj && rises (ds.map fstS)
  | _ => false
/-- a look at data: its answer, all that stood stands -/
def spLook (K : PySem.W.Frag) (g : PyData → Bool) : Sp := fun vs H Q _ => ∃ (v : V) (d : PyData), vs = [v] ∧ Dp K H v d ∧ (∃ M, Fit M 60 60 1000000 d) ∧ ∀ H', Same H H' → Q (.bl (g d)) H'
theorem big_size {n : Nat} (h : n ≤ 1000000) : n < sizeLine := by rw [sizeLine_eq]; omega
theorem fit_strlen {M l n B : Nat} {x : Str} (h : Fit M l n B (.str x)) (hB : B ≤ 1000000) : x.length ≤ sizeLine := by
  have h1 : 10 * x.length + 5 ≤ B := by simpa [wt] using h.wg
  rw [sizeLine_eq]; omega
theorem isi_dNum (d : PyData) : (isaInt d && !isaBool d) = dNum d := by cases d <;> rfl
end Sw
set_option maxRecDepth 100000
set_option maxHeartbeats 4000000
namespace Sw
open PySem PySem.Spec PyProof.Rows L2
def topS (i : Nat) : Stmt := PySem.Challenge.pw_storeways_k02_addresses.main.body.getD i (.Pass ⟨0, 0, 0, 0⟩)
/-- built-in names that the text leaves alone -/
structure Bt (mg : Str → Option Value) : Prop where
  isi : mg "isinstance" = none
  int : mg "int" = none
  bool : mg "bool" = none
  str : mg "str" = none
  tuple : mg "tuple" = none
  list : mg "list" = none
  len : mg "len" = none
  all : mg "all" = none
  zip : mg "zip" = none
  range : mg "range" = none
  ord : mg "ord" = none
  sorted : mg "sorted" = none
  set : mg "set" = none
  repr : mg "repr" = none
section
variable {P : Program} {w : World} {K : PySem.W.Frag} {mg : Str → Option Value} {base : Heap}
theorem sc_num : FnScope ["thing"] ["thing"] (defScope (topS 2)) := ⟨rfl, rfl, rfl, by decide +kernel, rfl, by decide +kernel, by decide +kernel⟩
theorem ok_num {f : Addr} {fd : FuncData} (D : Df K mg "is_number" (topS 2) ["thing"] f fd) (B : Bt mg) : FnOk P w K mg base CX0 1 f fd ["thing"] (spLook K dNum) := by
  refine D.fn.ok sc_num (fun vs H Q E h => ?_) (fun cdv A outer s H vs Q E hr h => ?_)
  · obtain ⟨v, d, rfl, _⟩ := h
    rfl
  obtain ⟨v, d, rfl, hd, hf, q⟩ := h
  refine ⟨_, pss_one (ps_ret (pe_and (pe_callB call_isi (by rfl) B.isi (by decide +kernel) (pa_cons (pv 0) (pa_cons (pe_bltn (v := .ty "int") (by rfl) B.int (by decide +kernel) rfl) pa_nil)))
    (pe_one (pe_not (pe_callB call_isi (by rfl) B.isi (by decide +kernel) (pa_cons (pv 0) (pa_cons (pe_bltn (v := .ty "bool") (by rfl) B.bool (by decide +kernel) rfl) pa_nil))))))), ?_⟩
  obtain ⟨t1, ty1, k1⟩ := isa_int hd
  obtain ⟨t2, ty2, k2⟩ := isa_bool hd
  refine ⟨v, rfl, v, .ty "int", t1, _, _, rfl, .ty _, ty1, k1, _, rfl, ?_⟩
  have e := isi_dNum d
  refine ite2 (fun c => ?_) (fun c => ?_)
  · refine ⟨v, rfl, v, .ty "bool", t2, _, _, rfl, .ty _, ty2, k2, _, rfl, ?_⟩
    rw [c, Bool.true_and] at e
    rw [e]
    exact q H (Same.refl H)
  · have c' : isaInt d = false := by simpa using c
    rw [c', Bool.false_and] at e
    rw [e]
    exact q H (Same.refl H)
theorem sc_word : FnScope ["thing", "sign"] ["thing"] (defScope (topS 3)) := ⟨rfl, rfl, rfl, by decide +kernel, rfl, by decide +kernel, by decide +kernel⟩
theorem sign_lo (c : Nat) : (!decide (([c] : List Nat) < ("a" : Str).cps.toList)) = decide (97 ≤ c) := by
  show (!decide (([c] : List Nat) < [97])) = decide (97 ≤ c)
  by_cases h : 97 ≤ c
  · have : ¬ (([c] : List Nat) < [97]) := by intro z; have := List.cons_lt_cons_iff.mp z; simp at this; omega
    simp [h, this]
  · have : ([c] : List Nat) < [97] := List.cons_lt_cons_iff.mpr (.inl (by omega))
    simp [h, this]
theorem sign_hi (c : Nat) : (!decide (("z" : Str).cps.toList < ([c] : List Nat))) = decide (c ≤ 122) := by
  show (!decide (([122] : List Nat) < [c])) = decide (c ≤ 122)
  by_cases h : c ≤ 122
  · have : ¬ (([122] : List Nat) < [c]) := by intro z; have := List.cons_lt_cons_iff.mp z; simp at this; omega
    simp [h, this]
  · have : ([122] : List Nat) < [c] := List.cons_lt_cons_iff.mpr (.inl (by omega))
    simp [h, this]
theorem all_range {z : Str} : ((List.range z.cps.size).map fun i => V.bl (okSign (z.cps.toList.getD i 0))) = (z.cps.toList.map okSign).map V.bl := by
  apply List.ext_getElem?
  intro i
  simp only [List.getElem?_map, List.getElem?_range']
  by_cases h : i < z.cps.size
  · rw [List.getElem?_range h, List.getElem?_eq_getElem (by simpa using h)]
    simp [List.getD, List.getElem?_eq_getElem, h]
  · rw [List.getElem?_eq_none (by simpa using h), List.getElem?_eq_none (by simpa using h)]
    rfl
theorem ok_word {f : Addr} {fd : FuncData} (D : Df K mg "is_word" (topS 3) ["thing"] f fd) (B : Bt mg) (gL : ∃ t, mg "LONGEST_WORD" = some (.int 8 t)) : FnOk P w K mg base CX0 1 f fd ["thing"] (spLook K dWord) := by
  refine D.fn.ok sc_word (fun vs H Q E h => ?_) (fun cdv A outer s H vs Q E hr h => ?_)
  · obtain ⟨v, d, rfl, _⟩ := h
    rfl
  obtain ⟨v, d, rfl, hd, ⟨M, hf⟩, q⟩ := h
  obtain ⟨t8, gL⟩ := gL
  refine ⟨_, pss_cons (ps_if (PW.pt (pw_or (pt_not (pt_val (pe_callB call_isi (by rfl) B.isi (by decide +kernel) (pa_cons (pv 0) (pa_cons (pe_bltn (v := .ty "str") (by rfl) B.str (by decide +kernel) rfl) pa_nil)))))
      (pw_or1 (pt_not (pt_chain op_le op_le pe_int (pe_callB call_len_str (by rfl) B.len PySem.boot_len (pa_cons (pv 0) pa_nil)) (pe_glob (v := .int 8) (by rfl) gL ⟨_, rfl⟩)))))) (pss_one (ps_ret pe_bl)) pss_nil)
    (pss_one (ps_ret (pe_callB (cr_all rfl) (by rfl) B.all (by decide +kernel) (pa_cons (pe_lc (own := [("sign", 1)]) (g := gName 1) (tt := tYes) rfl sc_word.nd (pi_str (pv 0))
      (blkOk_by (N := ["thing", "sign"]) (sc := defScope (topS 3)) (by decide +kernel)) (fun _ _ _ _ _ => pg_name (i := 1) sc_word.nd rfl (Or.inl rfl)) (fun _ _ _ _ _ => pts_nil)
      (fun _ _ _ _ _ => pe_chain op_le_str op_le_str pe_str (pv 1) pe_str)) pa_nil)))), ?_⟩
  obtain ⟨t1, ty1, k1⟩ := isa_str hd
  refine ⟨v, rfl, v, .ty "str", t1, _, _, rfl, .ty _, ty1, k1, _, rfl, ?_⟩
  cases hd with
  | str z =>
    refine iteF ?_
    have hz := fit_strlen hf (Nat.le_refl _)
    refine ⟨_, rfl, z, rfl, hz, _, _, rfl, rfl, _, rfl, ?_⟩
    refine ite2 (fun c => ?_) (fun c => ?_)
    · have c1 : (1 : Int) ≤ (z.length : Int) := of_decide_eq_true c
      refine ⟨_, _, rfl, rfl, _, rfl, ?_⟩
      refine ite2 (fun c => ?_) (fun c => ?_)
      · have c2 : ¬ (z.length : Int) ≤ 8 := by simpa using c
        have e : dWord (.str z) = false := by
          show wordS z = false
          unfold wordS
          rw [decide_eq_false (show ¬ z.length ≤ 8 by omega)]
          simp
        rw [← e]
        exact q H (Same.refl H)
      · have c2 : (z.length : Int) ≤ 8 := by simpa using c
        refine ⟨_, rfl, z, rfl, fun L hL => lc_map walk_signs (fun i => V.bl (okSign (z.cps.toList.getD i 0))) hL (fun _ _ => trivial) (big_size (by have : z.cps.size = z.length := rfl; omega)) ?_ ?_⟩
        · intro i x H1 Q1 hi hx hs q1
          have hi' : i < z.cps.toList.length := by simpa using hi
          rw [List.getElem?_map, List.getElem?_eq_getElem hi'] at hx
          have hx' : V.str ⟨#[z.cps.toList[i]]⟩ = x := Option.some.inj hx
          subst hx'
          have eg : z.cps.toList.getD i 0 = z.cps.toList[i] := by simp [List.getD, List.getElem?_eq_getElem hi']
          refine ⟨_, rfl, _, _, rfl, rfl, _, rfl, ?_⟩
          have e1 := sign_lo z.cps.toList[i]
          have e2 := sign_hi z.cps.toList[i]
          have q2 := q1 H1 (Same.refl H1)
          rw [eg] at q2
          refine ite2 (fun c => ?_) (fun c => ?_)
          · have c' : decide (97 ≤ z.cps.toList[i]) = true := by rw [← e1]; exact c
            refine ⟨_, _, rfl, rfl, ?_⟩
            have e3 : okSign z.cps.toList[i] = !decide (("z" : Str).cps.toList < ([z.cps.toList[i]] : List Nat)) := by
              unfold okSign
              rw [c', e2, Bool.true_and]
            rw [e3] at q2
            exact q2
          · have c' : decide (97 ≤ z.cps.toList[i]) = false := by rw [← e1]; simpa using c
            have e3 : okSign z.cps.toList[i] = false := by
              unfold okSign
              rw [c', Bool.false_and]
            rw [e3] at q2
            exact q2
        · intro H1 hs hL1
          refine ⟨L, z.cps.toList.map okSign, rfl, SqL.of (by rw [hL1, all_range]), ?_⟩
          have e : dWord (.str z) = (z.cps.toList.map okSign).all id := by
            show wordS z = _
            unfold wordS
            rw [decide_eq_true (show 1 ≤ z.length by omega), decide_eq_true (show z.length ≤ 8 by omega), List.all_map]
            rfl
          rw [← e]
          exact q H1 hs
    · have c1 : ¬ (1 : Int) ≤ (z.length : Int) := of_decide_eq_false (by simpa using c)
      have e : dWord (.str z) = false := by
        show wordS z = false
        unfold wordS
        rw [decide_eq_false (show ¬ 1 ≤ z.length by omega)]
        simp
      refine ⟨_, rfl, iteT ?_⟩
      rw [← e]
      exact q H (Same.refl H)
  | non => exact iteT (q H (Same.refl H))
  | bl b => exact iteT (q H (Same.refl H))
  | int i => exact iteT (q H (Same.refl H))
  | lst h r => exact iteT (q H (Same.refl H))
  | tup h r => exact iteT (q H (Same.refl H))
end
end Sw
set_option maxRecDepth 100000
set_option maxHeartbeats 4000000
namespace Sw
open PySem PySem.Spec PyProof.Rows L2
section
variable {P : Program} {w : World} {K : PySem.W.Frag} {mg : Str → Option Value} {base : Heap}
theorem q_of {Q : VK} {b c : Bool} {H : Hp} (e : b = c) (h : Q (.bl b) H) : Q (.bl c) H := e ▸ h
theorem sc_oper : FnScope ["thing"] ["thing"] (defScope (topS 4)) := ⟨rfl, rfl, rfl, by decide +kernel, rfl, by decide +kernel, by decide +kernel⟩
theorem ok_oper {f f1 f2 : Addr} {fd fd1 fd2 : FuncData} (D : Df K mg "is_operand" (topS 4) ["thing"] f fd) (D1 : Df K mg "is_number" (topS 2) ["thing"] f1 fd1) (D2 : Df K mg "is_word" (topS 3) ["thing"] f2 fd2)
    (G1 : FnOk P w K mg base CX0 1 f1 fd1 ["thing"] (spLook K dNum)) (G2 : FnOk P w K mg base CX0 1 f2 fd2 ["thing"] (spLook K dWord)) : FnOk P w K mg base CX0 2 f fd ["thing"] (spLook K dOper) := by
  refine D.fn.ok sc_oper (fun vs H Q E h => ?_) (fun cdv A outer s H vs Q E hr h => ?_)
  · obtain ⟨v, d, rfl, _⟩ := h
    rfl
  obtain ⟨v, d, rfl, hd, hf, q⟩ := h
  refine ⟨_, pss_one (ps_ret (pe_or (pe_call G1 hr (by rfl) D1.gl D1.fn.kp D1.bd .nil pass0 (pa_cons (pv 0) pa_nil)) (pe_one (pe_call G2 hr (by rfl) D2.gl D2.fn.kp D2.bd .nil pass0 (pa_cons (pv 0) pa_nil))))), ?_⟩
  refine ⟨v, rfl, v, d, rfl, hd, hf, fun H1 s1 => ⟨_, rfl, ?_⟩⟩
  refine ite2 (fun c => ?_) (fun c => ?_)
  · have e : dOper d = true := by unfold dOper; rw [c, Bool.true_or]
    rw [← e]
    exact q H1 s1
  · have c' : dNum d = false := by simpa using c
    refine ⟨v, rfl, v, d, rfl, Dp_same s1 hd, hf, fun H2 s2 => ?_⟩
    have e : dOper d = dWord d := by unfold dOper; rw [c', Bool.false_or]
    rw [← e]
    exact q H2 (s1.trans s2)
theorem int_two {n : Nat} : decide (V.int (n : Int) = V.int 2) = decide (n = 2) := by
  by_cases h : n = 2
  · subst h; simp
  · have : ¬ (V.int (n : Int) = V.int 2) := fun z => h (by injection z with z; omega)
    simp [h, this]
end
end Sw
set_option maxRecDepth 100000
set_option maxHeartbeats 4000000
namespace Sw
open PySem PySem.Spec PyProof.Rows L2
theorem cut_one (xs : List V) : cutV xs (some 1) none = xs.drop 1 := by
  unfold cutV
  rw [show HT.sIx xs.length 0 (some 1) = min 1 xs.length from HT.sIx_nat xs.length 0 1, HT.sIx_none]
  cases xs with
  | nil => rfl
  | cons x r =>
    have e : min 1 (x :: r).length = 1 := by rw [List.length_cons]; omega
    rw [e]
    show (List.take ((x :: r).length - 1) r) = r
    rw [List.length_cons, Nat.add_sub_cancel, List.take_length]
theorem obj_parts {K : PySem.W.Frag} {H : Hp} {v : V} {d : PyData} (h : Dp K H v d) (o : dObj d = true) : ∃ (p : Addr) (z : Str) (k : Int), v = .ref p ∧ SqT K H p [.str z, .int k] ∧ fstS d = z ∧ d = .tuple [.str z, .int k] := by
  unfold dObj at o
  split at o
  · rename_i a b
    rw [Bool.and_eq_true] at o
    cases a with
    | str z =>
      cases b with
      | int k =>
        cases h with
        | tup hs r =>
          cases r with
          | cons h0 r =>
            cases r with
            | cons h1 r =>
              cases r
              cases h0
              cases h1
              exact ⟨_, z, k, rfl, hs, rfl, rfl⟩
      | _ => simp [dPos] at o
    | _ => simp [dWord] at o
  · cases o
theorem rises_range : ∀ zs : List Str, ((List.range (zs.length - 1)).map fun i => decide ((zs.getD i Str.empty).cps.toList < (zs.getD (i + 1) Str.empty).cps.toList)).all id = rises zs
  | [] => rfl
  | [_] => rfl
  | a :: b :: r => by
    have ih := rises_range (b :: r)
    have e : (a :: b :: r).length - 1 = (b :: r).length - 1 + 1 := by simp
    rw [e, List.range_succ_eq_map, List.map_cons, List.map_map, List.all_cons]
    show (decide (a.cps.toList < b.cps.toList) && _) = (decide (a.cps.toList < b.cps.toList) && rises (b :: r))
    rw [← ih]
    rfl
section
variable {P : Program} {w : World} {K : PySem.W.Frag} {mg : Str → Option Value} {base : Heap}
def spRise (K : PySem.W.Frag) : Sp := fun vs H Q _ => ∃ (v : V) (ds : List PyData), vs = [v] ∧ Dp K H v (.tuple ds) ∧ ds.length ≤ 60 ∧ ds.all dObj = true ∧ ∀ H', Same H H' → Q (.bl (rises (ds.map fstS))) H'
end
end Sw
set_option maxRecDepth 100000
set_option maxHeartbeats 4000000
namespace Sw
open PySem PySem.Spec PyProof.Rows L2

/-! ### sets of texts -/
def Mem1 (w : World) (e : Int × Value) (x : Str) : Prop := ∃ t, e.2 = Value.str x t ∧ e.1 = hashStr w x
/-- the set at a holds the texts L, none twice -/
def TxtSet (w : World) (h : Heap) (a : Addr) (L : List Str) : Prop :=
  ∃ o es ep t, h.get? a = some o ∧ o.ExactSet ∧ o.data = .set es ep t ∧ Paired (Mem1 w) es.toList L ∧ L.Nodup ∧ es.size < scanBound ∧ t.fits es.size = true ∧ Ris t.place.toList ∧
    (w.params.followText "set-order" = true ∨ t.led = true)
theorem TxtSet.at {w : World} {h h' : Heap} {a : Addr} {L : List Str} (R : TxtSet w h a L) (k : ∀ o, h.get? a = some o → h'.get? a = some o) : TxtSet w h' a L := by
  obtain ⟨o, es, ep, t, ho, r⟩ := R
  exact ⟨o, es, ep, t, k o ho, r⟩
theorem paired_perm {α β : Type} {R : α → β → Prop} : ∀ {l l' : List α}, l'.Perm l → ∀ {L : List β}, Paired R l L → ∃ L', Paired R l' L' ∧ L'.Perm L := by
  intro l l' p
  induction p with
  | nil => intro L h; cases h; exact ⟨[], .nil, .nil⟩
  | cons x p ih =>
    intro L h
    cases h with
    | cons r t =>
      obtain ⟨L', h1, h2⟩ := ih t
      exact ⟨_ :: L', .cons r h1, h2.cons _⟩
  | swap x y l =>
    intro L h
    cases h with
    | cons r1 t =>
      cases t with
      | cons r2 t => exact ⟨_ :: _ :: _, .cons r2 (.cons r1 t), .swap _ _ _⟩
  | trans p q ih1 ih2 =>
    intro L h
    obtain ⟨L1, h1, h2⟩ := ih2 h
    obtain ⟨L2, h3, h4⟩ := ih1 h1
    exact ⟨L2, h3, h4.trans h2⟩
theorem mem_elems {P : Program} {w : World} : ∀ {l : List (Int × Value)} {L : List Str}, Paired (Mem1 w) l L → ElemsOf (strKind P w) l
  | _, _, .nil, _, he => by simp at he
  | _, _, .cons r t, e, he => by
    rcases List.mem_cons.mp he with rfl | he
    · obtain ⟨tk, h1, h2⟩ := r
      exact ⟨⟨_, by rw [h1]; exact strKind_is P w _ tk, h2⟩, by rw [h1]; rfl⟩
    · exact mem_elems t e he
theorem is_iff {P : Program} {w : World} {x y : Str} {t : Tok} : (strKind P w).is x (.str y t) = true ↔ y = x := by
  show Value.isStrOf x (.str y t) = true ↔ _
  simp [Value.isStrOf]
theorem found_mem {P : Program} {w : World} {x : Str} : ∀ {l : List (Int × Value)} {L : List Str}, Paired (Mem1 w) l L → ((∃ e ∈ l, (strKind P w).is x e.2 = true) ↔ x ∈ L)
  | _, _, .nil => by simp
  | _, _, .cons (a := e0) (b := y) r t => by
    have ih := found_mem (P := P) (w := w) (x := x) t
    obtain ⟨tk, h1, _⟩ := r
    constructor
    · rintro ⟨e, he, h⟩
      rcases List.mem_cons.mp he with rfl | he
      · rw [h1, is_iff] at h
        rw [h]
        exact List.mem_cons_self
      · exact List.mem_cons_of_mem _ (ih.mp ⟨e, he, h⟩)
    · intro h
      rcases List.mem_cons.mp h with rfl | h
      · exact ⟨e0, List.mem_cons_self, by rw [h1, is_iff]⟩
      · obtain ⟨e, he, h⟩ := ih.mpr h
        exact ⟨e, List.mem_cons_of_mem _ he, h⟩
section
variable {P : Program} {w : World} {A : Around} {E : Value → Shared → Prop} {s : Shared} {a : Addr} {L : List Str}
theorem txt_store {g : Bool → Sem Unit} (hg : ∀ (b : Bool) (s₁ : Shared) (Q' : Unit → Shared → Prop), Q' () s₁ → wpAny (model P w) A (g b) Q' E s₁)
    {o : Obj} {es es1 : Array (Int × Value)} {ep : Nat} {t t2 : SetTable} (ho : s.heap.get? a = some o) (hex : o.ExactSet) (hd : o.data = .set es ep t) (pr : Paired (Mem1 w) es1.toList L) (nd : L.Nodup)
    (hb : es1.size < scanBound) (hf : t2.fits es1.size = true) (hr : Ris t2.place.toList) (hl : w.params.followText "set-order" = true ∨ t2.led = true) {dm : Bool} {R : Option Bool → Shared → Prop}
    (hR : ∀ h' L', Heap.SameBut a s.heap h' → TxtSet w h' a L' → L'.Perm L → R (some true) { s with heap := h' }) :
    wpAny (model P w) A (do
        storeSet a es1 t2
        if (!dm && t2.tooFull) = true then do
            g (relayAll t2 es1 (SetTable.grown es1.size)).2.2
            storeSet a (relayAll t2 es1 (SetTable.grown es1.size)).1 (relayAll t2 es1 (SetTable.grown es1.size)).2.1
            pure (some true)
          else pure (some true)) R E s := by
  refine wpAny_bind (wpAny_storeSet_of ho hd ?_ (fits_of_scanBound hb))
  have o1 := store_at (es' := es1) (t' := t2) ho hd
  have sb := Heap.SameBut.update s.heap a (Obj.putSet es1 t2)
  split
  · have p1 := relayAll_perm t2 es1 (SetTable.grown es1.size)
    have p2 := relayAll_fits t2 es1 (SetTable.grown es1.size)
    have p3 := relayAll_ris t2 es1 (SetTable.grown es1.size)
    have p4 := relayAll_led t2 es1 (SetTable.grown es1.size)
    generalize relayAll t2 es1 (SetTable.grown es1.size) = Z at p1 p2 p3 p4 ⊢
    obtain ⟨es2, t3, gv⟩ := Z
    dsimp only at p1 p2 p3 p4 ⊢
    obtain ⟨L', q1, q2⟩ := paired_perm p1 pr
    have sz : es2.size = es1.size := by
      have := p1.length_eq
      simpa using this
    have hb2 : es2.size < scanBound := by omega
    refine wpAny_bind (hg gv _ _ ?_)
    refine wpAny_bind (wpAny_storeSet_of o1 rfl ?_ (fits_of_scanBound hb2))
    refine wpAny_pure (hR _ L' (sb.trans (Heap.SameBut.update _ a _)) ?_ q2)
    exact ⟨_, es2, _, t3, store_at (es' := es2) (t' := t3) o1 rfl, hex, rfl, q1, q2.nodup_iff.mpr nd, hb2, p2, p3, hl.imp id fun z => by rw [p4]; exact z⟩
  · exact wpAny_pure (hR _ L sb ⟨_, es1, _, t2, o1, hex, rfl, pr, nd, hb, hf, hr, hl⟩ (.refl _))
theorem txt_add {x : Str} {tk : Tok} {Q : Bool → Shared → Prop} (R : TxtSet w s.heap a L) (room : L.length + 1 < scanBound)
    (hQ : ∀ b h' L', Heap.SameBut a s.heap h' → TxtSet w h' a L' → (x ∈ L ∧ L' = L ∨ x ∉ L ∧ L'.Perm (x :: L)) → Q b { s with heap := h' }) :
    wpAny (model P w) A (setAddHashed a (.str x tk) ((strKind P w).hash x)) Q E s := by
  obtain ⟨o, es, ep, t, ho, hex, hd, pr, nd, hb, hf, hr, hl⟩ := R
  have el : ElemsOf (strKind P w) es.toList := mem_elems pr
  have sc : (Value.str x tk).scannable = true := rfl
  have key : (strKind P w).is x (.str x tk) = true := strKind_is P w x tk
  have hlen : es.size = L.length := by have := pr.length; simpa using this
  unfold setAddHashed setAddHashedIn
  refine wpAny_holding (wpAny_bind (wpAny_setState_of ho hd hf ?_))
  dsimp only
  rw [byScan_of sc hb el]
  simp only [↓reduceIte]
  unfold setAddByScan
  refine wpAny_bind (wpAny_bind (wpAny_rule (wpAny_bind (wpAny_setScan_of key ho hd hf el ?_))))
  cases hfi : List.findIdx? (fun e => (strKind P w).is x e.2) es.toList with
  | some j =>
    obtain ⟨hj, pj, _⟩ := List.findIdx?_eq_some_iff_getElem.mp hfi
    have hx : x ∈ L := (found_mem (P := P) pr).mp ⟨_, List.getElem_mem hj, pj⟩
    exact wpAny_pure (wpAny_pure (hQ _ s.heap L (Heap.SameBut.refl a s.heap) ⟨o, es, ep, t, ho, hex, hd, pr, nd, hb, hf, hr, hl⟩ (.inl ⟨hx, rfl⟩)))
  | none =>
    dsimp only
    have hx : x ∉ L := fun z => by
      obtain ⟨e, he, q⟩ := (found_mem (P := P) pr).mpr z
      have c := List.findIdx?_eq_none_iff.mp hfi e he
      rw [q] at c
      cases c
    have gw : ∀ (b : Bool) {s₁ : Shared} {Q' : Unit → Shared → Prop}, Q' () s₁ → wpAny (model P w) A (match b with | true => rule "set.scan.the-table-gave-way" | false => pure ()) Q' E s₁ := by
      intro b s₁ Q' q
      cases b
      · exact wpAny_pure q
      · exact wpAny_rule q
    have p1 := layNew_perm t es ((strKind P w).hash x) (.str x tk)
    have p2 := layNew_fits t es ((strKind P w).hash x) (.str x tk)
    have p3 := layNew_ris t es ((strKind P w).hash x) (.str x tk) hr
    have p4 := layNew_led t es ((strKind P w).hash x) (.str x tk)
    generalize layNew t es ((strKind P w).hash x) (.str x tk) = Z at p1 p2 p3 p4 ⊢
    obtain ⟨es1, t1, dm, gv⟩ := Z
    dsimp only at p1 p2 p3 p4 ⊢
    rw [Array.toList_push] at p1
    have pr1 : Paired (Mem1 w) (((strKind P w).hash x, Value.str x tk) :: es.toList) (x :: L) := .cons ⟨tk, rfl, rfl⟩ pr
    obtain ⟨L1, q1, q2⟩ := paired_perm (p1.trans (List.perm_append_singleton _ _)) pr1
    have nd1 : L1.Nodup := q2.nodup_iff.mpr (List.nodup_cons.mpr ⟨hx, nd⟩)
    have sz1 : es1.size = L.length + 1 := by
      have h1 := q1.length
      have h2 := q2.length_eq
      simp at h1 h2
      omega
    have hb1 : es1.size < scanBound := by omega
    have hl1 : w.params.followText "set-order" = true ∨ t1.led = true := hl.imp id fun z => by rw [p4]; exact z
    have fin : ∀ h' L', Heap.SameBut a s.heap h' → TxtSet w h' a L' → L'.Perm L1 → Q true { s with heap := h' } := fun h' L' sb r pm => hQ true h' L' sb r (.inr ⟨hx, pm.trans q2⟩)
    refine wpAny_bind (gw _ ?_)
    split
    · refine wpAny_bind ?_
      rw [hashByValue_scannable 8 sc]
      refine wpAny_pure ?_
      refine txt_store (L := L1) ?_ ho hex hd q1 nd1 hb1 ?_ ?_ ?_ ?_
      · intro b s₁ Q' q; cases b <;> first | exact wpAny_pure q | exact wpAny_rule q
      · first | (split <;> first | exact p2 | exact SetTable.fits_plain_off p2) | exact p2
      · first | (split <;> exact p3) | exact p3
      · first | (split <;> exact hl1) | exact hl1
      · intro h' L' sb r pm; dsimp only; exact wpAny_pure (fin h' L' sb r pm)
    · refine wpAny_bind (wpAny_pure ?_)
      simp only [↓reduceIte]
      refine txt_store (L := L1) ?_ ho hex hd q1 nd1 hb1 p2 p3 hl1 ?_
      · intro b s₁ Q' q; cases b <;> first | exact wpAny_pure q | exact wpAny_rule q
      · intro h' L' sb r pm; dsimp only; exact wpAny_pure (fin h' L' sb r pm)
end
end Sw
set_option maxRecDepth 100000
set_option maxHeartbeats 4000000
namespace Sw
open PySem PySem.Spec PyProof.Rows L2
/-- L: what is met in the first i of xs -/
def Met (xs : List Str) (i : Nat) (L : List Str) : Prop := L.length ≤ i ∧ ∀ x, x ∈ L ↔ x ∈ xs.take i
theorem Met.step {xs L L' : List Str} {i : Nat} {x : Str} (g : Met xs i L) (hx : xs[i]? = some x) (h : x ∈ L ∧ L' = L ∨ x ∉ L ∧ L'.Perm (x :: L)) : Met xs (i + 1) L' := by
  have et : xs.take (i + 1) = xs.take i ++ [x] := by rw [List.take_add_one, hx]; rfl
  rcases h with ⟨hm, rfl⟩ | ⟨hm, pm⟩
  · refine ⟨Nat.le_succ_of_le g.1, fun y => ?_⟩
    rw [et, List.mem_append, ← g.2 y]
    constructor
    · exact .inl
    · rintro (h | h)
      · exact h
      · rw [List.mem_singleton.mp h]; exact hm
  · refine ⟨by rw [pm.length_eq, List.length_cons]; exact Nat.succ_le_succ g.1, fun y => ?_⟩
    rw [pm.mem_iff, et, List.mem_append, ← g.2 y, List.mem_cons, List.mem_singleton]
    exact Or.comm
section
variable {P : Program} {w : World} {A : Around} {E : Value → Shared → Prop} {s : Shared}
theorem txt_update {I : Addr} {fp wr : List Addr} {G : Array GenState → Array GenState → Prop} {n : Nat} {Pv : Nat → Value → Prop} {St : Nat → Shared → Prop} {R : Result → Shared → Prop} (W : WalksS P w A.in1 I fp wr G n Pv St)
    (S : Addr) (hSf : S ∉ fp) (xs : List Str) (hn : n = xs.length) (few : n + 1 < scanBound) (hval : ∀ i v, Pv i v → ∃ x t, xs[i]? = some x ∧ v = .str x t) :
    ∀ (k i : Nat) (s : Shared), n - i = k → i ≤ n → St i s → (∃ L, TxtSet w s.heap S L ∧ Met xs i L) → (∀ s' L, Moved (S :: wr) G s s' → TxtSet w s'.heap S L → Met xs n L → R (.ok (.ret .none)) s') →
      codeAny (model P w) A (.builtin "set.update.loop" ⟨[.ref S, .ref I], []⟩) R s := by
  have nw : S ∉ wr := fun h => hSf (W.sub _ h)
  have up : ∀ b ∈ wr, b ∈ S :: wr := fun b hb => List.mem_cons_of_mem _ hb
  intro k
  induction k with
  | zero =>
    rintro i s hk hi st ⟨L, hS, g⟩ hR
    obtain rfl : i = n := by omega
    refine codeAny_builtin PyProof.Rows.F.entry_set_update_loop ?_; rw [Around.under_plainId PyProof.Rows.F.plain_set_update_loop _]
    show wpAny _ A.in1 (pyNext (.ref I) >>= _) _ _ s
    refine wpAny_bind (W.done s _ _ st ?_)
    intro s' hm
    show wpAny _ A.in1 (ret Value.none) _ _ s'
    exact wpAny_pure (hR s' L (hm.mono up) (hS.at fun o e => hm.heap S o nw e) g)
  | succ k ih =>
    rintro i s hk hi st ⟨L, hS, g⟩ hR
    have lt : i < n := by omega
    refine codeAny_builtin PyProof.Rows.F.entry_set_update_loop ?_; rw [Around.under_plainId PyProof.Rows.F.plain_set_update_loop _]
    show wpAny _ A.in1 (pyNext (.ref I) >>= _) _ _ s
    refine wpAny_bind (W.item i s _ _ lt st ?_)
    intro v s' hP st' hm
    obtain ⟨x, t, hx, rfl⟩ := hval i v hP
    have hS' : TxtSet w s'.heap S L := hS.at fun o e => hm.heap S o nw e
    show wpAny _ A.in1 (holding [Value.str x t] (setAdd S (.str x t)) >>= _) _ _ s'
    refine wpAny_bind (wpAny_holding ?_)
    unfold setAdd
    refine wpAny_holding (wpAny_bind ((strKind P w).pyHash (k := x) (strKind_is P w x t) ?_))
    refine txt_add (s := { s' with toks := s'.toks + 1 }) hS' (by have := g.1; omega) ?_
    intro b h' L' sb hS2 hL
    refine wpAny_pure ⟨plainId_quiet PyProof.Rows.F.plain_set_update_loop _, ih (i + 1) _ (by omega) lt (W.frame _ s' _ _ st' (Nat.le_succ _) ?_) ⟨L', hS2, g.step hx hL⟩ ?_⟩
    · intro c hc o e
      rw [sb.2 c (fun z : c = S => hSf (z ▸ hc))]
      exact e
    · intro s'' L2 hm2 hS3 g3
      refine hR s'' L2 (Moved.trans W.gtrans ((hm.mono up).then_heap (Nat.le_succ _) ?_) hm2) hS3 g3
      intro c o hc e
      rw [sb.2 c (fun z : c = S => hc (by rw [z]; exact List.mem_cons_self))]
      exact e
/-- the object that set.__new__ lays -/
abbrev newSetO (w : World) : Obj := { cls := .type "set", dict := none, data := .set #[] 0 (.fresh 0 0 (!w.params.followText "set-order")) }
theorem txt_fresh {h : Heap} {a : Addr} (e : h.get? a = some (newSetO w)) : TxtSet w h a [] := by
  refine ⟨_, #[], 0, _, e, ⟨rfl, rfl, rfl⟩, rfl, .nil, List.nodup_nil, by decide, by rfl, List.Pairwise.nil, ?_⟩
  show _ ∨ (!w.params.followText "set-order") = true
  cases w.params.followText "set-order"
  · exact .inr rfl
  · exact .inl rfl
theorem call_set_txts {l : Addr} {items : Array Value} (xs : List Str) {Q : Value → Shared → Prop} (hh : A.handled = none) (hl : s.heap.IsList l items) (hit : StrsAre items.toList xs) (few : xs.length + 1 < scanBound)
    (h : ∀ (h' : Heap) (tk : Nat) L, TxtSet w h' s.heap.objs.size L → Met xs xs.length L → (∀ b o, s.heap.get? b = some o → h'.get? b = some o) → Q (.ref s.heap.objs.size) { s with heap := h', toks := tk }) :
    wpAny (model P w) A (call (.type "set") [.ref l]) Q E s := by
  have isz : items.size = xs.length := by have := hit.length; simpa using this
  obtain ⟨c, tl, hmro⟩ := F.called_set.mro
  have hmade := F.called_set.made
  have hsub := F.called_set.sub
  refine wpAny_call (codeAny_of_tree ?_)
  show wpAny _ _ (callAny (.type "set") _) _ _ _
  refine wpAny_pure ⟨Code.quiet_builtin _ (by decide +kernel), codeAny_builtin F.entry_type_call ?_⟩
  rw [Around.under_plain (weight_type_call_type "set" [.ref l] []) rfl]
  have h1 := F.called_set.notType
  have h2 := F.called_set.canCreate
  have hct := F.typeCall_set_1 (.ref l)
  repeat (any_goals (first | assumption | wp_step))
  refine codeAny_mono (code_set_led1 (.ref l) (E := E) (Q₁ := fun obj s1 => obj = .ref s.heap.objs.size ∧ s1 = { s with heap := s.heap.push (newSetO w) }) ⟨rfl, rfl⟩) ?_
  intro r s1 hr
  cases r with
  | error e => exact hr
  | ok fl =>
    cases fl with
    | ret obj =>
      obtain ⟨rfl, rfl⟩ := hr
      have hS : (s.heap.push (newSetO w)).get? s.heap.objs.size = some (newSetO w) := Heap.get?_push_size _ rfl
      have hT : Shared.TypeIs { s with heap := s.heap.push (newSetO w) } (.ref s.heap.objs.size) "set" := ⟨_, hS, rfl⟩
      have hli := F.called_set.init.lookup
      have hbi := F.called_set.init.bind (.ref s.heap.objs.size)
      repeat (any_goals (first | assumption | wp_step))
      refine codeAny_mono (codeAny_call_builtin (R := wants (fun r s2 => r = .none ∧ ∃ h' tk L, s2 = { s with heap := h', toks := tk } ∧ TxtSet w h' s.heap.objs.size L ∧ Met xs xs.length L ∧
          (∀ b o, s.heap.get? b = some o → h'.get? b = some o)) E) F.called_set.init.plain F.entry_set_init (check_set_init_1 hT ?_)) ?_
      · obtain ⟨ol, hol, hcl, nl, hdl⟩ := hl
        obtain ⟨ocls, odict, odata, oslots⟩ := ol
        simp only at hcl hdl
        subst hcl
        subst hdl
        have hol' : (s.heap.push (newSetO w)).get? l = some { cls := .type "list", dict := odict, data := .seq items nl, slots := oslots } := Heap.get?_push_of_some _ hol
        have hsls := F.sub_list_set
        have hslf := F.sub_list_frozenset
        have hne : (Value.type "list" == Value.type "dict") = false := by decide
        have hl1 : (s.heap.push (newSetO w)).IsList l items := ⟨_, hol', rfl, nl, rfl⟩
        unfold Builtin.«set.__init__» noKeywords Builtin.Frozenset.updateFrom
        generalize hPI : pyIter = PI
        wp_walk
        subst hPI
        refine wpAny_pyIter_list hl1 (wpAny_bind (wpAny_runValue ?_))
        have hlS : l < s.heap.objs.size := Heap.lt_size hol
        have zp : (s.heap.push (newSetO w)).objs.size = s.heap.objs.size + 1 := Heap.size_push ..
        have neI : l ≠ (s.heap.push (newSetO w)).objs.size := by rw [zp]; exact Nat.ne_of_lt (Nat.lt_succ_of_lt hlS)
        have nS : s.heap.objs.size ∉ [(s.heap.push (newSetO w)).objs.size, l] := by
          rw [zp]
          simp only [List.mem_cons, List.not_mem_nil, or_false, not_or]
          exact ⟨Nat.ne_of_lt (Nat.lt_succ_self _), Nat.ne_of_gt hlS⟩
        have hval : ∀ (i : Nat) (v : Value), items[i]? = some v → ∃ x t, xs[i]? = some x ∧ v = .str x t := fun i v hv => by
          obtain ⟨y, t, e1, e2⟩ := hit.item i v (by rw [Array.getElem?_toList]; exact hv)
          exact ⟨y, t, e2, e1⟩
        refine txt_update ((Walks.list (by simp [hh]) _ l neI items).toS) s.heap.objs.size nS xs isz (by omega) hval (items.size - 0) 0 _ (by omega) (Nat.zero_le _)
          ⟨⟨_, Heap.get?_push_size _ rfl, rfl, rfl⟩, (hl1.push _)⟩ ⟨[], txt_fresh (Heap.get?_push_of_some _ hS), Nat.le_refl _, by simp⟩ ?_
        intro s' L hm hS' g'
        obtain ⟨h', g2, d', tk', os'⟩ := s'
        have eg : g2 = s.gens := hm.gens
        have ed : d' = s.drawn := hm.drawn
        have eo : os' = s.os := hm.os
        subst eg ed eo
        show wpAny _ _ _ _ _ _
        refine wpAny_pure ?_
        show wpAny _ _ (ret Value.none) _ _ _
        rw [isz] at g'
        refine wpAny_pure ⟨rfl, h', tk', L, rfl, hS', g', fun c o e => ?_⟩
        have lc : c < s.heap.objs.size := Heap.lt_size e
        refine hm.heap c o ?_ (Heap.get?_push_of_some _ (Heap.get?_push_of_some _ e))
        simp only [List.mem_cons, List.not_mem_nil, or_false, not_or]
        refine ⟨Nat.ne_of_lt lc, ?_⟩
        rw [zp]
        exact Nat.ne_of_lt (Nat.lt_succ_of_lt lc)
      · intro r2 s2 hr2
        cases r2 with
        | error e => exact hr2
        | ok fl2 =>
          cases fl2 with
          | ret r =>
            obtain ⟨rfl, h', tk, L, rfl, hS', g', hk'⟩ := hr2
            repeat (any_goals (first | assumption | wp_step))
            exact h _ _ _ hS' g' hk'
          | _ => exact hr2.elim
    | _ => exact hr.elim
end
end Sw
set_option maxRecDepth 100000
set_option maxHeartbeats 4000000
namespace Sw
open PySem PySem.Spec PyProof.Rows L2
theorem strs_of_mem {w : World} : ∀ {l : List (Int × Value)} {L : List Str}, Paired (Mem1 w) l L → Paired (fun v x => ∃ t, v = Value.str x t) (l.map (·.2)) L
  | _, _, .nil => .nil
  | _, _, .cons ⟨t, h, _⟩ r => .cons ⟨t, h⟩ (strs_of_mem r)
theorem strs_of_paired : ∀ {l : List Value} {L : List Str}, Paired (fun v x => ∃ t, v = Value.str x t) l L → StrsAre l L
  | _, _, .nil => .nil
  | _, _, .cons ⟨t, h⟩ r => by
    subst h
    exact .cons _ t (strs_of_paired r)
section
variable {P : Program} {w : World} {A : Around} {E : Value → Shared → Prop} {s : Shared}
theorem sorted_txts {a : Addr} {L : List Str} {Q : Value → Shared → Prop} (R : TxtSet w s.heap a L) (hh : A.handled = none) (h64 : L.length < 64)
    (hQ : ∀ s' p (out : Array Value) (c : Nat) (ys : List Str), (∀ b o, s.heap.get? b = some o → s'.heap.get? b = some o) → s'.gens = s.gens → s'.os = s.os → s.heap.objs.size ≤ p →
      s'.heap.get? p = some (seqObj "list" out c) → StrsAre out.toList ys → ys.Perm L → sortedS ys = true → Q (.ref p) s') : wpAny (model P w) A (call (.builtin "sorted") [.ref a]) Q E s := by
  obtain ⟨o, es, ep, t, ho, hex, hd, pr, nd, hb, hf, hr, hl⟩ := R
  refine Calls.call_function_entry kind_sorted plain_sorted entry_sorted (args_sorted1 _) ?_
  unfold Builtin.«sorted»
  refine wpAny_bind (m := checkCount "sorted" 1 1 _) (wpAny_pure ?_)
  refine wpAny_bind (collect_set (A := A.in1) hh ⟨o, ho, hex.1, hd⟩ hf hb hr hl ?_)
  intro s1 vs k1 hz g1 o1 pm
  obtain ⟨L1, q1, q2⟩ := paired_perm pm (strs_of_mem pr)
  have hS := strs_of_paired q1
  have hvl : vs.length = L.length := by rw [q1.length, q2.length_eq]
  refine wpAny_bind (wpAny_newList ?_ (by rw [hvl, sizeLine_eq]; omega))
  have hoL : (s1.heap.push (seqObj "list" vs.toArray 0)).get? s1.heap.objs.size = some (seqObj "list" vs.toArray 0) := Heap.get?_push_size _ rfl
  refine wpAny_bind (wpAny_holding (wpAny_call_entry slot_list_sort ⟨_, hoL, rfl⟩ entry_list_sort (list_sort_treeK PyProof.Rows.strKind_oneLt hoL hS.keysOf (fun v₁ v₂ rest e => keyKind_strs (by rw [← e]; exact hS)) (by rw [hvl]; exact h64) ?_) (args_list_sort _)))
  intro st' hp hs
  obtain ⟨ys, a1, a2, a3⟩ := sorted_out_str hS hp hs
  generalize (arrOf st').map (·.2) = out at a1
  refine ⟨_, rfl, ?_⟩
  obtain ⟨c, hc⟩ := sortedHeap_at (vs := vs) (out := out) hoL
  refine wpAny_pure ⟨_, rfl, hQ _ s1.heap.objs.size out c ys ?_ g1 o1 hz hc a1 (a2.trans q2) a3⟩
  intro b u e
  have q := k1 b u e
  have lt := Heap.lt_size q
  show (sortedHeap (s1.heap.push (seqObj "list" vs.toArray 0)) s1.heap.objs.size vs out).get? b = some u
  rw [sortedHeap_old (Nat.ne_of_lt lt) (by rw [size_push']; exact Nat.lt_succ_of_lt lt)]
  exact Heap.get?_push_of_some _ q
end
/-- a set of texts as a thing of the abstract heap -/
def SetSO (w : World) (a : Addr) (L : List Str) : HO := .ext fun h => TxtSet w h a L
theorem setSO_ok {P : Program} {w : World} {H : Hp} {h : Heap} {a : Addr} {L : List Str} (R : TxtSet w h a L) : ObjOk P w H h a (SetSO w a L) := by
  refine ⟨R, ?_, fun h1 h2 r k => r.at k⟩
  obtain ⟨o, _, _, _, ho, _⟩ := R
  exact ⟨o, ho⟩
section
variable {X : Cx}
def rSetS (K : PySem.W.Frag) (w : World) : List V → Hp → VK → Prop := fun vs H Q => ∃ (l : Addr) (xs : List Str), vs = [.ref l] ∧ SqL K H l (xs.map V.str) ∧ xs.length ≤ 1000 ∧
  ∀ a L, H a = none → L.length ≤ xs.length → (∀ x, x ∈ L ↔ x ∈ xs) → Q (.ref a) (upd H a (SetSO w a L))
theorem cr_setS (hc : X.calm = true) : CallR X (.type "set") (rSetS X.K X.w) := by
  intro pins s σ H vs us Q I r h
  obtain ⟨l, xs, rfl, hl, hn, q⟩ := h
  obtain ⟨its, rv, hp, _⟩ := I.list hl
  rw [Vals.ref1 r]
  refine call_set_txts xs (I.ok.hd hc) hp.isList (by simpa using rv.strs) (by unfold scanBound; omega) ?_
  intro h' tk L hS g k
  have hf : H s.heap.objs.size = none := I.hok.fresh (Nat.le_refl _)
  refine ⟨.ref s.heap.objs.size, _, I.laid (t' := tk) (o := SetSO X.w s.heap.objs.size L) k (Nat.le_refl _) (setSO_ok hS), rfl, q _ L hf g.1 ?_⟩
  intro x
  have := g.2 x
  rwa [List.take_length] at this
def rSortedSS (w : World) : List V → Hp → VK → Prop := fun vs H Q => ∃ (a : Addr) (L : List Str), vs = [.ref a] ∧ H a = some (SetSO w a L) ∧ L.length < 64 ∧
  ∀ (ys : List Str) (p : Addr), ys.Perm L → L.Nodup → sortedS ys = true → H p = none → Q (.ref p) (upd H p (.lst (ys.map V.str)))
theorem cr_sortedSS (hc : X.calm = true) : CallR X (.builtin "sorted") (rSortedSS X.w) := by
  intro pins s σ H vs us Q I r h
  obtain ⟨a, L, rfl, ha, h64, q⟩ := h
  have R : TxtSet X.w s.heap a L := (I.hok a _ ha).1
  have nd : L.Nodup := by
    obtain ⟨_, _, _, _, _, _, _, _, nd, _⟩ := R
    exact nd
  rw [Vals.ref1 r]
  refine sorted_txts R (I.ok.hd hc) h64 ?_
  intro s' p out c ys k g o hp hg hi pm hs
  have hlen : (ys.map V.str).length ≤ sizeLine := by rw [List.length_map, pm.length_eq, sizeLine_eq]; omega
  have hn : H p = none := I.hok.fresh hp
  have J : Inv X pins σ (upd H p (.lst (ys.map V.str))) { s with heap := s'.heap, gens := s'.gens, drawn := s'.drawn, toks := s'.toks } :=
    I.call (ch := []) (Un.laid k hp hn) (I.hok.laid k hp ⟨hlen, out.toList, c, vals_of_strs hi, hg⟩) (by rw [g]; exact I.bare) (fun _ z => nomatch z)
  have e : s' = { s with heap := s'.heap, gens := s'.gens, drawn := s'.drawn, toks := s'.toks } := by
    cases s'; cases s; cases o; rfl
  rw [e]
  exact ⟨.ref p, _, J, rfl, q ys p pm nd hs hn⟩
end
end Sw
set_option maxRecDepth 100000
set_option maxHeartbeats 4000000
namespace Sw
open PySem PySem.Spec PyProof.Rows L2
def LtS (a b : Str) : Prop := a.cps.toList < b.cps.toList
theorem LtS.trans {a b c : Str} (h1 : LtS a b) (h2 : LtS b c) : LtS a c := List.lt_trans h1 h2
theorem LtS.irr {a : Str} : ¬ LtS a a := List.lt_irrefl _
theorem LtS.tri {a b : Str} (h : ¬ LtS b a) (hne : a ≠ b) : LtS a b := by
  have h1 : a.cps.toList ≤ b.cps.toList := h
  rcases List.le_iff_lt_or_eq.mp h1 with h2 | h2
  · exact h2
  · exfalso
    apply hne
    cases a with
    | mk x =>
      cases b with
      | mk y =>
        have : x = y := by
          have := congrArg List.toArray h2
          simpa using this
        rw [this]
theorem rises_pw : ∀ zs : List Str, rises zs = true ↔ zs.Pairwise LtS
  | [] => by simp [rises]
  | [_] => by simp [rises]
  | a :: b :: r => by
    have ih := rises_pw (b :: r)
    rw [show rises (a :: b :: r) = (decide (a.cps.toList < b.cps.toList) && rises (b :: r)) from rfl, Bool.and_eq_true, decide_eq_true_eq, ih]
    constructor
    · rintro ⟨h1, h2⟩
      refine List.pairwise_cons.mpr ⟨fun x hx => ?_, h2⟩
      rcases List.mem_cons.mp hx with rfl | hx
      · exact h1
      · exact LtS.trans h1 ((List.pairwise_cons.mp h2).1 x hx)
    · intro h
      obtain ⟨h1, h2⟩ := List.pairwise_cons.mp h
      exact ⟨h1 b List.mem_cons_self, h2⟩
theorem sorted_pw : ∀ (p : Str) (r : List Str), risingS p r = true → (p :: r).Nodup → (p :: r).Pairwise LtS
  | p, [], _, _ => by simp
  | p, x :: r, h, nd => by
    have h' : (!ltCps x.cps.toList p.cps.toList && risingS x r) = true := h
    rw [Bool.and_eq_true, ltCps_eq] at h'
    obtain ⟨n1, n2⟩ := List.nodup_cons.mp nd
    have ih := sorted_pw x r h'.2 n2
    have hx : LtS p x := LtS.tri (fun z => by have z2 := h'.1; rw [decide_eq_true (show x.cps.toList < p.cps.toList from z)] at z2; cases z2) (fun e => n1 (by rw [e]; exact List.mem_cons_self))
    refine List.pairwise_cons.mpr ⟨fun y hy => ?_, ih⟩
    rcases List.mem_cons.mp hy with rfl | hy
    · exact hx
    · exact LtS.trans hx ((List.pairwise_cons.mp ih).1 y hy)
theorem pw_unique : ∀ {ys zs : List Str}, ys.Pairwise LtS → zs.Pairwise LtS → (∀ x, x ∈ ys ↔ x ∈ zs) → ys = zs
  | [], [], _, _, _ => rfl
  | [], z :: zs, _, _, h => absurd ((h z).mpr List.mem_cons_self) List.not_mem_nil
  | y :: ys, [], _, _, h => absurd ((h y).mp List.mem_cons_self) List.not_mem_nil
  | y :: ys, z :: zs, h1, h2, h => by
    obtain ⟨a1, a2⟩ := List.pairwise_cons.mp h1
    obtain ⟨b1, b2⟩ := List.pairwise_cons.mp h2
    have e : y = z := by
      rcases List.mem_cons.mp ((h y).mp List.mem_cons_self) with e | m1
      · exact e
      · rcases List.mem_cons.mp ((h z).mpr List.mem_cons_self) with e | m2
        · exact e.symm
        · exact absurd ((b1 y m1).trans (a1 z m2)) LtS.irr
    subst e
    rw [pw_unique a2 b2]
    intro x
    constructor
    · intro hx
      rcases List.mem_cons.mp ((h x).mp (List.mem_cons_of_mem _ hx)) with e | m
      · subst e
        exact absurd (a1 x hx) LtS.irr
      · exact m
    · intro hx
      rcases List.mem_cons.mp ((h x).mpr (List.mem_cons_of_mem _ hx)) with e | m
      · subst e
        exact absurd (b1 x hx) LtS.irr
      · exact m
theorem eqvAll_strs : ∀ ys zs : List Str, PyData.eqvAll (ys.map .str) (zs.map .str) = decide (ys = zs)
  | [], [] => by simp [PyData.eqvAll]
  | [], _ :: _ => by simp [PyData.eqvAll]
  | _ :: _, [] => by simp [PyData.eqvAll]
  | y :: ys, z :: zs => by
    simp only [List.map_cons, PyData.eqvAll, PyData.eqv, eqvAll_strs ys zs]
    by_cases h1 : y = z <;> by_cases h2 : ys = zs <;> simp [h1, h2]
theorem eqv_strs (ys zs : List Str) : PyData.eqv (.list (ys.map .str)) (.list (zs.map .str)) = decide (ys = zs) := by
  simp only [PyData.eqv, eqvAll_strs]
theorem sorted_set_is {ys L zs : List Str} (pm : ys.Perm L) (nd : L.Nodup) (hs : sortedS ys = true) (hm : ∀ x, x ∈ L ↔ x ∈ zs) : decide (ys = zs) = rises zs := by
  have ndy : ys.Nodup := pm.nodup_iff.mpr nd
  have py : ys.Pairwise LtS := by
    cases ys with
    | nil => exact .nil
    | cons p r => exact sorted_pw p r hs ndy
  by_cases h : rises zs = true
  · rw [h, decide_eq_true_eq]
    exact pw_unique py ((rises_pw zs).mp h) fun x => by rw [pm.mem_iff, hm]
  · have h' : rises zs = false := by simpa using h
    rw [h', decide_eq_false_iff_not]
    intro e
    subst e
    exact h ((rises_pw _).mpr py)
end Sw
set_option maxRecDepth 100000
set_option maxHeartbeats 4000000
namespace Sw
open PySem PySem.Spec PyProof.Rows L2
/-- x is not True, x is not False, x an int or a bool -/
def rNotB2 : R2 := fun x y H Q => ∃ b : Bool, y = .bl b ∧ ((∃ i, x = .int i ∧ Q (.bl true) H) ∨ ∃ a, x = .bl a ∧ Q (.bl (!decide (a = b))) H)
theorem op_notB2 {X : Cx} : OpR X (compareOp .IsNot) rNotB2 := by
  intro pins s σ H x y v u Q I rx ry h
  obtain ⟨b, rfl, h⟩ := h
  cases (show u = Value.bool b from ry)
  rcases h with ⟨i, rfl, q⟩ | ⟨a, rfl, q⟩
  · obtain ⟨t, rfl⟩ := rx
    exact wpAny_isNot_other rfl (fun z => by cases z) ⟨.bl true, H, I, rfl, q⟩
  · cases (show v = Value.bool a from rx)
    by_cases e : a = b
    · subst e
      exact wpAny_isNot_self rfl ⟨.bl false, H, I, rfl, by simpa using q⟩
    · exact wpAny_isNot_other rfl (fun z => e (Value.bool.inj z)) ⟨.bl true, H, I, rfl, by simpa [e] using q⟩
section
variable {P : Program} {w : World} {K : PySem.W.Frag} {mg : Str → Option Value} {base : Heap}
theorem sc_lnum : FnScope ["_law_thing"] ["_law_thing"] (defScope (topS 22)) := ⟨rfl, rfl, rfl, by decide +kernel, rfl, by decide +kernel, by decide +kernel⟩
theorem ok_lnum {f : Addr} {fd : FuncData} (D : Df K mg "_law_number" (topS 22) ["_law_thing"] f fd) (B : Bt mg) : FnOk P w K mg base CX0 1 f fd ["_law_thing"] (spLook K dNum) := by
  refine D.fn.ok sc_lnum (fun vs H Q E h => ?_) (fun cdv A outer s H vs Q E hr h => ?_)
  · obtain ⟨v, d, rfl, _⟩ := h
    rfl
  obtain ⟨v, d, rfl, hd, hf, q⟩ := h
  refine ⟨_, pss_one (ps_ret (pe_and (pe_callB call_isi (by rfl) B.isi (by decide +kernel) (pa_cons (pv 0) (pa_cons (pe_bltn (v := .ty "int") (by rfl) B.int (by decide +kernel) rfl) pa_nil)))
    (pe_and (pe_cmpR op_notB2 (pv 0) pe_bl (nomark _)) (pe_one (pe_cmpR op_notB2 (pv 0) pe_bl (nomark _)))))), ?_⟩
  obtain ⟨t1, ty1, k1⟩ := isa_int hd
  refine ⟨v, rfl, v, .ty "int", t1, _, _, rfl, .ty _, ty1, k1, _, rfl, ?_⟩
  have q0 := q H (Same.refl H)
  cases hd with
  | int i =>
    refine iteT ⟨_, rfl, true, rfl, .inl ⟨i, rfl, _, rfl, ?_⟩⟩
    exact iteT ⟨_, rfl, false, rfl, .inl ⟨i, rfl, q0⟩⟩
  | bl b =>
    refine iteT ⟨_, rfl, true, rfl, .inr ⟨b, rfl, _, rfl, ?_⟩⟩
    cases b with
    | true => exact iteF q0
    | false => exact iteT ⟨_, rfl, false, rfl, .inr ⟨false, rfl, q0⟩⟩
  | non => exact iteF q0
  | str z => exact iteF q0
  | lst h r => exact iteF q0
  | tup h r => exact iteF q0
theorem sc_lword : FnScope ["_law_thing", "_law_sign"] ["_law_thing"] (defScope (topS 23)) := ⟨rfl, rfl, rfl, by decide +kernel, rfl, by decide +kernel, by decide +kernel⟩
/-- the signs that spoil a word -/
def bad (z : Str) : List Nat := z.cps.toList.filter fun c => !okSign c
theorem bad_nil (z : Str) : (bad z).isEmpty = z.cps.toList.all okSign := by
  unfold bad
  generalize z.cps.toList = l
  induction l with
  | nil => rfl
  | cons c l ih =>
    by_cases h : okSign c = true
    · simp [h, ← ih]
    · have h' : okSign c = false := by simpa using h
      simp [h']
theorem filter_signs {z : Str} : ((List.range z.cps.size).filter fun i => !okSign (z.cps.toList.getD i 0)).map (fun i => V.str ⟨#[z.cps.toList.getD i 0]⟩) = ((bad z).map fun c => (⟨#[c]⟩ : Str)).map V.str := by
  unfold bad
  have e : z.cps.toList = (List.range z.cps.size).map fun i => z.cps.toList.getD i 0 := by
    apply List.ext_getElem?
    intro i
    simp only [List.getElem?_map]
    by_cases h : i < z.cps.size
    · rw [List.getElem?_range h, List.getElem?_eq_getElem (by simpa using h)]
      simp [List.getD, List.getElem?_eq_getElem, h]
    · rw [List.getElem?_eq_none (by simpa using h), List.getElem?_eq_none (by simpa using h)]
      rfl
  conv => rhs; rw [e]
  rw [List.filter_map, List.map_map, List.map_map]
  rfl
theorem eqv_nil_list (xs : List PyData) : PyData.eqv (.list xs) (.list []) = xs.isEmpty := by
  cases xs <;> simp [PyData.eqv, PyData.eqvAll]
theorem eqv_nil_tup (xs : List PyData) : PyData.eqv (.tuple xs) (.tuple []) = xs.isEmpty := by
  cases xs <;> simp [PyData.eqv, PyData.eqvAll]
theorem strs_shaped {zs : List Str} (h : ∀ z ∈ zs, ∀ c ∈ z.cps.toList, c < 128) : SeqAt.shaped (.list (zs.map PyData.str)) = true := by
  have hf : leaf 0 (.list (zs.map PyData.str)) = true := by
    simp only [leaf]
    refine leafAll_iff.mpr fun x hx => ?_
    obtain ⟨z, hz, rfl⟩ := List.mem_map.mp hx
    exact leaf_str.mpr (h z hz)
  unfold SeqAt.shaped
  rw [leaf_canLay _ hf, Bool.true_and, decide_eq_true_eq]
  have : (PyData.list (zs.map PyData.str)).depth ≤ 0 + 1 := depth_list.mpr fun x hx => by
    obtain ⟨z, _, rfl⟩ := List.mem_map.mp hx
    simp [PyData.depth]
  omega
theorem nil_shaped : SeqAt.shaped (.list []) = true := by decide +kernel
theorem nilT_shaped : SeqAt.shaped (.tuple []) = true := by decide +kernel
theorem bad_sign (c : Nat) : (decide ((c : Int) < 97) || decide ((c : Int) > 122)) = !okSign c := by
  unfold okSign
  by_cases h1 : 97 ≤ c <;> by_cases h2 : c ≤ 122 <;> simp [h1, h2] <;> omega
theorem ok_lword {f : Addr} {fd : FuncData} (D : Df K mg "_law_worded" (topS 23) ["_law_thing"] f fd) (B : Bt mg) : FnOk P w K mg base CX0 1 f fd ["_law_thing"] (spLook K dWord) := by
  refine D.fn.ok sc_lword (fun vs H Q E h => ?_) (fun cdv A outer s H vs Q E hr h => ?_)
  · obtain ⟨v, d, rfl, _⟩ := h
    rfl
  obtain ⟨v, d, rfl, hd, ⟨M, hf⟩, q⟩ := h
  have hu := hr.units
  refine ⟨_, pss_cons (ps_if (PW.pt (pw_or (pt_not (pt_val (pe_callB call_isi (by rfl) B.isi (by decide +kernel) (pa_cons (pv 0) (pa_cons (pe_bltn (v := .ty "str") (by rfl) B.str (by decide +kernel) rfl) pa_nil)))))
      (pw_or (pt_cmpR op_eq (pv 0) pe_str (nomark _)) (pw_or1 (pt_cmpR op_gt (pe_callB call_len_str (by rfl) B.len PySem.boot_len (pa_cons (pv 0) pa_nil)) pe_int (nomark _)))))) (pss_one (ps_ret pe_bl)) pss_nil)
    (pss_one (ps_ret (pe_cmpR (op_eqD hu) (pe_lc (own := [("_law_sign", 1)]) (g := gName 1) rfl sc_lword.nd (pi_str (pv 0))
      (blkOk_by (N := ["_law_thing", "_law_sign"]) (sc := defScope (topS 23)) (by decide +kernel)) (fun _ _ _ _ _ => pg_name (i := 1) sc_lword.nd rfl (Or.inl rfl))
      (fun _ _ _ _ _ => pts_one (PW.pt (pw_or (pt_cmpR op_lt (pe_callB call_ord (by rfl) B.ord (by decide +kernel) (pa_cons (pv 1) pa_nil)) pe_int (nomark _)) (pw_or1 (pt_cmpR op_gt (pe_callB call_ord (by rfl) B.ord (by decide +kernel) (pa_cons (pv 1) pa_nil)) pe_int (nomark _))))))
      (fun _ _ _ _ _ => pv 1)) (pe_lst pa_nil) (nomark _)))), ?_⟩
  obtain ⟨t1, ty1, k1⟩ := isa_str hd
  refine ⟨v, rfl, v, .ty "str", t1, _, _, rfl, .ty _, ty1, k1, _, rfl, ?_⟩
  have q0 := q H (Same.refl H)
  cases hd with
  | str z =>
    have hz := fit_strlen hf (Nat.le_refl _)
    have hc := leaf_str.mp hf.lf
    refine iteF ⟨_, rfl, rfl, _, rfl, ?_⟩
    refine ite2 (fun c => ?_) (fun c => ?_)
    · have c' : z = Str.ofString "" := by
        have := of_decide_eq_true c
        injection this
      subst c'
      exact q0
    · have c' : ¬ z.length = 0 := fun e => c (by
        have : z = Str.ofString "" := by
          cases z with
          | mk cps =>
            have e' : cps.size = 0 := e
            have : cps = #[] := by simpa using e'
            subst this
            rfl
        rw [this]
        decide)
      refine ⟨_, rfl, z, rfl, hz, _, _, rfl, rfl, _, rfl, ?_⟩
      refine ite2 (fun c2 => ?_) (fun c2 => ?_)
      · have c3 : ¬ z.length ≤ 8 := by
          have := of_decide_eq_true c2
          omega
        have e : dWord (.str z) = false := by
          show wordS z = false
          unfold wordS
          rw [decide_eq_false c3]
          simp
        exact q_of e q0
      · have c3 : z.length ≤ 8 := by
          have := of_decide_eq_false (Bool.eq_false_iff.mpr c2)
          omega
        refine ⟨_, rfl, z, rfl, fun L hL => lc_pure walk_signs (fun i => !okSign (z.cps.toList.getD i 0)) (fun i => V.str ⟨#[z.cps.toList.getD i 0]⟩) hL (fun _ _ => trivial) (big_size (by have : z.cps.size = z.length := rfl; omega)) ?_ ?_ ?_⟩
        · intro i x H1 Q1 hi hx hs q1
          have hi' : i < z.cps.toList.length := by simpa using hi
          rw [List.getElem?_map, List.getElem?_eq_getElem hi'] at hx
          have hx' : V.str ⟨#[z.cps.toList[i]]⟩ = x := Option.some.inj hx
          subst hx'
          have eg : z.cps.toList.getD i 0 = z.cps.toList[i] := by simp [List.getD, List.getElem?_eq_getElem hi']
          rw [eg] at q1
          have eb := bad_sign z.cps.toList[i]
          refine ⟨_, rfl, _, rfl, rfl, _, _, rfl, rfl, _, rfl, ?_⟩
          refine ite2 (fun c4 => ?_) (fun c4 => ?_)
          · have e4 : (!okSign z.cps.toList[i]) = true := by rw [← eb]; simp only [Bool.or_eq_true]; exact .inl c4
            rw [e4] at q1
            exact q1 H1 (Same.refl H1)
          · refine ⟨_, rfl, _, rfl, rfl, _, _, rfl, rfl, _, rfl, ?_⟩
            have c5 : decide (((z.cps.toList[i] : Nat) : Int) < 97) = false := by simpa using c4
            rw [← eb, c5, Bool.false_or] at q1
            exact q1 H1 (Same.refl H1)
        · intro i x H1 Q1 hi hx hp hs q1
          have hi' : i < z.cps.toList.length := by simpa using hi
          rw [List.getElem?_map, List.getElem?_eq_getElem hi'] at hx
          have hx' : V.str ⟨#[z.cps.toList[i]]⟩ = x := Option.some.inj hx
          subst hx'
          have eg : z.cps.toList.getD i 0 = z.cps.toList[i] := by simp [List.getD, List.getElem?_eq_getElem hi']
          rw [eg] at q1
          exact ⟨_, rfl, q1 H1 (Same.refl H1)⟩
        · intro H1 s1 hL1
          rw [filter_signs] at hL1
          refine ⟨by show 0 ≤ sizeLine; exact Nat.zero_le _, fun N hN => ?_⟩
          have hLN : upd H1 N (.lst []) L = some (.lst (((bad z).map fun c => (⟨#[c]⟩ : Str)).map V.str)) := same_new hN _ _ hL1
          refine ⟨.list (((bad z).map fun c => (⟨#[c]⟩ : Str)).map PyData.str), .list [], .lst (SqL.of hLN) (DpAll_strs _), .lst (SqL.of upd_same) .nil, strs_shaped ?_, nil_shaped, ?_⟩
          · intro y hy c hcy
            obtain ⟨c0, hc0, rfl⟩ := List.mem_map.mp hy
            have : c = c0 := by simpa using hcy
            subst this
            exact hc c (List.mem_filter.mp hc0).1
          · rw [eqv_nil_list]
            have e : dWord (.str z) = (((bad z).map fun c => (⟨#[c]⟩ : Str)).map PyData.str).isEmpty := by
              show wordS z = _
              unfold wordS
              rw [decide_eq_true (show 1 ≤ z.length by omega), decide_eq_true c3, ← bad_nil]
              simp
            exact q_of e (q _ (s1.trans (same_new hN)))
  | non => exact iteT q0
  | bl b => exact iteT q0
  | int i => exact iteT q0
  | lst h r => exact iteT q0
  | tup h r => exact iteT q0
end
end Sw
set_option maxRecDepth 100000
set_option maxHeartbeats 4000000
namespace Sw
open PySem PySem.Spec PyProof.Rows L2
section
variable {P : Program} {w : World} {K : PySem.W.Frag} {mg : Str → Option Value} {base : Heap}
theorem sc_loper : FnScope ["_law_thing"] ["_law_thing"] (defScope (topS 24)) := ⟨rfl, rfl, rfl, by decide +kernel, rfl, by decide +kernel, by decide +kernel⟩
theorem ok_loper {f f1 f2 : Addr} {fd fd1 fd2 : FuncData} (D : Df K mg "_law_operanded" (topS 24) ["_law_thing"] f fd) (D1 : Df K mg "_law_number" (topS 22) ["_law_thing"] f1 fd1) (D2 : Df K mg "_law_worded" (topS 23) ["_law_thing"] f2 fd2)
    (G1 : FnOk P w K mg base CX0 1 f1 fd1 ["_law_thing"] (spLook K dNum)) (G2 : FnOk P w K mg base CX0 1 f2 fd2 ["_law_thing"] (spLook K dWord)) : FnOk P w K mg base CX0 2 f fd ["_law_thing"] (spLook K dOper) := by
  refine D.fn.ok sc_loper (fun vs H Q E h => ?_) (fun cdv A outer s H vs Q E hr h => ?_)
  · obtain ⟨v, d, rfl, _⟩ := h
    rfl
  obtain ⟨v, d, rfl, hd, hf, q⟩ := h
  refine ⟨_, pss_one (ps_ret (pe_or (pe_call G2 hr (by rfl) D2.gl D2.fn.kp D2.bd .nil pass0 (pa_cons (pv 0) pa_nil)) (pe_one (pe_call G1 hr (by rfl) D1.gl D1.fn.kp D1.bd .nil pass0 (pa_cons (pv 0) pa_nil))))), ?_⟩
  refine ⟨v, rfl, v, d, rfl, hd, hf, fun H1 s1 => ⟨_, rfl, ?_⟩⟩
  refine ite2 (fun c => ?_) (fun c => ?_)
  · exact q_of (by unfold dOper; rw [c, Bool.or_true]) (q H1 s1)
  · have c' : dWord d = false := by simpa using c
    refine ⟨v, rfl, v, d, rfl, Dp_same s1 hd, hf, fun H2 s2 => ?_⟩
    exact q_of (by unfold dOper; rw [c', Bool.or_false]) (q H2 (s1.trans s2))
/-- pairs whose first things are words -/
def dWp : PyData → Bool
  | .tuple [a, _] => dWord a
  | _ => false
def dPairs : PyData → Bool
  | .tuple ds => !ds.isEmpty && ds.all dWp && rises (ds.map fstS)
  | _ => false
theorem wp_parts {K : PySem.W.Frag} {H : Hp} {v : V} {d : PyData} (h : Dp K H v d) (o : dWp d = true) : ∃ (p : Addr) (z : Str) (v1 : V) (e : PyData), v = .ref p ∧ SqT K H p [.str z, v1] ∧ Dp K H v1 e ∧ fstS d = z ∧ d = .tuple [.str z, e] := by
  unfold dWp at o
  split at o
  · rename_i a b
    cases a with
    | str z =>
      cases h with
      | tup hs r =>
        cases r with
        | cons h0 r =>
          cases r with
          | cons h1 r =>
            cases r
            cases h0
            exact ⟨_, z, _, _, rfl, hs, h1, rfl, rfl⟩
    | _ => simp [dWord] at o
  · cases o
theorem isEmpty_len {α β : Type} {l : List α} {m : List β} (h : l.length = m.length) : l.isEmpty = m.isEmpty := by
  cases l <;> cases m <;> simp at h ⊢
theorem filter_none {α : Type} (l : List α) (p : α → Bool) : (l.filter fun x => !p x).isEmpty = l.all p := by
  induction l with
  | nil => rfl
  | cons c l ih =>
    by_cases h : p c = true
    · simp [h, ← ih]
    · have h' : p c = false := by simpa using h
      simp [h']
theorem range_filter_all {ds : List PyData} (p : PyData → Bool) : ((List.range ds.length).filter fun i => !p (ds.getD i .none)).isEmpty = ds.all p := by
  rw [filter_none]
  have e : ds = (List.range ds.length).map fun i => ds.getD i .none := by
    apply List.ext_getElem?
    intro i
    simp only [List.getElem?_map]
    by_cases h : i < ds.length
    · rw [List.getElem?_range h, List.getElem?_eq_getElem h]
      simp [List.getD, h]
    · rw [List.getElem?_eq_none (by omega), List.getElem?_eq_none (by simp; omega)]
      rfl
  conv => rhs; rw [e]
  rw [List.all_map]
  rfl
theorem fit_shaped {M l n B : Nat} {ds : List PyData} (h : ∀ d ∈ ds, Fit M l n B d) (hn : n ≤ 63) : SeqAt.shaped (.list ds) = true := by
  have hf : leaf M (.list ds) = true := by simp only [leaf]; exact leafAll_iff.mpr fun x hx => (h x hx).lf
  unfold SeqAt.shaped
  rw [leaf_canLay _ hf, Bool.true_and, decide_eq_true_eq]
  have : (PyData.list ds).depth ≤ n + 1 := depth_list.mpr fun x hx => (h x hx).dp
  omega
theorem obj_all : ∀ (ds : List PyData), ds.all dObj = true → ds.all dWp = true := by
  intro ds h
  refine List.all_eq_true.mpr fun d hd => ?_
  have o := List.all_eq_true.mp h d hd
  unfold dObj at o
  split at o
  · rw [Bool.and_eq_true] at o
    exact o.1
  · cases o
end
end Sw
set_option maxRecDepth 100000
set_option maxHeartbeats 4000000
namespace Sw
open PySem PySem.Spec PyProof.Rows L2
/-! ### a heap without one place -/
def del (H : Hp) (p : Addr) : Hp := fun c => if c = p then none else H c
theorem del_some {H : Hp} {p c : Addr} {o : HO} (h : H c = some o) (hc : c ≠ p) : del H p c = some o := by unfold del; rw [if_neg hc]; exact h
theorem of_del {H : Hp} {p c : Addr} {o : HO} (h : del H p c = some o) : H c = some o ∧ c ≠ p := by
  unfold del at h
  by_cases hc : c = p
  · rw [if_pos hc] at h; cases h
  · rw [if_neg hc] at h; exact ⟨h, hc⟩
theorem del_same (H : Hp) (p : Addr) : Same (del H p) H := fun c o h => (of_del h).1
theorem same_del {H H' : Hp} {p : Addr} (h : Same H H') : Same (del H p) (del H' p) := fun c o e => del_some (h _ _ (of_del e).1) (of_del e).2
theorem del_upd {H : Hp} {p : Addr} {o : HO} : Same (del H p) (del (upd H p o) p) := fun c u e => del_some (by rw [upd_ne (of_del e).2]; exact (of_del e).1) (of_del e).2
theorem del_new {H : Hp} {p a : Addr} {o : HO} (ha : H a = none) : Same (del H p) (del (upd H a o) p) := same_del (same_new ha)
theorem new_del {H : Hp} {p a : Addr} {o u : HO} (hp : H p = some u) (ha : H a = none) : del (upd H a o) p a = some o := del_some upd_same (fun e => by rw [e, hp] at ha; cases ha)
/-! ### what the draws stand on -/
structure FeedAt (H : Hp) (p fq : Addr) (b : Nat) : Prop where
  ex : ∃ (ns : List Int) (i j k : Int), H p = some (.lst [.ref fq, .int i, .int j, .int k]) ∧ H fq = some (.lst (ns.map V.int)) ∧ p ≠ fq ∧ 0 ≤ i ∧ 0 ≤ j ∧ 0 ≤ k ∧ k ≤ (b : Int) ∧ ns.length ≤ 63
theorem FeedAt.there {H : Hp} {p fq : Addr} {b : Nat} (h : FeedAt H p fq b) : ∃ u, H p = some u := by
  obtain ⟨ns, i, j, k, hp, _⟩ := h.ex
  exact ⟨_, hp⟩
theorem FeedAt.mono {H : Hp} {p fq : Addr} {b c : Nat} (h : FeedAt H p fq b) (hb : b ≤ c) : FeedAt H p fq c := by
  obtain ⟨ns, i, j, k, h1, h2, h3, h4, h5, h6, h7, h8⟩ := h.ex
  exact ⟨ns, i, j, k, h1, h2, h3, h4, h5, h6, by omega, h8⟩
theorem FeedAt.same {H H' : Hp} {p fq : Addr} {b : Nat} (h : FeedAt H p fq b) (s : Same H H') : FeedAt H' p fq b := by
  obtain ⟨ns, i, j, k, h1, h2, h3⟩ := h.ex
  exact ⟨ns, i, j, k, s _ _ h1, s _ _ h2, h3⟩
/-- another list changes -/
theorem FeedAt.upd {H : Hp} {p fq a : Addr} {b : Nat} {o : HO} (h : FeedAt H p fq b) (h1 : a ≠ p) (h2 : a ≠ fq) : FeedAt (upd H a o) p fq b := by
  obtain ⟨ns, i, j, k, g1, g2, g3⟩ := h.ex
  exact ⟨ns, i, j, k, by rw [upd_ne (Ne.symm h1)]; exact g1, by rw [upd_ne (Ne.symm h2)]; exact g2, g3⟩
theorem FeedAt.ne {H : Hp} {p fq a : Addr} {b : Nat} (h : FeedAt H p fq b) (ha : H a = none) : a ≠ p ∧ a ≠ fq := by
  obtain ⟨ns, i, j, k, g1, g2, g3⟩ := h.ex
  exact ⟨Ne.symm (ne_of_none g1 ha), Ne.symm (ne_of_none g2 ha)⟩
/-- xs[i], for xs[i] += e -/
theorem get_list {X : Cx} : PGet X (fun o i H Q => ∃ p xs k v, o = .ref p ∧ i = .int k ∧ 0 ≤ k ∧ SqL X.K H p xs ∧ xs[k.toNat]? = some v ∧ Q v H) := by
  intro pins s σ H o i ov iv Q I ro ri h
  obtain ⟨p, xs, k, v, rfl, rfl, h0, hq, he, q⟩ := h
  cases ro
  obtain ⟨t, rfl⟩ := ri
  obtain ⟨its, r, pl, hz⟩ := I.list hq
  obtain ⟨u, eu, ru⟩ := r.get he
  have hl := (List.getElem?_eq_some_iff.mp he).1
  have hn := line63
  exact wpAny_getItem_list pl.isList h0 (by omega) (by simpa using eu) ⟨v, H, I, ru, q⟩
theorem ints_shaped (ns : List Int) : SeqAt.shaped (.list (ns.map PyData.int)) = true := by
  have hf : PyData.canLayAll0 (ns.map PyData.int) = true := by
    induction ns with
    | nil => simp [PyData.canLayAll0]
    | cons n ns ih => simp [PyData.canLayAll0, PyData.canLay0, ih]
  unfold SeqAt.shaped
  rw [show (PyData.list (ns.map PyData.int)).canLay0 = true by simpa [PyData.canLay0] using hf, Bool.true_and, decide_eq_true_eq]
  have : (PyData.list (ns.map PyData.int)).depth ≤ 0 + 1 := depth_list.mpr fun x hx => by
    obtain ⟨z, _, rfl⟩ := List.mem_map.mp hx
    simp [PyData.depth]
  omega
theorem DpAll_ints {K : PySem.W.Frag} {H : Hp} : ∀ ns : List Int, DpAll K H (ns.map V.int) (ns.map PyData.int)
  | [] => .nil
  | n :: ns => .cons (.int n) (DpAll_ints ns)
theorem md {x A : Int} (h : 0 < A) (hA : A ≤ 4294967296) : -(2 ^ 64) < x % A ∧ x % A < 2 ^ 64 := by
  have h1 := Int.emod_nonneg x (by omega : A ≠ 0)
  have h2 := Int.emod_lt_of_pos x h
  constructor <;> omega
section
variable {P : Program} {w : World} {K : PySem.W.Frag} {mg : Str → Option Value} {base : Heap}
def spDraw : Sp := fun vs H Q _ => ∃ (p fq : Addr) (m : Int) (b : Nat), vs = [.ref p, .int m] ∧ FeedAt H p fq b ∧ b ≤ 1000000000 ∧ 1 ≤ m ∧ m ≤ 1000000 ∧
  ∀ (r : Int) (H' : Hp), 0 ≤ r → r < m → Same (del H p) (del H' p) → FeedAt H' p fq (b + 1) → Q (.int r) H'
theorem sc_draw : FnScope ["_law_feed_here", "_law_many", "_law_told", "_law_cell", "_law_turn", "_law_mixed"] ["_law_feed_here", "_law_many"] (defScope (topS 16)) := ⟨rfl, rfl, rfl, by decide +kernel, rfl, by decide +kernel, by decide +kernel⟩
theorem ok_draw {f : Addr} {fd : FuncData} (D : Df K mg "_law_draw" (topS 16) ["_law_feed_here", "_law_many"] f fd) (B : Bt mg) : FnOk P w K mg base CX0 1 f fd ["_law_feed_here", "_law_many"] spDraw := by
  refine D.fn.ok sc_draw (fun vs H Q E h => ?_) (fun cdv A outer s H vs Q E hr h => ?_)
  · obtain ⟨p, qa, m, b, rfl, _⟩ := h
    rfl
  obtain ⟨p, qa, m, b, rfl, hF, hb, hm1, hm2, q⟩ := h
  obtain ⟨ns, i, j, k, hp, hq, hne, hi, hj, hk, hkb, hn⟩ := hF.ex
  have hu := hr.units
  have nd := sc_draw.nd
  refine ⟨_, pss_cons (ps_augS (pv 0) pe_int get_list pe_int ip_add set_list)
    (pss_cons (ps_if (pt_cmpR op_gt (pe_ix ix_list (pv 0) pe_int (fun _ _ => rfl)) pe_int (nomark _))
      (pss_cons (ps_set (i := 2) nd rfl (Or.inl rfl) (pe_op op_mod (pe_ix ix_list (pv 0) pe_int (fun _ _ => rfl)) (pv 1)))
      (pss_cons (ps_asg (pe_op op_fdiv (pe_ix ix_list (pv 0) pe_int (fun _ _ => rfl)) (pv 1)) (pg_sub (pv 0) pe_int set_list))
      (pss_one (ps_ret (pv 2))))) pss_nil)
    (pss_cons (ps_set (i := 3) nd rfl (Or.inl rfl) (pe_ifExp (pt_cmpR (op_eqD hu) (pe_ix ix_list (pv 0) pe_int (fun _ _ => rfl)) (pe_lst pa_nil) (nomark _)) pe_int
      (pe_ix ix_list (pe_ix ix_list (pv 0) pe_int (fun _ _ => rfl)) (pe_op op_mod (pe_ix ix_list (pv 0) pe_int (fun _ _ => rfl)) (pe_callB call_len_seq (by rfl) B.len PySem.boot_len (pa_cons (pe_ix ix_list (pv 0) pe_int (fun _ _ => rfl)) pa_nil))) (fun _ _ => rfl))))
    (pss_cons (ps_augS (pv 0) pe_int get_list pe_int ip_add set_list)
    (pss_cons (ps_if (PW.pt (pw_and (pt_cmpR op_ge (pv 3) (pe_op op_pow pe_int pe_int) (nomark _)) (pw_and1 (pt_cmpR op_le (pe_ix ix_list (pv 0) pe_int (fun _ _ => rfl)) (pe_callB call_len_seq (by rfl) B.len PySem.boot_len (pa_cons (pe_ix ix_list (pv 0) pe_int (fun _ _ => rfl)) pa_nil)) (nomark _)))))
      (pss_cons (ps_asg (pe_op op_fdiv (pv 3) (pv 1)) (pg_sub (pv 0) pe_int set_list))
      (pss_one (ps_ret (pe_op op_mod (pv 3) (pv 1))))) pss_nil)
    (pss_cons (ps_set (i := 4) nd rfl (Or.inl rfl) (pe_ix ix_list (pv 0) pe_int (fun _ _ => rfl)))
    (pss_cons (ps_set (i := 5) nd rfl (Or.inl rfl) (pe_op op_mod (pe_op op_add (pe_op op_add (pe_op op_mod (pv 3) pe_int) (pe_op op_mul (pe_op op_mul pe_int (pv 4)) (pv 4))) (pe_op op_mul pe_int (pv 4))) pe_int))
    (pss_cons (ps_set (i := 5) nd rfl (Or.inl rfl) (pe_op op_mod (pe_op op_add (pe_op op_mul (pv 5) (pv 5)) (pe_op op_mul pe_int (pv 4))) pe_int))
    (pss_cons (ps_set (i := 5) nd rfl (Or.inl rfl) (pe_op op_mod (pe_op op_add (pe_op op_mul (pv 5) (pv 5)) (pe_op op_mul pe_int (pv 4))) pe_int))
    (pss_one (ps_ret (pe_op op_mod (pe_op op_fdiv (pe_op op_mod (pe_op op_add (pe_op op_mul (pv 5) (pv 5)) (pv 4)) pe_int) pe_int) (pv 1)))))))))))), ?_⟩
  -- feed[3] += 1
  refine ⟨_, rfl, p, _, 3, _, rfl, rfl, by decide, SqL.of hp, rfl, k, 1, rfl, rfl, p, _, 3, 3, rfl, rfl, hp, rfl, ?_⟩
  generalize hH1 : upd H p (HO.lst ([V.ref qa, V.int i, V.int j, V.int k].set 3 (V.int ((fun i j => i + j) k 1)))) = H1
  have hp1 : H1 p = some (.lst [.ref qa, .int i, .int j, .int (k + 1)]) := by rw [← hH1]; exact upd_same
  have hq1 : H1 qa = some (.lst (ns.map V.int)) := by rw [← hH1, upd_ne (Ne.symm hne)]; exact hq
  have d1 : Same (del H p) (del H1 p) := by rw [← hH1]; exact del_upd
  clear hH1
  -- if feed[2] > 0
  refine ⟨_, rfl, p, _, 2, _, rfl, rfl, SqL.of hp1, atI_nat (j := 2) rfl, j, 0, rfl, rfl, _, rfl, ?_⟩
  refine ite2 (fun c => ?_) (fun c => ?_)
  · refine ⟨_, rfl, p, _, 2, _, rfl, rfl, SqL.of hp1, atI_nat (j := 2) rfl, _, rfl, j, m, rfl, rfl, (by show (0 : Int) < m; omega), ?_⟩
    refine ⟨_, rfl, p, _, 2, _, rfl, rfl, SqL.of hp1, atI_nat (j := 2) rfl, _, rfl, j, m, rfl, rfl, ⟨by omega, by omega⟩, _, rfl, p, _, 2, 2, rfl, rfl, hp1, rfl, ?_⟩
    refine ⟨_, rfl, q _ _ (Int.emod_nonneg _ (by omega)) (Int.emod_lt_of_pos _ (by omega)) (d1.trans del_upd) ⟨ns, i, j / m, k + 1, upd_same, ?_, hne, hi, Int.ediv_nonneg hj (by omega), by omega, by omega, hn⟩⟩
    rw [upd_ne (Ne.symm hne)]
    exact hq1
  -- the cell
  refine ⟨_, rfl, p, _, 0, _, rfl, rfl, SqL.of hp1, atI_nat (j := 0) rfl, Nat.zero_le _, fun N hN => ?_⟩
  have sN : Same H1 (upd H1 N (.lst [])) := same_new hN
  refine ⟨.list (ns.map PyData.int), .list [], .lst (SqL.of (sN _ _ hq1)) (DpAll_ints _), .lst (SqL.of upd_same) .nil, ints_shaped _, nil_shaped, _, rfl, ?_⟩
  have d2 : Same (del H p) (del (upd H1 N (.lst [])) p) := d1.trans (same_del sN)
  have hp2 := sN _ _ hp1
  have hq2 := sN _ _ hq1
  generalize upd H1 N (.lst []) = H2 at d2 hp2 hq2
  rw [eqv_nil_list]
  refine ite2 (fun c2 => ?_) (fun c2 => ?_)
  rotate_left
  · have hne0 : ns.length ≠ 0 := fun e => c2 (by rw [List.eq_nil_of_length_eq_zero e]; rfl)
    have hml : (ns.map V.int).length = ns.length := List.length_map _
    have e1 : 0 ≤ i % ((ns.map V.int).length : Int) := Int.emod_nonneg _ (by rw [hml]; omega)
    have e2 : i % ((ns.map V.int).length : Int) < ((ns.map V.int).length : Int) := Int.emod_lt_of_pos _ (by rw [hml]; omega)
    obtain ⟨t, ht⟩ : ∃ t : Nat, i % ((ns.map V.int).length : Int) = (t : Int) := ⟨_, (Int.toNat_of_nonneg e1).symm⟩
    have ht2 : t < ns.length := by rw [ht, hml] at e2; omega
    have hat : atI (ns.map V.int) (i % ((ns.map V.int).length : Int)) = some (V.int ns[t]) := by
      rw [ht]
      exact atI_nat (by rw [List.getElem?_map, List.getElem?_eq_getElem ht2]; rfl)
    refine ⟨_, rfl, p, _, 0, _, rfl, rfl, SqL.of hp2, atI_nat (j := 0) rfl, _, rfl, p, _, 1, _, rfl, rfl, SqL.of hp2, atI_nat (j := 1) rfl, _, rfl, p, _, 0, _, rfl, rfl, SqL.of hp2, atI_nat (j := 0) rfl, qa, _, rfl, .inl (SqL.of hq2), i, _, rfl, rfl, (by show (0 : Int) < _; rw [hml]; omega), qa, _, _, _, rfl, rfl, SqL.of hq2, hat, ?_⟩
    generalize ns[t] = cell
    refine ⟨_, rfl, p, _, 1, _, rfl, rfl, by decide, SqL.of hp2, rfl, i, 1, rfl, rfl, p, _, 1, 1, rfl, rfl, hp2, rfl, ?_⟩
    generalize hH3 : upd H2 p (HO.lst ([V.ref qa, V.int i, V.int j, V.int (k + 1)].set 1 (V.int ((fun i j => i + j) i 1)))) = H3
    have hp3 : H3 p = some (.lst [.ref qa, .int (i + 1), .int j, .int (k + 1)]) := by rw [← hH3]; exact upd_same
    have hq3 : H3 qa = some (.lst (ns.map V.int)) := by rw [← hH3, upd_ne (Ne.symm hne)]; exact hq2
    have d3 : Same (del H p) (del H3 p) := by rw [← hH3]; exact d2.trans del_upd
    clear hH3
    refine ⟨_, rfl, 10, 18, rfl, rfl, ⟨by decide, by decide, by decide⟩, _, _, rfl, rfl, _, rfl, ?_⟩
    refine ite2 (fun c3 => ?_) (fun c3 => ?_)
    · have c4 := of_decide_eq_true c3
      refine ⟨_, rfl, p, _, 1, _, rfl, rfl, SqL.of hp3, atI_nat (j := 1) rfl, _, rfl, p, _, 0, _, rfl, rfl, SqL.of hp3, atI_nat (j := 0) rfl, qa, _, rfl, .inl (SqL.of hq3), _, _, rfl, rfl, _, rfl, ?_⟩
      refine ite2 (fun c5 => ?_) (fun c5 => ?_)
      · refine ⟨_, rfl, _, rfl, _, m, rfl, rfl, ⟨by omega, by omega⟩, _, rfl, p, _, 2, 2, rfl, rfl, hp3, rfl, ?_⟩
        refine ⟨_, rfl, _, rfl, _, m, rfl, rfl, (by show (0 : Int) < m; omega), ?_⟩
        refine q _ _ (Int.emod_nonneg _ (by omega)) (Int.emod_lt_of_pos _ (by omega)) (d3.trans del_upd) ⟨ns, i + 1, _, k + 1, upd_same, ?_, hne, by omega, Int.ediv_nonneg (Int.le_trans (by decide) c4) (by omega), by omega, by omega, hn⟩
        rw [upd_ne (Ne.symm hne)]
        exact hq3
      · refine ⟨_, rfl, p, _, 3, _, rfl, rfl, SqL.of hp3, atI_nat (j := 3) rfl, ?_⟩
        refine ⟨_, rfl, _, 2147483629, rfl, rfl, (by show (0 : Int) < 2147483629; decide), _, rfl, 69621, k + 1, rfl, rfl, .inl ⟨by decide, by decide⟩, _, rfl, _, k + 1, rfl, rfl, .inr ⟨by omega, by omega⟩, _, _, rfl, rfl, _, rfl, 7, k + 1, rfl, rfl, .inl ⟨by decide, by decide⟩, _, _, rfl, rfl, _, 2147483629, rfl, rfl, (by show (0 : Int) < 2147483629; decide), ?_⟩
        refine ⟨_, rfl, _, rfl, _, _, rfl, rfl, .inl (md (by decide) (by decide)), _, rfl, 48271, k + 1, rfl, rfl, .inl ⟨by decide, by decide⟩, _, _, rfl, rfl, _, 2147483647, rfl, rfl, (by show (0 : Int) < 2147483647; decide), ?_⟩
        refine ⟨_, rfl, _, rfl, _, _, rfl, rfl, .inl (md (by decide) (by decide)), _, rfl, 16807, k + 1, rfl, rfl, .inl ⟨by decide, by decide⟩, _, _, rfl, rfl, _, 2147483587, rfl, rfl, (by show (0 : Int) < 2147483587; decide), ?_⟩
        refine ⟨_, rfl, _, rfl, _, _, rfl, rfl, .inl (md (by decide) (by decide)), _, rfl, _, k + 1, rfl, rfl, _, 2147483629, rfl, rfl, (by show (0 : Int) < 2147483629; decide), _, 131, rfl, rfl, ⟨by decide, by decide⟩, _, rfl, _, m, rfl, rfl, by show (0 : Int) < m; omega, ?_⟩
        exact q _ _ (Int.emod_nonneg _ (by omega)) (Int.emod_lt_of_pos _ (by omega)) d3 ⟨ns, i + 1, j, k + 1, hp3, hq3, hne, by omega, hj, by omega, by omega, hn⟩
    · refine iteF ?_
      refine ⟨_, rfl, p, _, 3, _, rfl, rfl, SqL.of hp3, atI_nat (j := 3) rfl, ?_⟩
      refine ⟨_, rfl, _, 2147483629, rfl, rfl, (by show (0 : Int) < 2147483629; decide), _, rfl, 69621, k + 1, rfl, rfl, .inl ⟨by decide, by decide⟩, _, rfl, _, k + 1, rfl, rfl, .inr ⟨by omega, by omega⟩, _, _, rfl, rfl, _, rfl, 7, k + 1, rfl, rfl, .inl ⟨by decide, by decide⟩, _, _, rfl, rfl, _, 2147483629, rfl, rfl, (by show (0 : Int) < 2147483629; decide), ?_⟩
      refine ⟨_, rfl, _, rfl, _, _, rfl, rfl, .inl (md (by decide) (by decide)), _, rfl, 48271, k + 1, rfl, rfl, .inl ⟨by decide, by decide⟩, _, _, rfl, rfl, _, 2147483647, rfl, rfl, (by show (0 : Int) < 2147483647; decide), ?_⟩
      refine ⟨_, rfl, _, rfl, _, _, rfl, rfl, .inl (md (by decide) (by decide)), _, rfl, 16807, k + 1, rfl, rfl, .inl ⟨by decide, by decide⟩, _, _, rfl, rfl, _, 2147483587, rfl, rfl, (by show (0 : Int) < 2147483587; decide), ?_⟩
      refine ⟨_, rfl, _, rfl, _, _, rfl, rfl, .inl (md (by decide) (by decide)), _, rfl, _, k + 1, rfl, rfl, _, 2147483629, rfl, rfl, (by show (0 : Int) < 2147483629; decide), _, 131, rfl, rfl, ⟨by decide, by decide⟩, _, rfl, _, m, rfl, rfl, by show (0 : Int) < m; omega, ?_⟩
      exact q _ _ (Int.emod_nonneg _ (by omega)) (Int.emod_lt_of_pos _ (by omega)) d3 ⟨ns, i + 1, j, k + 1, hp3, hq3, hne, by omega, hj, by omega, by omega, hn⟩
  · refine ⟨_, rfl, p, _, 1, _, rfl, rfl, by decide, SqL.of hp2, rfl, i, 1, rfl, rfl, p, _, 1, 1, rfl, rfl, hp2, rfl, ?_⟩
    generalize hH3 : upd H2 p (HO.lst ([V.ref qa, V.int i, V.int j, V.int (k + 1)].set 1 (V.int ((fun i j => i + j) i 1)))) = H3
    have hp3 : H3 p = some (.lst [.ref qa, .int (i + 1), .int j, .int (k + 1)]) := by rw [← hH3]; exact upd_same
    have hq3 : H3 qa = some (.lst (ns.map V.int)) := by rw [← hH3, upd_ne (Ne.symm hne)]; exact hq2
    have d3 : Same (del H p) (del H3 p) := by rw [← hH3]; exact d2.trans del_upd
    clear hH3
    refine ⟨_, rfl, 10, 18, rfl, rfl, ⟨by decide, by decide, by decide⟩, _, _, rfl, rfl, _, rfl, ?_⟩
    refine ite2 (fun c3 => ?_) (fun c3 => ?_)
    · have c4 := of_decide_eq_true c3
      refine ⟨_, rfl, p, _, 1, _, rfl, rfl, SqL.of hp3, atI_nat (j := 1) rfl, _, rfl, p, _, 0, _, rfl, rfl, SqL.of hp3, atI_nat (j := 0) rfl, qa, _, rfl, .inl (SqL.of hq3), _, _, rfl, rfl, _, rfl, ?_⟩
      refine ite2 (fun c5 => ?_) (fun c5 => ?_)
      · refine ⟨_, rfl, _, rfl, _, m, rfl, rfl, ⟨by omega, by omega⟩, _, rfl, p, _, 2, 2, rfl, rfl, hp3, rfl, ?_⟩
        refine ⟨_, rfl, _, rfl, _, m, rfl, rfl, (by show (0 : Int) < m; omega), ?_⟩
        refine q _ _ (Int.emod_nonneg _ (by omega)) (Int.emod_lt_of_pos _ (by omega)) (d3.trans del_upd) ⟨ns, i + 1, _, k + 1, upd_same, ?_, hne, by omega, Int.ediv_nonneg (Int.le_trans (by decide) c4) (by omega), by omega, by omega, hn⟩
        rw [upd_ne (Ne.symm hne)]
        exact hq3
      · refine ⟨_, rfl, p, _, 3, _, rfl, rfl, SqL.of hp3, atI_nat (j := 3) rfl, ?_⟩
        refine ⟨_, rfl, _, 2147483629, rfl, rfl, (by show (0 : Int) < 2147483629; decide), _, rfl, 69621, k + 1, rfl, rfl, .inl ⟨by decide, by decide⟩, _, rfl, _, k + 1, rfl, rfl, .inr ⟨by omega, by omega⟩, _, _, rfl, rfl, _, rfl, 7, k + 1, rfl, rfl, .inl ⟨by decide, by decide⟩, _, _, rfl, rfl, _, 2147483629, rfl, rfl, (by show (0 : Int) < 2147483629; decide), ?_⟩
        refine ⟨_, rfl, _, rfl, _, _, rfl, rfl, .inl (md (by decide) (by decide)), _, rfl, 48271, k + 1, rfl, rfl, .inl ⟨by decide, by decide⟩, _, _, rfl, rfl, _, 2147483647, rfl, rfl, (by show (0 : Int) < 2147483647; decide), ?_⟩
        refine ⟨_, rfl, _, rfl, _, _, rfl, rfl, .inl (md (by decide) (by decide)), _, rfl, 16807, k + 1, rfl, rfl, .inl ⟨by decide, by decide⟩, _, _, rfl, rfl, _, 2147483587, rfl, rfl, (by show (0 : Int) < 2147483587; decide), ?_⟩
        refine ⟨_, rfl, _, rfl, _, _, rfl, rfl, .inl (md (by decide) (by decide)), _, rfl, _, k + 1, rfl, rfl, _, 2147483629, rfl, rfl, (by show (0 : Int) < 2147483629; decide), _, 131, rfl, rfl, ⟨by decide, by decide⟩, _, rfl, _, m, rfl, rfl, by show (0 : Int) < m; omega, ?_⟩
        exact q _ _ (Int.emod_nonneg _ (by omega)) (Int.emod_lt_of_pos _ (by omega)) d3 ⟨ns, i + 1, j, k + 1, hp3, hq3, hne, by omega, hj, by omega, by omega, hn⟩
    · refine iteF ?_
      refine ⟨_, rfl, p, _, 3, _, rfl, rfl, SqL.of hp3, atI_nat (j := 3) rfl, ?_⟩
      refine ⟨_, rfl, _, 2147483629, rfl, rfl, (by show (0 : Int) < 2147483629; decide), _, rfl, 69621, k + 1, rfl, rfl, .inl ⟨by decide, by decide⟩, _, rfl, _, k + 1, rfl, rfl, .inr ⟨by omega, by omega⟩, _, _, rfl, rfl, _, rfl, 7, k + 1, rfl, rfl, .inl ⟨by decide, by decide⟩, _, _, rfl, rfl, _, 2147483629, rfl, rfl, (by show (0 : Int) < 2147483629; decide), ?_⟩
      refine ⟨_, rfl, _, rfl, _, _, rfl, rfl, .inl (md (by decide) (by decide)), _, rfl, 48271, k + 1, rfl, rfl, .inl ⟨by decide, by decide⟩, _, _, rfl, rfl, _, 2147483647, rfl, rfl, (by show (0 : Int) < 2147483647; decide), ?_⟩
      refine ⟨_, rfl, _, rfl, _, _, rfl, rfl, .inl (md (by decide) (by decide)), _, rfl, 16807, k + 1, rfl, rfl, .inl ⟨by decide, by decide⟩, _, _, rfl, rfl, _, 2147483587, rfl, rfl, (by show (0 : Int) < 2147483587; decide), ?_⟩
      refine ⟨_, rfl, _, rfl, _, _, rfl, rfl, .inl (md (by decide) (by decide)), _, rfl, _, k + 1, rfl, rfl, _, 2147483629, rfl, rfl, (by show (0 : Int) < 2147483629; decide), _, 131, rfl, rfl, ⟨by decide, by decide⟩, _, rfl, _, m, rfl, rfl, by show (0 : Int) < m; omega, ?_⟩
      exact q _ _ (Int.emod_nonneg _ (by omega)) (Int.emod_lt_of_pos _ (by omega)) d3 ⟨ns, i + 1, j, k + 1, hp3, hq3, hne, by omega, hj, by omega, by omega, hn⟩
end
end Sw
set_option maxRecDepth 100000
set_option maxHeartbeats 4000000
namespace Sw
open PySem PySem.Spec PyProof.Rows L2
abbrev abc : Str := "abcdefghijklmnopqrstuvwxyz"
theorem abc_list : abc.cps.toList = (List.range 26).map (97 + ·) := by decide +kernel
theorem abc_len : abc.length ≤ sizeLine := by decide +kernel
theorem abc_at {r : Int} (h0 : 0 ≤ r) (h1 : r < 26) : ∃ c, atI abc.cps.toList r = some c ∧ okSign c = true := by
  obtain ⟨n, rfl⟩ : ∃ n : Nat, r = (n : Int) := ⟨r.toNat, (Int.toNat_of_nonneg h0).symm⟩
  have hn : n < 26 := by omega
  refine ⟨97 + n, atI_nat (by rw [abc_list, List.getElem?_map, List.getElem?_range hn]; rfl), ?_⟩
  unfold okSign
  simp
  omega
theorem abc_index : ((List.range 26).all fun k => (Txt.index0 abc ⟨#[97 + k]⟩).isSome) = true := by decide +kernel
theorem abc_found {c : Nat} (h : okSign c = true) : Txt.index0 abc ⟨#[c]⟩ ≠ none := by
  unfold okSign at h
  rw [Bool.and_eq_true, decide_eq_true_eq, decide_eq_true_eq] at h
  have := List.all_eq_true.mp abc_index (c - 97) (List.mem_range.mpr (by omega))
  rw [show 97 + (c - 97) = c by omega] at this
  intro z
  rw [z] at this
  cases this
structure IsWord (z : Str) : Prop where
  lo : 1 ≤ z.length
  hi : z.length ≤ 8
  ok : ∀ c ∈ z.cps.toList, okSign c = true
theorem len_list (z : Str) : z.length = z.cps.toList.length := by simp [Str.length]
theorem app_list (x y : Str) : (x ++ y).cps.toList = x.cps.toList ++ y.cps.toList := by
  show (x.cps ++ y.cps).toList = _
  simp
theorem app_len (x y : Str) : (x ++ y).length = x.length + y.length := by
  rw [len_list, len_list, len_list, app_list, List.length_append]
theorem IsWord.small {z : Str} (h : IsWord z) : z.length ≤ sizeLine := by have := h.hi; rw [sizeLine_eq]; omega
theorem IsWord.ascii {z : Str} (h : IsWord z) : ∀ c ∈ z.cps.toList, c < 128 := fun c hc => by
  have := h.ok c hc
  unfold okSign at this
  rw [Bool.and_eq_true, decide_eq_true_eq, decide_eq_true_eq] at this
  omega
theorem one_sign {c : Nat} (h : okSign c = true) : IsWord ⟨#[c]⟩ := ⟨by show 1 ≤ 1; omega, by show 1 ≤ 8; omega, fun d hd => by
  have : d = c := by simpa using hd
  rw [this]; exact h⟩
theorem IsWord.app {x y : Str} (hx : IsWord x) (hy : ∀ c ∈ y.cps.toList, okSign c = true) (hl : x.length + y.length ≤ 8) : IsWord (x ++ y) := by
  refine ⟨by rw [app_len]; have := hx.lo; omega, by rw [app_len]; exact hl, fun c hc => ?_⟩
  rw [app_list, List.mem_append] at hc
  exact hc.elim (hx.ok c) (hy c)
theorem cutS_list (z : Str) {n : Nat} (hn : n ≤ z.length) : (cutS z none (some (n : Int))).cps.toList = z.cps.toList.take n := by
  unfold cutS
  simp only [HT.sIx_nat, HT.sIx_none]
  rw [Nat.min_eq_left hn]
  simp
theorem cutS_any (z : Str) (n : Nat) : (cutS z none (some (n : Int))).cps.toList = z.cps.toList.take (min n z.length) := by
  unfold cutS
  simp only [HT.sIx_nat, HT.sIx_none]
  simp
theorem mul_a : ∀ n : Nat, n ≤ 7 → MulOk "a" (n : Int) ∧ (Txt.mul "a" (n : Int)).cps.toList = List.replicate n 97
  | 0, _ => ⟨by unfold MulOk; decide +kernel, by decide +kernel⟩
  | 1, _ => ⟨by unfold MulOk; decide +kernel, by decide +kernel⟩
  | 2, _ => ⟨by unfold MulOk; decide +kernel, by decide +kernel⟩
  | 3, _ => ⟨by unfold MulOk; decide +kernel, by decide +kernel⟩
  | 4, _ => ⟨by unfold MulOk; decide +kernel, by decide +kernel⟩
  | 5, _ => ⟨by unfold MulOk; decide +kernel, by decide +kernel⟩
  | 6, _ => ⟨by unfold MulOk; decide +kernel, by decide +kernel⟩
  | 7, _ => ⟨by unfold MulOk; decide +kernel, by decide +kernel⟩
  | n + 8, h => by omega
theorem op_mulS {X : Cx} : OpR X (binaryOp .Mult) (fun x y H Q => ∃ z n, x = .str z ∧ y = .int n ∧ MulOk z n ∧ Q (.str (Txt.mul z n)) H) := by
  intro pins s σ H x y v u Q I rx ry h
  obtain ⟨z, n, rfl, rfl, ok, q⟩ := h
  obtain ⟨t, rfl⟩ := rx
  obtain ⟨t', rfl⟩ := ry
  exact SB.mul ok fun t2 k => ⟨.str _, H, I.tok k, ⟨_, rfl⟩, q⟩
theorem takesNo {X : Cx} : Takes X (fun _ _ _ _ => False) := fun u s' ⟨a, B, sI, pins, σ, H, cls, d, e, I, nb, up, sky, na, os, ag, w⟩ => w.elim
/-! ### the word behind a word -/
def val (l : List Nat) : Nat := l.foldl (fun a c => a * 26 + (c - 97)) 0
theorem val_snoc (l : List Nat) (c : Nat) : val (l ++ [c]) = val l * 26 + (c - 97) := by unfold val; rw [List.foldl_append]; rfl
theorem val_as (l : List Nat) : ∀ k : Nat, val (l ++ List.replicate k 97) = val l * 26 ^ k
  | 0 => by simp
  | k + 1 => by
    rw [List.replicate_succ', ← List.append_assoc, val_snoc, val_as l k, Nat.pow_succ, Nat.mul_assoc]
    rfl
theorem val_zs (l : List Nat) : ∀ k : Nat, val (l ++ List.replicate k 122) + 1 = (val l + 1) * 26 ^ k
  | 0 => by simp
  | k + 1 => by
    have ih := val_zs l k
    rw [List.replicate_succ', ← List.append_assoc, val_snoc, Nat.pow_succ, ← Nat.mul_assoc, ← ih]
    omega
theorem val_from : ∀ (l : List Nat) (a : Nat), (∀ c ∈ l, okSign c = true) → l.foldl (fun a c => a * 26 + (c - 97)) a < (a + 1) * 26 ^ l.length
  | [], a, _ => by simp
  | c :: l, a, h => by
    have h2 := h c List.mem_cons_self
    unfold okSign at h2
    rw [Bool.and_eq_true, decide_eq_true_eq, decide_eq_true_eq] at h2
    have ih := val_from l (a * 26 + (c - 97)) fun d hd => h d (List.mem_cons_of_mem _ hd)
    rw [List.foldl_cons, List.length_cons, Nat.pow_succ, Nat.mul_comm (26 ^ l.length) 26, ← Nat.mul_assoc]
    exact Nat.lt_of_lt_of_le ih (Nat.mul_le_mul_right _ (by omega))
theorem val_lt (l : List Nat) (h : ∀ c ∈ l, okSign c = true) : val l < 26 ^ l.length := by
  have := val_from l 0 h
  rw [Nat.zero_add, Nat.one_mul] at this
  exact this
def Nx (z z' : Str) : Prop := (z.length < 8 ∧ z'.length = z.length + 1) ∨ (z.length = 8 ∧ z'.length = 8 ∧ val z'.cps.toList = (val z.cps.toList + 1) % 26 ^ 8)
theorem nx_of {z : Str} {a c1 c2 : Nat} (hl8 : z.length = 8) (ha : a ≤ 7) (hz : IsWord z) (hd : z.cps.toList.drop (a + 1) = List.replicate (7 - a) 122) (hat : atI z.cps.toList (a : Int) = some c1) (hc : c1 ≠ 122 ∨ a = 0) (hc2 : c2 = 97 + (c1 - 97 + 1) % 26) :
    Nx z (cutS z none (some (a : Int)) ++ ⟨#[c2]⟩ ++ Txt.mul "a" ((7 - a : Nat) : Int)) := by
  obtain ⟨_, ml⟩ := mul_a (7 - a) (by omega)
  have hl : z.cps.toList.length = 8 := by rw [← len_list]; exact hl8
  have h1 : z.cps.toList[a]? = some c1 := by
    have h8 : a < z.cps.toList.length := by omega
    have := atI_nat (List.getElem?_eq_getElem h8)
    rw [this] at hat
    rw [List.getElem?_eq_getElem h8]
    exact hat
  have hok := hz.ok c1 (List.mem_of_getElem? h1)
  unfold okSign at hok
  rw [Bool.and_eq_true, decide_eq_true_eq, decide_eq_true_eq] at hok
  have es : z.cps.toList = z.cps.toList.take a ++ [c1] ++ List.replicate (7 - a) 122 := by
    conv => lhs; rw [← List.take_append_drop (a + 1) z.cps.toList, hd, List.take_succ, h1]
    rfl
  have el : (cutS z none (some (a : Int)) ++ ⟨#[c2]⟩ ++ Txt.mul "a" ((7 - a : Nat) : Int)).cps.toList = z.cps.toList.take a ++ [c2] ++ List.replicate (7 - a) 97 := by rw [app_list, app_list, cutS_list z (by omega), ml]
  refine .inr ⟨hl8, by rw [len_list, el, List.length_append, List.length_append, List.length_take, List.length_replicate, hl, List.length_singleton]; omega, ?_⟩
  have v1 := val_zs (z.cps.toList.take a ++ [c1]) (7 - a)
  rw [← es, val_snoc] at v1
  have v2 := val_lt z.cps.toList hz.ok
  rw [hl] at v2
  rw [el, val_as, val_snoc]
  by_cases h : c1 = 122
  · have a0 : a = 0 := hc.elim (fun z => absurd h z) id
    subst a0
    subst h
    have : c2 = 97 := hc2
    subst this
    rw [v1, List.take_zero]
    decide
  · have e2 : c2 - 97 = c1 - 97 + 1 := by rw [hc2, Nat.mod_eq_of_lt (by omega)]; omega
    rw [e2, ← Nat.add_assoc, ← v1, Nat.mod_eq_of_lt]
    by_cases hm : val z.cps.toList + 1 = 26 ^ 8
    · exfalso
      rw [hm] at v1
      have h3 := val_lt (z.cps.toList.take a) fun d hd => hz.ok d (List.mem_of_mem_take hd)
      rw [List.length_take, Nat.min_eq_left (by omega)] at h3
      have h4 : (val (z.cps.toList.take a) * 26 + (c1 - 97) + 1) < 26 ^ (a + 1) := by rw [Nat.pow_succ]; omega
      have h5 := Nat.mul_lt_mul_of_pos_right h4 (Nat.pow_pos (n := 7 - a) (show 0 < 26 by decide))
      rw [← Nat.pow_add, show a + 1 + (7 - a) = 8 by omega] at h5
      omega
    · omega
theorem abc_ix : ∀ j < 26, Txt.index0 abc ⟨#[97 + j]⟩ = some j ∧ abc.cps.toList[j]? = some (97 + j) := by decide +kernel
theorem after_sign {c1 k c2 : Nat} (h : okSign c1 = true) (hk : Txt.index0 abc ⟨#[c1]⟩ = some k) (h2 : atI abc.cps.toList (((k : Int) + 1) % 26) = some c2) : c2 = 97 + (c1 - 97 + 1) % 26 := by
  unfold okSign at h
  rw [Bool.and_eq_true, decide_eq_true_eq, decide_eq_true_eq] at h
  have e := (abc_ix (c1 - 97) (by omega)).1
  rw [show 97 + (c1 - 97) = c1 by omega, hk] at e
  have ek : k = c1 - 97 := Option.some.inj e
  have e3 := (abc_ix ((c1 - 97 + 1) % 26) (Nat.mod_lt _ (by decide))).2
  have e4 := atI_nat e3
  rw [show ((k : Int) + 1) % 26 = (((c1 - 97 + 1) % 26 : Nat) : Int) by rw [ek]; omega, e4] at h2
  exact (Option.some.inj h2).symm
section
variable {P : Program} {w : World} {K : PySem.W.Frag} {mg : Str → Option Value} {base : Heap}
def spAfter : Sp := fun vs H Q _ => ∃ z : Str, vs = [.str z] ∧ IsWord z ∧ ∀ z', IsWord z' → Nx z z' → Q (.str z') H
theorem sc_after : FnScope ["_law_word_here", "_law_letters", "_law_at", "_law_sign"] ["_law_word_here"] (defScope (topS 17)) := ⟨rfl, rfl, rfl, by decide +kernel, rfl, by decide +kernel, by decide +kernel⟩
theorem ok_after {f : Addr} {fd : FuncData} (D : Df K mg "_law_after" (topS 17) ["_law_word_here"] f fd) (B : Bt mg) : FnOk P w K mg base CX0 1 f fd ["_law_word_here"] spAfter := by
  refine D.fn.ok sc_after (fun vs H Q E h => ?_) (fun cdv A outer s H vs Q E hr h => ?_)
  · obtain ⟨z, rfl, _⟩ := h
    rfl
  obtain ⟨z, rfl, hz, q⟩ := h
  have nd := sc_after.nd
  refine ⟨_, pss_cons (ps_set (i := 1) nd rfl (Or.inl rfl) pe_str)
    (pss_cons (ps_if (pt_cmpR op_lt (pe_callB call_len_str (by rfl) B.len PySem.boot_len (pa_cons (pv 0) pa_nil)) pe_int (nomark _)) (pss_one (ps_ret (pe_op op_add_str (pv 0) pe_str))) pss_nil)
    (pss_cons (ps_set (i := 2) nd rfl (Or.inl rfl) pe_int)
    (pss_cons (ps_while PassesOwn.never (PW.pt (pw_and (pt_cmpR op_gt (pv 2) pe_int (nomark _)) (pw_and1 (pt_cmpR op_eq (pe_ix ix_str (pv 0) (pv 2) (fun _ _ => rfl)) pe_str (nomark _))))) (pss_one (ps_aug (i := 2) nd rfl (Or.inl rfl) pe_int ip_sub)))
    (pss_cons (ps_set (i := 3) nd rfl (Or.inl rfl) (pe_ix ix_str (pv 1) (pe_op op_mod (pe_op op_add (pe_bmS PySem.F.plainAttrs_str PySem.F.slot_str_index PySem.F.type_str_index (mt_indexX rfl takesNo) (pv 1) (pa_cons (pe_ix ix_str (pv 0) (pv 2) (fun _ _ => rfl)) pa_nil)) pe_int) pe_int) (fun _ _ => rfl)))
    (pss_one (ps_ret (pe_op op_add_str (pe_op op_add_str (pe_slice sl_str (pv 0) po_none (po_some (pv 2))) (pv 3)) (pe_op op_mulS pe_str (pe_op op_sub pe_int (pv 2)))))))))), ?_⟩
  refine ⟨_, rfl, z, rfl, hz.small, _, _, rfl, rfl, _, rfl, ?_⟩
  refine ite2 (fun c => ?_) (fun c => ?_)
  · have c' : z.length < 8 := by have := of_decide_eq_true c; omega
    refine ⟨_, rfl, _, _, rfl, rfl, ?_, q _ (hz.app (fun d hd => ?_) ?_) (.inl ⟨c', by rw [app_len]; rfl⟩)⟩
    · have : (Str.ofString "a").length = 1 := rfl
      rw [this, sizeLine_eq]; omega
    · have : d = 97 := by simpa using (show d ∈ [97] from hd)
      rw [this]; decide
    · have : (Str.ofString "a").length = 1 := rfl
      rw [this]; omega
  have hl8 : z.length = 8 := by
    have := of_decide_eq_false (Bool.eq_false_iff.mpr c)
    have := hz.hi
    omega
  have hl8' : z.cps.toList.length = 8 := by rw [← len_list]; exact hl8
  have at_ok : ∀ a : Nat, a ≤ 7 → ∃ c, atI z.cps.toList (a : Int) = some c ∧ okSign c = true := fun a ha => by
    have h8 : a < z.cps.toList.length := by omega
    exact ⟨z.cps.toList[a], atI_nat (List.getElem?_eq_getElem h8), hz.ok _ (List.getElem_mem h8)⟩
  refine while_by (fun σ H' => H' = H ∧ ∃ a : Nat, a ≤ 7 ∧ z.cps.toList.drop (a + 1) = List.replicate (7 - a) 122 ∧ σ = [some (.str z), some (.str abc), some (.int (a : Int)), none]) (fun σ _ => match σ with | [_, _, some (.int a), _] => a.toNat | _ => 0) ⟨rfl, 7, by omega, by rw [List.drop_eq_nil_of_le (by omega)]; rfl, rfl⟩ ?_ ?_
  · rintro σ H' ⟨rfl, a, ha, hdr, rfl⟩
    refine ⟨_, rfl, _, 0, rfl, rfl, _, rfl, ?_⟩
    refine ite2 (fun c1 => ?_) (fun c1' => ?_)
    · have c2 : 0 < a := by have := of_decide_eq_true c1; omega
      obtain ⟨c0, hat0, _⟩ := at_ok a ha
      refine ⟨_, rfl, _, rfl, z, (a : Int), c0, rfl, rfl, hz.small, hat0, rfl, _, rfl, ?_⟩
      refine ite2 (fun c3 => ?_) (fun c3 => ?_)
      · refine ⟨_, rfl, _, 1, rfl, rfl, ⟨rfl, a - 1, by omega, ?_, ?_⟩, ?_⟩
        · have h8 : a < z.cps.toList.length := by omega
          have e0 := atI_nat (List.getElem?_eq_getElem h8)
          rw [e0] at hat0
          have e1 : z.cps.toList[a] = c0 := Option.some.inj hat0
          have e2 : c0 = 122 := by
            have z3 := of_decide_eq_true c3
            injection z3 with z3
            injection z3 with z3
            have z4 : (#[c0] : Array Nat) = (Str.ofString "z").cps := z3
            rw [show (Str.ofString "z").cps = #[122] by decide +kernel] at z4
            simpa using z4
          rw [show a - 1 + 1 = a by omega, List.drop_eq_getElem_cons h8, e1, e2, hdr, show 7 - (a - 1) = (7 - a) + 1 by omega]
          rfl
        · have : (a : Int) - 1 = ((a - 1 : Nat) : Int) := by omega
          rw [← this]
          rfl
        · show ((a : Int) - 1).toNat < ((a : Int)).toNat
          omega
      · obtain ⟨c1, hat, hok⟩ := at_ok a ha
        refine ⟨_, rfl, _, rfl, rfl, _, rfl, _, rfl, z, (a : Int), c1, rfl, rfl, hz.small, hat, abc, ⟨#[c1]⟩, rfl, rfl, fun k hk => ?_, fun hn => absurd hn (abc_found hok)⟩
        obtain ⟨c2, hat2, hok2⟩ := abc_at (r := ((k : Int) + 1) % 26) (Int.emod_nonneg _ (by decide)) (Int.emod_lt_of_pos _ (by decide))
        refine ⟨_, _, rfl, rfl, _, 26, rfl, rfl, (by show (0 : Int) < 26; decide), abc, _, c2, rfl, rfl, abc_len, hat2, ?_⟩
        obtain ⟨mo, ml⟩ := mul_a (7 - a) (by omega)
        have e7 : (7 : Int) - (a : Int) = ((7 - a : Nat) : Int) := by omega
        have lc : (cutS z none (some (a : Int))).length = a := by rw [len_list, cutS_list z (by omega), List.length_take]; omega
        have lm : (Txt.mul "a" ((7 - a : Nat) : Int)).length = 7 - a := by rw [len_list, ml, List.length_replicate]
        have l1 : (⟨#[c2]⟩ : Str).length = 1 := rfl
        refine ⟨_, rfl, _, rfl, (a : Int), rfl, z, rfl, hz.small, _, rfl, _, _, rfl, rfl, by rw [lc, l1, sizeLine_eq]; omega, _, rfl, 7, (a : Int), rfl, rfl, _, _, rfl, rfl, by rw [e7]; exact mo, _, _, rfl, rfl, by rw [e7, app_len, lc, l1, lm, sizeLine_eq]; omega, ?_⟩
        refine q _ ?_ (by rw [e7]; exact nx_of hl8 ha hz hdr hat (.inl (fun z3 => c3 (by rw [show c0 = c1 from Option.some.inj (hat0.symm.trans hat), z3]; rfl))) (after_sign hok hk hat2))
        rw [e7]
        refine ⟨by rw [app_len, app_len, lc, l1]; omega, by rw [app_len, app_len, lc, l1, lm]; omega, fun d hd => ?_⟩
        rw [app_list, app_list, List.mem_append, List.mem_append, cutS_list z (by omega), ml] at hd
        rcases hd with (hd | hd) | hd
        · exact hz.ok d (List.mem_of_mem_take hd)
        · have : d = c2 := by simpa using hd
          rw [this]; exact hok2
        · rw [(List.mem_replicate.mp hd).2]; decide
    · refine iteF ?_
      obtain ⟨c1, hat, hok⟩ := at_ok a ha
      refine ⟨_, rfl, _, rfl, rfl, _, rfl, _, rfl, z, (a : Int), c1, rfl, rfl, hz.small, hat, abc, ⟨#[c1]⟩, rfl, rfl, fun k hk => ?_, fun hn => absurd hn (abc_found hok)⟩
      obtain ⟨c2, hat2, hok2⟩ := abc_at (r := ((k : Int) + 1) % 26) (Int.emod_nonneg _ (by decide)) (Int.emod_lt_of_pos _ (by decide))
      refine ⟨_, _, rfl, rfl, _, 26, rfl, rfl, (by show (0 : Int) < 26; decide), abc, _, c2, rfl, rfl, abc_len, hat2, ?_⟩
      obtain ⟨mo, ml⟩ := mul_a (7 - a) (by omega)
      have e7 : (7 : Int) - (a : Int) = ((7 - a : Nat) : Int) := by omega
      have lc : (cutS z none (some (a : Int))).length = a := by rw [len_list, cutS_list z (by omega), List.length_take]; omega
      have lm : (Txt.mul "a" ((7 - a : Nat) : Int)).length = 7 - a := by rw [len_list, ml, List.length_replicate]
      have l1 : (⟨#[c2]⟩ : Str).length = 1 := rfl
      refine ⟨_, rfl, _, rfl, (a : Int), rfl, z, rfl, hz.small, _, rfl, _, _, rfl, rfl, by rw [lc, l1, sizeLine_eq]; omega, _, rfl, 7, (a : Int), rfl, rfl, _, _, rfl, rfl, by rw [e7]; exact mo, _, _, rfl, rfl, by rw [e7, app_len, lc, l1, lm, sizeLine_eq]; omega, ?_⟩
      refine q _ ?_ (by rw [e7]; exact nx_of hl8 ha hz hdr hat (.inr (by have := of_decide_eq_false (Bool.eq_false_iff.mpr c1'); omega)) (after_sign hok hk hat2))
      rw [e7]
      refine ⟨by rw [app_len, app_len, lc, l1]; omega, by rw [app_len, app_len, lc, l1, lm]; omega, fun d hd => ?_⟩
      rw [app_list, app_list, List.mem_append, List.mem_append, cutS_list z (by omega), ml] at hd
      rcases hd with (hd | hd) | hd
      · exact hz.ok d (List.mem_of_mem_take hd)
      · have : d = c2 := by simpa using hd
        rw [this]; exact hok2
      · rw [(List.mem_replicate.mp hd).2]; decide
  · intro σ H' Q1 Q2 h12 hc
    obtain ⟨v, h1, i, j, e1, e2, k, e3, h⟩ := hc
    refine ⟨v, h1, i, j, e1, e2, k, e3, ?_⟩
    cases k with
    | false => exact h12 _ _ h
    | true =>
      obtain ⟨v1, g1, v2, g2, z1, i1, c1, g3, g4, g5, g6, g7, k1, g8, g9⟩ := h
      exact ⟨v1, g1, v2, g2, z1, i1, c1, g3, g4, g5, g6, g7, k1, g8, h12 _ _ g9⟩
end
end Sw
set_option maxRecDepth 100000
set_option maxHeartbeats 4000000
namespace Sw
open PySem PySem.Spec PyProof.Rows L2
theorem flat_strs (zs : List Str) : (zs.map V.str).all flatV = true := by
  rw [List.all_map]
  exact List.all_eq_true.mpr fun _ _ => rfl
/-- u comes t words ahead of z -/
def Bf (t : Nat) (u z : Str) : Prop := (u.length < 8 ∧ u.length < z.length) ∨ (u.length = 8 ∧ z.length = 8 ∧ val z.cps.toList = (val u.cps.toList + t) % 26 ^ 8)
theorem Bf.ne {t : Nat} {u z : Str} (h : Bf t u z) (h1 : 1 ≤ t) (h2 : t ≤ 100) (hu : IsWord u) : z ≠ u := by
  intro e
  subst e
  rcases h with h | ⟨h8, _, h⟩
  · omega
  · have := val_lt z.cps.toList hu.ok
    rw [← len_list, h8] at this
    have e8 : (26 : Nat) ^ 8 = 208827064576 := by decide
    rw [e8] at h this
    omega
theorem Bf.next {t : Nat} {u z z' : Str} (h : Bf t u z) (n : Nx z z') : Bf (t + 1) u z' := by
  rcases h with h | ⟨h8, hz, h⟩
  · rcases n with n | n
    · exact .inl ⟨h.1, by omega⟩
    · exact .inl ⟨h.1, by omega⟩
  · rcases n with n | ⟨_, n8, n⟩
    · omega
    · refine .inr ⟨h8, n8, ?_⟩
      have e8 : (26 : Nat) ^ 8 = 208827064576 := by decide
      rw [e8] at h n ⊢
      omega
theorem Bf.one {z z' : Str} (n : Nx z z') : Bf 1 z z' := by
  rcases n with n | ⟨h8, n8, n⟩
  · exact .inl ⟨n.1, by omega⟩
  · exact .inr ⟨h8, n8, n⟩
/-- i words were tried, all of them there; z is the next -/
structure Tried (zs ws : List Str) (z : Str) (i : Nat) : Prop where
  len : ws.length = i
  nd : ws.Nodup
  sub : ∀ u ∈ ws, u ∈ zs
  bf : ∀ u ∈ ws, ∃ t, 1 ≤ t ∧ t ≤ i ∧ Bf t u z
theorem Tried.nil {zs : List Str} {z : Str} : Tried zs [] z 0 := ⟨rfl, List.nodup_nil, by simp, by simp⟩
theorem Tried.next {zs ws : List Str} {z z' : Str} {i : Nat} (h : Tried zs ws z i) (hi : i < 60) (hw : ∀ u ∈ zs, IsWord u) (hz : IsWord z) (hin : z ∈ zs) (n : Nx z z') : Tried zs (z :: ws) z' (i + 1) := by
  refine ⟨by rw [List.length_cons, h.len], List.nodup_cons.mpr ⟨fun m => ?_, h.nd⟩, fun u hu => ?_, fun u hu => ?_⟩
  · obtain ⟨t, t1, t2, b⟩ := h.bf z m
    exact b.ne t1 (by omega) hz rfl
  · rcases List.mem_cons.mp hu with rfl | hu
    · exact hin
    · exact h.sub u hu
  · rcases List.mem_cons.mp hu with rfl | hu
    · exact ⟨1, Nat.le_refl _, by omega, Bf.one n⟩
    · obtain ⟨t, t1, t2, b⟩ := h.bf u hu
      exact ⟨t + 1, by omega, by omega, b.next n⟩
theorem few_le : ∀ {L xs : List Str}, L.Nodup → (∀ x ∈ L, x ∈ xs) → L.length ≤ xs.length
  | [], xs, _, _ => Nat.zero_le _
  | y :: L, xs, nd, h => by
    rw [List.nodup_cons] at nd
    have hy := h y List.mem_cons_self
    have := few_le (L := L) (xs := xs.erase y) nd.2 fun x hx => (List.mem_erase_of_ne (show x ≠ y from fun e => nd.1 (e ▸ hx))).mpr (h x (List.mem_cons_of_mem _ hx))
    rw [List.length_erase_of_mem hy] at this
    have := List.length_pos_of_mem hy
    rw [List.length_cons]
    omega
theorem Tried.full {zs ws : List Str} {z : Str} (h : Tried zs ws z 60) : ¬ zs.length ≤ 50 := by
  have := few_le h.nd h.sub
  rw [h.len] at this
  omega
theorem inV_strs {z : Str} {zs : List Str} : inV (.str z) (zs.map V.str) = decide (z ∈ zs) := by
  unfold inV
  rw [List.any_map]
  by_cases h : z ∈ zs
  · rw [decide_eq_true h, List.any_eq_true]
    exact ⟨z, h, by simp [eqV]⟩
  · rw [decide_eq_false h, List.any_eq_false]
    intro y hy
    have : y ≠ z := fun e => h (e ▸ hy)
    simp [eqV, this]
theorem notIn_strs {z : Str} {zs : List Str} (h : (if true = true then !inV (.str z) (zs.map V.str) else inV (.str z) (zs.map V.str)) = true) : z ∉ zs := by
  rw [if_pos rfl, inV_strs] at h
  simpa using h
theorem in_strs {z : Str} {zs : List Str} (h : ¬ (if true = true then !inV (.str z) (zs.map V.str) else inV (.str z) (zs.map V.str)) = true) : z ∈ zs := by
  rw [if_pos rfl, inV_strs] at h
  simpa using h
section
variable {P : Program} {w : World} {K : PySem.W.Frag} {mg : Str → Option Value} {base : Heap}
def spWord : Sp := fun vs H Q _ => ∃ (p fq l : Addr) (b : Nat) (zs : List Str), vs = [.ref p, .ref l] ∧ FeedAt H p fq b ∧ b + 20 ≤ 1000000000 ∧ del H p l = some (.lst (zs.map V.str)) ∧ zs.length ≤ 50 ∧ (∀ z ∈ zs, IsWord z) ∧
  ∀ (z : Str) (H' : Hp), IsWord z → z ∉ zs → Same (del H p) (del H' p) → FeedAt H' p fq (b + 12) → Q (.str z) H'
theorem sc_lw : FnScope ["_law_feed_here", "_law_found", "_law_letters", "_law_way", "_law_word_here", "_law_k", "_law_own"] ["_law_feed_here", "_law_found"] (defScope (topS 18)) := ⟨rfl, rfl, rfl, by decide +kernel, rfl, by decide +kernel, by decide +kernel⟩
theorem ok_lw {f f1 f2 : Addr} {fd fd1 fd2 : FuncData} (D : Df K mg "_law_word" (topS 18) ["_law_feed_here", "_law_found"] f fd) (DD : Df K mg "_law_draw" (topS 16) ["_law_feed_here", "_law_many"] f1 fd1) (DA : Df K mg "_law_after" (topS 17) ["_law_word_here"] f2 fd2) (B : Bt mg)
    (GD : FnOk P w K mg base CX0 1 f1 fd1 ["_law_feed_here", "_law_many"] spDraw) (GA : FnOk P w K mg base CX0 1 f2 fd2 ["_law_word_here"] spAfter) : FnOk P w K mg base CX0 2 f fd ["_law_feed_here", "_law_found"] spWord := by
  refine D.fn.ok sc_lw (fun vs H Q E h => ?_) (fun cdv A outer s H vs Q E hr h => ?_)
  · obtain ⟨p, fq, l, b, zs, rfl, _⟩ := h
    rfl
  obtain ⟨p, fq, l, b, zs, rfl, hF, hb, hl, hzl, hzs, q⟩ := h
  have nd := sc_lw.nd
  have hu := hr.units
  refine ⟨_, pss_cons (ps_set (i := 2) nd rfl (Or.inl rfl) pe_str)
    (pss_cons (ps_set (i := 3) nd rfl (Or.inl rfl) (pe_call GD hr (by rfl) DD.gl DD.fn.kp DD.bd .nil pass0 (pa_cons (pv 0) (pa_cons pe_int pa_nil))))
    (pss_cons (ps_set (i := 4) nd rfl (Or.inl rfl) (pe_ix ix_str (pv 2) (pe_call GD hr (by rfl) DD.gl DD.fn.kp DD.bd .nil pass0 (pa_cons (pv 0) (pa_cons pe_int pa_nil))) (fun _ _ => rfl)))
    (pss_cons (ps_if (PW.pt (pw_or (pt_cmpR op_gt (pv 3) pe_int (nomark _)) (pw_or1 (pt_cmpR (op_eqD hu) (pv 1) (pe_lst pa_nil) (nomark _)))))
      (pss_one (ps_for PassesOwn.never rfl (pi_range1 (by rfl) B.range (pa_cons (pe_call GD hr (by rfl) DD.gl DD.fn.kp DD.bd .nil pass0 (pa_cons (pv 0) (pa_cons pe_int pa_nil))) pa_nil)) (pg_name (i := 5) nd rfl (Or.inl rfl)) (pss_one (ps_set (i := 4) nd rfl (Or.inl rfl) (pe_op op_add_str (pv 4) (pe_ix ix_str (pv 2) (pe_call GD hr (by rfl) DD.gl DD.fn.kp DD.bd .nil pass0 (pa_cons (pv 0) (pa_cons pe_int pa_nil))) (fun _ _ => rfl)))))))
      (pss_cons (ps_set (i := 6) nd rfl (Or.inl rfl) (pe_ix ix_list (pv 1) (pe_call GD hr (by rfl) DD.gl DD.fn.kp DD.bd .nil pass0 (pa_cons (pv 0) (pa_cons (pe_callB call_len_seq (by rfl) B.len PySem.boot_len (pa_cons (pv 1) pa_nil)) pa_nil))) (fun _ _ => rfl)))
      (pss_one (ps_set (i := 4) nd rfl (Or.inl rfl) (pe_ifExp (pt_cmpR op_eq (pv 3) pe_int (nomark _))
        (pe_slice sl_str (pv 6) po_none (po_some (pe_op op_add pe_int (pe_call GD hr (by rfl) DD.gl DD.fn.kp DD.bd .nil pass0 (pa_cons (pv 0) (pa_cons (pe_callB call_len_str (by rfl) B.len PySem.boot_len (pa_cons (pv 6) pa_nil)) pa_nil))))))
        (pe_op op_add_str (pe_slice sl_str (pv 6) po_none (po_some pe_int)) (pe_ix ix_str (pv 2) (pe_call GD hr (by rfl) DD.gl DD.fn.kp DD.bd .nil pass0 (pa_cons (pv 0) (pa_cons pe_int pa_nil))) (fun _ _ => rfl))))))))
    (pss_cons (ps_for PassesOwn.never rfl (pi_range1 (by rfl) B.range (pa_cons pe_int pa_nil)) (pg_name (i := 5) nd rfl (Or.inl rfl))
      (pss_cons (ps_if (pt_cmpR op_notIn_seq (pv 4) (pv 1) (by rfl)) (pss_one ps_break) pss_nil)
      (pss_one (ps_set (i := 4) nd rfl (Or.inl rfl) (pe_call GA hr (by rfl) DA.gl DA.fn.kp DA.bd .nil pass0 (pa_cons (pv 4) pa_nil))))))
    (pss_one (ps_ret (pv 4))))))), ?_⟩
  -- way
  refine ⟨_, rfl, p, fq, 5, b, rfl, hF, by omega, by decide, by decide, fun way H1 y0 y1 s1 F1 => ?_⟩
  -- the first letter
  refine ⟨_, rfl, _, rfl, p, fq, 26, b + 1, rfl, F1, by omega, by decide, by decide, fun r H2 r0 r1 s2 F2 => ?_⟩
  obtain ⟨c0, hat0, ok0⟩ := abc_at r0 r1
  refine ⟨abc, r, c0, rfl, rfl, abc_len, hat0, ?_⟩
  have hl2 := del_same _ _ _ _ ((s1.trans s2) _ _ hl)
  refine ⟨_, rfl, _, _, rfl, rfl, _, rfl, ?_⟩
  -- a fresh word, letter by letter
  refine ite2 (fun c => ?_) (fun c => ?_)
  · refine ⟨_, rfl, p, fq, 8, b + 2, rfl, F2, by omega, by decide, by decide, fun r8 H3 t0 t1 s3 F3 => ?_⟩
    refine ⟨r8, rfl, by omega, by omega, for_range (lo := 0) (n := r8.toNat) (fun i σ H' => ∃ (z : Str) (k : Option V), σ = [some (.ref p), some (.ref l), some (.str abc), some (.int way), some (.str z), k, none] ∧ IsWord z ∧ z.length ≤ 1 + i ∧ Same (del H p) (del H' p) ∧ FeedAt H' p fq (b + 3 + i)) ⟨_, none, rfl, one_sign ok0, by show 1 ≤ 1; omega, s1.trans (s2.trans s3), F3⟩ ?_ ?_⟩
    · rintro t σ H4 ht ⟨z4, k4, rfl, w4, l4, s4, F4⟩
      refine ⟨_, rfl, _, rfl, _, rfl, p, fq, 26, b + 3 + t, rfl, F4, by omega, by decide, by decide, fun r5 H5 u0 u1 s5 F5 => ?_⟩
      obtain ⟨c5, hat5, ok5⟩ := abc_at u0 u1
      have l1 : (⟨#[c5]⟩ : Str).length = 1 := rfl
      refine ⟨abc, r5, c5, rfl, rfl, abc_len, hat5, _, _, rfl, rfl, by rw [l1, sizeLine_eq]; omega, ?_⟩
      exact ⟨_, _, rfl, w4.app (one_sign ok5).ok (by rw [l1]; omega), by rw [app_len, l1]; omega, s4.trans s5, F5.mono (by omega)⟩
    · rintro σ H4 ⟨z4, k4, rfl, w4, l4, s4, F4⟩
      refine ⟨60, rfl, by decide, by decide, for_range (lo := 0) (n := 60) (fun i σ H' => ∃ (z : Str) (ws : List Str) (k o : Option V), σ = [some (.ref p), some (.ref l), some (.str abc), some (.int way), some (.str z), k, o] ∧ IsWord z ∧ Tried zs ws z i ∧ Same (del H p) (del H' p) ∧ FeedAt H' p fq (b + 12)) ⟨_, [], _, _, rfl, w4, Tried.nil, s4, F4.mono (by omega)⟩ ?_ ?_⟩
      · rintro t σ H7 ht ⟨z7, ws7, k7, o7, rfl, w7, tr7, s7, f7⟩
        have hl7 := del_same _ _ _ _ (s7 _ _ hl)
        refine ⟨_, rfl, _, rfl, l, _, rfl, .inl (SqL.of hl7), rfl, flat_strs zs, _, rfl, ?_⟩
        refine ite2 (fun cin => ?_) (fun cin => ?_)
        · exact ⟨_, rfl, q _ _ w7 (notIn_strs cin) s7 f7⟩
        · exact ⟨_, rfl, z7, rfl, w7, fun z8 w8 n8 => ⟨z8, z7 :: ws7, _, o7, rfl, w8, tr7.next ht hzs w7 (in_strs cin) n8, s7, f7⟩⟩
      · rintro σ H7 ⟨z7, ws7, k7, o7, rfl, w7, tr7, s7, f7⟩
        exact absurd hzl tr7.full
  refine ⟨_, rfl, Nat.zero_le _, fun N hN => ?_⟩
  have sN : Same H2 (upd H2 N (.lst [])) := same_new hN
  refine ⟨.list (zs.map PyData.str), .list [], .lst (SqL.of (sN _ _ hl2)) (DpAll_strs _), .lst (SqL.of upd_same) .nil, strs_shaped (fun z hz => (hzs z hz).ascii), nil_shaped, _, rfl, ?_⟩
  have F2 := F2.same sN
  have s2 := s2.trans (same_del sN)
  have hl2 := sN _ _ hl2
  generalize upd H2 N (.lst []) = H2 at F2 s2 hl2
  rw [eqv_nil_list]
  refine ite2 (fun c2 => ?_) (fun c2 => ?_)
  · refine ⟨_, rfl, p, fq, 8, b + 2, rfl, F2, by omega, by decide, by decide, fun r8 H3 t0 t1 s3 F3 => ?_⟩
    refine ⟨r8, rfl, by omega, by omega, for_range (lo := 0) (n := r8.toNat) (fun i σ H' => ∃ (z : Str) (k : Option V), σ = [some (.ref p), some (.ref l), some (.str abc), some (.int way), some (.str z), k, none] ∧ IsWord z ∧ z.length ≤ 1 + i ∧ Same (del H p) (del H' p) ∧ FeedAt H' p fq (b + 3 + i)) ⟨_, none, rfl, one_sign ok0, by show 1 ≤ 1; omega, s1.trans (s2.trans s3), F3⟩ ?_ ?_⟩
    · rintro t σ H4 ht ⟨z4, k4, rfl, w4, l4, s4, F4⟩
      refine ⟨_, rfl, _, rfl, _, rfl, p, fq, 26, b + 3 + t, rfl, F4, by omega, by decide, by decide, fun r5 H5 u0 u1 s5 F5 => ?_⟩
      obtain ⟨c5, hat5, ok5⟩ := abc_at u0 u1
      have l1 : (⟨#[c5]⟩ : Str).length = 1 := rfl
      refine ⟨abc, r5, c5, rfl, rfl, abc_len, hat5, _, _, rfl, rfl, by rw [l1, sizeLine_eq]; omega, ?_⟩
      exact ⟨_, _, rfl, w4.app (one_sign ok5).ok (by rw [l1]; omega), by rw [app_len, l1]; omega, s4.trans s5, F5.mono (by omega)⟩
    · rintro σ H4 ⟨z4, k4, rfl, w4, l4, s4, F4⟩
      refine ⟨60, rfl, by decide, by decide, for_range (lo := 0) (n := 60) (fun i σ H' => ∃ (z : Str) (ws : List Str) (k o : Option V), σ = [some (.ref p), some (.ref l), some (.str abc), some (.int way), some (.str z), k, o] ∧ IsWord z ∧ Tried zs ws z i ∧ Same (del H p) (del H' p) ∧ FeedAt H' p fq (b + 12)) ⟨_, [], _, _, rfl, w4, Tried.nil, s4, F4.mono (by omega)⟩ ?_ ?_⟩
      · rintro t σ H7 ht ⟨z7, ws7, k7, o7, rfl, w7, tr7, s7, f7⟩
        have hl7 := del_same _ _ _ _ (s7 _ _ hl)
        refine ⟨_, rfl, _, rfl, l, _, rfl, .inl (SqL.of hl7), rfl, flat_strs zs, _, rfl, ?_⟩
        refine ite2 (fun cin => ?_) (fun cin => ?_)
        · exact ⟨_, rfl, q _ _ w7 (notIn_strs cin) s7 f7⟩
        · exact ⟨_, rfl, z7, rfl, w7, fun z8 w8 n8 => ⟨z8, z7 :: ws7, _, o7, rfl, w8, tr7.next ht hzs w7 (in_strs cin) n8, s7, f7⟩⟩
      · rintro σ H7 ⟨z7, ws7, k7, o7, rfl, w7, tr7, s7, f7⟩
        exact absurd hzl tr7.full
  -- one of those that are there
  have hne : zs.length ≠ 0 := fun e => c2 (by rw [List.eq_nil_of_length_eq_zero e]; rfl)
  have hml : (zs.map V.str).length = zs.length := List.length_map _
  refine ⟨_, rfl, _, rfl, _, rfl, l, _, rfl, .inl (SqL.of hl2), p, fq, _, b + 2, rfl, F2, by omega, by rw [hml]; omega, by rw [hml]; omega, fun r3 H3 t0 t1 s3 F3 => ?_⟩
  rw [hml] at t1
  obtain ⟨n3, rfl⟩ : ∃ n : Nat, r3 = (n : Int) := ⟨r3.toNat, (Int.toNat_of_nonneg t0).symm⟩
  have hn3 : n3 < zs.length := by omega
  have w3 := hzs _ (List.getElem_mem hn3)
  have hl3 := del_same _ _ _ _ ((s1.trans (s2.trans s3)) _ _ hl)
  refine ⟨l, _, _, _, rfl, rfl, SqL.of hl3, atI_nat (j := n3) (by rw [List.getElem?_map, List.getElem?_eq_getElem hn3]; rfl), ?_⟩
  generalize zs[n3] = own at w3
  refine ⟨_, rfl, rfl, _, rfl, ?_⟩
  refine ite2 (fun c3 => ?_) (fun c3 => ?_)
  · refine ⟨_, rfl, _, rfl, _, rfl, own, rfl, w3.small, p, fq, _, b + 3, rfl, F3, by omega, by have := w3.lo; omega, by have := w3.hi; omega, fun r4 H4 u0 u1 s4 F4 => ?_⟩
    obtain ⟨n4, rfl⟩ : ∃ n : Nat, r4 = (n : Int) := ⟨r4.toNat, (Int.toNat_of_nonneg u0).symm⟩
    have e4 : (1 : Int) + (n4 : Int) = ((1 + n4 : Nat) : Int) := by omega
    have w4 : IsWord (cutS own none (some ((1 + n4 : Nat) : Int))) := by
      have hcl := cutS_list own (n := 1 + n4) (by omega)
      refine ⟨by rw [len_list, hcl, List.length_take, ← len_list]; omega, by rw [len_list, hcl, List.length_take, ← len_list]; have := w3.hi; omega, fun d hd => ?_⟩
      rw [hcl] at hd
      exact w3.ok d (List.mem_of_mem_take hd)
    rw [← e4] at w4
    refine ⟨_, _, rfl, rfl, _, rfl, own, rfl, w3.small, ?_⟩
    refine ⟨60, rfl, by decide, by decide, for_range (lo := 0) (n := 60) (fun i σ H' => ∃ (z : Str) (ws : List Str) (k o : Option V), σ = [some (.ref p), some (.ref l), some (.str abc), some (.int way), some (.str z), k, o] ∧ IsWord z ∧ Tried zs ws z i ∧ Same (del H p) (del H' p) ∧ FeedAt H' p fq (b + 12)) ⟨_, [], _, _, rfl, w4, Tried.nil, s1.trans (s2.trans (s3.trans s4)), F4.mono (by omega)⟩ ?_ ?_⟩
    · rintro t σ H7 ht ⟨z7, ws7, k7, o7, rfl, w7, tr7, s7, f7⟩
      have hl7 := del_same _ _ _ _ (s7 _ _ hl)
      refine ⟨_, rfl, _, rfl, l, _, rfl, .inl (SqL.of hl7), rfl, flat_strs zs, _, rfl, ?_⟩
      refine ite2 (fun cin => ?_) (fun cin => ?_)
      · exact ⟨_, rfl, q _ _ w7 (notIn_strs cin) s7 f7⟩
      · exact ⟨_, rfl, z7, rfl, w7, fun z8 w8 n8 => ⟨z8, z7 :: ws7, _, o7, rfl, w8, tr7.next ht hzs w7 (in_strs cin) n8, s7, f7⟩⟩
    · rintro σ H7 ⟨z7, ws7, k7, o7, rfl, w7, tr7, s7, f7⟩
      exact absurd hzl tr7.full
  · refine ⟨_, rfl, 7, rfl, own, rfl, w3.small, _, rfl, _, rfl, p, fq, 26, b + 3, rfl, F3, by omega, by decide, by decide, fun r4 H4 u0 u1 s4 F4 => ?_⟩
    obtain ⟨c4, hat4, ok4⟩ := abc_at u0 u1
    have hcl := cutS_any own 7
    have l7 : (cutS own none (some 7)).length ≤ 7 := by rw [len_list]; rw [show (7 : Int) = ((7 : Nat) : Int) from rfl, hcl, List.length_take]; omega
    have l7' : 1 ≤ (cutS own none (some 7)).length := by rw [len_list]; rw [show (7 : Int) = ((7 : Nat) : Int) from rfl, hcl, List.length_take, ← len_list]; have := w3.lo; omega
    have w7 : IsWord (cutS own none (some 7)) := ⟨l7', by omega, fun d hd => by
      rw [show (7 : Int) = ((7 : Nat) : Int) from rfl, hcl] at hd
      exact w3.ok d (List.mem_of_mem_take hd)⟩
    have l1 : (⟨#[c4]⟩ : Str).length = 1 := rfl
    have w4 := w7.app (one_sign ok4).ok (by rw [l1]; omega)
    refine ⟨abc, r4, c4, rfl, rfl, abc_len, hat4, _, _, rfl, rfl, by rw [l1, sizeLine_eq]; omega, ?_⟩
    refine ⟨60, rfl, by decide, by decide, for_range (lo := 0) (n := 60) (fun i σ H' => ∃ (z : Str) (ws : List Str) (k o : Option V), σ = [some (.ref p), some (.ref l), some (.str abc), some (.int way), some (.str z), k, o] ∧ IsWord z ∧ Tried zs ws z i ∧ Same (del H p) (del H' p) ∧ FeedAt H' p fq (b + 12)) ⟨_, [], _, _, rfl, w4, Tried.nil, s1.trans (s2.trans (s3.trans s4)), F4.mono (by omega)⟩ ?_ ?_⟩
    · rintro t σ H7 ht ⟨z7, ws7, k7, o7, rfl, w7, tr7, s7, f7⟩
      have hl7 := del_same _ _ _ _ (s7 _ _ hl)
      refine ⟨_, rfl, _, rfl, l, _, rfl, .inl (SqL.of hl7), rfl, flat_strs zs, _, rfl, ?_⟩
      refine ite2 (fun cin => ?_) (fun cin => ?_)
      · exact ⟨_, rfl, q _ _ w7 (notIn_strs cin) s7 f7⟩
      · exact ⟨_, rfl, z7, rfl, w7, fun z8 w8 n8 => ⟨z8, z7 :: ws7, _, o7, rfl, w8, tr7.next ht hzs w7 (in_strs cin) n8, s7, f7⟩⟩
    · rintro σ H7 ⟨z7, ws7, k7, o7, rfl, w7, tr7, s7, f7⟩
      exact absurd hzl tr7.full
end
end Sw
set_option maxRecDepth 100000
set_option maxHeartbeats 4000000
namespace Sw
open PySem PySem.Spec PyProof.Rows L2
section
variable {P : Program} {w : World} {K : PySem.W.Frag} {mg : Str → Option Value} {base : Heap}
def spGreat : Sp := fun vs H Q _ => ∃ (p fq : Addr) (b : Nat), vs = [.ref p] ∧ FeedAt H p fq b ∧ b + 60 ≤ 1000000000 ∧
  ∀ (i : Int) (H' : Hp), i.natAbs ≤ 10 ^ 199 → Same (del H p) (del H' p) → FeedAt H' p fq (b + 40) → Q (.int i) H'
theorem great_bd {t n : Nat} (h : t < 100 * 1000000 ^ n) (hn : n ≤ 32) : t ≤ 10 ^ 199 := by
  have h1 : (1000000 : Nat) ^ n ≤ 1000000 ^ 32 := Nat.pow_le_pow_right (by decide) hn
  have h2 : 100 * (1000000 : Nat) ^ 32 ≤ 10 ^ 199 := by decide +kernel
  have h3 := Nat.mul_le_mul_left 100 h1
  omega
theorem cutS_sub (z : Str) (lo hi : Option Int) : (∀ c ∈ (cutS z lo hi).cps.toList, c ∈ z.cps.toList) ∧ (cutS z lo hi).length ≤ z.length := by
  unfold cutS
  constructor
  · intro c hc
    exact List.mem_of_mem_drop (List.mem_of_mem_take (by simpa using hc))
  · rw [len_list, len_list]
    simp
    omega
def spSpoilt : Sp := fun vs H Q _ => ∃ (p fq : Addr) (z : Str) (b : Nat), vs = [.ref p, .str z] ∧ FeedAt H p fq b ∧ b + 20 ≤ 1000000000 ∧ IsWord z ∧
  ∀ (x : Str) (H' : Hp), (∀ c ∈ x.cps.toList, c < 128) → x.length ≤ 20 → Same (del H p) (del H' p) → FeedAt H' p fq (b + 3) → Q (.str x) H'
abbrev signsT : Str := " !\"#$&'()*+,-./0123456789:;<=>?@ABCDEFGHIJKLMNOPQRSTUVWXYZ[\\]^_`abcdefghijklmnopqrstuvwxyz{|}~"
theorem signs_ok : signsT.cps.toList.all (fun c => decide (c < 128)) = true ∧ signsT.length = 94 := by decide +kernel
end
end Sw
set_option maxRecDepth 100000
set_option maxHeartbeats 4000000
namespace Sw
open PySem PySem.Spec PyProof.Rows L2
section
variable {P : Program} {w : World} {K : PySem.W.Frag} {mg : Str → Option Value} {base : Heap}
def spFeed (K : PySem.W.Frag) : Sp := fun vs H Q _ => ∃ (a : Addr) (ns : List Int), vs = [.ref a] ∧ SqL K H a (ns.map V.int) ∧ ns.length ≤ 63 ∧
  ∀ (p fq : Addr) (H' : Hp), Same H H' → H p = none → FeedAt H' p fq 0 → Q (.ref p) H'
theorem sc_feed : FnScope ["_law_script"] ["_law_script"] (defScope (topS 15)) := ⟨rfl, rfl, rfl, by decide +kernel, rfl, by decide +kernel, by decide +kernel⟩
theorem cut_ints (ns : List Int) (lo hi : Option Int) : ∃ ms : List Int, cutV (ns.map V.int) lo hi = ms.map V.int ∧ ms.length ≤ ns.length := by
  refine ⟨(ns.drop (HT.sIx ns.length 0 lo)).take (HT.sIx ns.length ns.length hi - HT.sIx ns.length 0 lo), ?_, ?_⟩
  · unfold cutV
    rw [List.length_map, List.map_take, List.map_drop]
  · rw [List.length_take, List.length_drop]
    omega
theorem ok_feed {f : Addr} {fd : FuncData} (D : Df K mg "_law_feed" (topS 15) ["_law_script"] f fd) : FnOk P w K mg base CX0 1 f fd ["_law_script"] (spFeed K) := by
  refine D.fn.ok sc_feed (fun vs H Q E h => ?_) (fun cdv A outer s H vs Q E hr h => ?_)
  · obtain ⟨a, ns, rfl, _⟩ := h
    rfl
  obtain ⟨a, ns, rfl, hS, hn, q⟩ := h
  refine ⟨_, pss_one (ps_ret (pe_lst (pa_cons (pe_slice sl_list (pv 0) po_none (po_some pe_int)) (pa_cons pe_int (pa_cons pe_int (pa_cons pe_int pa_nil)))))), ?_⟩
  obtain ⟨ms, e, hm⟩ := cut_ints ns none (some 63)
  refine ⟨_, rfl, 63, rfl, a, _, rfl, hS, fun c hc => ⟨by show 4 ≤ sizeLine; decide, fun p hp => ?_⟩⟩
  have s1 := same_new (o := .lst (cutV (ns.map V.int) none (some 63))) hc
  have s2 := same_new (o := .lst [.ref c, .int 0, .int 0, .int 0]) hp
  have hcp : c ≠ p := fun z => by rw [z] at hp; rw [upd_same] at hp; cases hp
  refine q p c _ (s1.trans s2) ?_ ⟨ms, 0, 0, 0, upd_same, ?_, Ne.symm hcp, by decide, by decide, by decide, by decide, by omega⟩
  · rw [upd_ne (Ne.symm hcp)] at hp
    exact hp
  · rw [upd_ne hcp, upd_same, e]
/-- one of OBJECTS, drawn -/
def ObjD (d : PyData) : Prop := ∃ (z : Str) (k : Int), d = .tuple [.str z, .int k] ∧ IsWord z ∧ 1 ≤ k ∧ k ≤ 4
theorem objD_fit {d : PyData} (h : ObjD d) : Fit 4 4 1 344 d := by
  obtain ⟨z, k, rfl, hz, h1, h4⟩ := h
  have := hz.hi
  refine Fit.tup (n := 0) (by show 2 ≤ 4; omega) ?_ (by simp only [wtAll, wt]; omega)
  intro x hx
  rcases List.mem_cons.mp hx with rfl | hx
  · exact ⟨leaf_str.mpr hz.ascii, rfl, by simp [PyData.depth]⟩
  · have : x = .int k := by simpa using hx
    subst this
    exact ⟨by simp only [leaf, decide_eq_true_eq]; omega, rfl, by simp [PyData.depth]⟩
theorem objs_fit {ds : List PyData} (hl : ds.length ≤ 4) (h : ∀ d ∈ ds, ObjD d) : Fit 4 4 2 1400 (.tuple ds) := by
  refine Fit.tup (n := 1) hl (fun x hx => ⟨(objD_fit (h x hx)).lf, (objD_fit (h x hx)).ln, (objD_fit (h x hx)).dp⟩) ?_
  have : ∀ l : List PyData, (∀ d ∈ l, ObjD d) → wtAll l ≤ 346 * l.length := by
    intro l
    induction l with
    | nil => intro _; simp [wtAll]
    | cons x l ih =>
      intro hx
      have h1 := (objD_fit (hx x List.mem_cons_self)).wg
      have h2 := ih fun d hd => hx d (List.mem_cons_of_mem _ hd)
      simp only [wtAll, List.length_cons]
      omega
  have := this ds h
  omega
def spObjs (K : PySem.W.Frag) : Sp := fun vs H Q _ => ∃ (p fq : Addr) (b : Nat), vs = [.ref p] ∧ FeedAt H p fq b ∧ b + 100 ≤ 1000000000 ∧
  ∀ (v : V) (ds : List PyData) (H' : Hp), Dp K (del H' p) v (.tuple ds) → ds.length ≤ 4 → 1 ≤ ds.length → (∀ d ∈ ds, ObjD d) → Same (del H p) (del H' p) → FeedAt H' p fq (b + 60) → Q v H'
theorem sc_objs2 : FnScope ["_law_feed_here", "_law_found", "_law_k", "_law_word_here"] ["_law_feed_here"] (defScope (topS 25)) := ⟨rfl, rfl, rfl, by decide +kernel, rfl, by decide +kernel, by decide +kernel⟩
end
end Sw
set_option maxRecDepth 100000
set_option maxHeartbeats 4000000
namespace Sw
open PySem PySem.Spec PyProof.Rows L2
/-- what is new in H' -/
def fr (H H' : Hp) : Hp := fun c => match H c with
  | none => H' c
  | some _ => none
theorem fr_some {H H' : Hp} {c : Addr} {o : HO} (h : H c = none) (h' : H' c = some o) : fr H H' c = some o := by unfold fr; rw [h]; exact h'
theorem of_fr {H H' : Hp} {c : Addr} {o : HO} (h : fr H H' c = some o) : H c = none ∧ H' c = some o := by
  unfold fr at h
  cases e : H c with
  | none => rw [e] at h; exact ⟨rfl, h⟩
  | some u => rw [e] at h; cases h
theorem fr_same (H H' : Hp) : Same (fr H H') H' := fun c o e => (of_fr e).2
theorem fr_next {H H1 H2 : Hp} (s : Same H1 H2) : Same (fr H H1) (fr H H2) := fun c o e => fr_some (of_fr e).1 (s _ _ (of_fr e).2)
theorem fr_prev {H H1 H2 : Hp} (s : Same H H1) : Same (fr H1 H2) (fr H H2) := fun c o e => fr_some (s.free (of_fr e).1) (of_fr e).2
theorem fr_del {H H' : Hp} {p : Addr} {u : HO} (hp : H p = some u) : Same (fr H H') (del H' p) := fun c o e => del_some (of_fr e).2 fun z => by
  have := (of_fr e).1
  rw [z, hp] at this
  cases this
/-- displays of constants; a name may stand for one int -/
abbrev Nm := Option (Str × Nat × Int)
def cstL (f : Expr → Option PyData) : List Expr → Option (List PyData)
  | [] => some []
  | e :: es => match f e, cstL f es with
    | some d, some ds => some (d :: ds)
    | _, _ => none
def cst (g : Nm) : Nat → Expr → Option PyData
  | 0, _ => none
  | n + 1, e => match e with
    | .Constant (.int i) _ _ => some (.int i)
    | .Constant (.str x) _ _ => some (.str x)
    | .Constant (.bool b) _ _ => some (.bool b)
    | .Constant .none _ _ => some .none
    | .Tuple es _ _ => if es.length ≤ 1000 then (cstL (cst g n) es).map .tuple else none
    | .List es _ => if es.length ≤ 1000 then (cstL (cst g n) es).map .list else none
    | .UnaryOp .USub a _ => match cst g n a with
      | some (.int i) => some (.int (-i))
      | _ => none
    | .BinOp a .Pow b _ => match cst g n a, cst g n b with
      | some (.int i), some (.int j) => if 0 ≤ j ∧ j ≤ 1000000 ∧ i.natAbs < 2 ^ 64 then some (.int (i ^ j.toNat)) else none
      | _, _ => none
    | .BinOp a .Mult b _ => match cst g n a, cst g n b with
      | some (.int i), some (.int j) => if i.natAbs < 2 ^ 5000 ∧ j.natAbs < 2 ^ 5000 then some (.int (i * j)) else none
      | _, _ => none
    | .Name x _ => match g with
      | some (y, _, v) => if x = y then some (.int v) else none
      | none => none
    | _ => none
def nmAt (g : Nm) (σ : L2.St) : Prop := match g with
  | none => True
  | some (_, i, v) => σ[i]? = some (some (.int v))
def nmOk (g : Nm) (X : Cx) : Prop := match g with
  | none => True
  | some (x, i, _) => X.N[i]? = some x ∧ Vis X.env.scope x ∧ (x == ("__debug__" : Str)) = false ∧ (x == ("__classdict__" : Str)) = false
def tDat (K : PySem.W.Frag) (g : Nm) (d : PyData) : TE := fun σ H Q => nmAt g σ ∧ ∀ v H', Same H H' → Dp K (fr H H') v d → Q v H'
def tDats (K : PySem.W.Frag) (g : Nm) (ds : List PyData) : TA := fun σ H Q => nmAt g σ ∧ ∀ vs H', Same H H' → DpAll K (fr H H') vs ds → Q vs H'
theorem pe_imp {X : Cx} {e : Expr} {t t' : TE} (h : PE X e t) (hi : ∀ σ H Q, t' σ H Q → t σ H Q) : PE X e t' := ⟨fun pins s σ H Q I q => h.run pins s σ H Q I (hi σ H Q q)⟩
theorem pa_imp {X : Cx} {es : List Expr} {t t' : TA} (h : PA X es t) (hi : ∀ σ H Q, t' σ H Q → t σ H Q) : PA X es t' := ⟨fun pos pins s σ H Q I q => h.run pos pins s σ H Q I (hi σ H Q q)⟩
theorem cst_star {g : Nm} {n : Nat} {e : Expr} {es : List Expr} {d : PyData} {env : Env} (h : cst g n e = some d) : starEach (e :: es) env = (false, eval e env) :: starEach es env := by
  cases n with
  | zero => simp [cst] at h
  | succ n => cases e <;> first | rfl | simp [cst] at h
theorem cstL_length {f : Expr → Option PyData} : ∀ {es : List Expr} {ds : List PyData}, cstL f es = some ds → ds.length = es.length
  | [], ds, h => by
    simp [cstL] at h
    subst h
    rfl
  | e :: es, ds, h => by
    simp only [cstL] at h
    cases h1 : f e with
    | none => rw [h1] at h; cases h
    | some d =>
      cases h2 : cstL f es with
      | none => rw [h1, h2] at h; cases h
      | some ds' =>
        rw [h1, h2] at h
        cases h
        rw [List.length_cons, List.length_cons, cstL_length h2]
section
variable {X : Cx} {g : Nm}
theorem pa_cst {f : Expr → Option PyData} (hf : ∀ e d, f e = some d → PE X e (tDat X.K g d)) (hs : ∀ e d es env, f e = some d → starEach (e :: es) env = (false, eval e env) :: starEach es env) :
    ∀ (es : List Expr) (ds : List PyData), cstL f es = some ds → PA X es (tDats X.K g ds)
  | [], ds, h => by
    simp [cstL] at h
    subst h
    exact pa_imp pa_nil fun σ H Q q => q.2 [] H (Same.refl H) .nil
  | e :: es, ds, h => by
    simp only [cstL] at h
    cases h1 : f e with
    | none => rw [h1] at h; cases h
    | some d =>
      cases h2 : cstL f es with
      | none => rw [h1, h2] at h; cases h
      | some ds' =>
        rw [h1, h2] at h
        cases h
        refine pa_imp (pa_cons (hf e d h1) (pa_cst hf hs es ds' h2) (hs e d es X.env h1)) fun σ H Q q => ?_
        refine ⟨q.1, fun v H1 s1 d1 => ⟨q.1, fun vs H2 s2 d2 => ?_⟩⟩
        exact q.2 _ H2 (s1.trans s2) (.cons (Dp_same (fr_next s2) d1) (DpAll_same (fr_prev s1) d2))
theorem pe_cst (ok : nmOk g X) : ∀ (n : Nat) (e : Expr) (d : PyData), cst g n e = some d → PE X e (tDat X.K g d)
  | 0, e, d, h => by simp [cst] at h
  | n + 1, e, d, h => by
    have ih := pe_cst ok n
    cases e with
    | Constant c k p =>
      cases c with
      | int i =>
        simp [cst] at h
        subst h
        exact pe_imp pe_int fun σ H Q q => q.2 _ H (Same.refl H) (.int i)
      | str x =>
        simp [cst] at h
        subst h
        exact pe_imp pe_str fun σ H Q q => q.2 _ H (Same.refl H) (.str x)
      | bool b =>
        simp [cst] at h
        subst h
        exact pe_imp pe_bl fun σ H Q q => q.2 _ H (Same.refl H) (.bl b)
      | none =>
        simp [cst] at h
        subst h
        exact pe_imp pe_non fun σ H Q q => q.2 _ H (Same.refl H) .non
      | _ => simp [cst] at h
    | Tuple es k p =>
      simp only [cst] at h
      split at h
      · rename_i hlen
        cases h2 : cstL (cst g n) es with
        | none => rw [h2] at h; cases h
        | some ds =>
          rw [h2] at h
          cases h
          refine pe_imp (pe_tup (pa_cst ih (fun e d es env h => cst_star h) es ds h2)) fun σ H Q q => ⟨q.1, fun vs H1 s1 d1 => ?_⟩
          have hl := DpAll_len d1
          have hl2 := cstL_length h2
          refine ⟨Nat.le_of_lt (small1000 (by omega)), fun a ha => ?_⟩
          have s2 := same_new (o := .tup vs) ha
          exact q.2 _ _ (s1.trans s2) (.tup (SqT.of (fr_some (s1.free ha) upd_same)) (DpAll_same (fr_next s2) d1))
      · cases h
    | List es p =>
      simp only [cst] at h
      split at h
      · rename_i hlen
        cases h2 : cstL (cst g n) es with
        | none => rw [h2] at h; cases h
        | some ds =>
          rw [h2] at h
          cases h
          refine pe_imp (pe_lst (pa_cst ih (fun e d es env h => cst_star h) es ds h2)) fun σ H Q q => ⟨q.1, fun vs H1 s1 d1 => ?_⟩
          have hl := DpAll_len d1
          have hl2 := cstL_length h2
          refine ⟨Nat.le_of_lt (small1000 (by omega)), fun a ha => ?_⟩
          have s2 := same_new (o := .lst vs) ha
          exact q.2 _ _ (s1.trans s2) (.lst (SqL.of (fr_some (s1.free ha) upd_same)) (DpAll_same (fr_next s2) d1))
      · cases h
    | UnaryOp op a p =>
      cases op with
      | USub =>
        simp only [cst] at h
        split at h
        · rename_i i h1
          cases h
          refine pe_imp (pe_un un_neg (ih a _ h1)) fun σ H Q q => ⟨q.1, fun v H1 s1 d1 => ?_⟩
          cases d1
          exact ⟨i, rfl, q.2 _ H1 s1 (.int _)⟩
        · cases h
      | _ => simp [cst] at h
    | BinOp a op b p =>
      cases op with
      | Pow =>
        simp only [cst] at h
        split at h
        · rename_i i j h1 h2
          split at h
          · rename_i hc
            cases h
            refine pe_imp (pe_op op_pow (ih a _ h1) (ih b _ h2)) fun σ H Q q => ⟨q.1, fun v H1 s1 d1 => ⟨q.1, fun u H2 s2 d2 => ?_⟩⟩
            cases d1
            cases d2
            exact ⟨i, j, rfl, rfl, hc, q.2 _ H2 (s1.trans s2) (.int _)⟩
          · cases h
        · cases h
      | Mult =>
        simp only [cst] at h
        split at h
        · rename_i i j h1 h2
          split at h
          · rename_i hc
            cases h
            refine pe_imp (pe_op op_mulW (ih a _ h1) (ih b _ h2)) fun σ H Q q => ⟨q.1, fun v H1 s1 d1 => ⟨q.1, fun u H2 s2 d2 => ?_⟩⟩
            cases d1
            cases d2
            exact ⟨i, j, rfl, rfl, wide_mul hc.1 hc.2 (by decide) (by decide) (by decide), q.2 _ H2 (s1.trans s2) (.int _)⟩
          · cases h
        · cases h
      | _ => simp [cst] at h
    | Name x p =>
      simp only [cst] at h
      split at h
      · rename_i y i v
        split at h
        · rename_i e
          cases h
          subst e
          obtain ⟨h1, h2, h3, h4⟩ := ok
          refine pe_imp (pe_var (i := i) h1 h2 h3 h4) fun σ H Q q => ⟨_, q.1, q.2 _ H (Same.refl H) (.int v)⟩
        · cases h
      · cases h
    | _ => simp [cst] at h
end
end Sw
set_option maxRecDepth 100000
set_option maxHeartbeats 4000000
namespace Sw
open PySem PySem.Spec PyProof.Rows L2
/-! ### the text's own expressions, by their places -/
def xNo : Expr := .Constant .none 0 ⟨0, 0, 0, 0⟩
def asgOf : Stmt → Expr
  | .Assign _ v _ => v
  | _ => xNo
def retOf : Stmt → Expr
  | .Return (some e) _ => e
  | _ => xNo
def exprOf : Stmt → Expr
  | .Expr e _ => e
  | _ => xNo
def binR : Expr → Expr
  | .BinOp _ _ r _ => r
  | _ => xNo
def arg0 : Expr → Expr
  | .Call _ (a :: _) _ _ => a
  | _ => xNo
def eltsOf : Expr → List Expr
  | .List es _ => es
  | .Tuple es _ _ => es
  | _ => []
def stAt (i j : Nat) : Stmt := (defBody (topS i)).getD j (.Pass ⟨0, 0, 0, 0⟩)
theorem some_of {α : Type} {x : Option α} {d : α} (h : x.isSome = true) : x = some (x.getD d) := by
  cases x with
  | none => cases h
  | some a => rfl
def tupL : PyData → List PyData
  | .tuple ds => ds
  | _ => []
theorem tup_of {d : PyData} (h : isaTup d = true) : d = .tuple (tupL d) := by cases d <;> first | rfl | cases h
def fitB (M l n B : Nat) (d : PyData) : Bool := leaf M d && lens l d && decide (d.depth ≤ n) && decide (wt d ≤ B)
theorem fitB_fit {M l n B : Nat} {d : PyData} (h : fitB M l n B d = true) : Fit M l n B d := by
  unfold fitB at h
  simp only [Bool.and_eq_true, decide_eq_true_eq] at h
  exact ⟨h.1.1.1, h.1.1.2, h.1.2, h.2⟩
theorem allFit {M l n B : Nat} {ds : List PyData} (h : ds.all (fitB M l n B) = true) : ∀ d ∈ ds, Fit M l n B d := fun d hd => fitB_fit (List.all_eq_true.mp h d hd)
/-! ### odd things -/
def oddD1 : PyData := (cst none 12 (asgOf (stAt 20 0))).getD .none
def oddD2 : PyData := (cst none 12 (binR (retOf (stAt 20 1)))).getD .none
theorem odd1 : cst none 12 (asgOf (stAt 20 0)) = some oddD1 := some_of (by decide +kernel)
theorem odd2 : cst none 12 (binR (retOf (stAt 20 1))) = some oddD2 := some_of (by decide +kernel)
theorem odd1t : oddD1 = .tuple (tupL oddD1) := tup_of (by decide +kernel)
theorem odd2t : oddD2 = .tuple (tupL oddD2) := tup_of (by decide +kernel)
theorem odd1f : (tupL oddD1).all (fitB (10 ^ 199) 2 2 520) = true := by decide +kernel
theorem odd2f : (tupL oddD2).all (fitB (10 ^ 199) 2 2 520) = true := by decide +kernel
theorem odd1n : (tupL oddD1).length = 16 := by decide +kernel
theorem odd2n : (tupL oddD2).length = 6 := by decide +kernel
section
variable {P : Program} {w : World} {K : PySem.W.Frag} {mg : Str → Option Value} {base : Heap}
def spOdd (K : PySem.W.Frag) : Sp := fun vs H Q _ => vs = [] ∧ ∀ (v : V) (ds : List PyData) (H' : Hp), Same H H' → Dp K (fr H H') v (.tuple ds) → ds.length = 22 → (∀ d ∈ ds, Fit (10 ^ 199) 2 2 520 d) → Q v H'
theorem sc_odd : FnScope ["_law_small"] [] (defScope (topS 20)) := ⟨rfl, rfl, rfl, by decide +kernel, rfl, by decide +kernel, by decide +kernel⟩
theorem ok_odd {f : Addr} {fd : FuncData} (D : Df K mg "_law_odd" (topS 20) [] f fd) : FnOk P w K mg base CX0 1 f fd [] (spOdd K) := by
  refine D.fn.ok sc_odd (fun vs H Q E h => ?_) (fun cdv A outer s H vs Q E hr h => ?_)
  · obtain ⟨rfl, _⟩ := h
    rfl
  obtain ⟨rfl, q⟩ := h
  refine ⟨_, pss_cons (ps_set (i := 0) sc_odd.nd rfl (Or.inl rfl) (pe_cst (g := none) trivial 12 (asgOf (stAt 20 0)) oddD1 odd1)) (pss_one (ps_ret (pe_op op_catA (pv 0) (pe_cst (g := none) trivial 12 (binR (retOf (stAt 20 1))) oddD2 odd2)))), ?_⟩
  refine ⟨trivial, fun v1 H1 s1 d1 => ?_⟩
  refine ⟨v1, rfl, trivial, fun v2 H2 s2 d2 => ?_⟩
  rw [odd1t] at d1
  rw [odd2t] at d2
  have n1 := odd1n
  have n2 := odd2n
  have f1 := allFit odd1f
  have f2 := allFit odd2f
  generalize tupL oddD1 = ds1 at d1 n1 f1
  generalize tupL oddD2 = ds2 at d2 n2 f2
  cases d1 with
  | @tup a1 xs1 _ h1 r1 =>
    cases d2 with
    | @tup a2 xs2 _ h2 r2 =>
      have l1 := DpAll_len r1
      have l2 := DpAll_len r2
      have e1 := sameT (fr_same _ _) (sameT (fr_next s2) h1)
      have e2 := sameT (fr_same _ _) h2
      refine ⟨a1, a2, xs1, xs2, rfl, rfl, e1, e2, Nat.le_of_lt (small1000 (by omega)), fun z => ?_, fun _ z => ?_, fun _ _ p hp => ?_⟩
      · rw [z] at l1; simp at l1; omega
      · rw [z] at l2; simp at l2; omega
      · have s3 := same_new (o := .tup (xs1 ++ xs2)) hp
        refine q _ (ds1 ++ ds2) _ (s1.trans (s2.trans s3)) (.tup (SqT.of (fr_some (s1.free (s2.free hp)) upd_same)) (DpAll_append (DpAll_same (fr_next (s2.trans s3)) r1) (DpAll_same ((fr_prev s1).trans (fr_next s3)) r2))) (by rw [List.length_append]; omega) fun d hd => ?_
        exact (List.mem_append.mp hd).elim (f1 d) (f2 d)
end
end Sw
set_option maxRecDepth 100000
set_option maxHeartbeats 4000000
namespace Sw
open PySem PySem.Spec PyProof.Rows L2
/-! ### ints and bools reckoned with -/
def asInt : PyData → Int
  | .int i => i
  | .bool b => if b = true then 1 else 0
  | _ => 0
section
variable {X : Cx}
def rNum (f : Int → Int → Int) : R2 := fun x y H Q => ∃ j, y = .int j ∧ ((∃ i, x = .int i ∧ Q (.int (f i j)) H) ∨ ∃ b : Bool, x = .bl b ∧ Q (.int (f (if b = true then 1 else 0) j)) H)
theorem op_addB : OpR X (binaryOp .Add) (rNum fun i j => i + j) := by
  intro pins s σ H x y v u Q I rx ry h
  obtain ⟨j, rfl, h⟩ := h
  obtain ⟨t', rfl⟩ := ry
  rcases h with ⟨i, rfl, q⟩ | ⟨b, rfl, q⟩
  · obtain ⟨t, rfl⟩ := rx
    exact add_int ⟨.int _, H, I.tok _, ⟨_, rfl⟩, q⟩
  · cases (show v = Value.bool b from rx)
    exact PySem.IntBool.add_bool_int ⟨.int _, H, I.tok _, ⟨_, rfl⟩, q⟩
theorem op_subB : OpR X (binaryOp .Sub) (rNum fun i j => i - j) := by
  intro pins s σ H x y v u Q I rx ry h
  obtain ⟨j, rfl, h⟩ := h
  obtain ⟨t', rfl⟩ := ry
  rcases h with ⟨i, rfl, q⟩ | ⟨b, rfl, q⟩
  · obtain ⟨t, rfl⟩ := rx
    exact sub_int ⟨.int _, H, I.tok _, ⟨_, rfl⟩, q⟩
  · cases (show v = Value.bool b from rx)
    exact PySem.IntBool.sub_bool_int ⟨.int _, H, I.tok _, ⟨_, rfl⟩, q⟩
theorem gives_neg_bool (b : Bool) : Gives (Builtin.«int.__neg__» ⟨[.bool b], []⟩) (.int (-(if b = true then 1 else 0))) := by
  cases b <;> exact .of_eq rfl
theorem un_negB : UnR X (unaryOp .USub) (fun x H Q => (∃ i, x = .int i ∧ Q (.int (-i)) H) ∨ ∃ b : Bool, x = .bl b ∧ Q (.int (-(if b = true then 1 else 0))) H) := by
  intro pins s σ H x v Q I rx h
  rcases h with ⟨i, rfl, q⟩ | ⟨b, rfl, q⟩
  · obtain ⟨t, rfl⟩ := rx
    exact PyProof.Rows.neg_int ⟨.int _, H, I.tok _, ⟨_, rfl⟩, q⟩
  · cases (show v = Value.bool b from rx)
    exact unaryOp_gives (op := .USub) (T := "bool") rfl rfl PySem.F.slot_bool_neg PySem.F.entry_int_neg (PySem.F.args_int_neg_1 _) (gives_neg_bool b) ⟨.int _, H, I.tok _, ⟨_, rfl⟩, q⟩
end
/-! ### tuples of data: cut and put together -/
def cutD (ds : List PyData) (lo hi : Option Int) : List PyData := (ds.drop (HT.sIx ds.length 0 lo)).take (HT.sIx ds.length ds.length hi - HT.sIx ds.length 0 lo)
theorem DpAll_take {K : PySem.W.Frag} {H : Hp} : ∀ {vs : List V} {ds : List PyData} (n : Nat), DpAll K H vs ds → DpAll K H (vs.take n) (ds.take n)
  | _, _, 0, _ => by simp; exact .nil
  | _, _, _ + 1, .nil => by simp; exact .nil
  | _, _, n + 1, .cons h r => .cons h (DpAll_take n r)
theorem DpAll_drop {K : PySem.W.Frag} {H : Hp} : ∀ {vs : List V} {ds : List PyData} (n : Nat), DpAll K H vs ds → DpAll K H (vs.drop n) (ds.drop n)
  | _, _, 0, h => h
  | _, _, _ + 1, .nil => by simp; exact .nil
  | _, _, n + 1, .cons h r => DpAll_drop n r
theorem cut_dat {K : PySem.W.Frag} {H : Hp} {p a : Addr} {ds : List PyData} {lo hi : Option Int} {Q : VK} (hp : ∃ u, H p = some u) (h : Dp K (del H p) (.ref a) (.tuple ds)) (q : ∀ v H', Same H H' → Dp K (del H' p) v (.tuple (cutD ds lo hi)) → Q v H') : rSlA K (.ref a) lo hi H Q := by
  obtain ⟨u, hp⟩ := hp
  cases h with
  | @tup _ xs _ hx hr =>
    have hl := DpAll_len hr
    refine ⟨a, xs, rfl, sameT (del_same _ _) hx, fun hw => ?_, fun hw t ht => ?_⟩
    · rw [hl] at hw
      have e : cutD ds lo hi = ds := by
        unfold cutD
        rw [hw.1, hw.2]
        simp
      exact q _ H (Same.refl H) (by rw [e]; exact .tup hx hr)
    · have s := same_new (o := .tup (cutV xs lo hi)) ht
      refine q _ _ s (.tup (SqT.of (new_del hp ht)) ?_)
      have r2 := DpAll_same (same_del (p := p) s) hr
      generalize upd H t (.tup (cutV xs lo hi)) = H2 at r2
      unfold cutV cutD
      rw [hl]
      exact DpAll_take _ (DpAll_drop _ r2)
theorem cat_dat {K : PySem.W.Frag} {H : Hp} {p a b : Addr} {ds es : List PyData} {Q : VK} (hp : ∃ u, H p = some u) (ha : Dp K (del H p) (.ref a) (.tuple ds)) (hb : Dp K (del H p) (.ref b) (.tuple es)) (hl : ds.length + es.length ≤ 1000)
    (q : ∀ v H', Same H H' → Dp K (del H' p) v (.tuple (ds ++ es)) → Q v H') : rCatA K (.ref a) (.ref b) H Q := by
  obtain ⟨u, hp⟩ := hp
  cases ha with
  | @tup _ xs _ hx hrx =>
    cases hb with
    | @tup _ ys _ hy hry =>
      have l1 := DpAll_len hrx
      have l2 := DpAll_len hry
      refine ⟨a, b, xs, ys, rfl, rfl, sameT (del_same _ _) hx, sameT (del_same _ _) hy, Nat.le_of_lt (small1000 (by omega)), fun z => ?_, fun _ z => ?_, fun _ _ t ht => ?_⟩
      · have e : ds = [] := List.eq_nil_of_length_eq_zero (by rw [← l1, z]; rfl)
        subst e
        exact q _ H (Same.refl H) (.tup hy hry)
      · have e : es = [] := List.eq_nil_of_length_eq_zero (by rw [← l2, z]; rfl)
        subst e
        rw [List.append_nil] at q
        exact q _ H (Same.refl H) (.tup hx hrx)
      · have s := same_new (o := .tup (xs ++ ys)) ht
        exact q _ _ s (.tup (SqT.of (new_del hp ht)) (DpAll_append (DpAll_same (same_del s) hrx) (DpAll_same (same_del s) hry)))
theorem sIx_at (n d k : Nat) (h : k ≤ n) : HT.sIx n d (some (k : Int)) = k := by rw [HT.sIx_nat]; omega
theorem cutD_to (ds : List PyData) {k : Nat} (h : k ≤ ds.length) : cutD ds none (some (k : Int)) = ds.take k := by
  unfold cutD
  rw [sIx_at _ _ _ h, HT.sIx_none]
  simp
theorem cutD_from (ds : List PyData) {k : Nat} (h : k ≤ ds.length) : cutD ds (some (k : Int)) none = ds.drop k := by
  unfold cutD
  rw [sIx_at _ _ _ h, HT.sIx_none]
  exact List.take_of_length_le (by rw [List.length_drop]; omega)
/-! ### how large what is put together is -/
theorem wtAll_cut (ds : List PyData) {k : Nat} {x : PyData} (h : ds[k]? = some x) : wtAll (ds.take k) + (wt x + 2) + wtAll (ds.drop (k + 1)) = wtAll ds := by
  obtain ⟨hk, e⟩ := List.getElem?_eq_some_iff.mp h
  have e2 : ds = ds.take k ++ x :: ds.drop (k + 1) := by
    rw [← e, List.getElem_cons_drop]
    exact (List.take_append_drop k ds).symm
  conv => rhs; rw [e2]
  rw [wtAll_append]
  simp only [wtAll]
  omega
theorem fit_any {M l n B M' l' n' B' : Nat} {ds es : List PyData} (h : Fit M l (n + 1) B (.tuple ds)) (hM : M ≤ M') (hl : l ≤ l') (hn : n ≤ n') (hm : ∀ x ∈ es, x ∈ ds ∨ (leaf M' x = true ∧ lens l' x = true ∧ x.depth ≤ n')) (hel : es.length ≤ l') (hw : wtAll es + 5 ≤ B') : Fit M' l' (n' + 1) B' (.tuple es) := by
  obtain ⟨h1, h2, h3, h4⟩ := h.inTup
  refine Fit.tup hel (fun x hx => ?_) hw
  rcases hm x hx with hx | hx
  · have := (h4 x hx).mono hM hl (show n + 1 - 1 ≤ n' by omega) (Nat.le_refl _)
    exact ⟨this.lf, this.ln, this.dp⟩
  · exact hx
end Sw
set_option maxRecDepth 100000
set_option maxHeartbeats 4000000
namespace Sw
open PySem PySem.Spec PyProof.Rows L2
section
variable {P : Program} {w : World} {K : PySem.W.Frag} {mg : Str → Option Value} {base : Heap}
/-- n is more than the thing is deep -/
def spBend (K : PySem.W.Frag) (n : Nat) : Sp := fun vs H Q _ => ∃ (p fq : Addr) (v vo : V) (b m M l B : Nat) (d : PyData) (os : List PyData), vs = [.ref p, v, vo] ∧ n = m + 1 ∧ n ≤ 30 ∧ FeedAt H p fq b ∧ b + 10 * n + 10 ≤ 1000000000 ∧
  Dp K (del H p) v d ∧ Dp K (del H p) vo (.tuple os) ∧ os.length = 22 ∧ (∀ o ∈ os, Fit (10 ^ 199) 2 2 520 o) ∧ Fit M l m B d ∧ 10 ^ 199 ≤ M ∧ l ≤ 100 ∧ B ≤ 100000 ∧
  ∀ (v' : V) (d' : PyData) (H' : Hp), Dp K (del H' p) v' d' → Fit (M + 1) (2 * l + 2) (m + 2) (2 * B + 1100) d' → Same (del H p) (del H' p) → FeedAt H' p fq (b + 10 * n) → Q v' H'
theorem cutD_sub (ds : List PyData) (lo hi : Option Int) : (∀ x ∈ cutD ds lo hi, x ∈ ds) ∧ (cutD ds lo hi).length ≤ ds.length ∧ wtAll (cutD ds lo hi) ≤ wtAll ds := by
  unfold cutD
  refine ⟨fun x hx => List.mem_of_mem_drop (List.mem_of_mem_take hx), by rw [List.length_take, List.length_drop]; omega, ?_⟩
  exact Nat.le_trans (wtAll_take _ _) (wtAll_drop _ _)
theorem tup_at {a b : V} {xs : List V} {i : Int} (h0 : 0 ≤ i) {n : Nat} (e : i = (n : Int)) (h : xs[n]? = some a) : atI xs i = some a := by rw [e]; exact atI_nat h
theorem sc_bend : FnScope ["_law_feed_here", "_law_thing", "_law_odd_here", "_law_at", "_law_way"] ["_law_feed_here", "_law_thing", "_law_odd_here"] (defScope (topS 19)) := ⟨rfl, rfl, rfl, by decide +kernel, rfl, by decide +kernel, by decide +kernel⟩
theorem ok_bend1 {n : Nat} {f f1 : Addr} {fd fd1 : FuncData} (D : Df K mg "_law_bend" (topS 19) ["_law_feed_here", "_law_thing", "_law_odd_here"] f fd) (DD : Df K mg "_law_draw" (topS 16) ["_law_feed_here", "_law_many"] f1 fd1) (B : Bt mg)
    (GD : FnOk P w K mg base CX0 1 f1 fd1 ["_law_feed_here", "_law_many"] spDraw) (G : FnOk P w K mg base CX0 (n + 1) f fd ["_law_feed_here", "_law_thing", "_law_odd_here"] (spBend K n)) :
    FnOk P w K mg base CX0 (n + 2) f fd ["_law_feed_here", "_law_thing", "_law_odd_here"] (spBend K (n + 1)) := by
  refine D.fn.ok sc_bend (fun vs H Q E h => ?_) (fun cdv A outer s H vs Q E hr h => ?_)
  · obtain ⟨p, fq, v, vo, b, m, M, l, B, d, os, rfl, _⟩ := h
    rfl
  obtain ⟨p, fq, v, vo, b, m, M, l, Bw, d, os, rfl, hnm, hn30, hF, hb, hd, ho, hol, hof, hfit, hM, hl, hB, q⟩ := h
  obtain rfl : n = m := by omega
  have nd := sc_bend.nd
  have hu := hr.units
  have hr1 : Room 1 _ := hr.mono (by omega)
  refine ⟨_, C8.pss_cut (ps_if (PW.pt (pw_and (pt_val (pe_callB call_isi (by rfl) B.isi (by decide +kernel) (pa_cons (pv 1) (pa_cons (pe_bltn (v := .ty "tuple") (by rfl) B.tuple (by decide +kernel) rfl) pa_nil))))
        (pw_and (pt_cmpR (op_neD hu) (pv 1) (pe_tup pa_nil) (nomark _)) (pw_and1 (pt_cmpR op_gt (pe_call GD hr1 (by rfl) DD.gl DD.fn.kp DD.bd .nil pass0 (pa_cons (pv 0) (pa_cons pe_int pa_nil))) pe_int (nomark _))))))
      (pss_cons (ps_set (i := 3) nd rfl (Or.inl rfl) (pe_call GD hr1 (by rfl) DD.gl DD.fn.kp DD.bd .nil pass0 (pa_cons (pv 0) (pa_cons (pe_callB call_len_seq (by rfl) B.len PySem.boot_len (pa_cons (pv 1) pa_nil)) pa_nil))))
      (pss_one (ps_ret (pe_op op_catA (pe_op op_catA (pe_slice sl_tupA (pv 1) po_none (po_some (pv 3)))
        (pe_tup (pa_cons (pe_call G hr (by rfl) D.gl D.fn.kp D.bd .nil pass0 (pa_cons (pv 0) (pa_cons (pe_ix ix_tup (pv 1) (pv 3) (fun _ _ => rfl)) (pa_cons (pv 2) pa_nil)))) pa_nil)))
        (pe_slice sl_tupA (pv 1) (po_some (pe_op op_add (pv 3) pe_int)) po_none))))) pss_nil)
    (pss_cons (ps_set (i := 4) nd rfl (Or.inl rfl) (pe_call GD hr1 (by rfl) DD.gl DD.fn.kp DD.bd .nil pass0 (pa_cons (pv 0) (pa_cons pe_int pa_nil))))
    (C8.pss_cut (ps_if (PW.pt (pw_and (pt_val (pe_callB call_isi (by rfl) B.isi (by decide +kernel) (pa_cons (pv 1) (pa_cons (pe_bltn (v := .ty "tuple") (by rfl) B.tuple (by decide +kernel) rfl) pa_nil)))) (pw_and1 (pt_cmpR op_lt (pv 4) pe_int (nomark _)))))
      (pss_cons (ps_set (i := 3) nd rfl (Or.inl rfl) (pe_call GD hr1 (by rfl) DD.gl DD.fn.kp DD.bd .nil pass0 (pa_cons (pv 0) (pa_cons (pe_op op_add (pe_callB call_len_seq (by rfl) B.len PySem.boot_len (pa_cons (pv 1) pa_nil)) pe_int) pa_nil))))
      (pss_cons (ps_if (pt_cmpR op_eq (pv 4) pe_int (nomark _))
        (pss_one (ps_ret (pe_op op_catA (pe_op op_catA (pe_slice sl_tupA (pv 1) po_none (po_some (pv 3)))
          (pe_tup (pa_cons (pe_ix ix_tup (pv 2) (pe_call GD hr1 (by rfl) DD.gl DD.fn.kp DD.bd .nil pass0 (pa_cons (pv 0) (pa_cons (pe_callB call_len_seq (by rfl) B.len PySem.boot_len (pa_cons (pv 2) pa_nil)) pa_nil))) (fun _ _ => rfl)) pa_nil)))
          (pe_slice sl_tupA (pv 1) (po_some (pv 3)) po_none)))) pss_nil)
      (pss_one (ps_ret (pe_ifExp (pt_cmpR op_eq (pv 4) pe_int (nomark _)) (pe_op op_catA (pe_slice sl_tupA (pv 1) po_none (po_some (pv 3))) (pe_slice sl_tupA (pv 1) (po_some (pe_op op_add (pv 3) pe_int)) po_none))
        (pe_ifExp (pt_cmpR op_eq (pv 4) pe_int (nomark _)) (pe_callTy call_list_of (by rfl) B.list (by decide +kernel) (pa_cons (pv 1) pa_nil)) (pe_op op_catA (pv 1) (pe_slice sl_tupA (pv 1) po_none (po_some (pv 3))))))))))  pss_nil)
    (C8.pss_cut (ps_if (PW.pt (pw_and (pt_val (pe_callB call_isi (by rfl) B.isi (by decide +kernel) (pa_cons (pv 1) (pa_cons (pe_bltn (v := .ty "int") (by rfl) B.int (by decide +kernel) rfl) pa_nil)))) (pw_and1 (pt_cmpR op_lt (pv 4) pe_int (nomark _)))))
      (pss_one (ps_ret (pe_ix ix_tup (pe_tup (pa_cons (pe_op op_addB (pv 1) pe_int) (pa_cons (pe_op op_subB (pv 1) pe_int) (pa_cons (pe_un un_negB (pv 1)) (pa_cons (pe_tup (pa_cons (pv 1) pa_nil)) pa_nil))))) (pv 4) (fun _ _ => rfl)))) pss_nil)
    (C8.pss_cut (ps_if (PW.pt (pw_and (pt_val (pe_callB call_isi (by rfl) B.isi (by decide +kernel) (pa_cons (pv 1) (pa_cons (pe_bltn (v := .ty "str") (by rfl) B.str (by decide +kernel) rfl) pa_nil)))) (pw_and1 (pt_cmpR op_lt (pv 4) pe_int (nomark _)))))
      (pss_one (ps_ret (pe_ix ix_tup (pe_tup (pa_cons (pe_op op_add_str (pv 1) pe_str) (pa_cons (pe_slice sl_str (pv 1) (po_some pe_int) po_none) (pa_cons (pe_lst (pa_cons (pv 1) pa_nil)) pa_nil)))) (pv 4) (fun _ _ => rfl)))) pss_nil)
    (pss_one (ps_ret (pe_ix ix_tup (pv 2) (pe_call GD hr1 (by rfl) DD.gl DD.fn.kp DD.bd .nil pass0 (pa_cons (pv 0) (pa_cons (pe_callB call_len_seq (by rfl) B.len PySem.boot_len (pa_cons (pv 2) pa_nil)) pa_nil))) (fun _ _ => rfl)))))))), ?_⟩
  have hdH := Dp_same (del_same _ _) hd
  refine ⟨fun σ H' => ∃ b' : Nat, σ = [some (.ref p), some v, some vo, none, none] ∧ b' ≤ b + 1 ∧ Same (del H p) (del H' p) ∧ FeedAt H' p fq b', ?_, ?_⟩
  · obtain ⟨t1, ty1, k1⟩ := isa_tup hdH
    refine ⟨v, rfl, v, .ty "tuple", t1, _, _, rfl, .ty _, ty1, k1, _, rfl, ?_⟩
    cases d with
    | tuple ds =>
      obtain ⟨hdl, hn1, hdw, hdin⟩ := hfit.inTup
      cases id hd with
      | @tup a xs _ hx hrx =>
      have hxl := DpAll_len hrx
      refine iteT ⟨_, rfl, Nat.zero_le _, fun N hN => ?_⟩
      have sN := same_new (o := .tup []) hN
      refine ⟨.tuple ds, .tuple [], Dp_same sN hdH, .tup (SqT.of upd_same) .nil, (hfit.mono (Nat.le_refl _) (Nat.le_refl _) (Nat.le_refl _) (Nat.le_refl _)).shaped (by omega), nilT_shaped, _, rfl, ?_⟩
      have F0 := hF.same sN
      have S0 := same_del (p := p) sN
      generalize upd H N (.tup []) = H0 at sN F0 S0
      rw [eqv_nil_tup]
      refine ite2 (fun c => ?_) (fun c => ?_)
      rotate_left
      · exact iteF ⟨b, rfl, by omega, S0, F0⟩
      have hne : 1 ≤ ds.length := by
        cases ds with
        | nil => cases c
        | cons x r => simp
      refine ⟨_, rfl, p, fq, 4, b, rfl, F0, by omega, by decide, by decide, fun r H1 r0 r1 s1 F1 => ⟨r, 0, rfl, rfl, _, rfl, ?_⟩⟩
      have S1 := S0.trans s1
      refine ite2 (fun _ => ?_) (fun _ => ?_)
      rotate_left
      · exact ⟨b + 1, rfl, by omega, S1, F1⟩
      -- one of its things is bent
      refine ⟨_, rfl, _, rfl, a, xs, rfl, .inr (sameT (del_same _ _) (sameT S1 hx)), p, fq, _, b + 1, rfl, F1, by omega, by omega, by omega, fun at0 H2 a0 a1 s2 F2 => ?_⟩
      obtain ⟨k, rfl⟩ : ∃ k : Nat, at0 = (k : Int) := ⟨at0.toNat, (Int.toNat_of_nonneg a0).symm⟩
      have hk : k < ds.length := by omega
      have S2 := S1.trans s2
      refine ⟨_, rfl, _, rfl, (k : Int), rfl, ?_⟩
      refine cut_dat F2.there (Dp_same S2 hd) (fun v1 H3 s3 d3 => ?_)
      have S3 := S2.trans (same_del s3)
      have F3 := F2.same s3
      have hkx : k < xs.length := by omega
      obtain ⟨dx, hdx, hdpx⟩ := DpAll_get (DpAll_same S3 hrx) (List.getElem?_eq_getElem hkx)
      have fx := hdin dx (List.mem_of_getElem? hdx)
      refine ⟨_, rfl, _, rfl, _, rfl, a, xs, _, _, rfl, rfl, sameT (del_same _ _) (sameT S3 hx), atI_nat (List.getElem?_eq_getElem hkx), _, rfl, p, fq, _, vo, b + 2, n - 1, M, l, wt dx, dx, os, rfl, by omega, by omega, F3, by omega, hdpx, Dp_same S3 ho, hol, hof, ⟨fx.lf, fx.ln, fx.dp, Nat.le_refl _⟩, hM, hl, by have := fx.wg; omega, fun v' d' H4 dd f4 s4 F4 => ?_⟩
      refine ⟨by show 1 ≤ sizeLine; decide, fun T hT => ?_⟩
      obtain ⟨u4, hp4⟩ := F4.there
      have s5 := same_new (o := .tup [v']) hT
      have dT : Dp K (del (upd H4 T (.tup [v'])) p) (.ref T) (.tuple [d']) := .tup (SqT.of (new_del hp4 hT)) (.cons (Dp_same (same_del s5) dd) .nil)
      have F5 := F4.same s5
      have S5 := (S3.trans s4).trans (same_del (p := p) s5)
      have d5 := Dp_same (s4.trans (same_del (p := p) s5)) d3
      generalize upd H4 T (.tup [v']) = H5 at s5 dT F5 S5 d5
      rw [cutD_to ds (by omega)] at d5
      cases id d5 with
      | @tup a1 _ _ _ _ =>
      refine cat_dat F5.there d5 dT (by rw [List.length_take]; show _ + 1 ≤ 1000; omega) (fun v2 H6 s6 d6 => ?_)
      have S6 := S5.trans (same_del (p := p) s6)
      have F6 := F5.same s6
      refine ⟨_, rfl, _, rfl, _, _, rfl, rfl, (k : Int) + 1, rfl, ?_⟩
      dsimp only [tNoPart]
      refine cut_dat F6.there (Dp_same S6 hd) (fun v3 H7 s7 d7 => ?_)
      have S7 := S6.trans (same_del (p := p) s7)
      have F7 := F6.same s7
      have d67 := Dp_same (same_del (p := p) s7) d6
      rw [show (k : Int) + 1 = ((k + 1 : Nat) : Int) by omega, cutD_from ds (by omega)] at d7
      cases id d67 with
      | @tup a2 _ _ _ _ =>
      cases id d7 with
      | @tup a3 _ _ _ _ =>
      refine cat_dat F7.there d67 d7 (by rw [List.length_append, List.length_take, List.length_drop]; show _ + 1 + _ ≤ 1000; omega) (fun v4 H8 s8 d8 => ?_)
      refine q v4 _ H8 d8 ?_ (S7.trans (same_del (p := p) s8)) ((F7.same s8).mono (by omega))
      have hwc := wtAll_cut ds hdx
      have hwx := wt_mem (List.mem_of_getElem? hdx)
      have hw4 := f4.wg
      obtain ⟨n', rfl⟩ : ∃ n', n = n' + 1 := ⟨n - 1, by omega⟩
      refine fit_any (n' := n' + 2) hfit (by omega) (by omega) (by omega) (fun x hx' => ?_) ?_ ?_
      · rcases List.mem_append.mp hx' with hx' | hx'
        · rcases List.mem_append.mp hx' with hx' | hx'
          · exact .inl (List.mem_of_mem_take hx')
          · rw [List.mem_singleton.mp hx']
            exact .inr ⟨f4.lf, f4.ln, f4.dp⟩
        · exact .inl (List.mem_of_mem_drop hx')
      · rw [List.length_append, List.length_append, List.length_take, List.length_drop]
        show _ + 1 + _ ≤ _
        omega
      · rw [wtAll_append, wtAll_append]
        simp only [wtAll]
        omega
    | none => exact iteF (iteF ⟨b, rfl, by omega, Same.refl _, hF⟩)
    | bool _ => exact iteF (iteF ⟨b, rfl, by omega, Same.refl _, hF⟩)
    | int _ => exact iteF (iteF ⟨b, rfl, by omega, Same.refl _, hF⟩)
    | str _ => exact iteF (iteF ⟨b, rfl, by omega, Same.refl _, hF⟩)
    | list _ => exact iteF (iteF ⟨b, rfl, by omega, Same.refl _, hF⟩)
    | dict _ => exact iteF (iteF ⟨b, rfl, by omega, Same.refl _, hF⟩)
  rintro σ H1 ⟨b1, rfl, hb1, S1, F1⟩
  refine ⟨_, rfl, p, fq, 6, b1, rfl, F1, by omega, by decide, by decide, fun way H2 y0 y1 s2 F2 => ?_⟩
  have S2 := S1.trans s2
  have hd2 := Dp_same S2 hd
  have hd2H := Dp_same (del_same _ _) hd2
  have ho2 := Dp_same S2 ho
  -- an odd thing, at any later state
  have fodd : ∀ o ∈ os, Fit (M + 1) (2 * l + 2) (n + 2) (2 * Bw + 1100) o := fun o h => (hof o h).mono (by omega) (by omega) (by omega) (by omega)
  cases id ho2 with
  | @tup ao xo _ hxo hro =>
  have hxol := DpAll_len hro
  refine ⟨fun σ H' => σ = [some (.ref p), some v, some (.ref ao), none, some (.int way)] ∧ H' = H2, ?_, ?_⟩
  · obtain ⟨t1, ty1, k1⟩ := isa_tup hd2H
    refine ⟨v, rfl, v, .ty "tuple", t1, _, _, rfl, .ty _, ty1, k1, _, rfl, ?_⟩
    cases d with
    | tuple ds =>
      obtain ⟨hdl, hn1, hdw, hdin⟩ := hfit.inTup
      cases id hd2 with
      | @tup a xs _ hx hrx =>
      have hxl := DpAll_len hrx
      obtain ⟨n', rfl⟩ : ∃ n', n = n' + 1 := ⟨n - 1, by omega⟩
      refine iteT ⟨_, rfl, _, _, rfl, rfl, _, rfl, ?_⟩
      refine ite2 (fun c => ?_) (fun c => ⟨rfl, rfl⟩)
      refine ⟨_, rfl, _, rfl, a, xs, rfl, .inr (sameT (del_same _ _) hx), _, _, rfl, rfl, p, fq, _, b1 + 1, rfl, F2, by omega, by omega, by omega, fun at0 H3 a0 a1 s3 F3 => ?_⟩
      have hd3 := Dp_same s3 hd2
      have S3 := S2.trans s3
      refine ⟨_, rfl, rfl, _, rfl, ?_⟩
      refine ite2 (fun c0 => ?_) (fun c0 => ?_)
      · -- one more thing
        refine ⟨_, rfl, _, rfl, at0, rfl, ?_⟩
        refine cut_dat F3.there hd3 (fun v1 H4 s4 d4 => ?_)
        have F4 := F3.same s4
        have S4 := S3.trans (same_del (p := p) s4)
        have e4 := sameT (del_same _ _) (sameT (s3.trans (same_del (p := p) s4)) hxo)
        refine ⟨_, rfl, _, rfl, _, rfl, ao, xo, rfl, .inr e4, p, fq, _, b1 + 2, rfl, F4, by omega, by omega, by omega, fun r5 H5 u0 u1 s5 F5 => ?_⟩
        obtain ⟨k5, rfl⟩ : ∃ k : Nat, r5 = (k : Int) := ⟨r5.toNat, (Int.toNat_of_nonneg u0).symm⟩
        have hk5 : k5 < xo.length := by omega
        have sAll := s3.trans ((same_del (p := p) s4).trans s5)
        obtain ⟨dx, hdx, hdpx⟩ := DpAll_get (DpAll_same sAll hro) (List.getElem?_eq_getElem hk5)
        have fx := hof dx (List.mem_of_getElem? hdx)
        refine ⟨ao, xo, _, _, rfl, rfl, sameT (del_same _ _) (sameT sAll hxo), atI_nat (List.getElem?_eq_getElem hk5), by show 1 ≤ sizeLine; decide, fun T hT => ?_⟩
        generalize xo[k5] = vx at hdpx
        obtain ⟨u5, hp5⟩ := F5.there
        have s6 := same_new (o := .tup [vx]) hT
        have dT : Dp K (del (upd H5 T (.tup [vx])) p) (.ref T) (.tuple [dx]) := .tup (SqT.of (new_del hp5 hT)) (.cons (Dp_same (same_del s6) hdpx) .nil)
        have F6 := F5.same s6
        have S6 := (S4.trans s5).trans (same_del (p := p) s6)
        have d6 := Dp_same (s5.trans (same_del (p := p) s6)) d4
        generalize upd H5 T (.tup [vx]) = H6 at s6 dT F6 S6 d6
        obtain ⟨m1, l1, w1⟩ := cutD_sub ds none (some at0)
        generalize cutD ds none (some at0) = es1 at d6 m1 l1 w1
        cases id d6 with
        | @tup a1 _ _ _ _ =>
        refine cat_dat F6.there d6 dT (by show _ + 1 ≤ 1000; omega) (fun v2 H7 s7 d7 => ?_)
        have S7 := S6.trans (same_del (p := p) s7)
        have F7 := F6.same s7
        refine ⟨_, rfl, _, rfl, at0, rfl, ?_⟩
        dsimp only [tNoPart]
        refine cut_dat F7.there (Dp_same S7 hd) (fun v3 H8 s8 d8 => ?_)
        have S8 := S7.trans (same_del (p := p) s8)
        have F8 := F7.same s8
        have d78 := Dp_same (same_del (p := p) s8) d7
        obtain ⟨m2, l2, w2⟩ := cutD_sub ds (some at0) none
        generalize cutD ds (some at0) none = es2 at d8 m2 l2 w2
        cases id d78 with
        | @tup a2 _ _ _ _ =>
        cases id d8 with
        | @tup a3 _ _ _ _ =>
        refine cat_dat F8.there d78 d8 (by rw [List.length_append]; show _ + 1 + _ ≤ 1000; omega) (fun v4 H9 s9 d9 => ?_)
        refine q v4 _ H9 d9 ?_ (S8.trans (same_del (p := p) s9)) ((F8.same s9).mono (by omega))
        have fw := fx.wg
        refine fit_any (n' := n' + 2) hfit (by omega) (by omega) (by omega) (fun x hx' => ?_) ?_ ?_
        · rcases List.mem_append.mp hx' with hx' | hx'
          · rcases List.mem_append.mp hx' with hx' | hx'
            · exact .inl (m1 x hx')
            · rw [List.mem_singleton.mp hx']
              exact .inr ⟨leaf_mono (by omega) _ fx.lf, lens_mono (by omega) _ fx.ln, by have := fx.dp; omega⟩
          · exact .inl (m2 x hx')
        · rw [List.length_append, List.length_append]
          show _ + 1 + _ ≤ _
          omega
        · rw [wtAll_append, wtAll_append]
          simp only [wtAll]
          omega
      · refine ⟨_, rfl, rfl, _, rfl, ?_⟩
        refine ite2 (fun c1 => ?_) (fun c1 => ?_)
        · -- one less
          refine ⟨_, rfl, _, rfl, at0, rfl, ?_⟩
          refine cut_dat F3.there hd3 (fun v1 H4 s4 d4 => ?_)
          have F4 := F3.same s4
          have S4 := S3.trans (same_del (p := p) s4)
          refine ⟨_, rfl, _, rfl, _, _, rfl, rfl, at0 + 1, rfl, ?_⟩
          dsimp only [tNoPart]
          refine cut_dat F4.there (Dp_same S4 hd) (fun v3 H5 s5 d5 => ?_)
          have S5 := S4.trans (same_del (p := p) s5)
          have F5 := F4.same s5
          have d45 := Dp_same (same_del (p := p) s5) d4
          obtain ⟨m1, l1, w1⟩ := cutD_sub ds none (some at0)
          obtain ⟨m2, l2, w2⟩ := cutD_sub ds (some (at0 + 1)) none
          generalize cutD ds none (some at0) = es1 at d45 m1 l1 w1
          generalize cutD ds (some (at0 + 1)) none = es2 at d5 m2 l2 w2
          cases id d45 with
          | @tup a2 _ _ _ _ =>
          cases id d5 with
          | @tup a3 _ _ _ _ =>
          refine cat_dat F5.there d45 d5 (by omega) (fun v4 H6 s6 d6 => ?_)
          refine q v4 _ H6 d6 ?_ (S5.trans (same_del (p := p) s6)) ((F5.same s6).mono (by omega))
          refine fit_any (n' := n' + 2) hfit (by omega) (by omega) (by omega) (fun x hx' => .inl ((List.mem_append.mp hx').elim (m1 x) (m2 x))) ?_ ?_
          · rw [List.length_append]
            omega
          · rw [wtAll_append]
            omega
        · refine ⟨_, rfl, rfl, _, rfl, ?_⟩
          refine ite2 (fun c2 => ?_) (fun c2 => ?_)
          · -- a list
            refine ⟨_, rfl, a, xs, rfl, .inr (sameT (del_same _ _) (sameT s3 hx)), fun L hL => ?_⟩
            obtain ⟨u3, hp3⟩ := F3.there
            have s4 := same_new (o := .lst xs) hL
            refine q _ (.list ds) _ (.lst (SqL.of (new_del hp3 hL)) (DpAll_same (s3.trans (same_del s4)) hrx)) ?_ (S3.trans (same_del s4)) ((F3.same s4).mono (by omega))
            refine Fit.lst (n := n' + 2) (by omega) (fun x hx' => ?_) (by omega)
            have := (hdin x hx').mono (show M ≤ M + 1 by omega) (show l ≤ 2 * l + 2 by omega) (show n' + 1 - 1 ≤ n' + 2 by omega) (Nat.le_refl _)
            exact ⟨this.lf, this.ln, this.dp⟩
          · -- itself, and its beginning again
            refine ⟨_, rfl, _, rfl, _, rfl, at0, rfl, ?_⟩
            refine cut_dat F3.there hd3 (fun v1 H4 s4 d4 => ?_)
            have F4 := F3.same s4
            have S4 := S3.trans (same_del (p := p) s4)
            obtain ⟨m1, l1, w1⟩ := cutD_sub ds none (some at0)
            generalize cutD ds none (some at0) = es1 at d4 m1 l1 w1
            cases id d4 with
            | @tup a2 _ _ _ _ =>
            refine cat_dat F4.there (Dp_same S4 hd) d4 (by omega) (fun v4 H6 s6 d6 => ?_)
            refine q v4 _ H6 d6 ?_ (S4.trans (same_del (p := p) s6)) ((F4.same s6).mono (by omega))
            refine fit_any (n' := n' + 2) hfit (by omega) (by omega) (by omega) (fun x hx' => .inl ((List.mem_append.mp hx').elim id (m1 x))) ?_ ?_
            · rw [List.length_append]
              omega
            · rw [wtAll_append]
              omega
    | none => exact iteF (iteF ⟨rfl, rfl⟩)
    | bool _ => exact iteF (iteF ⟨rfl, rfl⟩)
    | int _ => exact iteF (iteF ⟨rfl, rfl⟩)
    | str _ => exact iteF (iteF ⟨rfl, rfl⟩)
    | list _ => exact iteF (iteF ⟨rfl, rfl⟩)
    | dict _ => exact iteF (iteF ⟨rfl, rfl⟩)
  rintro σ H3 ⟨rfl, e3⟩
  subst e3
  obtain ⟨u3, hp3⟩ := F2.there
  have hdF : ∀ {H' : Hp}, Same H3 H' → ∀ {z : V} {y : PyData}, Dp K (del H' p) z y → Fit (M + 1) (2 * l + 2) (n + 2) (2 * Bw + 1100) y → Q z H' := fun s _ _ h f => q _ _ _ h f (S2.trans (same_del s)) ((F2.same s).mono (by omega))
  refine ⟨fun σ H' => σ = [some (.ref p), some v, some (.ref ao), none, some (.int way)] ∧ H' = H3, ?_, ?_⟩
  · obtain ⟨t1, ty1, k1⟩ := isa_int hd2H
    refine ⟨v, rfl, v, .ty "int", t1, _, _, rfl, .ty _, ty1, k1, _, rfl, ?_⟩
    -- the four numbers and the tuple: i is what the thing is as a number
    have pick : ∀ (i : Int) (T1 T2 : Addr) (h1 : H3 T1 = none) (h2 : upd H3 T1 (.tup [v]) T2 = none), i.natAbs ≤ M → 0 ≤ way → way < 4 → leaf M d = true → lens l d = true → d.depth ≤ 0 → wt d ≤ 250 →
        ∃ p' xs' i' v', V.ref T2 = .ref p' ∧ V.int way = .int i' ∧ SqT K (upd (upd H3 T1 (.tup [v])) T2 (.tup [.int (i + 1), .int (i - 1), .int (-i), .ref T1])) p' xs' ∧ atI xs' i' = some v' ∧ Q v' (upd (upd H3 T1 (.tup [v])) T2 (.tup [.int (i + 1), .int (i - 1), .int (-i), .ref T1])) := by
      intro i T1 T2 h1 h2 hi w0 w4 f1 f2 f3 f4
      have s1 := same_new (o := .tup [v]) h1
      have s2 := same_new (o := .tup [.int (i + 1), .int (i - 1), .int (-i), .ref T1]) h2
      have dT : Dp K (del (upd (upd H3 T1 (.tup [v])) T2 (.tup [.int (i + 1), .int (i - 1), .int (-i), .ref T1])) p) (.ref T1) (.tuple [d]) := Dp_same (same_del s2) (.tup (SqT.of (new_del hp3 h1)) (.cons (Dp_same (same_del s1) hd2) .nil))
      have hT : upd (upd H3 T1 (.tup [v])) T2 (.tup [.int (i + 1), .int (i - 1), .int (-i), .ref T1]) T2 = some (.tup [.int (i + 1), .int (i - 1), .int (-i), .ref T1]) := upd_same
      generalize upd (upd H3 T1 (.tup [v])) T2 (.tup [.int (i + 1), .int (i - 1), .int (-i), .ref T1]) = H5 at s2 dT hT
      have s5 := s1.trans s2
      have hw : way = 0 ∨ way = 1 ∨ way = 2 ∨ way = 3 := by omega
      rcases hw with rfl | rfl | rfl | rfl
      · exact ⟨T2, _, 0, _, rfl, rfl, SqT.of hT, atI_nat (j := 0) rfl, hdF s5 (.int _) (Fit.int (by omega) (by omega))⟩
      · exact ⟨T2, _, 1, _, rfl, rfl, SqT.of hT, atI_nat (j := 1) rfl, hdF s5 (.int _) (Fit.int (by omega) (by omega))⟩
      · exact ⟨T2, _, 2, _, rfl, rfl, SqT.of hT, atI_nat (j := 2) rfl, hdF s5 (.int _) (Fit.int (by omega) (by omega))⟩
      · refine ⟨T2, _, 3, _, rfl, rfl, SqT.of hT, atI_nat (j := 3) rfl, hdF s5 dT (Fit.tup (n := n + 1) (by show 1 ≤ _; omega) (fun x hx => ?_) (by simp only [wtAll]; omega))⟩
        rw [List.mem_singleton.mp hx]
        exact ⟨leaf_mono (by omega) _ f1, lens_mono (by omega) _ f2, by omega⟩
    cases d with
    | int i =>
      cases hd2
      have hi : i.natAbs ≤ M := by have := hfit.lf; simpa [leaf] using this
      refine iteT ⟨_, rfl, _, _, rfl, rfl, _, rfl, ?_⟩
      refine ite2 (fun c => ?_) (fun c => ⟨rfl, rfl⟩)
      have c4 : way < 4 := of_decide_eq_true c
      refine ⟨_, rfl, 1, rfl, .inl ⟨i, rfl, _, rfl, 1, rfl, .inl ⟨i, rfl, _, rfl, .inl ⟨i, rfl, _, rfl, by show 1 ≤ sizeLine; decide, fun T1 h1 => ⟨by show 4 ≤ sizeLine; decide, fun T2 h2 => ⟨_, rfl, ?_⟩⟩⟩⟩⟩⟩
      exact pick i T1 T2 h1 h2 hi y0 c4 hfit.lf hfit.ln (by simp [PyData.depth]) (by simp [wt])
    | bool b0 =>
      cases hd2
      refine iteT ⟨_, rfl, _, _, rfl, rfl, _, rfl, ?_⟩
      refine ite2 (fun c => ?_) (fun c => ⟨rfl, rfl⟩)
      have c4 : way < 4 := of_decide_eq_true c
      refine ⟨_, rfl, 1, rfl, .inr ⟨b0, rfl, _, rfl, 1, rfl, .inr ⟨b0, rfl, _, rfl, .inr ⟨b0, rfl, _, rfl, by show 1 ≤ sizeLine; decide, fun T1 h1 => ⟨by show 4 ≤ sizeLine; decide, fun T2 h2 => ⟨_, rfl, ?_⟩⟩⟩⟩⟩⟩
      exact pick (if b0 = true then 1 else 0) T1 T2 h1 h2 (by cases b0 <;> simp <;> omega) y0 c4 hfit.lf hfit.ln (by simp [PyData.depth]) (by simp [wt])
    | none => exact iteF (iteF ⟨rfl, rfl⟩)
    | tuple _ => exact iteF (iteF ⟨rfl, rfl⟩)
    | str _ => exact iteF (iteF ⟨rfl, rfl⟩)
    | list _ => exact iteF (iteF ⟨rfl, rfl⟩)
    | dict _ => exact iteF (iteF ⟨rfl, rfl⟩)
  rintro σ H4 ⟨rfl, e4⟩
  subst e4
  refine ⟨fun σ H' => σ = [some (.ref p), some v, some (.ref ao), none, some (.int way)] ∧ H' = H4, ?_, ?_⟩
  · obtain ⟨t1, ty1, k1⟩ := isa_str hd2H
    refine ⟨v, rfl, v, .ty "str", t1, _, _, rfl, .ty _, ty1, k1, _, rfl, ?_⟩
    cases d with
    | str z =>
      cases id hd2
      refine iteT ⟨_, rfl, _, _, rfl, rfl, _, rfl, ?_⟩
      refine ite2 (fun c => ?_) (fun c => ⟨rfl, rfl⟩)
      have c3 : way < 3 := of_decide_eq_true c
      have hz : 10 * z.length + 5 ≤ Bw := by have := hfit.wg; simpa [wt] using this
      have la : (Str.ofString "a").length = 1 := rfl
      have hzs : z.length ≤ sizeLine := by rw [sizeLine_eq]; omega
      have hasc := leaf_str.mp hfit.lf
      refine ⟨_, rfl, _, _, rfl, rfl, by rw [la, sizeLine_eq]; omega, _, rfl, 1, rfl, z, rfl, hzs, _, rfl, by show 1 ≤ sizeLine; decide, fun T1 h1 => ⟨by show 3 ≤ sizeLine; decide, fun T2 h2 => ⟨_, rfl, ?_⟩⟩⟩
      have s1 := same_new (o := .lst [.str z]) h1
      have hL1 : upd H4 T1 (.lst [.str z]) T1 = some (.lst [.str z]) := upd_same
      have s2 := same_new (o := .tup [.str (z ++ Str.ofString "a"), .str (cutS z (some 1) none), .ref T1]) h2
      have dT : Dp K (del (upd (upd H4 T1 (.lst [.str z])) T2 (.tup [.str (z ++ Str.ofString "a"), .str (cutS z (some 1) none), .ref T1])) p) (.ref T1) (.list [.str z]) := Dp_same (same_del s2) (.lst (SqL.of (new_del hp3 h1)) (.cons (.str z) .nil))
      have hT : upd (upd H4 T1 (.lst [.str z])) T2 (.tup [.str (z ++ Str.ofString "a"), .str (cutS z (some 1) none), .ref T1]) T2 = some (.tup [.str (z ++ Str.ofString "a"), .str (cutS z (some 1) none), .ref T1]) := upd_same
      have s5 := s1.trans s2
      have hw : way = 0 ∨ way = 1 ∨ way = 2 := by omega
      obtain ⟨mc, lc⟩ := cutS_sub z (some 1) none
      rcases hw with rfl | rfl | rfl
      · refine ⟨T2, _, 0, _, rfl, rfl, SqT.of hT, atI_nat (j := 0) rfl, hdF s5 (.str _) (Fit.str (fun c hc => ?_) (by rw [app_len, la]; omega))⟩
        rw [app_list] at hc
        rcases List.mem_append.mp hc with hc | hc
        · exact hasc c hc
        · have : c = 97 := by simpa using (show c ∈ [97] from hc)
          omega
      · exact ⟨T2, _, 1, _, rfl, rfl, SqT.of hT, atI_nat (j := 1) rfl, hdF s5 (.str _) (Fit.str (fun c hc => hasc c (mc c hc)) (by omega))⟩
      · refine ⟨T2, _, 2, _, rfl, rfl, SqT.of hT, atI_nat (j := 2) rfl, hdF s5 dT (Fit.lst (n := n + 1) (by show 1 ≤ _; omega) (fun x hx => ?_) (by simp only [wtAll, wt]; omega))⟩
        rw [List.mem_singleton.mp hx]
        exact ⟨leaf_str.mpr hasc, rfl, by simp [PyData.depth]⟩
    | none => exact iteF (iteF ⟨rfl, rfl⟩)
    | tuple _ => exact iteF (iteF ⟨rfl, rfl⟩)
    | bool _ => exact iteF (iteF ⟨rfl, rfl⟩)
    | int _ => exact iteF (iteF ⟨rfl, rfl⟩)
    | list _ => exact iteF (iteF ⟨rfl, rfl⟩)
    | dict _ => exact iteF (iteF ⟨rfl, rfl⟩)
  rintro σ H5 ⟨rfl, e5⟩
  subst e5
  -- an odd thing
  refine ⟨_, rfl, _, rfl, _, rfl, ao, xo, rfl, .inr (sameT (del_same _ _) hxo), p, fq, _, b1 + 1, rfl, F2, by omega, by omega, by omega, fun r6 H6 u0 u1 s6 F6 => ?_⟩
  obtain ⟨k6, rfl⟩ : ∃ k : Nat, r6 = (k : Int) := ⟨r6.toNat, (Int.toNat_of_nonneg u0).symm⟩
  have hk6 : k6 < xo.length := by omega
  obtain ⟨dx, hdx, hdpx⟩ := DpAll_get (DpAll_same s6 hro) (List.getElem?_eq_getElem hk6)
  exact ⟨ao, xo, _, _, rfl, rfl, sameT (del_same _ _) (sameT s6 hxo), atI_nat (List.getElem?_eq_getElem hk6), q _ dx _ hdpx (fodd dx (List.mem_of_getElem? hdx)) (S2.trans s6) (F6.mono (by omega))⟩
theorem ok_bend {f f1 : Addr} {fd fd1 : FuncData} (D : Df K mg "_law_bend" (topS 19) ["_law_feed_here", "_law_thing", "_law_odd_here"] f fd) (DD : Df K mg "_law_draw" (topS 16) ["_law_feed_here", "_law_many"] f1 fd1) (B : Bt mg)
    (GD : FnOk P w K mg base CX0 1 f1 fd1 ["_law_feed_here", "_law_many"] spDraw) : ∀ n : Nat, FnOk P w K mg base CX0 (n + 1) f fd ["_law_feed_here", "_law_thing", "_law_odd_here"] (spBend K n)
  | 0 => by
    have no : ∀ vs H Q E, ¬ spBend K 0 vs H Q E := fun vs H Q E h => by
      obtain ⟨p, fq, v, vo, b, m, M, l, B, d, os, _, hnm, _⟩ := h
      omega
    exact ⟨fun vs H Q E h => absurd h (no vs H Q E), fun A outer s H args us vs Q E _ _ _ _ h => absurd h (no vs H Q E)⟩
  | n + 1 => ok_bend1 D DD B GD (ok_bend D DD B GD n)
end
end Sw
set_option maxRecDepth 100000
set_option maxHeartbeats 4000000
namespace Sw
open PySem PySem.Spec PyProof.Rows L2
/-- what is new since H0, but for L -/
def nw (H0 : Hp) (L : Addr) (H : Hp) : Hp := del (fr H0 H) L
theorem nw_next {H0 H H' : Hp} {L : Addr} (s : Same H H') : Same (nw H0 L H) (nw H0 L H') := same_del (fr_next s)
theorem nw_sub {H0 H : Hp} {L : Addr} : Same (nw H0 L H) H := fun c o e => fr_same _ _ _ _ (del_same _ _ _ _ e)
theorem nw_new {H0 H : Hp} {L a : Addr} {o u : HO} (s : Same H0 H) (hL : H L = some u) (ha : H a = none) : nw H0 L (upd H a o) a = some o :=
  del_some (fr_some (s.free ha) upd_same) (fun e => by rw [e, hL] at ha; cases ha)
theorem nw_fr {H0 H H' : Hp} {L : Addr} {u : HO} (s : Same H0 H) (hL : H L = some u) : Same (fr H H') (nw H0 L H') := fun c o e =>
  del_some (fr_some (s.free (of_fr e).1) (of_fr e).2) (fun z => by rw [z] at e; rw [(of_fr e).1] at hL; cases hL)
theorem nw_upd {H0 H : Hp} {L : Addr} {o : HO} : Same (nw H0 L H) (nw H0 L (upd H L o)) := fun c x e => by
  obtain ⟨e1, e2⟩ := of_del e
  obtain ⟨e3, e4⟩ := of_fr e1
  exact del_some (fr_some e3 (by rw [upd_ne e2]; exact e4)) e2
theorem cut_nw {K : PySem.W.Frag} {H0 H : Hp} {L a : Addr} {ds : List PyData} {lo hi : Option Int} {Q : VK} {u : HO} (s0 : Same H0 H) (hL : H L = some u) (h : Dp K (nw H0 L H) (.ref a) (.tuple ds)) (q : ∀ v H', Same H H' → Dp K (nw H0 L H') v (.tuple (cutD ds lo hi)) → Q v H') : rSlA K (.ref a) lo hi H Q := by
  cases h with
  | @tup _ xs _ hx hr =>
    have hl := DpAll_len hr
    refine ⟨a, xs, rfl, sameT nw_sub hx, fun hw => ?_, fun hw t ht => ?_⟩
    · rw [hl] at hw
      have e : cutD ds lo hi = ds := by
        unfold cutD
        rw [hw.1, hw.2]
        simp
      exact q _ H (Same.refl H) (by rw [e]; exact .tup hx hr)
    · have s := same_new (o := .tup (cutV xs lo hi)) ht
      refine q _ _ s (.tup (SqT.of (nw_new s0 hL ht)) ?_)
      have r2 := DpAll_same (nw_next (H0 := H0) (L := L) s) hr
      generalize upd H t (.tup (cutV xs lo hi)) = H2 at r2
      unfold cutV cutD
      rw [hl]
      exact DpAll_take _ (DpAll_drop _ r2)
theorem cat_nw {K : PySem.W.Frag} {H0 H : Hp} {L a b : Addr} {ds es : List PyData} {Q : VK} {u : HO} (s0 : Same H0 H) (hL : H L = some u) (ha : Dp K (nw H0 L H) (.ref a) (.tuple ds)) (hb : Dp K (nw H0 L H) (.ref b) (.tuple es)) (hl : ds.length + es.length ≤ 1000)
    (q : ∀ v H', Same H H' → Dp K (nw H0 L H') v (.tuple (ds ++ es)) → Q v H') : rCatA K (.ref a) (.ref b) H Q := by
  cases ha with
  | @tup _ xs _ hx hrx =>
    cases hb with
    | @tup _ ys _ hy hry =>
      have l1 := DpAll_len hrx
      have l2 := DpAll_len hry
      refine ⟨a, b, xs, ys, rfl, rfl, sameT nw_sub hx, sameT nw_sub hy, Nat.le_of_lt (small1000 (by omega)), fun z => ?_, fun _ z => ?_, fun _ _ t ht => ?_⟩
      · have e : ds = [] := List.eq_nil_of_length_eq_zero (by rw [← l1, z]; rfl)
        subst e
        exact q _ H (Same.refl H) (.tup hy hry)
      · have e : es = [] := List.eq_nil_of_length_eq_zero (by rw [← l2, z]; rfl)
        subst e
        rw [List.append_nil] at q
        exact q _ H (Same.refl H) (.tup hx hrx)
      · have s := same_new (o := .tup (xs ++ ys)) ht
        exact q _ _ s (.tup (SqT.of (nw_new s0 hL ht)) (DpAll_append (DpAll_same (nw_next s) hrx) (DpAll_same (nw_next s) hry)))
/-- the list found at L: all of it new since H0 -/
structure FoundAt (K : PySem.W.Frag) (H0 : Hp) (L : Addr) (H : Hp) (vs : List V) (ds : List PyData) : Prop where
  s0 : Same H0 H
  n0 : H0 L = none
  at_ : H L = some (.lst vs)
  dat : DpAll K (nw H0 L H) vs ds
theorem FoundAt.next {K : PySem.W.Frag} {H0 H H' : Hp} {L : Addr} {vs : List V} {ds : List PyData} (F : FoundAt K H0 L H vs ds) (s : Same H H') : FoundAt K H0 L H' vs ds := ⟨F.s0.trans s, F.n0, s _ _ F.at_, DpAll_same (nw_next s) F.dat⟩
theorem FoundAt.more {K : PySem.W.Frag} {H0 H H1 : Hp} {L : Addr} {vs us : List V} {ds es : List PyData} (F : FoundAt K H0 L H vs ds) (s : Same H H1) (h : DpAll K (nw H0 L H1) us es) : FoundAt K H0 L (upd H1 L (.lst (vs ++ us))) (vs ++ us) (ds ++ es) := by
  refine ⟨fun c o e => ?_, F.n0, upd_same, DpAll_append (DpAll_same ((nw_next s).trans nw_upd) F.dat) (DpAll_same nw_upd h)⟩
  rw [upd_ne (ne_of_none e F.n0)]
  exact s _ _ (F.s0 _ _ e)
/-! ### the fixed things, as data -/
abbrev gN : Nm := some ("_law_great_here", 0, 10 ^ 60)
end Sw
set_option maxRecDepth 100000
set_option maxHeartbeats 4000000
namespace Sw
open PySem PySem.Spec PyProof.Rows L2
section
variable {prog : Program} {w : World} {A : Around} {E : Value → Shared → Prop} {s : Shared}
theorem rev_places (n : Nat) : Builtin.Slice.slicePlaces ((n : Int) - 1) (-1) (-1) = n := by
  unfold Builtin.Slice.slicePlaces
  simp
  omega
theorem applied_rev {sl : Addr} {vl vu vs : Value} {n : Nat} {Q : Int × Int × Nat → Shared → Prop} (hs : s.heap.IsSliceOf sl vl vu vs) (pl : IsPart vl none) (pu : IsPart vu none) (ps : IsPart vs (some (-1)))
    (h : Q ((n : Int) - 1, -1, n) s) : wpAny (model prog w) A (Builtin.Slice.sliceApplied (.ref sl) (pure (n : Int))) Q E s := by
  obtain ⟨os, hos, hcs, hds⟩ := id hs
  unfold Builtin.Slice.sliceApplied Builtin.Slice.sliceFields
  refine wpAny_bind (wpAny_bind (wpAny_field hos hds (x := vl) rfl (wpAny_bind (wpAny_field hos hds (x := vu) rfl (wpAny_bind (wpAny_field hos hds (x := vs) rfl (wpAny_pure ?_)))))))
  refine wpAny_bind (HT.slicePart_ ps ?_)
  show wpAny _ _ (if ((-1 : Int) == 0) = true then _ else _) _ _ s
  rw [if_neg (by decide)]
  refine wpAny_bind (HT.slicePart_ pl (wpAny_bind (HT.slicePart_ pu (wpAny_bind (wpAny_pure ?_)))))
  have e : Builtin.Slice.sliceAdjust none none (-1) (n : Int) = ((n : Int) - 1, -1) := by
    unfold Builtin.Slice.sliceAdjust
    simp
  show wpAny _ _ (match Builtin.Slice.sliceAdjust none none (-1) (n : Int) with | (lo, hi) => pure (lo, (-1 : Int), Builtin.Slice.slicePlaces lo hi (-1))) _ _ s
  rw [e]
  show wpAny _ _ (pure ((n : Int) - 1, (-1 : Int), Builtin.Slice.slicePlaces ((n : Int) - 1) (-1) (-1))) _ _ s
  rw [rev_places]
  exact wpAny_pure h
theorem fm_map {α β : Type} (f : α → Option β) (g : α → β) : ∀ l : List α, (∀ k ∈ l, f k = some (g k)) → l.filterMap f = l.map g
  | [], _ => rfl
  | k :: l, h => by
    rw [List.filterMap_cons, h k List.mem_cons_self, List.map_cons]
    dsimp only
    rw [fm_map f g l fun j hj => h j (List.mem_cons_of_mem _ hj)]
theorem rev_pick (xs : Array Value) : ((List.range xs.size).filterMap fun (k : Nat) => xs[(((xs.size : Int) - 1) + (k : Int) * (-1)).toNat]?) = xs.toList.reverse := by
  have e : ((List.range xs.size).filterMap fun (k : Nat) => xs[(((xs.size : Int) - 1) + (k : Int) * (-1)).toNat]?) = (List.range xs.size).map fun k => xs.toList.reverse.getD k .none := by
    refine fm_map _ _ _ fun k hk => ?_
    have hk' : k < xs.size := List.mem_range.mp hk
    have e1 : (((xs.size : Int) - 1) + (k : Int) * (-1)).toNat = xs.size - 1 - k := by omega
    have e2 : xs.size - 1 - k < xs.size := by omega
    rw [e1, Array.getElem?_eq_getElem e2]
    simp [List.getD, List.getElem?_reverse, hk']
  rw [e]
  apply List.ext_getElem?
  intro i
  rw [List.getElem?_map]
  by_cases h : i < xs.size
  · rw [List.getElem?_range h]
    have : i < xs.toList.reverse.length := by simpa using h
    rw [List.getElem?_eq_getElem this]
    simp [List.getD, List.getElem?_eq_getElem this]
  · rw [List.getElem?_eq_none (by simpa using h), List.getElem?_eq_none (by simpa using h)]
    rfl
theorem tuple_rev {t sl : Addr} {items : Array Value} {vl vu vs : Value} {Q : Value → Shared → Prop} (ht : IsTup s.heap t items) (hs : s.heap.IsSliceOf sl vl vu vs) (pl : IsPart vl none) (pu : IsPart vu none) (ps : IsPart vs (some (-1)))
    (h : Q (.ref s.heap.objs.size) { s with heap := s.heap.push { cls := .type "tuple", data := .seq items.toList.reverse.toArray } }) (hsz : items.size ≤ sizeLine) : wpAny (model prog w) A (getItem (.ref t) (.ref sl)) Q E s := by
  obtain ⟨os, hos, hcs, hds⟩ := id hs
  have hTs : s.TypeIs (.ref sl) "slice" := ⟨os, hos, hcs⟩
  have htake : sizeOk (.seq items.toList.reverse.toArray) := by
    show items.toList.reverse.toArray.size ≤ sizeLine
    simpa using hsz
  unfold getItem
  try with_reducible refine wpAny_holding ?_
  first | refine wpAny_bind (wpAny_pure ?_) | skip
  refine wpAny_bind (wpAny_sequenceKey ht.typeIs (by decide) ?_)
  refine wpAny_bind (wpAny_callSpecial?_slot (name := Str.ofString "__getitem__") ht.typeIs PyProof.Rows.slot_tuple_getitem (wpAny_call_entry PyProof.Rows.slot_tuple_getitem ht.typeIs entry_tuple_getitem ?_ (args_tuple_getitem _ _)))
  show wpAny _ _ (Builtin.Tuple.tupleItemsOf (.ref t) >>= _) _ _ s
  refine wpAny_bind (tupleItemsOf_ ht (wpAny_bind (wpAny_typeOf hTs ?_)))
  rw [if_pos (by decide)]
  refine wpAny_bind (applied_rev hs pl pu ps ?_)
  show wpAny _ _ (if ((((items.size : Int) - 1) == 0 && (-1 : Int) == 1 && items.size == items.size) = true) then _ else _) _ _ s
  rw [if_neg (by simp), rev_pick]
  first
    | exact wpAny_bind (m := Builtin.Tuple.tupleExact _) (wpAny_newObj_type (wpAny_pure ⟨_, rfl, wpAny_pure h⟩) htake)
    | exact wpAny_bind (m := Builtin.Tuple.tupleExact _) (wpAny_newObj_type (wpAny_bind (wpAny_pure (wpAny_pure ⟨_, rfl, wpAny_pure h⟩))) htake)
    | exact wpAny_bind (wpAny_bind (m := Builtin.Tuple.tupleExact _) (wpAny_newObj_type (wpAny_pure (wpAny_pure ⟨_, rfl, wpAny_pure h⟩)) htake))
    | exact wpAny_bind (wpAny_bind (m := Builtin.Tuple.tupleExact _) (wpAny_newObj_type (wpAny_pure ⟨_, rfl, wpAny_pure h⟩) htake))
end
section
variable {X : Cx}
/-- t[::-1] -/
def tRevT (K : PySem.W.Frag) (te : TE) : TE := fun σ H Q => te σ H fun x H1 => ∃ a xs, x = .ref a ∧ SqT K H1 a xs ∧ ∀ p, H1 p = none → Q (.ref p) (upd H1 p (.tup xs.reverse))
theorem pe_revT {e : Expr} {te : TE} {k : Nat} {p1 p2 p3 pos : Pos} (he : PE X e te) : PE X (.Subscript e (.Slice none none (some (.UnaryOp .USub (.Constant (.int 1) k p1) p2)) p3) pos) (tRevT X.K te) := by
  refine ⟨fun pins s σ H Q I h => Subscript_ (thn (he.run pins s σ H _ I h) fun v s1 ⟨x, H1, I1, r1, q1⟩ => ?_)⟩
  obtain ⟨a, xs, ex, hx, q⟩ := q1
  subst ex
  cases r1
  have hst : PO X (some (.UnaryOp .USub (.Constant (.int 1) k p1) p2)) (tPart (tUn (rU fun i => .int (-i)) (tC (.int 1)))) := po_some (pe_un un_neg pe_int)
  refine wpAny_Slice (thn (po_none.run pins s1 σ H1 (fun o G => o = none ∧ G = H1) I1 ⟨rfl, rfl⟩) fun vl s2 hl2 => ?_)
  obtain ⟨_, _, I2, pl, rfl, rfl⟩ := hl2
  refine thn (po_none.run pins s2 σ _ (fun o G => o = none ∧ G = _) I2 ⟨rfl, rfl⟩) fun vu s3 hl3 => ?_
  obtain ⟨_, _, I3, pu, rfl, rfl⟩ := hl3
  refine thn (hst.run pins s3 σ _ (fun o G => o = some (-1) ∧ G = _) I3 ⟨1, rfl, -1, rfl, rfl, rfl⟩) fun vs s4 hl4 => ?_
  obtain ⟨_, H4, I4, ps, rfl, rfl⟩ := hl4
  have I5 : Inv X pins σ H4 { s4 with heap := s4.heap.push { cls := .type "slice", data := .fields #[vl, vu, vs] } } := I4.kept (t' := s4.toks) fun b ob q => Heap.get?_push_of_some _ q
  obtain ⟨its, r, ht, hz⟩ := I5.tuple hx
  have hlen := r.length
  show wpAny (model X.prog X.w) X.A (subscriptTail e (.Slice none none (some (.UnaryOp .USub (.Constant (.int 1) k p1) p2)) p3) (.ref a) (.ref s4.heap.objs.size)) (EP X pins σ Q) X.xe { s4 with heap := s4.heap.push { cls := .type "slice", data := .fields #[vl, vu, vs] } }
  refine tail_any (ops := [.ref a, .ref s4.heap.objs.size]) ht.typeIs (PyProof.Rows.slot_tuple_getitem.lookup) ?_ (by with_unfolding_all rfl)
  refine tuple_rev ht (Heap.IsSliceOf.new _ vl vu vs) pl pu ps ?_ (by rw [List.size_toArray]; omega)
  have e : its.toArray.toList.reverse = its.reverse := by simp
  rw [e]
  refine ⟨.ref _, _, I5.laid (t' := s4.toks) (o := .tup xs.reverse) (fun b ob q => Heap.get?_push_of_some _ q) (Nat.le_refl _) ?_, rfl, q _ (I5.hok.fresh (Nat.le_refl _))⟩
  exact ⟨by rw [List.length_reverse]; exact hz, its.reverse, r.reverse, ⟨_, Heap.get?_push_size _ rfl, rfl, _, rfl⟩⟩
end
end Sw
set_option maxRecDepth 100000
set_option maxHeartbeats 4000000
namespace Sw
open PySem PySem.Spec PyProof.Rows L2
mutual
/-- a long list is no part of data whose lists are short -/
theorem Dp_off {K : PySem.W.Frag} {G : Hp} {T : Addr} {us : List V} {l : Nat} (hT : G T = some (.lst us)) (hl : l < us.length) : ∀ {v : V} {d : PyData}, Dp K G v d → lens l d = true → Dp K (del G T) v d
  | _, _, .non, _ => .non
  | _, _, .bl b, _ => .bl b
  | _, _, .int i, _ => .int i
  | _, _, .str x, _ => .str x
  | _, _, .lst (a := a) (xs := xs) (ds := ds) h r, hf => by
    have hf' : ds.length ≤ l ∧ lensAll l ds = true := by simpa [lens] using hf
    have hlen := DpAll_len r
    refine .lst ?_ (DpAll_off hT hl r hf'.2)
    rcases h with (h | ⟨o, h⟩) | h
    · refine .inl (.inl (del_some h fun e => ?_))
      rw [e, hT] at h
      cases h
      omega
    · refine .inl (.inr ⟨o, del_some h fun e => ?_⟩)
      rw [e, hT] at h
      cases h
    · exact .inr h
  | _, _, .tup (a := a) (xs := xs) (ds := ds) h r, hf => by
    have hf' : ds.length ≤ l ∧ lensAll l ds = true := by simpa [lens] using hf
    refine .tup ?_ (DpAll_off hT hl r hf'.2)
    rcases h with (h | ⟨o, h⟩) | h
    · refine .inl (.inl (del_some h fun e => ?_))
      rw [e, hT] at h
      cases h
    · refine .inl (.inr ⟨o, del_some h fun e => ?_⟩)
      rw [e, hT] at h
      cases h
    · exact .inr h
theorem DpAll_off {K : PySem.W.Frag} {G : Hp} {T : Addr} {us : List V} {l : Nat} (hT : G T = some (.lst us)) (hl : l < us.length) : ∀ {vs : List V} {ds : List PyData}, DpAll K G vs ds → lensAll l ds = true → DpAll K (del G T) vs ds
  | _, _, .nil, _ => .nil
  | _, _, .cons (d := d) (ds := ds) h r, hf => by
    have hf' : lens l d = true ∧ lensAll l ds = true := by simpa [lensAll] using hf
    exact .cons (Dp_off hT hl h hf'.1) (DpAll_off hT hl r hf'.2)
end
/-- what repr asks of data -/
theorem repr_of {M l n B : Nat} {d : PyData} (h : Fit M l n B d) (hM : M ≤ 10 ^ 200) (hn : n ≤ 60) (hB : B ≤ 16777216) : d.showable = true ∧ d.hasDict = false ∧ d.depth ≤ 60 ∧ d.shown.length ≤ sizeLine := by
  have e1 : M < 2 ^ 1920 := Nat.lt_of_le_of_lt hM (by decide +kernel)
  have e2 : M < 10 ^ 240 := Nat.lt_of_le_of_lt hM (by decide +kernel)
  refine ⟨leaf_shows e1 d h.lf, leaf_noDict d h.lf, Nat.le_trans h.dp hn, ?_⟩
  have h1 := shown_wt e2 d h.lf
  have h2 := h.wg
  rw [sizeLine_eq]
  omega
/-- things as they are told to the looks -/
abbrev FitT (d : PyData) : Prop := Fit (10 ^ 199 + 2) 60 50 20000 d
theorem list_fit {ds : List PyData} (h : ∀ d ∈ ds, FitT d) (hl : ds.length ≤ 400) : Fit (10 ^ 199 + 2) 400 51 16000000 (.list ds) := by
  have hw : ∀ l : List PyData, (∀ d ∈ l, FitT d) → wtAll l ≤ 20002 * l.length := by
    intro l
    induction l with
    | nil => intro _; simp [wtAll]
    | cons x l ih =>
      intro hx
      have h1 := (hx x List.mem_cons_self).wg
      have h2 := ih fun d hd => hx d (List.mem_cons_of_mem _ hd)
      simp only [wtAll, List.length_cons]
      omega
  have := hw ds h
  refine Fit.lst (n := 50) hl (fun x hx => ?_) (by omega)
  have := (h x hx).mono (Nat.le_refl _) (show 60 ≤ 400 by omega) (Nat.le_refl _) (Nat.le_refl _)
  exact ⟨this.lf, this.ln, this.dp⟩
end Sw
set_option maxRecDepth 100000
set_option maxHeartbeats 4000000
namespace Sw
open PySem PySem.Spec PyProof.Rows L2
/-- the things while they grow: T holds them, p and fq are the feed's -/
structure LI (K : PySem.W.Frag) (p fq T : Addr) (vo : V) (os : List PyData) (b : Nat) (H : Hp) (us : List V) (ds : List PyData) : Prop where
  feed : FeedAt H p fq b
  at_ : H T = some (.lst us)
  np : T ≠ p
  nq : T ≠ fq
  dat : DpAll K (del (del H p) T) us ds
  odd : Dp K (del (del H p) T) vo (.tuple os)
  long : 56 ≤ us.length
  fit : ∀ d ∈ ds, FitT d
section
variable {K : PySem.W.Frag} {p fq T : Addr} {vo : V} {os : List PyData} {b : Nat} {H H' : Hp} {us : List V} {ds : List PyData}
theorem LI.next {b' : Nat} (I : LI K p fq T vo os b H us ds) (s : Same (del H p) (del H' p)) (F : FeedAt H' p fq b') : LI K p fq T vo os b' H' us ds :=
  ⟨F, (of_del (s _ _ (del_some I.at_ I.np))).1, I.np, I.nq, DpAll_same (same_del s) I.dat, Dp_same (same_del s) I.odd, I.long, I.fit⟩
theorem LI.lay (I : LI K p fq T vo os b H us ds) (s : Same H H') : LI K p fq T vo os b H' us ds := I.next (same_del s) (I.feed.same s)
theorem LI.mono {c : Nat} (I : LI K p fq T vo os b H us ds) (h : b ≤ c) : LI K p fq T vo os c H us ds := ⟨I.feed.mono h, I.at_, I.np, I.nq, I.dat, I.odd, I.long, I.fit⟩
theorem LI.off (I : LI K p fq T vo os b H us ds) {v : V} {d : PyData} (h : Dp K (del H p) v d) {M l n B : Nat} (hf : Fit M l n B d) (hl : l < 56) : Dp K (del (del H p) T) v d :=
  Dp_off (l := l) (del_some I.at_ I.np) (Nat.lt_of_lt_of_le hl I.long) h hf.ln
theorem LI.new (I : LI K p fq T vo os b H us ds) {a : Addr} {o : HO} (ha : H a = none) : del (del (upd H a o) p) T a = some o :=
  del_some (del_some upd_same (I.feed.ne ha).1) (Ne.symm (ne_of_none I.at_ ha))
theorem LI.more (I : LI K p fq T vo os b H us ds) {ws : List V} {es : List PyData} (h : DpAll K (del (del H p) T) ws es) (hf : ∀ d ∈ es, FitT d) : LI K p fq T vo os b (upd H T (.lst (us ++ ws))) (us ++ ws) (ds ++ es) := by
  have s : Same (del (del H p) T) (del (del (upd H T (.lst (us ++ ws))) p) T) := fun c o e => by
    obtain ⟨e1, e2⟩ := of_del e
    obtain ⟨e3, e4⟩ := of_del e1
    exact del_some (del_some (by rw [upd_ne e2]; exact e3) e4) e2
  refine ⟨I.feed.upd I.np I.nq, upd_same, I.np, I.nq, DpAll_same s (DpAll_append I.dat h), Dp_same s I.odd, ?_, fun d hd => (List.mem_append.mp hd).elim (I.fit d) (hf d)⟩
  have := I.long
  rw [List.length_append]
  omega
end
/-- objects, few -/
theorem objs_wt : ∀ l : List PyData, (∀ d ∈ l, ObjD d) → wtAll l ≤ 346 * l.length
  | [], _ => by simp [wtAll]
  | x :: l, h => by
    have h1 := (objD_fit (h x List.mem_cons_self)).wg
    have h2 := objs_wt l fun d hd => h d (List.mem_cons_of_mem _ hd)
    simp only [wtAll, List.length_cons]
    omega
theorem objs_any {ds : List PyData} (hl : ds.length ≤ 8) (h : ∀ d ∈ ds, ObjD d) : FitT (.tuple ds) ∧ FitT (.list ds) := by
  have hw := objs_wt ds h
  have hx : ∀ x ∈ ds, leaf (10 ^ 199 + 2) x = true ∧ lens 60 x = true ∧ x.depth ≤ 49 := fun x hx => by
    have := (objD_fit (h x hx)).mono (M' := 10 ^ 199 + 2) (l' := 60) (n' := 49) (B' := 344) (show 4 ≤ 10 ^ 199 + 2 by decide +kernel) (by omega) (by omega) (Nat.le_refl _)
    exact ⟨this.lf, this.ln, this.dp⟩
  exact ⟨Fit.tup (n := 49) (by omega) hx (by omega), Fit.lst (n := 49) (by omega) hx (by omega)⟩
theorem DpAll_reverse {K : PySem.W.Frag} {H : Hp} : ∀ {vs : List V} {ds : List PyData}, DpAll K H vs ds → DpAll K H vs.reverse ds.reverse
  | _, _, .nil => .nil
  | _, _, .cons h r => by
    rw [List.reverse_cons, List.reverse_cons]
    exact DpAll_append (DpAll_reverse r) (.cons h .nil)
abbrev eight : Str := "abcdefgh"
theorem eight_len : eight.length = 8 := by decide +kernel
theorem eight_ok : ∀ c ∈ eight.cps.toList, c < 128 := by
  have : eight.cps.toList.all (fun c => decide (c < 128)) = true := by decide +kernel
  exact fun c hc => by simpa using List.all_eq_true.mp this c hc
theorem app_ok {x y : Str} (hx : ∀ c ∈ x.cps.toList, c < 128) (hy : ∀ c ∈ y.cps.toList, c < 128) : ∀ c ∈ (x ++ y).cps.toList, c < 128 := fun c hc => by
  rw [app_list] at hc
  exact (List.mem_append.mp hc).elim (hx c) (hy c)
theorem a_ok : ∀ c ∈ (Str.ofString "a").cps.toList, c < 128 := fun c hc => by
  have : c = 97 := by simpa using (show c ∈ [97] from hc)
  omega
/-- four answers, as data -/
theorem four_fit (a b c d : Bool) : Fit 0 4 1 100 (.tuple [.bool a, .bool b, .bool c, .bool d]) := by
  refine Fit.tup (n := 0) (by show 4 ≤ 4; omega) (fun x hx => ?_) (by simp only [wtAll, wt]; omega)
  simp only [List.mem_cons, List.not_mem_nil, or_false] at hx
  rcases hx with rfl | rfl | rfl | rfl <;> exact ⟨rfl, rfl, by simp [PyData.depth]⟩
end Sw
set_option maxRecDepth 100000
set_option maxHeartbeats 4000000
namespace Sw
open PySem PySem.Spec PyProof.Rows L2
/-! ### tuples with nothing beside their items -/
abbrev tupO (its : List Value) : Obj := { cls := .type "tuple", data := .seq its.toArray }
def TupF (H : Hp) (a : Addr) (xs : List V) : Prop := ∃ its, H a = some (.frz (tupO its) (.tup xs))
theorem TupF.sq {K : PySem.W.Frag} {H : Hp} {a : Addr} {xs : List V} (h : TupF H a xs) : SqT K H a xs := .inl (.inr ⟨_, h.choose_spec⟩)
theorem TupF.same {H H' : Hp} {a : Addr} {xs : List V} (s : Same H H') (h : TupF H a xs) : TupF H' a xs := ⟨_, s _ _ h.choose_spec⟩
section
variable {X : Cx}
/-- tuple(list), the new one as it is laid -/
def rTupF (K : PySem.W.Frag) : List V → Hp → VK → Prop := fun vs H Q => ∃ p ys, vs = [.ref p] ∧ SqL K H p ys ∧ ∀ l its, H l = none → Q (.ref l) (upd H l (.frz (tupO its) (.tup ys)))
theorem call_tupF : CallR X (.type "tuple") (rTupF X.K) := by
  intro pins s σ H xs us Q I r h
  obtain ⟨p, ys, rfl, hq, q⟩ := h
  rw [Vals.ref1 r]
  obtain ⟨its, rv, pl, hz⟩ := I.list hq
  have hlen := rv.length
  refine call_tuple_list pl.isList (fun h' kp => ?_) (by rw [List.size_toArray]; omega)
  have J : Inv X pins σ H { s with heap := h' } := I.kept (t' := s.toks) kp
  refine ⟨.ref h'.objs.size, _, J.laid (t' := s.toks) (o := .frz (tupO its) (.tup ys)) (fun b o e => Heap.get?_push_of_some _ e) (Nat.le_refl _) ⟨Heap.get?_push_size _ rfl, hz, its, rv, IsTup.new _ _⟩, rfl, q _ its (J.hok.fresh (Nat.le_refl _))⟩
/-- pairs as they lie in the heap -/
theorem lie_pairs {pins : List (Addr × Obj)} {σ : L2.St} {H : Hp} {s : Shared} (I : Inv X pins σ H s) : ∀ {ps : List Addr} {kvs : List (Key × V)}, Paired (fun p kv => SqT X.K H p [kV kv.1, kv.2]) ps kvs →
    ∃ (prs : List (Key × Value)) (qs : List (Value × Value)), KV kvs prs ∧ prs.length = ps.length ∧ qs.length = ps.length ∧
      ∀ (j : Nat) (k v : Value), qs[j]? = some (k, v) → ∃ b key, ps[j]? = some b ∧ prs[j]? = some (key, v) ∧ keyIs key k = true ∧ IsTup s.heap b #[k, v]
  | _, _, .nil => ⟨[], [], .nil, rfl, rfl, fun j k v e => by simp at e⟩
  | _, _, .cons (a := p) (b := kv) h t => by
    obtain ⟨prs, qs, r, l1, l2, hp⟩ := lie_pairs I t
    obtain ⟨its, rv, ht, _⟩ := I.tuple h
    obtain ⟨u, y, ei, ru, ry⟩ := vals2 rv
    subst ei
    refine ⟨(kv.1, y) :: prs, (u, y) :: qs, .cons ⟨rfl, ry⟩ r, by rw [List.length_cons, l1, List.length_cons], by rw [List.length_cons, l2, List.length_cons], fun j k v e => ?_⟩
    cases j with
    | zero =>
      have e' : (u, y) = (k, v) := Option.some.inj e
      cases e'
      exact ⟨p, kv.1, rfl, rfl, kV_is (P := X.prog) (w := X.w) ru, ht⟩
    | succ j => exact hp j k v (by simpa using e)
/-- dict(t) of a tuple of pairs -/
def rDictT (K : PySem.W.Frag) : List V → Hp → VK → Prop := fun vs H Q => ∃ (a : Addr) (ps : List Addr) (kvs : List (Key × V)), vs = [.ref a] ∧ TupF H a (ps.map V.ref) ∧ Paired (fun p kv => SqT K H p [kV kv.1, kv.2]) ps kvs ∧
  ∀ p, H p = none → Q (.ref p) (upd H p (.dK (mergeK [] kvs)))
theorem call_dictT (hc : X.calm = true) : CallR X (.type "dict") (rDictT X.K) := by
  intro pins s σ H xs us Q I r h
  obtain ⟨a, ps, kvs, rfl, ⟨its, hF⟩, hp, q⟩ := h
  rw [Vals.ref1 r]
  obtain ⟨e1, hz, its', rv, e2⟩ := I.hok a _ hF
  obtain ⟨prs, qs, rel, l1, l2, hpr⟩ := lie_pairs I hp
  have ei := refs_at rv
  have eits : its' = its := by
    obtain ⟨o, ho, _, n, hd⟩ := e2
    rw [e1] at ho
    cases ho
    injection hd with hd1 _
    simpa using (congrArg Array.toList hd1).symm
  rw [List.length_map] at hz
  refine PySem.call_dict_pairs (knd := mixKind X.prog X.w) (kvs := prs) (PairArg.tuple a its.toArray (fun j => ps.getD j 0) qs) (I.ok.hd hc) ⟨⟨_, _, e1, rfl, rfl, rfl⟩, ?_, ?_⟩ ⟨by rw [l1, l2], ?_⟩ (by omega) fun h' tk hd' k => ?_
  · rw [List.size_toArray, ← eits, ei, List.length_map, l2]
  · intro j k v e
    obtain ⟨b, key, h1, h2, h3, h4⟩ := hpr j k v e
    have eb : ps.getD j 0 = b := by simp [List.getD, h1]
    refine ⟨?_, .inl (by dsimp only; rw [eb]; exact h4)⟩
    dsimp only
    rw [eb, ← eits, ei]
    simp [h1]
  · intro j k v e
    obtain ⟨b, key, h1, h2, h3, h4⟩ := hpr j k v e
    exact ⟨key, h2, h3⟩
  · have hm : (s.heap.objs.size == sysModules) = false := beq_eq_false_iff_ne.mpr (Nat.ne_of_gt I.big)
    have hlen : (mergeK [] kvs).length ≤ sizeLine := by
      have z := length_mergeK kvs []
      rw [List.length_nil, Nat.zero_add, rel.length, l1] at z
      omega
    refine ⟨.ref s.heap.objs.size, _, I.laid (t' := tk) (o := .dK (mergeK [] kvs)) (fun b o e => k b o (by simp) e) (Nat.le_refl _) ⟨hlen, hm, merged [] prs, KV.merge rel .nil, hd'⟩, rfl, q _ (I.hok.fresh (Nat.le_refl _))⟩
end
end Sw
set_option maxRecDepth 100000
set_option maxHeartbeats 4000000
namespace Sw
open PySem PySem.Spec PyProof.Rows L2
section
variable {P : Program} {w : World} {A : Around} {E : Value → Shared → Prop} {s : Shared}
theorem call_set_txtsT {l : Addr} {items : Array Value} (xs : List Str) {Q : Value → Shared → Prop} (hh : A.handled = none) (hl : s.heap.IsTuple l items) (hit : StrsAre items.toList xs) (few : xs.length + 1 < scanBound)
    (h : ∀ (h' : Heap) (tk : Nat) L, TxtSet w h' s.heap.objs.size L → Met xs xs.length L → (∀ b o, s.heap.get? b = some o → h'.get? b = some o) → Q (.ref s.heap.objs.size) { s with heap := h', toks := tk }) :
    wpAny (model P w) A (call (.type "set") [.ref l]) Q E s := by
  have isz : items.size = xs.length := by have := hit.length; simpa using this
  obtain ⟨c, tl, hmro⟩ := F.called_set.mro
  have hmade := F.called_set.made
  have hsub := F.called_set.sub
  refine wpAny_call (codeAny_of_tree ?_)
  show wpAny _ _ (callAny (.type "set") _) _ _ _
  refine wpAny_pure ⟨Code.quiet_builtin _ (by decide +kernel), codeAny_builtin F.entry_type_call ?_⟩
  rw [Around.under_plain (weight_type_call_type "set" [.ref l] []) rfl]
  have h1 := F.called_set.notType
  have h2 := F.called_set.canCreate
  have hct := F.typeCall_set_1 (.ref l)
  repeat (any_goals (first | assumption | wp_step))
  refine codeAny_mono (code_set_led1 (.ref l) (E := E) (Q₁ := fun obj s1 => obj = .ref s.heap.objs.size ∧ s1 = { s with heap := s.heap.push (newSetO w) }) ⟨rfl, rfl⟩) ?_
  intro r s1 hr
  cases r with
  | error e => exact hr
  | ok fl =>
    cases fl with
    | ret obj =>
      obtain ⟨rfl, rfl⟩ := hr
      have hS : (s.heap.push (newSetO w)).get? s.heap.objs.size = some (newSetO w) := Heap.get?_push_size _ rfl
      have hT : Shared.TypeIs { s with heap := s.heap.push (newSetO w) } (.ref s.heap.objs.size) "set" := ⟨_, hS, rfl⟩
      have hli := F.called_set.init.lookup
      have hbi := F.called_set.init.bind (.ref s.heap.objs.size)
      repeat (any_goals (first | assumption | wp_step))
      refine codeAny_mono (codeAny_call_builtin (R := wants (fun r s2 => r = .none ∧ ∃ h' tk L, s2 = { s with heap := h', toks := tk } ∧ TxtSet w h' s.heap.objs.size L ∧ Met xs xs.length L ∧
          (∀ b o, s.heap.get? b = some o → h'.get? b = some o)) E) F.called_set.init.plain F.entry_set_init (check_set_init_1 hT ?_)) ?_
      · obtain ⟨ol, hol, hcl, nl, hdl⟩ := hl
        obtain ⟨ocls, odict, odata, oslots⟩ := ol
        simp only at hcl hdl
        subst hcl
        subst hdl
        have hol' : (s.heap.push (newSetO w)).get? l = some { cls := .type "tuple", dict := odict, data := .seq items nl, slots := oslots } := Heap.get?_push_of_some _ hol
        have hsls := F.sub_tuple_set
        have hslf := F.sub_tuple_frozenset
        have hne : (Value.type "tuple" == Value.type "dict") = false := by decide
        have hl1 : (s.heap.push (newSetO w)).IsTuple l items := ⟨_, hol', rfl, nl, rfl⟩
        unfold Builtin.«set.__init__» noKeywords Builtin.Frozenset.updateFrom
        generalize hPI : pyIter = PI
        wp_walk
        subst hPI
        refine wpAny_pyIter_tuple hl1 (wpAny_bind (wpAny_runValue ?_))
        have hlS : l < s.heap.objs.size := Heap.lt_size hol
        have zp : (s.heap.push (newSetO w)).objs.size = s.heap.objs.size + 1 := Heap.size_push ..
        have neI : l ≠ (s.heap.push (newSetO w)).objs.size := by rw [zp]; exact Nat.ne_of_lt (Nat.lt_succ_of_lt hlS)
        have nS : s.heap.objs.size ∉ [(s.heap.push (newSetO w)).objs.size, l] := by
          rw [zp]
          simp only [List.mem_cons, List.not_mem_nil, or_false, not_or]
          exact ⟨Nat.ne_of_lt (Nat.lt_succ_self _), Nat.ne_of_gt hlS⟩
        have hval : ∀ (i : Nat) (v : Value), items[i]? = some v → ∃ x t, xs[i]? = some x ∧ v = .str x t := fun i v hv => by
          obtain ⟨y, t, e1, e2⟩ := hit.item i v (by rw [Array.getElem?_toList]; exact hv)
          exact ⟨y, t, e2, e1⟩
        refine txt_update ((Walks.tuple (by simp [hh]) _ l neI items).toS) s.heap.objs.size nS xs isz (by omega) hval (items.size - 0) 0 _ (by omega) (Nat.zero_le _)
          ⟨⟨_, Heap.get?_push_size _ rfl, rfl, rfl⟩, (hl1.push _)⟩ ⟨[], txt_fresh (Heap.get?_push_of_some _ hS), Nat.le_refl _, by simp⟩ ?_
        intro s' L hm hS' g'
        obtain ⟨h', g2, d', tk', os'⟩ := s'
        have eg : g2 = s.gens := hm.gens
        have ed : d' = s.drawn := hm.drawn
        have eo : os' = s.os := hm.os
        subst eg ed eo
        show wpAny _ _ _ _ _ _
        refine wpAny_pure ?_
        show wpAny _ _ (ret Value.none) _ _ _
        rw [isz] at g'
        refine wpAny_pure ⟨rfl, h', tk', L, rfl, hS', g', fun c o e => ?_⟩
        have lc : c < s.heap.objs.size := Heap.lt_size e
        refine hm.heap c o ?_ (Heap.get?_push_of_some _ (Heap.get?_push_of_some _ e))
        simp only [List.mem_cons, List.not_mem_nil, or_false, not_or]
        refine ⟨Nat.ne_of_lt lc, ?_⟩
        rw [zp]
        exact Nat.ne_of_lt (Nat.lt_succ_of_lt lc)
      · intro r2 s2 hr2
        cases r2 with
        | error e => exact hr2
        | ok fl2 =>
          cases fl2 with
          | ret r =>
            obtain ⟨rfl, h', tk, L, rfl, hS', g', hk'⟩ := hr2
            repeat (any_goals (first | assumption | wp_step))
            exact h _ _ _ hS' g' hk'
          | _ => exact hr2.elim
    | _ => exact hr.elim
end
end Sw
set_option maxRecDepth 100000
set_option maxHeartbeats 4000000
namespace Sw
open PySem PySem.Spec PyProof.Rows L2
section
variable {X : Cx}
/-- set(t) of a tuple of texts -/
def rSetST (K : PySem.W.Frag) (w : World) : List V → Hp → VK → Prop := fun vs H Q => ∃ (l : Addr) (xs : List Str), vs = [.ref l] ∧ SqT K H l (xs.map V.str) ∧ xs.length ≤ 1000 ∧
  ∀ a L, H a = none → L.length ≤ xs.length → (∀ x, x ∈ L ↔ x ∈ xs) → L.Nodup → Q (.ref a) (upd H a (SetSO w a L))
theorem TxtSet.nodup {w : World} {h : Heap} {a : Addr} {L : List Str} (R : TxtSet w h a L) : L.Nodup := by
  obtain ⟨_, _, _, _, _, _, _, _, nd, _⟩ := R
  exact nd
theorem cr_setST (hc : X.calm = true) : CallR X (.type "set") (rSetST X.K X.w) := by
  intro pins s σ H vs us Q I r h
  obtain ⟨l, xs, rfl, hl, hn, q⟩ := h
  obtain ⟨its, rv, hp, _⟩ := I.tuple hl
  rw [Vals.ref1 r]
  refine call_set_txtsT xs (I.ok.hd hc) hp (by simpa using rv.strs) (by unfold scanBound; omega) ?_
  intro h' tk L hS g k
  have hf : H s.heap.objs.size = none := I.hok.fresh (Nat.le_refl _)
  refine ⟨.ref s.heap.objs.size, _, I.laid (t' := tk) (o := SetSO X.w s.heap.objs.size L) k (Nat.le_refl _) (setSO_ok hS), rfl, q _ L hf g.1 ?_ hS.nodup⟩
  intro x
  have := g.2 x
  rwa [List.take_length] at this
/-- len of a set of texts -/
def rLenSS (w : World) : List V → Hp → VK → Prop := fun vs H Q => ∃ (a : Addr) (L : List Str), vs = [.ref a] ∧ H a = some (SetSO w a L) ∧ Q (.int (L.length : Nat)) H
theorem cr_lenSS : CallR X (.builtin "len") (rLenSS X.w) := by
  intro pins s σ H vs us Q I r h
  obtain ⟨a, L, rfl, ha, q⟩ := h
  rw [Vals.ref1 r]
  obtain ⟨o, es, ep, t, ho, hex, hd, hp, nd, hb, hf, _⟩ : TxtSet X.w s.heap a L := (I.hok a _ ha).1
  have hl : es.size = L.length := by have := hp.length; simpa using this
  refine call_len_set ho hex hd hf (by unfold scanBound at hb; omega) ⟨.int L.length, H, I.tok _, ⟨_, by rw [hl]⟩, q⟩
end
theorem nodup_le : ∀ {L xs : List Str}, L.Nodup → (∀ x ∈ L, x ∈ xs) → L.length ≤ xs.length
  | [], xs, _, _ => Nat.zero_le _
  | y :: L, xs, nd, h => by
    rw [List.nodup_cons] at nd
    have hy := h y List.mem_cons_self
    have := nodup_le (L := L) (xs := xs.erase y) nd.2 fun x hx => (List.mem_erase_of_ne (show x ≠ y from fun e => nd.1 (e ▸ hx))).mpr (h x (List.mem_cons_of_mem _ hx))
    rw [List.length_erase_of_mem hy] at this
    have := List.length_pos_of_mem hy
    rw [List.length_cons]
    omega
theorem twice_of : ∀ {xs : List Str}, ¬ xs.Nodup → ∃ x ∈ xs, x ∈ xs.erase x
  | [], h => absurd List.nodup_nil h
  | y :: xs, h => by
    by_cases hy : y ∈ xs
    · exact ⟨y, List.mem_cons_self, by rw [List.erase_cons_head]; exact hy⟩
    · obtain ⟨x, hx, hx2⟩ := twice_of (xs := xs) fun nd => h (List.nodup_cons.mpr ⟨hy, nd⟩)
      have ne : x ≠ y := fun e => hy (e ▸ hx)
      refine ⟨x, List.mem_cons_of_mem _ hx, ?_⟩
      rw [List.erase_cons_tail (by simpa using Ne.symm ne)]
      exact List.mem_cons_of_mem _ hx2
/-- as many in the set as in the list: none twice -/
theorem nodup_iff {L xs : List Str} (nd : L.Nodup) (hl : L.length ≤ xs.length) (h : ∀ x, x ∈ L ↔ x ∈ xs) : L.length = xs.length ↔ xs.Nodup := by
  constructor
  · intro e
    refine Decidable.byContradiction fun hx => ?_
    obtain ⟨x, hx1, hx2⟩ := twice_of hx
    have := nodup_le (L := L) (xs := xs.erase x) nd fun z hz => by
      by_cases ez : z = x
      · rw [ez]; exact hx2
      · exact (List.mem_erase_of_ne ez).mpr ((h z).mp hz)
    rw [List.length_erase_of_mem hx1] at this
    have := List.length_pos_of_mem hx1
    omega
  · intro hx
    have := nodup_le hx fun z hz => (h z).mpr hz
    omega
end Sw
set_option maxRecDepth 100000
set_option maxHeartbeats 4000000
namespace Sw
open PySem PySem.Spec PyProof.Rows L2
/-! ### pairs of a text and an int, in their order -/
def ltSI (p q : Str × Int) : Bool := if p.1 = q.1 then decide (p.2 < q.2) else decide (p.1.cps.toList < q.1.cps.toList)
theorem ltSI_iff {p q : Str × Int} : ltSI p q = true ↔ LtS p.1 q.1 ∨ (p.1 = q.1 ∧ p.2 < q.2) := by
  unfold ltSI
  by_cases e : p.1 = q.1
  · rw [if_pos e, decide_eq_true_eq]
    exact ⟨fun h => .inr ⟨e, h⟩, fun h => h.elim (fun z => by rw [e] at z; exact absurd z LtS.irr) (·.2)⟩
  · rw [if_neg e, decide_eq_true_eq]
    exact ⟨fun h => .inl h, fun h => h.elim id fun z => absurd z.1 e⟩
theorem ltSI_no {p q : Str × Int} : ltSI p q = false ↔ ¬ (LtS p.1 q.1 ∨ (p.1 = q.1 ∧ p.2 < q.2)) := by
  rw [← ltSI_iff]
  cases ltSI p q <;> simp
theorem tri (a b : Str) : LtS a b ∨ a = b ∨ LtS b a := by
  by_cases h1 : a.cps.toList < b.cps.toList
  · exact .inl h1
  by_cases h2 : b.cps.toList < a.cps.toList
  · exact .inr (.inr h2)
  have e : a.cps.toList = b.cps.toList := List.le_antisymm (List.not_lt.mp h2) (List.not_lt.mp h1)
  cases a; cases b
  exact .inr (.inl (by simpa using congrArg List.toArray e))
theorem ltSI_swo {α : Type} (k : α → Str × Int) : SrtO.Swo fun x y => ltSI (k x) (k y) := by
  refine ⟨fun x y h => ?_, fun x y z h1 h2 => ?_⟩
  · rw [ltSI_no]
    rcases ltSI_iff.mp h with a | ⟨a, b⟩
    · rintro (c | ⟨c, _⟩)
      · exact LtS.irr (a.trans c)
      · rw [c] at a; exact LtS.irr a
    · rintro (c | ⟨_, c⟩)
      · rw [a] at c; exact LtS.irr c
      · omega
  · rw [ltSI_no] at h1 h2 ⊢
    rcases tri (k x).1 (k y).1 with a | a | a
    · rcases tri (k y).1 (k z).1 with b | b | b
      · rintro (c | ⟨c, _⟩)
        · exact LtS.irr ((a.trans b).trans c)
        · rw [← c] at a; exact LtS.irr (a.trans b)
      · rintro (c | ⟨c, _⟩)
        · rw [b] at a; exact LtS.irr (a.trans c)
        · rw [b, c] at a; exact LtS.irr a
      · exact absurd (.inl b) h2
    · rcases tri (k y).1 (k z).1 with b | b | b
      · rintro (c | ⟨c, _⟩)
        · rw [a] at c; exact LtS.irr (b.trans c)
        · rw [c, a] at b; exact LtS.irr b
      · rintro (c | ⟨_, c⟩)
        · rw [a, b] at c; exact LtS.irr c
        · have e1 : ¬ (k y).2 < (k x).2 := fun q => h1 (.inr ⟨a.symm, q⟩)
          have e2 : ¬ (k z).2 < (k y).2 := fun q => h2 (.inr ⟨b.symm, q⟩)
          omega
      · exact absurd (.inl b) h2
    · exact absurd (.inl a) h1
def PairSI (h : Heap) (v : Value) (x : Str) (y : Int) : Prop := ∃ a o t u n, v = .ref a ∧ h.get? a = some o ∧ o.cls = .type "tuple" ∧ o.data = .seq #[.str x t, .int y u] n
theorem PairSI.keeps {h h' : Heap} {v : Value} {x : Str} {y : Int} (p : PairSI h v x y) (k : ∀ b o, h.get? b = some o → o.cls = .type "tuple" → h'.get? b = some o) : PairSI h' v x y := by
  obtain ⟨a, o, t, u, n, e, ho, hc, hd⟩ := p
  exact ⟨a, o, t, u, n, e, k _ _ ho hc, hc, hd⟩
section
variable {prog : Program} {w : World} {A : Around} {E : Value → Shared → Prop} {s : Shared}
theorem cmpSI {vs : List Value} {k : Value → Str × Int} (hp : ∀ v ∈ vs, PairSI s.heap v (k v).1 (k v).2) : SrtO.Cmp prog w A s (tuples' true) (fun p => p.1 ∈ vs) (SrtO.lt2 fun v u => ltSI (k v) (k u)) := by
  intro p q hm hm'
  have h1 := hp _ hm
  have h2 := hp _ hm'
  show wpAny (model prog w) A (keyLt' (tuples' true) p.1 q.1) (fun r s' => s' = s ∧ r = ltSI (k p.1) (k q.1)) (fun _ _ => False) s
  unfold ltSI
  generalize (k p.1).1 = x at h1 ⊢
  generalize (k p.1).2 = y at h1 ⊢
  generalize (k q.1).1 = x' at h2 ⊢
  generalize (k q.1).2 = y' at h2 ⊢
  obtain ⟨a, o, t, u, n, e, ho, hc, hd⟩ := h1
  obtain ⟨a', o', t', u', n', e', ho', hc', hd'⟩ := h2
  rw [e, e']
  refine PySem.W.kat_lt ho hd ho' hd' ?_
  show PySem.W.KatLex prog w A true (decide (2 < 2)) _ [(.str x t, .str x' t'), (.int y u, .int y' u')] 0 s
  refine PySem.W.kat_cons (SeqAt.EqAt.str_str x t x' t' prog w _ _ ?_)
  refine PySem.W.kat_go (fun e1 => ?_) (fun e1 => ?_)
  · have ex : x = x' := by simpa using e1
    refine PySem.W.kat_yes (PySem.W.kat_cons (SeqAt.EqAt.int_int y u y' u' prog w _ _ ?_))
    refine PySem.W.kat_go (fun e2 => ?_) (fun e2 => ?_)
    · have ey : y = y' := by simpa using e2
      refine PySem.W.kat_yes (PySem.W.kat_nil ⟨rfl, ?_⟩)
      rw [if_pos ex, ey]
      exact (decide_eq_false (Int.lt_irrefl _)).symm
    · refine PySem.W.kat_no (PySem.W.kat_one _ _ (PyProof.Rows.lt_int ?_))
      exact (show s = s ∧ decide (y < y') = _ from ⟨rfl, (if_pos ex).symm⟩)
  · have ex : ¬ x = x' := by simpa using e1
    exact PySem.W.kat_no (oneLt_str ⟨rfl, (if_neg ex).symm⟩)
theorem firstsSI {h : Heap} : ∀ {vs : List Value}, (∀ v ∈ vs, ∃ x y, PairSI h v x y) → ∃ fs : List Value, PySem.W.KatTups h vs fs ∧ fs.length = vs.length ∧ ∀ f ∈ fs, ∃ x t, f = Value.str x t
  | [], _ => ⟨[], PySem.W.KatTups.nil, rfl, fun _ hm => by simp at hm⟩
  | v :: vs, hp => by
    obtain ⟨fs, h1, h2, h3⟩ := firstsSI (vs := vs) fun v' hm => hp v' (List.mem_cons_of_mem _ hm)
    obtain ⟨x, y, a, o, t, u, n, e, ho, hc, hd⟩ := hp v List.mem_cons_self
    subst e
    refine ⟨.str x t :: fs, PySem.W.KatTups.cons ho hc hd rfl h1, by rw [List.length_cons, h2, List.length_cons], fun f hm => ?_⟩
    rcases List.mem_cons.mp hm with rfl | hm
    · exact ⟨x, t, rfl⟩
    · exact h3 f hm
theorem sortableSI {a : Addr} {vs : List Value} {k : Value → Str × Int} (h0 : 0 < vs.length) (hp : ∀ v ∈ vs, PairSI s.heap v (k v).1 (k v).2) (ha : ∀ o, s.heap.get? a = some o → o.cls ≠ .type "tuple") : SrtO.SortableO prog w A s a vs fun v u => ltSI (k v) (k u) := by
  intro h' keep
  have hp' : ∀ v ∈ vs, PairSI h' v (k v).1 (k v).2 := fun v hm => (hp v hm).keeps fun b o e c => keep b o (fun z => by subst z; exact ha o e c) e
  obtain ⟨fs, h1, h2, h3⟩ := firstsSI fun v hm => ⟨_, _, hp' v hm⟩
  refine ⟨tuples' true, fun Q E hq => ?_, cmpSI hp'⟩
  refine PySem.W.kat_kind (T := .type "str") h1 (by omega) (fun f hm => ?_) (by rfl) ?_
  · obtain ⟨x, t, rfl⟩ := h3 f hm
    exact PySem.W.Looks.now
  · rw [show (Value.type "str" != Value.type "tuple") = true by decide]
    exact hq
end
section
variable {X : Cx}
/-- sorted(xs) of pairs of a text and an int -/
def rSortedSI (K : PySem.W.Frag) : List V → Hp → VK → Prop := fun vs H Q => ∃ (a : Addr) (xs : List V) (k : V → Str × Int), vs = [V.ref a] ∧ SqL K H a xs ∧ (∀ x ∈ xs, ∃ t, x = V.ref t ∧ SqT K H t [.str (k x).1, .int (k x).2]) ∧
  ∀ ys p, SrtO.Srtd (fun x y => ltSI (k x) (k y)) ys → ys.Perm xs → H p = none → Q (.ref p) (upd H p (.lst ys))
theorem cr_sortedSI : CallR X (.builtin "sorted") (rSortedSI X.K) := by
  intro pins s σ H vs us Q I r h
  obtain ⟨a, xs, k, rfl, hs, hx, q⟩ := h
  rw [Vals.ref1 r]
  obtain ⟨its, rv, hl, hz⟩ := I.list hs
  obtain ⟨e1, e2⟩ := refs_back rv fun x m => by
    obtain ⟨t, e, _⟩ := hx x m
    exact ⟨t, e⟩
  have hP : ∀ v ∈ its, PairSI s.heap v (k (backV v)).1 (k (backV v)).2 := fun v hv => by
    obtain ⟨t, rfl⟩ := e2 v hv
    have hm : V.ref t ∈ xs := by rw [e1]; exact List.mem_map.mpr ⟨_, hv, rfl⟩
    obtain ⟨t', e, ht⟩ := hx _ hm
    cases e
    obtain ⟨its2, r2, ⟨o, ho, hc, n, hd⟩, _⟩ := I.tuple ht
    obtain ⟨u1, u2, rfl, ri, rj⟩ := vals2 r2
    obtain ⟨t1, rfl⟩ := ri
    obtain ⟨t2, rfl⟩ := rj
    exact ⟨t, o, t1, t2, n, rfl, ho, hc, hd⟩
  refine SrtO.sorted_ord (ltSI_swo fun v => k (backV v)) hl.isList (by rw [← rv.length]; exact hz) (fun h2 h₁ a ha kk => ?_) fun out hs hb => ?_
  · refine sortableSI (k := fun v => k (backV v)) (s := { s with heap := h₁ }) (by omega) (fun v hm => (hP v hm).keeps fun b o e _ => (kk b o e).2) fun o e => ?_
    have e' : some o = some (seqObj "list" its.toArray 0) := e.symm.trans ha
    cases e'
    intro c
    exact absurd (Value.type.inj c) (by decide)
  · have h3 : ∀ u ∈ out, ∃ a, u = Value.ref a := fun u hu => e2 u (hb.perm.mem_iff.mp hu)
    obtain ⟨n, hn⟩ := sortedAll_at s.heap its out.toArray
    have pm : (out.map backV).Perm xs := by rw [e1]; exact hb.perm.map _
    refine ⟨.ref _, upd H (s.heap.objs.size + 1) (.lst (out.map backV)), I.laid (t' := s.toks) (fun b o e => sortedAll_old e) (Nat.le_succ _) ⟨?_, out, n, vals_back h3, hn⟩, rfl, q _ _ (SrtO.srtd_map (f := backV) (lt := fun x y => ltSI (k x) (k y)) hs) pm (I.hok.fresh (Nat.le_succ _))⟩
    rw [pm.length_eq]
    exact hz
end
end Sw
set_option maxRecDepth 100000
set_option maxHeartbeats 4000000
namespace Sw
open PySem PySem.Spec PyProof.Rows L2
/-! ### OBJECTS and CODE, as they lie -/
structure ObjsAt (K : PySem.W.Frag) (H : Hp) (v : V) (zs : List (Str × Int)) : Prop where
  ex : ∃ (a : Addr) (ps : List Addr), v = .ref a ∧ TupF H a (ps.map V.ref) ∧ Paired (fun p (z : Str × Int) => SqT K H p [.str z.1, .int z.2]) ps zs
  few : 1 ≤ zs.length ∧ zs.length ≤ 4
  wd : ∀ z ∈ zs, IsWord z.1 ∧ 1 ≤ z.2 ∧ z.2 ≤ 4
  asc : (zs.map (·.1)).Pairwise LtS
theorem paired_same {K : PySem.W.Frag} {H H' : Hp} (s : Same H H') : ∀ {ps : List Addr} {zs : List (Str × Int)}, Paired (fun p (z : Str × Int) => SqT K H p [.str z.1, .int z.2]) ps zs → Paired (fun p (z : Str × Int) => SqT K H' p [.str z.1, .int z.2]) ps zs
  | _, _, .nil => .nil
  | _, _, .cons h t => .cons (sameT s h) (paired_same s t)
theorem ObjsAt.same {K : PySem.W.Frag} {H H' : Hp} {v : V} {zs : List (Str × Int)} (h : ObjsAt K H v zs) (s : Same H H') : ObjsAt K H' v zs := by
  obtain ⟨a, ps, e, hf, hp⟩ := h.ex
  exact ⟨⟨a, ps, e, hf.same s, paired_same s hp⟩, h.few, h.wd, h.asc⟩
theorem asc_nodup {zs : List Str} (h : zs.Pairwise LtS) : zs.Nodup := h.imp fun {a b} hab e => by
  rw [e] at hab
  exact LtS.irr hab
structure CodeAt (K : PySem.W.Frag) (H : Hp) (v vo : V) (zs : List (Str × Int)) : Prop where
  ex : ∃ (c : Addr) (vr : V), v = .ref c ∧ SqT K H c [vo, vr]
  ob : ObjsAt K H vo zs
theorem CodeAt.same {K : PySem.W.Frag} {H H' : Hp} {v vo : V} {zs : List (Str × Int)} (h : CodeAt K H v vo zs) (s : Same H H') : CodeAt K H' v vo zs := by
  obtain ⟨c, vr, e, hc⟩ := h.ex
  exact ⟨⟨c, vr, e, sameT s hc⟩, h.ob.same s⟩
/-! ### dict(OBJECTS) -/
def sz (zs : List (Str × Int)) (z : Str) : Option Int := (zs.find? fun p => decide (p.1 = z)).map (·.2)
def kvO (zs : List (Str × Int)) : List (Key × V) := zs.map fun p => (Sum.inr p.1, V.int p.2)
theorem val_merge {k : Key} : ∀ (kvs acc : List (Key × V)), (kvs.map (·.1)).Nodup → valV (mergeK acc kvs) k = (valV kvs k).or (valV acc k)
  | [], acc, _ => by rw [valV_nil]; rfl
  | p :: r, acc, nd => by
    rw [List.map_cons, List.nodup_cons] at nd
    have ih := val_merge (k := k) r (putK acc p.1 p.2) nd.2
    show valV (mergeK (putK acc p.1 p.2) r) k = _
    rw [ih, valV_put]
    by_cases e : p.1 = k
    · rw [valV_pos e, if_pos e.symm]
      have hn : valV r k = none := by
        cases hv : valV r k with
        | none => rfl
        | some x =>
          exfalso
          apply nd.1
          unfold valV at hv
          cases hf : r.find? fun kv => decide (kv.1 = k) with
          | none => rw [hf] at hv; cases hv
          | some y =>
            have h1 := List.find?_some hf
            have h2 := List.mem_of_find?_eq_some hf
            rw [decide_eq_true_eq] at h1
            rw [e, ← h1]
            exact List.mem_map_of_mem h2
      rw [hn]
      rfl
    · rw [valV_neg e, if_neg (Ne.symm e)]
theorem val_kvO (zs : List (Str × Int)) (z : Str) : valV (kvO zs) (Sum.inr z) = (sz zs z).map V.int := by
  induction zs with
  | nil => rfl
  | cons p r ih =>
    unfold kvO sz at *
    rw [List.map_cons]
    by_cases e : p.1 = z
    · rw [valV_pos (by rw [e]), List.find?_cons_of_pos (by simpa using e)]
      rfl
    · rw [valV_neg (fun h => e (Sum.inr.inj h)), List.find?_cons_of_neg (by simpa using e)]
      exact ih
theorem val_sizes {zs : List (Str × Int)} (h : (zs.map (·.1)).Pairwise LtS) (z : Str) : valV (mergeK [] (kvO zs)) (Sum.inr z) = (sz zs z).map V.int := by
  have nd := asc_nodup h
  rw [val_merge (kvO zs) [] ?_, valV_nil, val_kvO]
  · cases (sz zs z).map V.int <;> rfl
  · have e : (kvO zs).map (·.1) = (zs.map (·.1)).map Sum.inr := by
      unfold kvO
      rw [List.map_map, List.map_map]
      rfl
    rw [e]
    exact List.Pairwise.map _ (fun a b hab e => hab (Sum.inr.inj e)) nd
theorem paired_kvO {K : PySem.W.Frag} {H : Hp} : ∀ {ps : List Addr} {zs : List (Str × Int)}, Paired (fun p (z : Str × Int) => SqT K H p [.str z.1, .int z.2]) ps zs → Paired (fun p (kv : Key × V) => SqT K H p [kV kv.1, kv.2]) ps (kvO zs)
  | _, _, .nil => .nil
  | _, _, .cons h t => .cons h (paired_kvO t)
/-- the dict of OBJECTS at d -/
def SizesAt (H : Hp) (d : Addr) (zs : List (Str × Int)) : Prop := H d = some (.dK (mergeK [] (kvO zs)))
theorem dict_objs {K : PySem.W.Frag} {H : Hp} {v : V} {zs : List (Str × Int)} {Q : VK} (h : ObjsAt K H v zs) (q : ∀ d H', H d = none → Same H H' → SizesAt H' d zs → Q (.ref d) H') : rDictT K [v] H Q := by
  obtain ⟨a, ps, rfl, hf, hp⟩ := h.ex
  exact ⟨a, ps, kvO zs, rfl, hf, paired_kvO hp, fun p hp => q p _ hp (same_new hp) upd_same⟩
theorem sizes_get {H : Hp} {d : Addr} {zs : List (Str × Int)} (h : SizesAt H d zs) (ha : (zs.map (·.1)).Pairwise LtS) (z : Str) : DGet H d (.str z) ((sz zs z).map V.int) := by
  have := DGet.k (k := Sum.inr z) h
  rw [val_sizes ha] at this
  exact this
/-! ### looks at operands and addresses, on data -/
def within (d : PyData) (m : Int) : Bool := match d with
  | .int i => decide (0 ≤ i) && decide (i < m)
  | _ => true
def strL0 : PyData → Str
  | .str z => z
  | _ => Str.empty
def unlike (zs : List (Str × Int)) : PyData → Bool
  | .tuple ds => !ds.isEmpty && ds.all (fun d => dWord d && (sz zs (strL0 d)).isSome) && decide ((ds.map strL0).Nodup)
  | _ => false
def addr (zs : List (Str × Int)) : PyData → Bool
  | .tuple [.tuple os, p, i] => unlike zs (.tuple os) && dOper p && dOper i && within p os.length && os.all fun d => within i ((sz zs (strL0 d)).getD 0)
  | _ => false
end Sw
set_option maxRecDepth 100000
set_option maxHeartbeats 4000000
namespace Sw
open PySem PySem.Spec PyProof.Rows L2
section
variable {P : Program} {w : World} {K : PySem.W.Frag} {mg : Str → Option Value} {base : Heap}
def spWithin (K : PySem.W.Frag) : Sp := fun vs H Q _ => ∃ (v : V) (d : PyData) (m : Int), vs = [v, .int m] ∧ Dp K H v d ∧ dOper d = true ∧ (∃ M, Fit M 60 60 1000000 d) ∧ ∀ H', Same H H' → Q (.bl (within d m)) H'
theorem sc_within : FnScope ["operand", "many"] ["operand", "many"] (defScope (topS 7)) := ⟨rfl, rfl, rfl, by decide +kernel, rfl, by decide +kernel, by decide +kernel⟩
theorem ok_within {f f2 : Addr} {fd fd2 : FuncData} (D : Df K mg "can_be_within" (topS 7) ["operand", "many"] f fd) (D2 : Df K mg "is_word" (topS 3) ["thing"] f2 fd2)
    (G2 : FnOk P w K mg base CX0 1 f2 fd2 ["thing"] (spLook K dWord)) : FnOk P w K mg base CX0 2 f fd ["operand", "many"] (spWithin K) := by
  refine D.fn.ok sc_within (fun vs H Q E h => ?_) (fun cdv A outer s H vs Q E hr h => ?_)
  · obtain ⟨v, d, m, rfl, _⟩ := h
    rfl
  obtain ⟨v, d, m, rfl, hd, ho, hf, q⟩ := h
  refine ⟨_, pss_one (ps_ret (pe_or (pe_call G2 hr (by rfl) D2.gl D2.fn.kp D2.bd .nil pass0 (pa_cons (pv 0) pa_nil)) (pe_one (pe_chain op_le op_lt pe_int (pv 0) (pv 1))))), ?_⟩
  refine ⟨v, rfl, v, d, rfl, hd, hf, fun H1 s1 => ⟨_, rfl, ?_⟩⟩
  have hd1 := Dp_same s1 hd
  cases d with
  | str z =>
    refine ite2 (fun c => q H1 s1) (fun c => ?_)
    unfold dOper at ho
    rw [show dNum (.str z) = false from rfl, Bool.false_or] at ho
    exact absurd ho c
  | int i =>
    refine iteF ?_
    cases hd1
    refine ⟨_, rfl, _, _, rfl, rfl, _, rfl, ?_⟩
    refine ite2 (fun c => ?_) (fun c => ?_)
    · have e : within (.int i) m = decide (i < m) := by
        show (decide (0 ≤ i) && decide (i < m)) = _
        rw [show decide (0 ≤ i) = true from c, Bool.true_and]
      refine ⟨_, rfl, _, _, rfl, rfl, ?_⟩
      rw [e] at q
      exact q H1 s1
    · have e : within (.int i) m = false := by
        show (decide (0 ≤ i) && decide (i < m)) = _
        rw [show decide (0 ≤ i) = false by simpa using c, Bool.false_and]
      rw [e] at q
      have c' : decide ((0 : Int) ≤ i) = false := by simpa using c
      first
        | exact q H1 s1
        | (rw [c']; exact q H1 s1)
  | none => cases ho
  | bool _ => cases ho
  | list _ => cases ho
  | tuple _ => cases ho
  | dict _ => cases ho
def spUnlike (K : PySem.W.Frag) : Sp := fun vs H Q _ => ∃ (c vo v : V) (zs : List (Str × Int)) (d : PyData), vs = [c, v] ∧ CodeAt K H c vo zs ∧ Dp K H v d ∧ (∃ M, Fit M 60 60 1000000 d) ∧ ∀ H', Same H H' → Q (.bl (unlike zs d)) H'
theorem sc_unlike : FnScope ["code", "thing", "sizes", "word"] ["code", "thing"] (defScope (topS 8)) := ⟨rfl, rfl, rfl, by decide +kernel, rfl, by decide +kernel, by decide +kernel⟩
theorem DpAll_words {K : PySem.W.Frag} {H : Hp} : ∀ {xs : List V} {ds : List PyData}, DpAll K H xs ds → ds.all dWord = true → xs = (ds.map strL0).map V.str
  | _, _, .nil, _ => rfl
  | _, _, .cons (d := d) h r, e => by
    rw [List.all_cons, Bool.and_eq_true] at e
    rw [List.map_cons, List.map_cons, ← DpAll_words r e.2]
    cases d with
    | str z => cases h; rfl
    | _ => exact absurd e.1 (by simp [dWord])
theorem ok_unlike {f f2 : Addr} {fd fd2 : FuncData} (D : Df K mg "are_unlike_objects" (topS 8) ["code", "thing"] f fd) (D2 : Df K mg "is_word" (topS 3) ["thing"] f2 fd2) (B : Bt mg) (bD : mg "dict" = none)
    (G2 : FnOk P w K mg base CX0 1 f2 fd2 ["thing"] (spLook K dWord)) : FnOk P w K mg base CX0 2 f fd ["code", "thing"] (spUnlike K) := by
  refine D.fn.ok sc_unlike (fun vs H Q E h => ?_) (fun cdv A outer s H vs Q E hr h => ?_)
  · obtain ⟨c, vo, v, zs, d, rfl, _⟩ := h
    rfl
  obtain ⟨vc, vo, v, zs, d, rfl, hC, hd, ⟨M, hf⟩, q⟩ := h
  have nd := sc_unlike.nd
  have hu := hr.units
  refine ⟨_, pss_cons (ps_if (PW.pt (pw_or (pt_not (pt_val (pe_callB call_isi (by rfl) B.isi (by decide +kernel) (pa_cons (pv 1) (pa_cons (pe_bltn (v := .ty "tuple") (by rfl) B.tuple (by decide +kernel) rfl) pa_nil)))))
      (pw_or1 (pt_cmpR op_eq (pe_callB call_len_seq (by rfl) B.len PySem.boot_len (pa_cons (pv 1) pa_nil)) pe_int (nomark _))))) (pss_one (ps_ret pe_bl)) pss_nil)
    (pss_cons (ps_set (i := 2) nd rfl (Or.inr rfl) (pe_callTy (call_dictT rfl) (by rfl) bD (by decide +kernel) (pa_cons (pe_ix ix_tup (pv 0) pe_int (fun _ _ => rfl)) pa_nil)))
    (pss_cons (ps_if (pt_not (pt_val (pe_callB (cr_all rfl) (by rfl) B.all (by decide +kernel) (pa_cons (pe_lc (own := [("word", 3)]) (g := gName 3) (tt := tYes) rfl nd (pi_tup (pv 1))
        (blkOk_by (N := ["code", "thing", "sizes", "word"]) (sc := defScope (topS 8)) (by decide +kernel)) (fun _ _ _ _ _ => pg_name (i := 3) nd rfl (Or.inl rfl)) (fun _ _ _ _ _ => pts_nil)
        (fun _ _ _ _ _ => pe_and (pe_call G2 hr (by rfl) D2.gl D2.fn.kp D2.bd .nil pass0 (pa_cons (pv 3) pa_nil)) (pe_one (pe_cmp (pc_din (by have h := hu_of hr; exact h) (pv 3) (pv 2)))))) pa_nil)))) (pss_one (ps_ret pe_bl)) pss_nil)
    (pss_one (ps_ret (pe_cmpR op_eq (pe_callB cr_lenSS (by rfl) B.len PySem.boot_len (pa_cons (pe_callTy (cr_setST rfl) (by rfl) B.set (by decide +kernel) (pa_cons (pv 1) pa_nil)) pa_nil)) (pe_callB call_len_seq (by rfl) B.len PySem.boot_len (pa_cons (pv 1) pa_nil)) (nomark _)))))), ?_⟩
  clear G2 D2 D B bD hr
  obtain ⟨t1, ty1, k1⟩ := isa_tup hd
  refine ⟨v, rfl, v, .ty "tuple", t1, _, _, rfl, .ty _, ty1, k1, _, rfl, ?_⟩
  cases hd with
  | @tup a xs ds hx hr0 =>
    have hlen := DpAll_len hr0
    obtain ⟨hl, _, _, hin⟩ := hf.inTup
    refine iteF ⟨_, rfl, a, _, rfl, .inr hx, rfl, _, rfl, ?_⟩
    refine ite2 (fun c => ?_) (fun c => ?_)
    · have c' : xs.length = 0 := by
        have z := of_decide_eq_true c
        injection z with z
        omega
      have e : unlike zs (.tuple ds) = false := by
        have : ds = [] := List.eq_nil_of_length_eq_zero (by omega)
        subst this
        rfl
      rw [← e]
      exact q H (Same.refl H)
    have hne : ds ≠ [] := fun z => c (by
      subst z
      have : xs.length = 0 := by simpa using hlen
      rw [this]
      rfl)
    obtain ⟨cc, vr, rfl, hcc⟩ := hC.ex
    refine ⟨_, rfl, cc, _, 0, _, rfl, rfl, hcc, atI_nat (j := 0) rfl, ?_⟩
    obtain ⟨ao, ps, rfl, hfo, hpo⟩ := hC.ob.ex
    refine ⟨ao, ps, kvO zs, rfl, hfo, paired_kvO hpo, fun dd hdd => ?_⟩
    have s1 := same_new (o := .dK (mergeK [] (kvO zs))) hdd
    have hD : SizesAt (upd H dd (.dK (mergeK [] (kvO zs)))) dd zs := upd_same
    generalize upd H dd (.dK (mergeK [] (kvO zs))) = H1 at s1 hD
    have hx1 := sameT s1 hx
    have hr1 := DpAll_same s1 hr0
    refine ⟨_, rfl, a, rfl, ⟨_, hx1⟩, fun L hL => lc_map (walk_tup (xs := xs)) (fun i => V.bl ((fun d => dWord d && (sz zs (strL0 d)).isSome) (ds.getD i .none))) hL (fun _ h => sameT h hx1) (big_size (by omega)) ?_ ?_⟩
    · intro i x H2 Q2 hi hxi hs q1
      obtain ⟨d, hdi, hdp⟩ := DpAll_get (DpAll_same hs hr1) hxi
      have e : ds.getD i .none = d := by simp [List.getD, hdi]
      rw [e] at q1
      refine ⟨x, rfl, x, d, rfl, hdp, ⟨M, (hin d (List.mem_of_getElem? hdi)).mono (Nat.le_refl _) (Nat.le_refl _) (by omega) (Nat.le_refl _)⟩, fun H3 s3 => ⟨_, rfl, ?_⟩⟩
      dsimp only at q1
      refine ite2 (fun c => ?_) (fun c => ?_)
      · cases d with
        | str z =>
          cases hdp
          rw [c, Bool.true_and] at q1
          refine ⟨_, rfl, _, rfl, dd, _, rfl, sizes_get (s3 _ _ (hs _ _ hD)) hC.ob.asc z, ?_⟩
          have q2 := q1 H3 s3
          rw [show (Option.map V.int (sz zs z)).isSome = (sz zs z).isSome by cases sz zs z <;> rfl]
          exact q2
        | _ => exact absurd c (by simp [dWord])
      · have c' : dWord d = false := by simpa using c
        rw [c', Bool.false_and] at q1
        have q2 := q1 H3 s3
        first
          | exact q2
          | (rw [c']; exact q2)
    · intro H2 s2 hL2
      have eL : (List.range xs.length).map (fun i => V.bl ((fun d => dWord d && (sz zs (strL0 d)).isSome) (ds.getD i .none))) = (ds.map fun d => dWord d && (sz zs (strL0 d)).isSome).map V.bl := by
        apply List.ext_getElem?
        intro i
        simp only [List.getElem?_map]
        by_cases h : i < ds.length
        · rw [List.getElem?_range (by omega), List.getElem?_eq_getElem h]
          simp [List.getD, h]
        · rw [List.getElem?_eq_none (by first | omega | (simp; omega)), List.getElem?_eq_none (by first | omega | (simp; omega))]
          rfl
      rw [eL] at hL2
      have ea : (ds.map fun d => dWord d && (sz zs (strL0 d)).isSome).all id = ds.all fun d => dWord d && (sz zs (strL0 d)).isSome := by rw [List.all_map]; rfl
      have eu : unlike zs (.tuple ds) = ((ds.all fun d => dWord d && (sz zs (strL0 d)).isSome) && decide ((ds.map strL0).Nodup)) := by
        show (!ds.isEmpty && (ds.all fun d => dWord d && (sz zs (strL0 d)).isSome) && decide ((ds.map strL0).Nodup)) = _
        cases ds with
        | nil => exact absurd rfl hne
        | cons _ _ => simp
      refine ⟨L, _, rfl, SqL.of hL2, _, rfl, ?_⟩
      rw [ea]
      refine ite2 (fun c => ?_) (fun c => ?_)
      · have c' : (ds.all fun d => dWord d && (sz zs (strL0 d)).isSome) = false := by simpa using c
        refine q_of ?_ (q H2 (s1.trans s2))
        rw [eu, c', Bool.false_and]
      · have c' : (ds.all fun d => dWord d && (sz zs (strL0 d)).isSome) = true := by
          cases hb : (ds.all fun d => dWord d && (sz zs (strL0 d)).isSome) with
          | true => rfl
          | false => exact absurd (by rw [hb]; rfl) c
        have cw : ds.all dWord = true := by
          rw [List.all_eq_true] at c' ⊢
          intro d hd
          have := c' d hd
          rw [Bool.and_eq_true] at this
          exact this.1
        have ex := DpAll_words hr0 cw
        have hx2 := sameT s2 hx1
        rw [ex] at hx2
        refine ⟨_, rfl, a, ds.map strL0, rfl, hx2, by rw [List.length_map]; omega, fun S Ls hS lS mS nS => ?_⟩
        refine ⟨S, Ls, rfl, upd_same, _, rfl, a, _, rfl, .inr (sameT (same_new hS) hx2), rfl, ?_⟩
        have e2 : decide (V.int (Ls.length : Nat) = V.int (((ds.map strL0).map V.str).length : Nat)) = decide ((ds.map strL0).Nodup) := by
          have := nodup_iff nS lS mS
          by_cases hnd : (ds.map strL0).Nodup
          · have l1 := this.mpr hnd
            rw [decide_eq_true hnd, decide_eq_true]
            rw [List.length_map (f := V.str), l1]
          · rw [decide_eq_false hnd, decide_eq_false]
            intro z
            injection z with z
            rw [List.length_map (f := V.str)] at z
            exact hnd (this.mp (by omega))
        refine q_of ?_ (q _ (s1.trans (s2.trans (same_new hS))))
        rw [eu, c', Bool.true_and]
        exact e2.symm
  | non => exact iteT (q H (Same.refl H))
  | bl b => exact iteT (q H (Same.refl H))
  | int i => exact iteT (q H (Same.refl H))
  | str z => exact iteT (q H (Same.refl H))
  | lst h r => exact iteT (q H (Same.refl H))
end
end Sw
set_option maxRecDepth 100000
set_option maxHeartbeats 4000000
namespace Sw
open PySem PySem.Spec PyProof.Rows L2
theorem addr3 (zs : List (Str × Int)) (d0 p i : PyData) : addr zs (.tuple [d0, p, i]) = (unlike zs d0 && dOper p && dOper i && within p (tupL d0).length && (tupL d0).all fun d => within i ((sz zs (strL0 d)).getD 0)) := by
  cases d0 <;> simp [addr, unlike, tupL]
theorem addrN {zs : List (Str × Int)} {ds : List PyData} (h : ds.length ≠ 3) : addr zs (.tuple ds) = false := by
  match ds, h with
  | [], _ => rfl
  | [a], _ => cases a <;> rfl
  | [a, _], _ => cases a <;> rfl
  | [_, _, _], h => exact absurd rfl h
  | a :: _ :: _ :: _ :: _, _ => cases a <;> rfl
theorem three {α : Type} {l : List α} (h : l.length = 3) : ∃ a b c, l = [a, b, c] := by
  match l, h with
  | [a, b, c], _ => exact ⟨a, b, c, rfl⟩
theorem unlike_tup {zs : List (Str × Int)} {d : PyData} (h : unlike zs d = true) : ∃ ds, d = .tuple ds ∧ (∀ x ∈ ds, ∃ z k, x = .str z ∧ dWord x = true ∧ sz zs z = some k) ∧ (ds.map strL0).Nodup ∧ ds ≠ [] := by
  cases d with
  | tuple ds =>
    have h' : (!ds.isEmpty && (ds.all fun d => dWord d && (sz zs (strL0 d)).isSome) && decide ((ds.map strL0).Nodup)) = true := h
    rw [Bool.and_eq_true, Bool.and_eq_true, decide_eq_true_eq, List.all_eq_true] at h'
    refine ⟨ds, rfl, fun x hx => ?_, h'.2, fun e => by rw [e] at h'; simp at h'⟩
    have hw := h'.1.2 x hx
    rw [Bool.and_eq_true] at hw
    cases x with
    | str z =>
      obtain ⟨k, hk⟩ := Option.isSome_iff_exists.mp hw.2
      exact ⟨z, k, rfl, hw.1, hk⟩
    | _ => exact absurd hw.1 (by simp [dWord])
  | _ => cases h
section
variable {P : Program} {w : World} {K : PySem.W.Frag} {mg : Str → Option Value} {base : Heap}
def spAddr (K : PySem.W.Frag) : Sp := fun vs H Q _ => ∃ (c vo v : V) (zs : List (Str × Int)) (d : PyData), vs = [c, v] ∧ CodeAt K H c vo zs ∧ Dp K H v d ∧ (∃ M, Fit M 60 60 1000000 d) ∧ ∀ H', Same H H' → Q (.bl (addr zs d)) H'
theorem sc_isaddr : FnScope ["code", "thing", "objects", "pick", "index", "sizes", "word"] ["code", "thing"] (defScope (topS 9)) := ⟨rfl, rfl, rfl, by decide +kernel, rfl, by decide +kernel, by decide +kernel⟩
theorem ok_isaddr {f f1 f2 f3 : Addr} {fd fd1 fd2 fd3 : FuncData} (D : Df K mg "is_address" (topS 9) ["code", "thing"] f fd) (D1 : Df K mg "are_unlike_objects" (topS 8) ["code", "thing"] f1 fd1) (D2 : Df K mg "is_operand" (topS 4) ["thing"] f2 fd2) (D3 : Df K mg "can_be_within" (topS 7) ["operand", "many"] f3 fd3) (B : Bt mg) (bD : mg "dict" = none)
    (G1 : FnOk P w K mg base CX0 2 f1 fd1 ["code", "thing"] (spUnlike K)) (G2 : FnOk P w K mg base CX0 2 f2 fd2 ["thing"] (spLook K dOper)) (G3 : FnOk P w K mg base CX0 2 f3 fd3 ["operand", "many"] (spWithin K)) : FnOk P w K mg base CX0 3 f fd ["code", "thing"] (spAddr K) := by
  refine D.fn.ok sc_isaddr (fun vs H Q E h => ?_) (fun cdv A outer s H vs Q E hr h => ?_)
  · obtain ⟨c, vo, v, zs, d, rfl, _⟩ := h
    rfl
  obtain ⟨vc, vo, v, zs, d, rfl, hC, hd, ⟨M, hf⟩, q⟩ := h
  have nd := sc_isaddr.nd
  refine ⟨_, pss_cons (ps_if (PW.pt (pw_or (pt_not (pt_val (pe_callB call_isi (by rfl) B.isi (by decide +kernel) (pa_cons (pv 1) (pa_cons (pe_bltn (v := .ty "tuple") (by rfl) B.tuple (by decide +kernel) rfl) pa_nil)))))
      (pw_or1 (pt_cmpR op_ne (pe_callB call_len_seq (by rfl) B.len PySem.boot_len (pa_cons (pv 1) pa_nil)) pe_int (nomark _))))) (pss_one (ps_ret pe_bl)) pss_nil)
    (pss_cons (ps_asg (pv 1) (pg_tup rfl (pgs_cons (pg_name (i := 2) nd rfl (Or.inl rfl)) (pgs_cons (pg_name (i := 3) nd rfl (Or.inl rfl)) (pgs_cons (pg_name (i := 4) nd rfl (Or.inr rfl)) pgs_nil)))))
    (pss_cons (ps_if (PW.pt (pw_or (pt_not (pt_val (pe_call G1 hr (by rfl) D1.gl D1.fn.kp D1.bd .nil pass0 (pa_cons (pv 0) (pa_cons (pv 2) pa_nil)))))
      (pw_or (pt_not (pt_val (pe_call G2 hr (by rfl) D2.gl D2.fn.kp D2.bd .nil pass0 (pa_cons (pv 3) pa_nil)))) (pw_or1 (pt_not (pt_val (pe_call G2 hr (by rfl) D2.gl D2.fn.kp D2.bd .nil pass0 (pa_cons (pv 4) pa_nil)))))))) (pss_one (ps_ret pe_bl)) pss_nil)
    (pss_cons (ps_set (i := 5) nd rfl (Or.inr rfl) (pe_callTy (call_dictT rfl) (by rfl) bD (by decide +kernel) (pa_cons (pe_ix ix_tup (pv 0) pe_int (fun _ _ => rfl)) pa_nil)))
    (pss_one (ps_ret (pe_and (pe_call G3 hr (by rfl) D3.gl D3.fn.kp D3.bd .nil pass0 (pa_cons (pv 3) (pa_cons (pe_callB call_len_seq (by rfl) B.len PySem.boot_len (pa_cons (pv 2) pa_nil)) pa_nil)))
      (pe_one (pe_callB (cr_all rfl) (by rfl) B.all (by decide +kernel) (pa_cons (pe_lc (own := [("word", 6)]) (g := gName 6) (tt := tYes) rfl nd (pi_tup (pv 2))
        (blkOk_by (N := ["code", "thing", "objects", "pick", "index", "sizes", "word"]) (sc := defScope (topS 9)) (by decide +kernel)) (fun _ _ _ _ _ => pg_name (i := 6) nd rfl (Or.inl rfl)) (fun _ _ _ _ _ => pts_nil)
        (fun _ _ _ _ _ => pe_call G3 hr (by rfl) D3.gl D3.fn.kp D3.bd .nil pass0 (pa_cons (pv 4) (pa_cons (pe_dget (by have h := hu_of hr; exact h) (pv 5) (pv 6) (fun _ _ => rfl)) pa_nil)))) pa_nil))))))))), ?_⟩
  clear G1 G2 G3 D1 D2 D3 D B bD hr
  obtain ⟨t1, ty1, k1⟩ := isa_tup hd
  refine ⟨v, rfl, v, .ty "tuple", t1, _, _, rfl, .ty _, ty1, k1, _, rfl, ?_⟩
  cases hd with
  | @tup a xs ds hx hr0 =>
    have hlen := DpAll_len hr0
    obtain ⟨hl, _, _, hin⟩ := hf.inTup
    refine iteF ⟨_, rfl, a, _, rfl, .inr hx, rfl, _, rfl, ?_⟩
    by_cases h3 : ds.length = 3
    rotate_left
    · have e1 : (!decide (V.int (xs.length : Nat) = V.int 3)) = true := by
        rw [Bool.not_eq_true', decide_eq_false_iff_not]
        intro z
        injection z with z
        omega
      refine ite2 (fun _ => ?_) (fun c => absurd e1 c)
      refine q_of ?_ (q H (Same.refl H))
      exact addrN h3
    have e1 : ¬ (!decide (V.int (xs.length : Nat) = V.int 3)) = true := by
      rw [hlen, h3]
      simp
    refine ite2 (fun c => absurd c e1) (fun _ => ?_)
    obtain ⟨d0, d1, d2, rfl⟩ := three h3
    obtain ⟨x0, x1, x2, rfl⟩ := three (hlen.trans h3)
    cases hr0 with
    | cons p0 r0 =>
    cases r0 with
    | cons p1 r1 =>
    cases r1 with
    | cons p2 r2 =>
    have ft : ∀ e ∈ [d0, d1, d2], ∃ M, Fit M 60 60 1000000 e := fun e he => ⟨M, (hin e he).mono (Nat.le_refl _) (Nat.le_refl _) (by omega) (Nat.le_refl _)⟩
    have f0 := ft d0 (by simp)
    have f1 := ft d1 (by simp)
    have f2 := ft d2 (by simp)
    have ea := addr3 zs d0 d1 d2
    refine ⟨_, rfl, a, _, rfl, hx, rfl, x0, _, rfl, x1, _, rfl, x2, _, rfl, rfl, ?_⟩
    refine ⟨_, rfl, _, rfl, vc, vo, x0, zs, d0, rfl, hC, p0, f0, fun H1 s1 => ⟨_, rfl, ?_⟩⟩
    cases hU : unlike zs d0 with
    | false => exact iteT (q_of (by rw [ea, hU]; rfl) (q H1 s1))
    | true =>
    refine iteF ⟨_, rfl, x1, d1, rfl, Dp_same s1 p1, f1, fun H2 s2 => ⟨_, rfl, ?_⟩⟩
    cases h1 : dOper d1 with
    | false => exact iteT (q_of (by rw [ea, hU, h1]; rfl) (q H2 (s1.trans s2)))
    | true =>
    have s12 := s1.trans s2
    refine iteF ⟨_, rfl, x2, d2, rfl, Dp_same s12 p2, f2, fun H3 s3 => ⟨_, rfl, ?_⟩⟩
    have s13 := s12.trans s3
    cases h2 : dOper d2 with
    | false => exact iteT (q_of (by rw [ea, hU, h1, h2]; rfl) (q H3 s13))
    | true =>
    refine iteF ?_
    rw [hU, h1, h2, Bool.true_and, Bool.true_and, Bool.true_and] at ea
    obtain ⟨ds0, rfl, hw0, hn0, hne0⟩ := unlike_tup hU
    rw [show tupL (.tuple ds0) = ds0 from rfl] at ea
    have hC3 := hC.same s13
    obtain ⟨cc, vr, rfl, hcc⟩ := hC3.ex
    obtain ⟨ao, ps, rfl, hfo, hpo⟩ := hC3.ob.ex
    refine ⟨_, rfl, cc, _, 0, _, rfl, rfl, hcc, atI_nat (j := 0) rfl, ?_⟩
    refine ⟨ao, ps, kvO zs, rfl, hfo, paired_kvO hpo, fun dd hdd => ?_⟩
    have s4 := same_new (o := .dK (mergeK [] (kvO zs))) hdd
    have hD : SizesAt (upd H3 dd (.dK (mergeK [] (kvO zs)))) dd zs := upd_same
    generalize upd H3 dd (.dK (mergeK [] (kvO zs))) = H4 at s4 hD
    have s14 := s13.trans s4
    cases id p0 with
    | @tup a0 xs0 _ hx0 hr00 =>
    have hl0 := DpAll_len hr00
    obtain ⟨M0, f0⟩ := f0
    obtain ⟨hl00, _, _, _⟩ := f0.inTup
    refine ⟨_, rfl, _, rfl, a0, _, rfl, .inr (sameT s14 hx0), x1, d1, _, rfl, Dp_same s14 p1, h1, f1, fun H5 s5 => ⟨_, rfl, ?_⟩⟩
    have s15 := s14.trans s5
    rw [hl0]
    cases hW : within d1 (ds0.length : Nat) with
    | false =>
      rw [hW, Bool.false_and] at ea
      exact iteF (q_of ea (q H5 s15))
    | true =>
    rw [hW, Bool.true_and] at ea
    refine iteT ?_
    have hx5 := sameT s15 hx0
    have hr5 := DpAll_same s15 hr00
    have hD5 := s5 _ _ hD
    refine ⟨_, rfl, a0, rfl, ⟨_, hx5⟩, fun L hL => lc_map (walk_tup (xs := xs0)) (fun i => V.bl ((fun d => within d2 ((sz zs (strL0 d)).getD 0)) (ds0.getD i .none))) hL (fun _ h => sameT h hx5) (big_size (by omega)) ?_ ?_⟩
    · intro i x H6 Q6 hi hxi hs q1
      obtain ⟨d, hdi, hdp⟩ := DpAll_get (DpAll_same hs hr5) hxi
      have e : ds0.getD i .none = d := by simp [List.getD, hdi]
      rw [e] at q1
      obtain ⟨z, k, rfl, _, hk⟩ := hw0 d (List.mem_of_getElem? hdi)
      cases hdp
      have hg := sizes_get (hs _ _ hD5) hC3.ob.asc z
      rw [hk] at hg
      dsimp only at q1
      rw [show strL0 (.str z) = z from rfl, hk] at q1
      exact ⟨_, rfl, _, rfl, _, rfl, dd, _, rfl, hg, x2, d2, k, rfl, Dp_same hs (Dp_same s15 p2), h2, f2, q1⟩
    · intro H6 s6 hL6
      have eL : (List.range xs0.length).map (fun i => V.bl ((fun d => within d2 ((sz zs (strL0 d)).getD 0)) (ds0.getD i .none))) = (ds0.map fun d => within d2 ((sz zs (strL0 d)).getD 0)).map V.bl := by
        apply List.ext_getElem?
        intro i
        simp only [List.getElem?_map]
        by_cases h : i < ds0.length
        · rw [List.getElem?_range (by omega), List.getElem?_eq_getElem h]
          simp [List.getD, h]
        · rw [List.getElem?_eq_none (by first | omega | (simp; omega)), List.getElem?_eq_none (by first | omega | (simp; omega))]
          rfl
      rw [eL] at hL6
      refine ⟨L, _, rfl, SqL.of hL6, ?_⟩
      have eb : (ds0.map fun d => within d2 ((sz zs (strL0 d)).getD 0)).all id = ds0.all fun d => within d2 ((sz zs (strL0 d)).getD 0) := by rw [List.all_map]; rfl
      rw [eb, ← ea]
      exact q H6 (s15.trans s6)
  | non => exact iteT (q H (Same.refl H))
  | bl b => exact iteT (q H (Same.refl H))
  | int i => exact iteT (q H (Same.refl H))
  | str z => exact iteT (q H (Same.refl H))
  | lst h r => exact iteT (q H (Same.refl H))
end
end Sw
set_option maxRecDepth 100000
set_option maxHeartbeats 4000000
namespace Sw
open PySem PySem.Spec PyProof.Rows L2
/-- a walk's turns, whatever is done at each -/
theorem out_it {J : It} {n : Nat} {G : Hp → Prop} {Y : Nat → Hp → V → Hp → Prop} (w : Walk J n G Y) {Body : (Hp → Prop) → V → Hp → Prop} {H0 : Hp} {Qd : Hp → Prop} (Pv : Nat → Hp → Prop) (h0 : Pv 0 H0) (hG : ∀ i H, i ≤ n → Pv i H → G H)
    (hs : ∀ i x H H', i < n → Pv i H → Y i H x H' → Body (Pv (i + 1)) x H') (hd : ∀ H, Pv n H → Qd H) :
    ∃ W : Nat → Nat → Hp → Prop, (∃ m, W 0 m H0) ∧ ∀ i m H, W i m H → (J.stop i H ∧ Qd H) ∨ (J.go i H ∧ ∃ Nx : Hp → Prop, (∀ H', Nx H' → ∃ m', m' < m ∧ W (i + 1) m' H') ∧ ∀ x H', J.yld i H x H' → Body Nx x H') := by
  refine ⟨fun i m H => m = n - i ∧ i ≤ n ∧ Pv i H, ⟨n, by simp, Nat.zero_le _, h0⟩, ?_⟩
  rintro i m H ⟨rfl, hi, p⟩
  have g := hG i H hi p
  by_cases lt : i < n
  · exact .inr ⟨w.goes i H lt g, Pv (i + 1), fun H' p' => ⟨n - (i + 1), by omega, rfl, lt, p'⟩, fun x H' y => hs i x H H' lt p (w.yields i H x H' lt g y)⟩
  · obtain rfl : i = n := by omega
    exact .inl ⟨w.stops H g, hd H p⟩
/-- what an operand may be, by how many there are -/
def chs (d : PyData) (m : Int) : List Int := match d with
  | .int i => [i]
  | _ => (List.range m.toNat).map fun (k : Nat) => (k : Int)
def cellD (c : Str × Int) : PyData := .tuple [.str c.1, .int c.2]
theorem sz_mem {zs : List (Str × Int)} {z : Str} {k : Int} (h : sz zs z = some k) : (z, k) ∈ zs := by
  unfold sz at h
  cases hf : zs.find? fun p => decide (p.1 = z) with
  | none => rw [hf] at h; cases h
  | some y =>
    rw [hf] at h
    have h1 := List.find?_some hf
    have h2 := List.mem_of_find?_eq_some hf
    rw [decide_eq_true_eq] at h1
    have h3 : y.2 = k := Option.some.inj h
    rw [← h1, ← h3]
    exact h2
theorem addr_parts {zs : List (Str × Int)} {d : PyData} (h : addr zs d = true) : ∃ os p i, d = .tuple [.tuple os, p, i] ∧ (∀ x ∈ os, ∃ z k, x = .str z ∧ dWord x = true ∧ sz zs z = some k) ∧ (os.map strL0).Nodup ∧ os ≠ [] ∧ dOper p = true ∧ dOper i = true ∧
    within p os.length = true ∧ ∀ x ∈ os, within i ((sz zs (strL0 x)).getD 0) = true := by
  cases d with
  | tuple ds =>
    by_cases h3 : ds.length = 3
    · obtain ⟨d0, p, i, rfl⟩ := three h3
      rw [addr3, Bool.and_eq_true, Bool.and_eq_true, Bool.and_eq_true, Bool.and_eq_true, List.all_eq_true] at h
      obtain ⟨os, rfl, h1, h2, h4⟩ := unlike_tup h.1.1.1.1
      exact ⟨os, p, i, rfl, h1, h2, h4, h.1.1.1.2, h.1.1.2, h.1.2, h.2⟩
    · rw [addrN h3] at h; cases h
  | _ => cases h
theorem chs_in {d : PyData} {n : Nat} (ho : dOper d = true) (h : within d n = true) : ∀ k ∈ chs d n, ∃ j : Nat, k = (j : Int) ∧ j < n := by
  intro k hk
  cases d with
  | int i =>
    have hk' : k = i := by simpa [chs] using hk
    have h' : (decide (0 ≤ i) && decide (i < (n : Int))) = true := h
    rw [Bool.and_eq_true, decide_eq_true_eq, decide_eq_true_eq] at h'
    exact ⟨i.toNat, by omega, by omega⟩
  | str z =>
    obtain ⟨j, hj, rfl⟩ := List.mem_map.mp (show k ∈ (List.range (n : Int).toNat).map fun (k : Nat) => (k : Int) from hk)
    exact ⟨j, rfl, by have := List.mem_range.mp hj; omega⟩
  | _ => cases ho
theorem chs_len {d : PyData} {m : Int} (h : 1 ≤ m) : ((chs d m).length : Int) ≤ m := by
  cases d with
  | int i => show ((1 : Nat) : Int) ≤ m; omega
  | _ => show (((List.range m.toNat).map fun (k : Nat) => (k : Int)).length : Int) ≤ m; rw [List.length_map, List.length_range]; omega
/-- the list's items are tuples of a text and an int -/
def CellsAt (H : Hp) : List V → List (Str × Int) → Prop := Paired fun v c => ∃ t, v = .ref t ∧ H t = some (.tup [.str c.1, .int c.2])
theorem CellsAt.imp {H H' : Hp} : ∀ {vs : List V} {cs : List (Str × Int)}, CellsAt H vs cs → (∀ t xs, H t = some (.tup xs) → H' t = some (.tup xs)) → CellsAt H' vs cs
  | _, _, .nil, _ => .nil
  | _, _, .cons ⟨t, e, h⟩ r, k => .cons ⟨t, e, k _ _ h⟩ (CellsAt.imp r k)
theorem CellsAt.snoc {H : Hp} {t : Addr} {c : Str × Int} (h : H t = some (.tup [.str c.1, .int c.2])) : ∀ {vs : List V} {cs : List (Str × Int)}, CellsAt H vs cs → CellsAt H (vs ++ [.ref t]) (cs ++ [c])
  | _, _, .nil => .cons ⟨t, rfl, h⟩ .nil
  | _, _, .cons a r => .cons a (CellsAt.snoc h r)
/-- the cell that lies at a value -/
def cellOf (H : Hp) : V → Str × Int
  | .ref t => match H t with
    | some (.tup [.str a, .int b]) => (a, b)
    | _ => (Str.empty, 0)
  | _ => (Str.empty, 0)
theorem CellsAt.all {H : Hp} : ∀ {vs : List V} {cs : List (Str × Int)}, CellsAt H vs cs → vs.map (cellOf H) = cs ∧ ∀ x ∈ vs, ∃ t, x = V.ref t ∧ H t = some (.tup [.str (cellOf H x).1, .int (cellOf H x).2])
  | _, _, .nil => ⟨rfl, fun x hx => by cases hx⟩
  | _, _, .cons (b := c) ⟨t, e, h⟩ r => by
    obtain ⟨i1, i2⟩ := CellsAt.all r
    subst e
    have ec : cellOf H (.ref t) = c := by simp only [cellOf]; rw [h]
    refine ⟨by rw [List.map_cons, i1, ec], fun x hx => ?_⟩
    rcases List.mem_cons.mp hx with rfl | hx
    · exact ⟨t, rfl, by rw [ec]; exact h⟩
    · exact i2 x hx
theorem DpAll_cells {K : PySem.W.Frag} {H : Hp} {k : V → Str × Int} : ∀ {ys : List V}, (∀ x ∈ ys, ∃ t, x = V.ref t ∧ SqT K H t [.str (k x).1, .int (k x).2]) → DpAll K H ys ((ys.map k).map cellD)
  | [], _ => .nil
  | y :: ys, h => by
    obtain ⟨t, e, ht⟩ := h y List.mem_cons_self
    refine .cons ?_ (DpAll_cells fun x hx => h x (List.mem_cons_of_mem _ hx))
    generalize k y = c at ht
    subst e
    exact .tup ht (.cons (.str _) (.cons (.int _) .nil))
section
variable {P : Program} {w : World} {K : PySem.W.Frag} {mg : Str → Option Value} {base : Heap}
def spChoices (K : PySem.W.Frag) : Sp := fun vs H Q _ => ∃ (v : V) (d : PyData) (m : Int), vs = [v, .int m] ∧ Dp K H v d ∧ dOper d = true ∧ (∃ M, Fit M 60 60 1000000 d) ∧ 0 ≤ m ∧ m ≤ 1000 ∧
  ∀ L H', Same H H' → H L = none → H' L = some (.lst ((chs d m).map V.int)) → Q (.ref L) H'
theorem sc_choices : FnScope ["operand", "many"] ["operand", "many"] (defScope (topS 10)) := ⟨rfl, rfl, rfl, by decide +kernel, rfl, by decide +kernel, by decide +kernel⟩
theorem ok_choices {f f2 : Addr} {fd fd2 : FuncData} (D : Df K mg "choices" (topS 10) ["operand", "many"] f fd) (D2 : Df K mg "is_word" (topS 3) ["thing"] f2 fd2) (B : Bt mg)
    (G2 : FnOk P w K mg base CX0 1 f2 fd2 ["thing"] (spLook K dWord)) : FnOk P w K mg base CX0 2 f fd ["operand", "many"] (spChoices K) := by
  refine D.fn.ok sc_choices (fun vs H Q E h => ?_) (fun cdv A outer s H vs Q E hr h => ?_)
  · obtain ⟨v, d, m, rfl, _⟩ := h
    rfl
  obtain ⟨v, d, m, rfl, hd, ho, hf, m0, m1, q⟩ := h
  refine ⟨_, pss_one (ps_ret (pe_ifExp (pt_val (pe_call G2 hr (by rfl) D2.gl D2.fn.kp D2.bd .nil pass0 (pa_cons (pv 0) pa_nil))) (pe_listRg rfl (by rfl) B.list (prg_1 (by rfl) B.range (pv 1))) (pe_lst (pa_cons (pv 0) pa_nil)))), ?_⟩
  refine ⟨v, rfl, v, d, rfl, hd, hf, fun H1 s1 => ⟨_, rfl, ?_⟩⟩
  have hd1 := Dp_same s1 hd
  cases d with
  | str z =>
    refine ite2 (fun c => ?_) (fun c => ?_)
    · refine ⟨_, rfl, m, rfl, RgOk.of_le (by omega) (by omega) (by omega) (by omega), fun L hL => q L _ (s1.trans (same_new hL)) (s1.free hL) ?_⟩
      rw [upd_same]
      unfold rgV chs
      rw [List.map_map]
      simp [Function.comp_def]
    · unfold dOper at ho
      rw [show dNum (.str z) = false from rfl, Bool.false_or] at ho
      exact absurd ho c
  | int i =>
    refine iteF ?_
    cases hd1
    exact ⟨_, rfl, by show 1 ≤ sizeLine; decide, fun L hL => q L _ (s1.trans (same_new hL)) (s1.free hL) upd_same⟩
  | none => cases ho
  | bool _ => cases ho
  | list _ => cases ho
  | tuple _ => cases ho
  | dict _ => cases ho
def pickL (os : List PyData) (p : PyData) : List Str := (chs p os.length).map fun k => strL0 (os.getD k.toNat .none)
def faceL (zs : List (Str × Int)) : PyData → List (Str × Int)
  | .tuple [.tuple os, p, i] => (pickL os p).flatMap fun z => (chs i ((sz zs z).getD 0)).map fun k => (z, k)
  | _ => []
def spFace (K : PySem.W.Frag) : Sp := fun vs H Q _ => ∃ (c vo v : V) (zs : List (Str × Int)) (d : PyData), vs = [c, v] ∧ CodeAt K H c vo zs ∧ Dp K H v d ∧ (∃ M, Fit M 60 60 1000000 d) ∧ addr zs d = true ∧
  ∀ v' H' cs, Same H H' → Dp K H' v' (.tuple (cs.map cellD)) → SrtO.Srtd ltSI cs → cs.Perm (faceL zs d) → cs.length ≤ 240 → Q v' H'
theorem sc_face : FnScope ["code", "address", "objects", "pick", "index", "sizes", "picked", "at", "word"] ["code", "address"] (defScope (topS 11)) := ⟨rfl, rfl, rfl, by decide +kernel, rfl, by decide +kernel, by decide +kernel⟩
theorem ok_face {f f1 : Addr} {fd fd1 : FuncData} (D : Df K mg "face" (topS 11) ["code", "address"] f fd) (D1 : Df K mg "choices" (topS 10) ["operand", "many"] f1 fd1) (B : Bt mg) (bD : mg "dict" = none)
    (G1 : FnOk P w K mg base CX0 2 f1 fd1 ["operand", "many"] (spChoices K)) : FnOk P w K mg base CX0 3 f fd ["code", "address"] (spFace K) := by
  refine D.fn.ok sc_face (fun vs H Q E h => ?_) (fun cdv A outer s H vs Q E hr h => ?_)
  · obtain ⟨c, vo, v, zs, d, rfl, _⟩ := h
    rfl
  obtain ⟨vc, vo, v, zs, d, rfl, hC, hd, ⟨M, hf⟩, hA, q⟩ := h
  have nd := sc_face.nd
  refine ⟨_, pss_cons (ps_asg (pv 1) (pg_tup rfl (pgs_cons (pg_name (i := 2) nd rfl (Or.inr rfl)) (pgs_cons (pg_name (i := 3) nd rfl (Or.inl rfl)) (pgs_cons (pg_name (i := 4) nd rfl (Or.inr rfl)) pgs_nil)))))
    (pss_cons (ps_set (i := 5) nd rfl (Or.inr rfl) (pe_callTy (call_dictT rfl) (by rfl) bD (by decide +kernel) (pa_cons (pe_ix ix_tup (pv 0) pe_int (fun _ _ => rfl)) pa_nil)))
    (pss_cons (ps_setLc (i := 6) (own := [("at", 7)]) (g := gName 7) (tt := tYes) rfl nd rfl rfl (sw_true rfl rfl rfl (by decide +kernel)) (pi_list (pe_call G1 hr (by rfl) D1.gl D1.fn.kp D1.bd .nil pass0 (pa_cons (pv 3) (pa_cons (pe_callB call_len_seq (by rfl) B.len PySem.boot_len (pa_cons (pv 2) pa_nil)) pa_nil))))
        (blkOk_by (N := ["code", "address", "objects", "pick", "index", "sizes", "picked", "at", "word"]) (sc := defScope (topS 11)) (by decide +kernel)) (fun _ _ _ _ _ => pg_name (i := 7) nd rfl (Or.inl rfl)) (fun _ _ _ _ _ => pts_nil)
        (fun _ _ _ _ _ => pe_ix (r := rIxT K) ix_tup (pv 2) (pv 7) (fun _ _ => rfl)))
    (pss_one (ps_ret (pe_callTy call_tuple_of (by rfl) B.tuple (by decide +kernel) (pa_cons (pe_callB cr_sortedSI (by rfl) B.sorted (by decide +kernel) (pa_cons
      (pe_lc2 (own := [("word", 8), ("at", 7)]) (vs1 := [7]) (g := gName 8) (tt := tYes) (g1 := gName 7) (tt1 := tYes) (wi1 := iList K (tCall (spChoices K) [] E0 (tCons (tVar 4) (tCons (tDGet (tVar 5) (tVar 8)) tNil)))) (te := tTup (tCons (tVar 8) (tCons (tVar 7) tNil))) rfl nd (pi_list (pv 6))
        (blkOk_by (N := ["code", "address", "objects", "pick", "index", "sizes", "picked", "at", "word"]) (sc := defScope (topS 11)) (by decide +kernel)) (by decide) (fun _ _ _ _ _ => pg_name (i := 8) nd rfl (Or.inl rfl)) (fun _ _ _ _ _ => pts_nil)
        (fun _ _ _ _ _ => pi_list (pe_call G1 hr (by rfl) D1.gl D1.fn.kp D1.bd .nil pass0 (pa_cons (pv 4) (pa_cons (pe_dget (by have h := hu_of hr; exact h) (pv 5) (pv 8) (fun _ _ => rfl)) pa_nil)))) (fun _ _ _ _ _ => pg_name (i := 7) nd rfl (Or.inl rfl)) (fun _ _ _ _ _ => pts_nil)
        (fun _ _ _ _ _ => pe_tup (pa_cons (pv 8) (pa_cons (pv 7) pa_nil)))) pa_nil)) pa_nil)))))), ?_⟩
  clear G1 D1 D B bD hr
  obtain ⟨os, p, ix, rfl, hw, hnd, hne, hp, hi, hwp, hwi⟩ := addr_parts hA
  have hasc := hC.ob.asc
  have hwd := hC.ob.wd
  cases hd with
  | @tup a xs _ hx hr0 =>
  obtain ⟨_, _, _, hin⟩ := hf.inTup
  have ft : ∀ e ∈ [.tuple os, p, ix], ∃ M, Fit M 60 60 1000000 e := fun e he => ⟨M, (hin e he).mono (Nat.le_refl _) (Nat.le_refl _) (by omega) (Nat.le_refl _)⟩
  obtain ⟨M0, f0⟩ := ft (.tuple os) (by simp)
  have fp := ft p (by simp)
  have fi := ft ix (by simp)
  have hos : os.length ≤ 60 := f0.inTup.1
  obtain ⟨x0, x1, x2, rfl⟩ := three (DpAll_len hr0)
  cases hr0 with
  | cons p0 r0 =>
  cases r0 with
  | cons p1 r1 =>
  cases r1 with
  | cons p2 r2 =>
  cases id p0 with
  | @tup a0 xs0 _ hx0 hr00 =>
  have hl0 := DpAll_len hr00
  refine ⟨_, rfl, a, _, rfl, hx, rfl, _, _, rfl, x1, _, rfl, x2, _, rfl, rfl, ?_⟩
  obtain ⟨cc, vr, rfl, hcc⟩ := hC.ex
  obtain ⟨ao, ps, rfl, hfo, hpo⟩ := hC.ob.ex
  refine ⟨_, rfl, cc, _, 0, _, rfl, rfl, hcc, atI_nat (j := 0) rfl, ao, ps, kvO zs, rfl, hfo, paired_kvO hpo, fun dd hdd => ?_⟩
  have s1 := same_new (o := .dK (mergeK [] (kvO zs))) hdd
  have hD : SizesAt (upd H dd (.dK (mergeK [] (kvO zs)))) dd zs := upd_same
  generalize upd H dd (.dK (mergeK [] (kvO zs))) = H1 at s1 hD
  refine ⟨_, rfl, _, rfl, a0, _, rfl, .inr (sameT s1 hx0), x1, p, _, rfl, Dp_same s1 p1, hp, fp, by omega, by omega, fun L H2 s2 nL eL => ?_⟩
  rw [hl0] at eL
  have s12 := s1.trans s2
  have hx2 := sameT s12 hx0
  have hr2 := DpAll_same s12 hr00
  have hcin := chs_in hp hwp
  have hlc : ((chs p os.length).map V.int).length = (pickL os p).length := by unfold pickL; rw [List.length_map, List.length_map]
  have hclen : (chs p (os.length : Nat)).length ≤ 60 := by
    have := chs_len (d := p) (m := (os.length : Nat)) (by have : os.length ≠ 0 := fun z => hne (List.eq_nil_of_length_eq_zero z); omega)
    omega
  refine ⟨L, rfl, ⟨_, SqL.of eL⟩, fun D1 hD1 => lc_map (walk_list (xs := (chs p (os.length : Nat)).map V.int)) (fun j => V.str ((pickL os p).getD j Str.empty)) hD1 (fun H' h => SqL.of (h _ _ eL)) (big_size (by rw [List.length_map]; omega)) ?_ ?_⟩
  · intro j x H3 Q3 hj hxj hs q1
    rw [List.getElem?_map] at hxj
    rw [List.length_map] at hj
    rw [List.getElem?_eq_getElem hj] at hxj
    have hxj' : V.int (chs p (os.length : Nat))[j] = x := Option.some.inj hxj
    subst hxj'
    obtain ⟨k, ek, hk⟩ := hcin _ (List.getElem_mem hj)
    obtain ⟨z, kz, ez, _, _⟩ := hw os[k] (List.getElem_mem hk)
    have hos2 : os[k]? = some (.str z) := by rw [List.getElem?_eq_getElem hk, ez]
    obtain ⟨v, hv, hdv⟩ := DpAll_get' (DpAll_same hs hr2) hos2
    cases hdv
    have eg : (pickL os p).getD j Str.empty = z := by
      unfold pickL
      rw [List.getD, List.getElem?_map, List.getElem?_eq_getElem hj]
      show strL0 (os.getD ((chs p (os.length : Nat))[j]).toNat .none) = z
      rw [ek]
      simp [List.getD, hos2, strL0]
    rw [eg] at q1
    rw [ek]
    exact ⟨_, rfl, _, rfl, a0, _, _, _, rfl, rfl, sameT hs hx2, atI_nat hv, q1 H3 (Same.refl H3)⟩
  intro H3 s3 hD3
  have e3 : (List.range ((chs p (os.length : Nat)).map V.int).length).map (fun j => V.str ((pickL os p).getD j Str.empty)) = (pickL os p).map V.str := by
    rw [hlc]
    apply List.ext_getElem?
    intro j
    simp only [List.getElem?_map]
    by_cases h : j < (pickL os p).length
    · rw [List.getElem?_range h, List.getElem?_eq_getElem h]
      simp [List.getD, h]
    · rw [List.getElem?_eq_none (by simpa using h), List.getElem?_eq_none (by simpa using h)]
      rfl
  rw [e3] at hD3
  have s13 := s12.trans s3
  have hSz : SizesAt H3 dd zs := s3 _ _ (s2 _ _ hD)
  have hpw : ∀ z ∈ pickL os p, ∃ k, sz zs z = some k ∧ 1 ≤ k ∧ k ≤ 4 := by
    intro z hz
    obtain ⟨k, hk, rfl⟩ := List.mem_map.mp hz
    obtain ⟨j, rfl, hj⟩ := hcin k hk
    obtain ⟨z, kz, ez, _, hs⟩ := hw os[j] (List.getElem_mem hj)
    have e : os.getD ((j : Int).toNat) .none = .str z := by
      rw [Int.toNat_natCast, List.getD, List.getElem?_eq_getElem hj, ez]
      rfl
    rw [e]
    have := hwd _ (sz_mem hs)
    exact ⟨kz, hs, this.2.1, this.2.2⟩
  have hpl : (pickL os p).length ≤ 60 := by rw [← hlc, List.length_map]; exact hclen
  have d2 := Dp_same s13 p2
  clear hx2 hr2 eL nL s2 s3 hD s12 s1 hcc hfo hpo p0 p1 p2 hx hx0 hr00
  -- the cells
  refine ⟨_, rfl, D1, rfl, ⟨_, SqL.of hD3⟩, fun D2 hD2 => out_it (walk_list (xs := (pickL os p).map V.str)) (fun n H' => Same H3 H' ∧ ∃ vs cs, H' D2 = some (.lst vs) ∧ CellsAt H' vs cs ∧ cs = ((pickL os p).take n).flatMap (fun z => (chs ix ((sz zs z).getD 0)).map fun k => (z, k)) ∧ vs.length ≤ 4 * n)
    ⟨same_new hD2, [], [], upd_same, .nil, rfl, Nat.zero_le _⟩ (fun n H' _ h => SqL.of (h.1 _ _ hD3)) ?_ ?_⟩
  · rintro n x H4 H5 hn ⟨s4, vs, cs, hv4, hc4, ecs, hvl⟩ ⟨rfl, hxn⟩
    rw [List.length_map] at hn
    rw [List.getElem?_map, List.getElem?_eq_getElem hn] at hxn
    have hxn' : V.str (pickL os p)[n] = x := Option.some.inj hxn
    subst hxn'
    obtain ⟨kz, hkz, k1, k4⟩ := hpw _ (List.getElem_mem hn)
    have etk : (pickL os p).take (n + 1) = (pickL os p).take n ++ [(pickL os p)[n]] := by rw [List.take_succ, List.getElem?_eq_getElem hn]; rfl
    generalize (pickL os p)[n] = z at hkz etk
    have hg := sizes_get (s4 _ _ hSz) hasc z
    rw [hkz] at hg
    refine ⟨rfl, ?_⟩
    unfold tYes
    dsimp only
    rw [if_pos rfl]
    refine ⟨_, rfl, _, rfl, _, rfl, dd, _, rfl, hg, x2, ix, kz, rfl, Dp_same s4 d2, hi, fi, by omega, by omega, fun L2 H6 s6 nL2 eL2 => ?_⟩
    have hcl := chs_len (d := ix) (m := kz) k1
    have nLD : L2 ≠ D2 := Ne.symm (ne_of_none hv4 nL2)
    have hc6 : CellsAt H6 vs cs := hc4.imp fun t xs h => s6 _ _ h
    refine ⟨L2, rfl, ⟨_, SqL.of eL2⟩, out_it (walk_list (xs := (chs ix kz).map V.int)) (fun j H' => Same H3 H' ∧ H' L2 = some (.lst ((chs ix kz).map V.int)) ∧ ∃ vs2 cs2, H' D2 = some (.lst vs2) ∧ CellsAt H' vs2 cs2 ∧ cs2 = cs ++ ((chs ix kz).take j).map (fun k => (z, k)) ∧ vs2.length ≤ 4 * n + j)
      ⟨s4.trans s6, eL2, vs, cs, s6 _ _ hv4, hc6, by simp, by omega⟩ (fun j H' _ h => SqL.of h.2.1) ?_ ?_⟩
    · rintro j y H7 H8 hj ⟨s7, hL7, vs2, cs2, hv7, hc7, ec7, hl7⟩ ⟨rfl, hyj⟩
      rw [List.length_map] at hj
      rw [List.getElem?_map, List.getElem?_eq_getElem hj] at hyj
      have hyj' : V.int (chs ix kz)[j] = y := Option.some.inj hyj
      subst hyj'
      have etk2 : (chs ix kz).take (j + 1) = (chs ix kz).take j ++ [(chs ix kz)[j]] := by rw [List.take_succ, List.getElem?_eq_getElem hj]; rfl
      generalize (chs ix kz)[j] = k at etk2
      refine ⟨rfl, ?_⟩
      rw [if_pos rfl]
      refine ⟨_, rfl, _, rfl, by show 2 ≤ sizeLine; decide, fun t ht => ?_⟩
      have nt : t ≠ D2 := Ne.symm (ne_of_none hv7 ht)
      have s8 := same_new (o := .tup [.str z, .int k]) ht
      have e8 : upd H8 t (.tup [.str z, .int k]) t = some (.tup [.str z, .int k]) := upd_same
      generalize upd H8 t (.tup [.str z, .int k]) = H9 at s8 e8
      have k9 : ∀ t' xs, H9 t' = some (.tup xs) → upd H9 D2 (.lst (vs2 ++ [.ref t])) t' = some (.tup xs) := fun t' xs h => by
        have : t' ≠ D2 := fun e => by rw [e, s8 _ _ hv7] at h; cases h
        rw [upd_ne this]
        exact h
      refine ⟨vs2, s8 _ _ hv7, small1000 (by omega), fun c o e => ?_, ?_, vs2 ++ [.ref t], cs2 ++ [(z, k)], upd_same, ?_, ?_, by rw [List.length_append]; show vs2.length + 1 ≤ _; omega⟩
      · have : c ≠ D2 := ne_of_none e hD2
        rw [upd_ne this]
        exact s8 _ _ (s7 _ _ e)
      · rw [upd_ne nLD]
        exact s8 _ _ hL7
      · exact CellsAt.snoc (k9 _ _ e8) ((hc7.imp fun t xs h => s8 _ _ h).imp k9)
      · rw [ec7, etk2, List.map_append, List.append_assoc]
        rfl
    · rintro H7 ⟨s7, hL7, vs2, cs2, hv7, hc7, ec7, hl7⟩
      rw [List.length_map] at hl7 ec7
      refine ⟨s7, vs2, cs2, hv7, hc7, ?_, by omega⟩
      rw [ec7, List.take_length, etk, List.flatMap_append, ecs]
      show _ = _ ++ (((chs ix ((sz zs z).getD 0)).map fun k => (z, k)) ++ [])
      rw [hkz, List.append_nil]
      rfl
  rintro H4 ⟨s4, vs, cs, hv4, hc4, ecs, hvl⟩
  rw [List.length_map, List.take_length] at ecs
  rw [List.length_map] at hvl
  obtain ⟨em, hall⟩ := hc4.all
  refine ⟨D2, vs, cellOf H4, rfl, SqL.of hv4, fun x hx => ?_, fun ys S hso hpm hS => ?_⟩
  · obtain ⟨t, e, h⟩ := hall x hx
    exact ⟨t, e, SqT.of h⟩
  refine ⟨S, ys, rfl, .inl ⟨SqL.of upd_same, fun T hT => ?_⟩⟩
  have s5 := (same_new (o := .lst ys) hS).trans (same_new (o := .tup ys) hT)
  refine q (.ref T) _ (ys.map (cellOf H4)) (s13.trans (s4.trans s5)) (.tup (SqT.of upd_same) (DpAll_cells fun x hx => ?_)) ?_ ?_ ?_
  · obtain ⟨t, e, h⟩ := hall x (hpm.mem_iff.mp hx)
    exact ⟨t, e, SqT.of (s5 _ _ h)⟩
  · exact List.pairwise_map.mpr hso
  · have h1 := hpm.map (cellOf H4)
    rw [em, ecs] at h1
    exact h1
  · rw [List.length_map, hpm.length_eq]
    omega
end
end Sw
set_option maxRecDepth 100000
set_option maxHeartbeats 4000000
namespace Sw
open PySem PySem.Spec PyProof.Rows L2
theorem paired_get {α β : Type} {R : α → β → Prop} : ∀ {l : List α} {m : List β} {n : Nat} {a : α}, Paired R l m → l[n]? = some a → ∃ b, m[n]? = some b ∧ R a b
  | _, _, _, _, .nil, e => by simp at e
  | _, _, 0, _, .cons h _, e => by simp at e; subst e; exact ⟨_, rfl, h⟩
  | _, _, n + 1, a, .cons _ t, e => by
    obtain ⟨b, h1, h2⟩ := paired_get (n := n) (a := a) t (by simpa using e)
    exact ⟨b, by simpa using h1, h2⟩
section
variable {P : Program} {w : World} {K : PySem.W.Frag} {mg : Str → Option Value} {base : Heap}
def spSure (K : PySem.W.Frag) : Sp := fun vs H Q _ => ∃ (c vo v : V) (zs : List (Str × Int)) (d : PyData), vs = [c, v] ∧ CodeAt K H c vo zs ∧ Dp K H v d ∧ (∃ M, Fit M 60 60 1000000 d) ∧ addr zs d = true ∧
  ∀ H', Same H H' → Q (.bl (decide ((faceL zs d).length = 1))) H'
theorem sc_sure : FnScope ["code", "address"] ["code", "address"] (defScope (topS 12)) := ⟨rfl, rfl, rfl, by decide +kernel, rfl, by decide +kernel, by decide +kernel⟩
theorem int_one {n : Nat} : decide (V.int (n : Int) = V.int 1) = decide (n = 1) := by
  by_cases h : n = 1
  · subst h; simp
  · have : ¬ (V.int (n : Int) = V.int 1) := fun z => h (by injection z with z; omega)
    simp [h, this]
theorem ok_sure {f f1 : Addr} {fd fd1 : FuncData} (D : Df K mg "is_sure" (topS 12) ["code", "address"] f fd) (D1 : Df K mg "face" (topS 11) ["code", "address"] f1 fd1) (B : Bt mg)
    (G1 : FnOk P w K mg base CX0 3 f1 fd1 ["code", "address"] (spFace K)) : FnOk P w K mg base CX0 4 f fd ["code", "address"] (spSure K) := by
  refine D.fn.ok sc_sure (fun vs H Q E h => ?_) (fun cdv A outer s H vs Q E hr h => ?_)
  · obtain ⟨c, vo, v, zs, d, rfl, _⟩ := h
    rfl
  obtain ⟨vc, vo, v, zs, d, rfl, hC, hd, hf, hA, q⟩ := h
  refine ⟨_, pss_one (ps_ret (pe_cmpR op_eq (pe_callB call_len_seq (by rfl) B.len PySem.boot_len (pa_cons (pe_call G1 hr (by rfl) D1.gl D1.fn.kp D1.bd .nil pass0 (pa_cons (pv 0) (pa_cons (pv 1) pa_nil))) pa_nil)) pe_int (nomark _))), ?_⟩
  refine ⟨_, rfl, _, rfl, vc, vo, v, zs, d, rfl, hC, hd, hf, hA, fun v' H' cs s1 dc hso hpm hl => ?_⟩
  cases dc with
  | @tup a xs _ hx hr0 =>
    have hlen := DpAll_len hr0
    rw [List.length_map] at hlen
    refine ⟨a, _, rfl, .inr hx, rfl, ?_⟩
    rw [int_one, hlen, hpm.length_eq]
    exact q H' s1
/-- pick or index is a NAME -/
def named : PyData → Bool
  | .tuple [_, p, i] => isaStr p || isaStr i
  | _ => false
def spFault (K : PySem.W.Frag) : Sp := fun vs H Q _ => ∃ (v : V) (zs : List (Str × Int)) (d : PyData), vs = [v] ∧ Dp K H v d ∧ (∃ M, Fit M 60 60 1000000 d) ∧ addr zs d = true ∧ ∀ H', Same H H' → Q (.bl (named d)) H'
theorem sc_fault : FnScope ["address"] ["address"] (defScope (topS 13)) := ⟨rfl, rfl, rfl, by decide +kernel, rfl, by decide +kernel, by decide +kernel⟩
theorem oper_word {d : PyData} (h : dOper d = true) : dWord d = isaStr d := by
  cases d with
  | str z =>
    unfold dOper at h
    rw [show dNum (.str z) = false from rfl, Bool.false_or] at h
    exact h
  | _ => first | rfl | cases h
theorem ok_fault {f f2 : Addr} {fd fd2 : FuncData} (D : Df K mg "can_fault" (topS 13) ["address"] f fd) (D2 : Df K mg "is_word" (topS 3) ["thing"] f2 fd2)
    (G2 : FnOk P w K mg base CX0 1 f2 fd2 ["thing"] (spLook K dWord)) : FnOk P w K mg base CX0 2 f fd ["address"] (spFault K) := by
  refine D.fn.ok sc_fault (fun vs H Q E h => ?_) (fun cdv A outer s H vs Q E hr h => ?_)
  · obtain ⟨v, zs, d, rfl, _⟩ := h
    rfl
  obtain ⟨v, zs, d, rfl, hd, ⟨M, hf⟩, hA, q⟩ := h
  refine ⟨_, pss_one (ps_ret (pe_or (pe_call G2 hr (by rfl) D2.gl D2.fn.kp D2.bd .nil pass0 (pa_cons (pe_ix ix_tup (pv 0) pe_int (fun _ _ => rfl)) pa_nil)) (pe_one (pe_call G2 hr (by rfl) D2.gl D2.fn.kp D2.bd .nil pass0 (pa_cons (pe_ix ix_tup (pv 0) pe_int (fun _ _ => rfl)) pa_nil))))), ?_⟩
  obtain ⟨os, p, ix, rfl, hw, hnd, hne, hp, hi, hwp, hwi⟩ := addr_parts hA
  cases hd with
  | @tup a xs _ hx hr0 =>
  obtain ⟨_, _, _, hin⟩ := hf.inTup
  have ft : ∀ e ∈ [.tuple os, p, ix], ∃ M, Fit M 60 60 1000000 e := fun e he => ⟨M, (hin e he).mono (Nat.le_refl _) (Nat.le_refl _) (by omega) (Nat.le_refl _)⟩
  have fp := ft p (by simp)
  have fi := ft ix (by simp)
  obtain ⟨x0, x1, x2, rfl⟩ := three (DpAll_len hr0)
  cases hr0 with
  | cons p0 r0 =>
  cases r0 with
  | cons p1 r1 =>
  cases r1 with
  | cons p2 r2 =>
  have e1 := oper_word hp
  have e2 := oper_word hi
  refine ⟨_, rfl, a, _, 1, _, rfl, rfl, hx, atI_nat (j := 1) rfl, x1, p, rfl, p1, fp, fun H1 s1 => ⟨_, rfl, ?_⟩⟩
  rw [e1]
  cases hb : isaStr p with
  | true => exact iteT (q_of (by show (isaStr p || isaStr ix) = true; rw [hb]; rfl) (q H1 s1))
  | false =>
    refine iteF ⟨_, rfl, a, _, 2, _, rfl, rfl, sameT s1 hx, atI_nat (j := 2) rfl, x2, ix, rfl, Dp_same s1 p2, fi, fun H2 s2 => ?_⟩
    rw [e2]
    exact q_of (by show (isaStr p || isaStr ix) = isaStr ix; rw [hb]; rfl) (q H2 (s1.trans s2))
/-- all CELLS of OBJECTS, in their order -/
def cellsL (zs : List (Str × Int)) : List (Str × Int) := zs.flatMap fun p => (List.range p.2.toNat).map fun (k : Nat) => (p.1, (k : Int))
def spCells (K : PySem.W.Frag) : Sp := fun vs H Q _ => ∃ (c vo : V) (zs : List (Str × Int)), vs = [c] ∧ CodeAt K H c vo zs ∧ ∀ v' H', Same H H' → Dp K H' v' (.tuple ((cellsL zs).map cellD)) → Q v' H'
theorem sc_cells : FnScope ["code", "word", "size", "index"] ["code"] (defScope (topS 6)) := ⟨rfl, rfl, rfl, by decide +kernel, rfl, by decide +kernel, by decide +kernel⟩
theorem ok_cells {f : Addr} {fd : FuncData} (D : Df K mg "cells_in" (topS 6) ["code"] f fd) (B : Bt mg) : FnOk P w K mg base CX0 1 f fd ["code"] (spCells K) := by
  refine D.fn.ok sc_cells (fun vs H Q E h => ?_) (fun cdv A outer s H vs Q E hr h => ?_)
  · obtain ⟨c, vo, zs, rfl, _⟩ := h
    rfl
  obtain ⟨vc, vo, zs, rfl, hC, q⟩ := h
  have nd := sc_cells.nd
  refine ⟨_, pss_one (ps_ret (pe_callTy call_tuple_of (by rfl) B.tuple (by decide +kernel) (pa_cons
      (pe_lc2 (own := [("word", 1), ("size", 2), ("index", 3)]) (vs1 := [3]) (g := gTup K 2 (gCons (gName 1) (gCons (gName 2) gNil))) (tt := tYes) (g1 := gName 3) (tt1 := tYes) (wi1 := iRng1 (tCons (tVar 2) tNil)) (te := tTup (tCons (tVar 1) (tCons (tVar 3) tNil))) rfl nd (pi_tup (pe_ix (r := rIxT K) ix_tup (pv 0) pe_int (fun _ _ => rfl)))
        (blkOk_by (N := ["code", "word", "size", "index"]) (sc := defScope (topS 6)) (by decide +kernel)) (by decide) (fun _ _ _ _ _ => pg_tup rfl (pgs_cons (pg_name (i := 1) nd rfl (Or.inl rfl)) (pgs_cons (pg_name (i := 2) nd rfl (Or.inl rfl)) pgs_nil))) (fun _ _ _ _ _ => pts_nil)
        (fun _ _ _ _ _ => pi_range1 (by rfl) B.range (pa_cons (pv 2) pa_nil)) (fun _ _ _ _ _ => pg_name (i := 3) nd rfl (Or.inl rfl)) (fun _ _ _ _ _ => pts_nil)
        (fun _ _ _ _ _ => pe_tup (pa_cons (pv 1) (pa_cons (pv 3) pa_nil)))) pa_nil))), ?_⟩
  clear D B hr
  have hwd := hC.ob.wd
  have hfew := hC.ob.few
  obtain ⟨cc, vr, rfl, hcc⟩ := hC.ex
  obtain ⟨ao, ps, rfl, hfo, hpo⟩ := hC.ob.ex
  have hlp : ps.length = zs.length := hpo.length
  have hsq : SqT K H ao (ps.map V.ref) := hfo.sq
  refine ⟨_, rfl, cc, _, 0, _, rfl, rfl, hcc, atI_nat (j := 0) rfl, ao, rfl, ⟨_, hsq⟩, fun D2 hD2 => out_it (walk_tup (xs := ps.map V.ref)) (fun n H' => Same H H' ∧ ∃ vs cs, H' D2 = some (.lst vs) ∧ CellsAt H' vs cs ∧ cs = (zs.take n).flatMap (fun p => (List.range p.2.toNat).map fun (k : Nat) => (p.1, (k : Int))) ∧ vs.length ≤ 4 * n)
    ⟨same_new hD2, [], [], upd_same, .nil, rfl, Nat.zero_le _⟩ (fun n H' _ h => sameT h.1 hsq) ?_ ?_⟩
  · rintro n x H4 H5 hn ⟨s4, vs, cs, hv4, hc4, ecs, hvl⟩ ⟨rfl, hxn⟩
    rw [List.length_map] at hn
    rw [List.getElem?_map, List.getElem?_eq_getElem hn] at hxn
    have hxn' : V.ref ps[n] = x := Option.some.inj hxn
    subst hxn'
    obtain ⟨zk, hzk, hsz⟩ := paired_get hpo (List.getElem?_eq_getElem hn)
    obtain ⟨_, k1, k4⟩ := hwd zk (List.mem_of_getElem? hzk)
    have etk : zs.take (n + 1) = zs.take n ++ [zk] := by rw [List.take_succ, hzk]; rfl
    obtain ⟨z, kz⟩ := zk
    dsimp only at hsz k1 k4
    refine ⟨_, _, rfl, sameT s4 hsz, rfl, _, _, rfl, _, _, rfl, rfl, rfl, ?_⟩
    unfold tYes
    dsimp only
    rw [if_pos rfl]
    refine ⟨_, rfl, kz, rfl, by omega, by omega, out_it walk_range (fun j H' => Same H H' ∧ ∃ vs2 cs2, H' D2 = some (.lst vs2) ∧ CellsAt H' vs2 cs2 ∧ cs2 = cs ++ (List.range j).map (fun (k : Nat) => (z, (k : Int))) ∧ vs2.length ≤ 4 * n + j)
      ⟨s4, vs, cs, hv4, hc4, by simp, by omega⟩ (fun _ _ _ _ => trivial) ?_ ?_⟩
    · rintro j y H7 H8 hj ⟨s7, vs2, cs2, hv7, hc7, ec7, hl7⟩ ⟨rfl, rfl⟩
      dsimp only
      rw [Int.zero_add]
      refine ⟨rfl, ?_⟩
      rw [if_pos rfl]
      refine ⟨_, rfl, _, rfl, by show 2 ≤ sizeLine; decide, fun t ht => ?_⟩
      have s8 := same_new (o := .tup [.str z, .int (j : Int)]) ht
      have e8 : upd H8 t (.tup [.str z, .int (j : Int)]) t = some (.tup [.str z, .int (j : Int)]) := upd_same
      generalize upd H8 t (.tup [.str z, .int (j : Int)]) = H9 at s8 e8
      have k9 : ∀ t' xs, H9 t' = some (.tup xs) → upd H9 D2 (.lst (vs2 ++ [.ref t])) t' = some (.tup xs) := fun t' xs h => by
        have : t' ≠ D2 := fun e => by rw [e, s8 _ _ hv7] at h; cases h
        rw [upd_ne this]
        exact h
      refine ⟨vs2, s8 _ _ hv7, small1000 (by omega), fun c o e => ?_, vs2 ++ [.ref t], cs2 ++ [(z, (j : Int))], upd_same, ?_, ?_, by rw [List.length_append]; show vs2.length + 1 ≤ _; omega⟩
      · have : c ≠ D2 := ne_of_none e hD2
        rw [upd_ne this]
        exact s8 _ _ (s7 _ _ e)
      · exact CellsAt.snoc (k9 _ _ e8) ((hc7.imp fun t xs h => s8 _ _ h).imp k9)
      · rw [ec7, List.range_succ, List.map_append, List.append_assoc]
        rfl
    · rintro H7 ⟨s7, vs2, cs2, hv7, hc7, ec7, hl7⟩
      refine ⟨s7, vs2, cs2, hv7, hc7, ?_, by omega⟩
      rw [ec7, etk, List.flatMap_append, ecs]
      show _ = _ ++ (((List.range kz.toNat).map fun (k : Nat) => (z, (k : Int))) ++ [])
      rw [List.append_nil]
  rintro H4 ⟨s4, vs, cs, hv4, hc4, ecs, hvl⟩
  rw [List.length_map, hlp, List.take_length] at ecs
  obtain ⟨em, hall⟩ := hc4.all
  refine ⟨D2, vs, rfl, .inl ⟨SqL.of hv4, fun T hT => ?_⟩⟩
  have s5 := same_new (o := .tup vs) hT
  have dA := DpAll_cells (K := K) (H := upd H4 T (.tup vs)) (k := cellOf H4) (ys := vs) fun x hx => by
    obtain ⟨t, e, h⟩ := hall x hx
    exact ⟨t, e, SqT.of (s5 _ _ h)⟩
  rw [em, ecs] at dA
  exact q (.ref T) _ (s4.trans s5) (.tup (SqT.of upd_same) dA)
end
end Sw
set_option maxRecDepth 100000
set_option maxHeartbeats 4000000
namespace Sw
open PySem PySem.Spec PyProof.Rows L2
theorem pw_of_sorted {ys : List Str} (hs : sortedS ys = true) (nd : ys.Nodup) : ys.Pairwise LtS := by
  cases ys with
  | nil => exact .nil
  | cons p r => exact sorted_pw p r hs nd
/-- pairs that lie in the abstract heap itself -/
def LiePs (H : Hp) : List Addr → List (Str × Int) → Prop := Paired fun t (z : Str × Int) => H t = some (.tup [.str z.1, .int z.2])
theorem LiePs.imp {H H' : Hp} : ∀ {ps : List Addr} {zs : List (Str × Int)}, LiePs H ps zs → (∀ t xs, H t = some (.tup xs) → H' t = some (.tup xs)) → LiePs H' ps zs
  | _, _, .nil, _ => .nil
  | _, _, .cons h r, k => .cons (k _ _ h) (LiePs.imp r k)
theorem LiePs.snoc {H : Hp} {t : Addr} {c : Str × Int} (h : H t = some (.tup [.str c.1, .int c.2])) : ∀ {ps : List Addr} {zs : List (Str × Int)}, LiePs H ps zs → LiePs H (ps ++ [t]) (zs ++ [c])
  | _, _, .nil => .cons h .nil
  | _, _, .cons a r => .cons a (LiePs.snoc h r)
theorem LiePs.sq {K : PySem.W.Frag} {H : Hp} : ∀ {ps : List Addr} {zs : List (Str × Int)}, LiePs H ps zs → Paired (fun p (z : Str × Int) => SqT K H p [.str z.1, .int z.2]) ps zs
  | _, _, .nil => .nil
  | _, _, .cons h r => .cons (SqT.of h) (LiePs.sq r)
section
variable {P : Program} {w : World} {K : PySem.W.Frag} {mg : Str → Option Value} {base : Heap}
def spObjsF (K : PySem.W.Frag) : Sp := fun vs H Q _ => ∃ (p fq : Addr) (b : Nat), vs = [.ref p] ∧ FeedAt H p fq b ∧ b + 100 ≤ 1000000000 ∧
  ∀ (v : V) (zs : List (Str × Int)) (H' : Hp), ObjsAt K (del H' p) v zs → Same (del H p) (del H' p) → FeedAt H' p fq (b + 60) → Q v H'
theorem ok_objsF {f f1 f2 : Addr} {fd fd1 fd2 : FuncData} (D : Df K mg "_law_objects" (topS 25) ["_law_feed_here"] f fd) (DD : Df K mg "_law_draw" (topS 16) ["_law_feed_here", "_law_many"] f1 fd1) (DW : Df K mg "_law_word" (topS 18) ["_law_feed_here", "_law_found"] f2 fd2) (B : Bt mg)
    (GD : FnOk P w K mg base CX0 1 f1 fd1 ["_law_feed_here", "_law_many"] spDraw) (GW : FnOk P w K mg base CX0 2 f2 fd2 ["_law_feed_here", "_law_found"] spWord) : FnOk P w K mg base CX0 3 f fd ["_law_feed_here"] (spObjsF K) := by
  refine D.fn.ok sc_objs2 (fun vs H Q E h => ?_) (fun cdv A outer s H vs Q E hr h => ?_)
  · obtain ⟨p, fq, b, rfl, _⟩ := h
    rfl
  obtain ⟨p, fq, b, rfl, hF, hb, q⟩ := h
  have nd := sc_objs2.nd
  have hr1 : Room 1 _ := hr.mono (by decide)
  refine ⟨_, pss_cons (ps_set (i := 1) nd rfl (Or.inl rfl) (pe_lst pa_nil))
    (pss_cons (ps_for PassesOwn.never rfl (pi_range1 (by rfl) B.range (pa_cons (pe_op op_add pe_int (pe_call GD hr1 (by rfl) DD.gl DD.fn.kp DD.bd .nil pass0 (pa_cons (pv 0) (pa_cons pe_int pa_nil)))) pa_nil)) (pg_name (i := 2) nd rfl (Or.inl rfl))
      (pss_one (ps_expr (pe_bm PySem.F.plainAttrs_list PySem.F.slot_list_append PySem.F.type_list_append mt_append (pv 1) (pa_cons (pe_call GW hr (by rfl) DW.gl DW.fn.kp DW.bd .nil pass0 (pa_cons (pv 0) (pa_cons (pv 1) pa_nil))) pa_nil)))))
    (pss_one (ps_ret (pe_callTy call_tupF (by rfl) B.tuple (by decide +kernel) (pa_cons (pe_lc (own := [("_law_word_here", 3)]) (g := gName 3) (tt := tYes) rfl nd
        (pi_list (pe_callB cr_sortedS (by rfl) B.sorted (by decide +kernel) (pa_cons (pv 1) pa_nil)))
        (blkOk_by (N := ["_law_feed_here", "_law_found", "_law_k", "_law_word_here"]) (sc := defScope (topS 25)) (by decide +kernel)) (fun _ _ _ _ _ => pg_name (i := 3) nd rfl (Or.inl rfl)) (fun _ _ _ _ _ => pts_nil)
        (fun _ _ _ _ _ => pe_tup (pa_cons (pv 3) (pa_cons (pe_op op_add pe_int (pe_call GD hr1 (by rfl) DD.gl DD.fn.kp DD.bd .nil pass0 (pa_cons (pv 0) (pa_cons pe_int pa_nil)))) pa_nil)))) pa_nil))))), ?_⟩
  refine ⟨Nat.zero_le _, fun l hl => ?_⟩
  obtain ⟨nlp, nlq⟩ := hF.ne hl
  have s0 := same_new (o := .lst []) hl
  refine ⟨_, rfl, p, fq, 4, b, rfl, hF.same s0, by omega, by decide, by decide, fun r H1 r0 r1 s1 F1 => ⟨_, _, rfl, rfl, ?_⟩⟩
  refine ⟨1 + r, rfl, by omega, by omega, for_range (lo := 0) (n := (1 + r).toNat) (fun i σ H' => ∃ (zs : List Str) (k : Option V), σ = [some (.ref p), some (.ref l), k, none] ∧ H' l = some (.lst (zs.map V.str)) ∧ zs.length = i ∧ zs.Nodup ∧ (∀ z ∈ zs, IsWord z) ∧ Same (del H p) (del H' p) ∧ FeedAt H' p fq (b + 1 + 12 * i))
    ⟨[], none, rfl, del_same _ _ _ _ (s1 _ _ (del_some upd_same nlp)), rfl, List.nodup_nil, by simp, (same_del s0).trans s1, F1⟩ ?_ ?_⟩
  · rintro i σ H2 hi ⟨zs, k2, rfl, hl2, hz2, n2, w2, s2, F2⟩
    refine ⟨_, rfl, .inl ⟨rfl, _, SqL.of hl2⟩, _, rfl, _, rfl, p, fq, l, _, zs, rfl, F2, by omega, del_some hl2 nlp, by omega, w2, fun z H3 wz nz s3 F3 => ?_⟩
    have hl3 : H3 l = some (.lst (zs.map V.str)) := del_same _ _ _ _ (s3 _ _ (del_some hl2 nlp))
    refine ⟨l, _, _, rfl, rfl, hl3, by rw [List.length_map]; exact small1000 (by omega), zs ++ [z], _, rfl, by rw [upd_same, List.map_append]; rfl, by rw [List.length_append, hz2]; rfl, ?_, fun y hy => ?_, ?_, (F3.upd nlp nlq).mono (by omega)⟩
    · refine List.nodup_append.mpr ⟨n2, by simp, fun a ha b hb e => ?_⟩
      rw [List.mem_singleton.mp hb] at e
      exact nz (e ▸ ha)
    · rcases List.mem_append.mp hy with hy | hy
      · exact w2 y hy
      · rw [List.mem_singleton.mp hy]; exact wz
    · intro c o e
      obtain ⟨e1, e2⟩ := of_del e
      have nc : c ≠ l := ne_of_none e1 hl
      have e3 := (s2.trans s3) _ _ e
      refine del_some ?_ e2
      rw [upd_ne nc]
      exact (of_del e3).1
  rintro σ H2 ⟨zs, k2, rfl, hl2, hz2, n2, w2, s2, F2⟩
  have hz5 : zs.length ≤ 4 := by omega
  have hz1 : 1 ≤ zs.length := by omega
  refine ⟨_, rfl, l, zs, rfl, SqL.of hl2, by omega, fun ys S pm hs hS => ?_⟩
  have hpw := pw_of_sorted hs (pm.nodup_iff.mpr n2)
  have s3 := same_new (o := .lst (ys.map V.str)) hS
  obtain ⟨nSp, nSq⟩ := F2.ne hS
  have F3 := F2.same s3
  have hS3 : upd H2 S (.lst (ys.map V.str)) S = some (.lst (ys.map V.str)) := upd_same
  have s03 := s2.trans (same_del (p := p) s3)
  generalize upd H2 S (.lst (ys.map V.str)) = H3 at s3 F3 hS3 s03
  have hyl : ys.length = zs.length := pm.length_eq
  have wy : ∀ z ∈ ys, IsWord z := fun z hz => w2 z (pm.mem_iff.mp hz)
  refine ⟨S, rfl, ⟨_, SqL.of hS3⟩, fun L hL => ?_⟩
  obtain ⟨nLp, nLq⟩ := F3.ne hL
  have nLS : L ≠ S := Ne.symm (ne_of_none hS3 hL)
  refine lc_it (walk_list (xs := ys.map V.str)) (fun i H' => ∃ (ps : List Addr) (os : List (Str × Int)), H' L = some (.lst (ps.map V.ref)) ∧ ps.length = i ∧ LiePs (del (del H' p) L) ps os ∧ os.map (·.1) = ys.take i ∧ (∀ o ∈ os, 1 ≤ o.2 ∧ o.2 ≤ 4) ∧ Same (del (del H3 p) L) (del (del H' p) L) ∧ FeedAt H' p fq (b + 13 + 12 * 4 - 12 + i))
    ⟨[], [], upd_same, rfl, .nil, rfl, by simp, same_del (same_del (same_new hL)), (F3.upd nLp nLq).mono (by omega)⟩ (fun i H' hi h => ?_) ?_ ?_
  · obtain ⟨ps, os, _, _, _, _, _, sx, _⟩ := h
    exact SqL.of (del_same _ _ _ _ (del_same _ _ _ _ (sx _ _ (del_some (del_some hS3 nSp) (Ne.symm nLS)))))
  · rintro i x H4 H5 hi ⟨ps, os, hL4, hv4, hd4, ho4, ko4, s4, F4⟩ ⟨rfl, hx⟩
    rw [List.length_map] at hi
    rw [List.getElem?_map, List.getElem?_eq_getElem hi] at hx
    have hx' : V.str ys[i] = x := Option.some.inj hx
    subst hx'
    have etk : ys.take (i + 1) = ys.take i ++ [ys[i]] := by rw [List.take_succ, List.getElem?_eq_getElem hi]; rfl
    generalize ys[i] = z at etk
    refine ⟨rfl, ?_⟩
    unfold tYes
    dsimp only
    rw [if_pos rfl]
    refine ⟨_, rfl, _, rfl, p, fq, 4, _, rfl, F4, by omega, by decide, by decide, fun r5 H6 a0 a1 s6 F6 => ⟨_, _, rfl, rfl, by show 2 ≤ sizeLine; decide, fun T hT => ?_⟩⟩
    obtain ⟨nTp, nTq⟩ := F6.ne hT
    have hL6 : H6 L = some (.lst (ps.map V.ref)) := del_same _ _ _ _ (s6 _ _ (del_some hL4 nLp))
    have nTL : T ≠ L := Ne.symm (ne_of_none hL6 hT)
    have s7 := same_new (o := .tup [.str z, .int (1 + r5)]) hT
    have hT7 : upd H6 T (.tup [.str z, .int (1 + r5)]) T = some (.tup [.str z, .int (1 + r5)]) := upd_same
    generalize upd H6 T (.tup [.str z, .int (1 + r5)]) = H7 at s7 hT7
    have sx : Same (del (del H5 p) L) (del (del (upd H7 L (.lst (ps.map V.ref ++ [.ref T]))) p) L) := by
      intro c o e
      obtain ⟨e1, e2⟩ := of_del e
      obtain ⟨e3, e4⟩ := of_del e1
      have e5 := s7 _ _ (of_del (s6 _ _ e1)).1
      refine del_some (del_some ?_ e4) e2
      rw [upd_ne e2]
      exact e5
    refine ⟨ps.map V.ref, s7 _ _ hL6, small1000 (by rw [List.length_map]; omega), ps ++ [T], os ++ [(z, 1 + r5)], by rw [upd_same, List.map_append]; rfl, by rw [List.length_append, hv4]; rfl, ?_, by rw [List.map_append, ho4, etk]; rfl, ?_, s4.trans sx, ((F6.same s7).upd nLp nLq).mono (by omega)⟩
    · exact LiePs.snoc (del_some (del_some (by rw [upd_ne nTL]; exact hT7) nTp) nTL) (hd4.imp fun t xs h => sx _ _ h)
    · intro d hd
      rcases List.mem_append.mp hd with hd | hd
      · exact ko4 d hd
      · rw [List.mem_singleton.mp hd]
        show 1 ≤ 1 + r5 ∧ 1 + r5 ≤ 4
        omega
  · rintro H4 ⟨ps, os, hL4, hv4, hd4, ho4, ko4, s4, F4⟩
    rw [List.length_map] at hv4 F4 ho4
    rw [List.take_length] at ho4
    have hol : os.length = ys.length := by rw [← ho4, List.length_map]
    refine ⟨L, ps.map V.ref, rfl, SqL.of hL4, fun T its hT => ?_⟩
    obtain ⟨nTp, nTq⟩ := F4.ne hT
    have s8 := same_new (o := .frz (tupO its) (.tup (ps.map V.ref))) hT
    refine q _ os _ ⟨⟨T, ps, rfl, ⟨its, del_some upd_same nTp⟩, (hd4.imp fun t xs h => ?_).sq⟩, ⟨by omega, by omega⟩, fun o ho => ⟨wy _ (by rw [← ho4]; exact List.mem_map_of_mem ho), ko4 o ho⟩, by rw [ho4]; exact hpw⟩ ?_ ((F4.same s8).mono (by omega))
    · exact same_del s8 _ _ (of_del h).1
    · intro c o e
      have e1 := s03 _ _ e
      have nc : c ≠ L := fun z => by
        rw [z] at e1
        rw [(of_del e1).1] at hL
        cases hL
      exact same_del s8 _ _ (of_del (s4 _ _ (del_some e1 nc))).1
end
end Sw
set_option maxRecDepth 100000
set_option maxHeartbeats 4000000
namespace Sw
open PySem PySem.Spec PyProof.Rows L2
theorem CellsAt.app {H : Hp} {us : List V} {ds : List (Str × Int)} (h : CellsAt H us ds) : ∀ {vs : List V} {cs : List (Str × Int)}, CellsAt H vs cs → CellsAt H (vs ++ us) (cs ++ ds)
  | _, _, .nil => h
  | _, _, .cons a r => .cons a (CellsAt.app h r)
/-- x is True, x is False, x a bool -/
def rIsB : R2 := fun x y H Q => ∃ a b : Bool, x = .bl a ∧ y = .bl b ∧ Q (.bl (decide (a = b))) H
theorem op_isB {X : Cx} : OpR X (compareOp .Is) rIsB := by
  intro pins s σ H x y v u Q I rx ry h
  obtain ⟨a, b, rfl, rfl, q⟩ := h
  cases (show u = Value.bool b from ry)
  cases (show v = Value.bool a from rx)
  by_cases e : a = b
  · subst e
    exact wpAny_is_self rfl ⟨.bl true, H, I, rfl, by simpa using q⟩
  · exact wpAny_is_other rfl (fun z => e (Value.bool.inj z)) ⟨.bl false, H, I, rfl, by simpa [e] using q⟩
section
variable {P : Program} {w : World} {K : PySem.W.Frag} {mg : Str → Option Value} {base : Heap}
def spSame : Sp := fun vs H Q _ => ∃ a b : Bool, vs = [.bl a, .bl b] ∧ Q (.bl (decide (a = b))) H
theorem sc_same : FnScope ["_law_told", "_law_wanted"] ["_law_told", "_law_wanted"] (defScope (topS 21)) := ⟨rfl, rfl, rfl, by decide +kernel, rfl, by decide +kernel, by decide +kernel⟩
theorem ok_same {f : Addr} {fd : FuncData} (D : Df K mg "_law_same" (topS 21) ["_law_told", "_law_wanted"] f fd) : FnOk P w K mg base CX0 1 f fd ["_law_told", "_law_wanted"] spSame := by
  refine D.fn.ok sc_same (fun vs H Q E h => ?_) (fun cdv A outer s H vs Q E hr h => ?_)
  · obtain ⟨a, b, rfl, _⟩ := h
    rfl
  obtain ⟨a, b, rfl, q⟩ := h
  refine ⟨_, pss_one (ps_ret (pe_or (pe_and (pe_cmpR op_isB (pv 0) pe_bl (nomark _)) (pe_one (pv 1))) (pe_one (pe_and (pe_cmpR op_isB (pv 0) pe_bl (nomark _)) (pe_one (pe_not (pv 1))))))), ?_⟩
  cases a with
  | true =>
    cases b with
    | true => exact ⟨_, rfl, _, _, rfl, rfl, _, rfl, iteT ⟨_, rfl, _, rfl, iteT q⟩⟩
    | false => exact ⟨_, rfl, _, _, rfl, rfl, _, rfl, iteT ⟨_, rfl, _, rfl, iteF ⟨_, rfl, _, _, rfl, rfl, _, rfl, iteF q⟩⟩⟩
  | false =>
    cases b with
    | true => exact ⟨_, rfl, _, _, rfl, rfl, _, rfl, iteF ⟨_, rfl, iteF ⟨_, rfl, _, _, rfl, rfl, _, rfl, iteT ⟨_, rfl, _, rfl, q⟩⟩⟩⟩
    | false => exact ⟨_, rfl, _, _, rfl, rfl, _, rfl, iteF ⟨_, rfl, iteF ⟨_, rfl, _, _, rfl, rfl, _, rfl, iteT ⟨_, rfl, _, rfl, q⟩⟩⟩⟩
def spLCells (K : PySem.W.Frag) : Sp := fun vs H Q _ => ∃ (v : V) (zs : List (Str × Int)), vs = [v] ∧ ObjsAt K H v zs ∧ ∀ L H' us, Same H H' → H L = none → H' L = some (.lst us) → CellsAt H' us (cellsL zs) → us.length ≤ 16 → Q (.ref L) H'
theorem sc_lcells : FnScope ["_law_objects_here", "_law_found", "_law_word_here", "_law_size", "_law_index"] ["_law_objects_here"] (defScope (topS 28)) := ⟨rfl, rfl, rfl, by decide +kernel, rfl, by decide +kernel, by decide +kernel⟩
theorem ok_lcells {f : Addr} {fd : FuncData} (D : Df K mg "_law_cells" (topS 28) ["_law_objects_here"] f fd) (B : Bt mg) : FnOk P w K mg base CX0 1 f fd ["_law_objects_here"] (spLCells K) := by
  refine D.fn.ok sc_lcells (fun vs H Q E h => ?_) (fun cdv A outer s H vs Q E hr h => ?_)
  · obtain ⟨v, zs, rfl, _⟩ := h
    rfl
  obtain ⟨v, zs, rfl, hO, q⟩ := h
  have nd := sc_lcells.nd
  refine ⟨_, pss_cons (ps_set (i := 1) nd rfl (Or.inl rfl) (pe_lst pa_nil))
    (pss_cons (ps_for PassesOwn.never rfl (pi_tup (pv 0)) (pg_tup rfl (pgs_cons (pg_name (i := 2) nd rfl (Or.inr rfl)) (pgs_cons (pg_name (i := 3) nd rfl (Or.inl rfl)) pgs_nil)))
      (pss_one (ps_expr (pe_bm PySem.F.plainAttrs_list PySem.F.slot_list_extend PySem.F.type_list_extend mt_extend (pv 1) (pa_cons (pe_lc (own := [("_law_index", 4)]) (g := gName 4) (tt := tYes) rfl nd (pi_range1 (by rfl) B.range (pa_cons (pv 3) pa_nil))
        (blkOk_by (N := ["_law_objects_here", "_law_found", "_law_word_here", "_law_size", "_law_index"]) (sc := defScope (topS 28)) (by decide +kernel)) (fun _ _ _ _ _ => pg_name (i := 4) nd rfl (Or.inl rfl)) (fun _ _ _ _ _ => pts_nil)
        (fun _ _ _ _ _ => pe_tup (pa_cons (pv 2) (pa_cons (pv 4) pa_nil)))) pa_nil)))))
    (pss_one (ps_ret (pv 1)))), ?_⟩
  have hwd := hO.wd
  have hfew := hO.few
  obtain ⟨ao, ps, rfl, hfo, hpo⟩ := hO.ex
  have hlp : ps.length = zs.length := hpo.length
  have hsq : SqT K H ao (ps.map V.ref) := hfo.sq
  refine ⟨Nat.zero_le _, fun L hL => ?_⟩
  refine ⟨_, rfl, ao, rfl, ⟨_, sameT (same_new hL) hsq⟩, for_it (walk_tup (xs := ps.map V.ref)) (fun n σ H' => ∃ (us : List V) (cs : List (Str × Int)) (x2 x3 : Option V), σ = [some (.ref ao), some (.ref L), x2, x3, none] ∧ Same H H' ∧ H' L = some (.lst us) ∧ CellsAt H' us cs ∧ cs = (zs.take n).flatMap (fun p => (List.range p.2.toNat).map fun (k : Nat) => (p.1, (k : Int))) ∧ us.length ≤ 4 * n)
    ⟨[], [], _, _, rfl, same_new hL, upd_same, .nil, rfl, Nat.zero_le _⟩ (fun n σ H' _ h => ?_) ?_ ?_⟩
  · obtain ⟨us, cs, x2, x3, _, s4, _⟩ := h
    exact sameT s4 hsq
  · rintro n x σ H4 H5 hn ⟨us, cs, x2, x3, rfl, s4, hv4, hc4, ecs, hvl⟩ ⟨rfl, hxn⟩
    rw [List.length_map] at hn
    rw [List.getElem?_map, List.getElem?_eq_getElem hn] at hxn
    have hxn' : V.ref ps[n] = x := Option.some.inj hxn
    subst hxn'
    obtain ⟨zk, hzk, hsz⟩ := paired_get hpo (List.getElem?_eq_getElem hn)
    obtain ⟨_, k1, k4⟩ := hwd zk (List.mem_of_getElem? hzk)
    have etk : zs.take (n + 1) = zs.take n ++ [zk] := by rw [List.take_succ, hzk]; rfl
    obtain ⟨z, kz⟩ := zk
    dsimp only at hsz k1 k4
    refine ⟨_, _, rfl, sameT s4 hsz, rfl, _, _, rfl, _, _, rfl, rfl, ?_⟩
    refine ⟨_, rfl, .inl ⟨rfl, _, SqL.of hv4⟩, _, rfl, kz, rfl, by omega, by omega, fun D2 hD2 => lc_it walk_range (fun j H' => ∃ (vs2 : List V), Same H5 H' ∧ H' D2 = some (.lst vs2) ∧ CellsAt H' vs2 ((List.range j).map fun (k : Nat) => (z, (k : Int))) ∧ vs2.length = j)
      ⟨[], same_new hD2, upd_same, .nil, rfl⟩ (fun _ _ _ _ => trivial) ?_ ?_⟩
    · rintro j y H7 H8 hj ⟨vs2, s7, hv7, hc7, hl7⟩ ⟨rfl, rfl⟩
      dsimp only
      rw [Int.zero_add]
      refine ⟨rfl, ?_⟩
      unfold tYes
      dsimp only
      rw [if_pos rfl]
      refine ⟨_, rfl, _, rfl, by show 2 ≤ sizeLine; decide, fun t ht => ?_⟩
      have s8 := same_new (o := .tup [.str z, .int (j : Int)]) ht
      have e8 : upd H8 t (.tup [.str z, .int (j : Int)]) t = some (.tup [.str z, .int (j : Int)]) := upd_same
      generalize upd H8 t (.tup [.str z, .int (j : Int)]) = H9 at s8 e8
      have k9 : ∀ t' xs, H9 t' = some (.tup xs) → upd H9 D2 (.lst (vs2 ++ [.ref t])) t' = some (.tup xs) := fun t' xs h => by
        have : t' ≠ D2 := fun e => by rw [e, s8 _ _ hv7] at h; cases h
        rw [upd_ne this]
        exact h
      refine ⟨vs2, s8 _ _ hv7, small1000 (by omega), vs2 ++ [.ref t], fun c o e => ?_, upd_same, ?_, by rw [List.length_append, hl7]; rfl⟩
      · have : c ≠ D2 := ne_of_none e hD2
        rw [upd_ne this]
        exact s8 _ _ (s7 _ _ e)
      · rw [List.range_succ, List.map_append]
        exact CellsAt.snoc (c := (z, (j : Int))) (k9 _ _ e8) ((hc7.imp fun t xs h => s8 _ _ h).imp k9)
    · rintro H7 ⟨vs2, s7, hv7, hc7, hl7⟩
      have nLD : L ≠ D2 := ne_of_none hv4 hD2
      refine ⟨L, D2, us, vs2, rfl, rfl, s7 _ _ hv4, hv7, by rw [sizeLine_eq]; omega, us ++ vs2, cs ++ (List.range kz.toNat).map (fun (k : Nat) => (z, (k : Int))), _, _, rfl, fun c o e => ?_, upd_same, ?_, ?_, by rw [List.length_append]; omega⟩
      · have : c ≠ L := ne_of_none e hL
        rw [upd_ne this]
        exact s7 _ _ (s4 _ _ e)
      · have k9 : ∀ t' xs, H7 t' = some (.tup xs) → upd H7 L (.lst (us ++ vs2)) t' = some (.tup xs) := fun t' xs h => by
          have : t' ≠ L := fun e => by rw [e, s7 _ _ hv4] at h; cases h
          rw [upd_ne this]
          exact h
        exact CellsAt.app (hc7.imp k9) ((hc4.imp fun t xs h => s7 _ _ h).imp k9)
      · rw [etk, List.flatMap_append, ecs]
        show _ = _ ++ (((List.range kz.toNat).map fun (k : Nat) => (z, (k : Int))) ++ [])
        rw [List.append_nil]
  rintro σ H4 ⟨us, cs, x2, x3, rfl, s4, hv4, hc4, ecs, hvl⟩
  rw [List.length_map, hlp] at hvl ecs
  rw [List.take_length] at ecs
  subst ecs
  exact ⟨_, rfl, q L H4 us s4 hL hv4 hc4 (by omega)⟩
end
end Sw
set_option maxRecDepth 100000
set_option maxHeartbeats 4000000
namespace Sw
open PySem PySem.Spec PyProof.Rows L2
section
variable {X : Cx}
/-- range(n), as a value -/
theorem cr_range1 : CallR X (.type "range") (fun vs H Q => ∃ n, vs = [V.int n] ∧ ∀ a, H a = none → Q (.ref a) (upd H a (.rng 0 n))) := by
  intro pins s σ H vs us Q I r h
  obtain ⟨n, rfl, q⟩ := h
  obtain ⟨u, rfl, rx⟩ := vals1 r
  obtain ⟨t, rfl⟩ := rx
  refine call_range_1 ⟨.ref s.heap.objs.size, _, I.laid (t' := _) (o := .rng 0 n) (fun b o e => Heap.get?_push_of_some _ e) (Nat.le_refl _) ⟨_, _, _, Heap.get?_push_size _ rfl⟩, rfl, q _ (I.hok.fresh (Nat.le_refl _))⟩
/-- i not in r -/
theorem op_notIn_rng : OpR X (compareOp .NotIn) (fun x y H Q => ∃ i a lo hi, x = V.int i ∧ y = V.ref a ∧ H a = some (.rng lo hi) ∧ Q (.bl (!decide (lo ≤ i ∧ i < hi))) H) := by
  intro pins s σ H x y v u Q I rx ry h
  obtain ⟨i, a, lo, hi, rfl, rfl, ha, q⟩ := h
  obtain ⟨k, rfl⟩ := rx
  obtain rfl : u = Value.ref a := ry
  obtain ⟨t1, t2, t3, ho⟩ := I.hok a _ ha
  show wpAny _ _ (do return Value.bool (!(← contains (Value.ref a) (Value.int i k)))) _ _ s
  refine wpAny_bind (wpAny_contains_slot (T := "range") ⟨_, ho, rfl⟩ F.slot_range_contains (call_meets F.slot_range_contains ⟨_, ho, rfl⟩ F.entry_range_contains (F.args_range_contains_2 _ _) (q_contains a lo hi i t1 t2 t3 k) ⟨ho, wpAny_truthy_bool (wpAny_pure ⟨.bl _, H, I, rfl, ?_⟩)⟩))
  rw [place1]
  exact q
/-- t.index(z), t a tuple as it was laid -/
def tIdxF (to : TE) (t : TA) : TE := fun σ H Q => to σ H fun x H1 => ∃ (a : Addr) (ys : List Str), x = .ref a ∧ TupF H1 a (ys.map V.str) ∧ t σ H1 fun vs H2 => ∃ z j, vs = [.str z] ∧ TupF H2 a (ys.map V.str) ∧ ys[j]? = some z ∧ (∀ m, m < j → ys[m]? ≠ some z) ∧ Q (.int (j : Nat)) H2
theorem pe_idxF {o e : Expr} {to : TE} {t : TA} {apos cpos : Pos} (ho : PE X o to) (ha : PA X [e] t) (hbase : attributeBase o "index" X.env (eval o X.env) = eval o X.env := by rfl)
    (hfew : ((backTo cpos (starEach [e] X.env)).all (fun x => !x.1) && (backToKw cpos (keywordEach [] X.env)).all (fun x => x.1.isSome) && decide (([e] : List Expr).length + ([] : List Keyword).length + (if ([] : List Keyword).isEmpty then 0 else 1) < 30)) = true := by rfl)
    (hline : (apos.endLine == cpos.line) = true := by rfl) (hs : starEach [e] X.env = (false, eval e X.env) :: starEach [] X.env := by rfl) (hplain : (backTo cpos (starEach [] X.env)).any (·.1) = false := by rfl) :
    PE X (.Call (.Attribute o "index" apos) [e] [] cpos) (tIdxF to t) := by
  refine ⟨fun pins s σ H Q I h => wpAny_Call_method_late hbase hfew hline rfl (thn (ho.run pins s σ H _ I h) fun v s1 ⟨x, H1, I1, r1, a, ys, ex, hF, q1⟩ => ?_)⟩
  subst ex
  cases r1
  obtain ⟨its, hfr⟩ := hF
  obtain ⟨e1, _⟩ := I1.hok a _ hfr
  refine ⟨"tuple", "tuple.index", PySem.F.plainAttrs_tuple, PySem.F.slot_tuple_index, PySem.F.type_tuple_index, ⟨_, e1, rfl⟩, fun b eb => by cases eb; exact ⟨_, e1, rfl⟩, ?_⟩
  have hA := ha.run cpos pins s1 σ H1 _ I1 q1
  rw [hs] at hA ⊢
  refine Calls.callWith_builtin (by show (false || (backTo cpos (starEach [] X.env)).any (·.1)) = false; rw [hplain]; rfl) (Calls.evalArgs_plain (thn hA fun us s2 ⟨vs, H2, I2, r2, z, j, ev, hF2, hj, hm, q2⟩ => ?_))
  exact mt_tup_index pins s2 σ H2 (.ref a) vs (.ref a) us Q I2 rfl r2 ⟨a, ys, z, j, rfl, ev, hF2.sq, hj, hm, q2⟩
end
end Sw
set_option maxRecDepth 100000
set_option maxHeartbeats 4000000
namespace Sw
open PySem PySem.Spec PyProof.Rows L2
theorem CellsAt.cast {H : Hp} {us us' : List V} {cs cs' : List (Str × Int)} (h : CellsAt H us cs) (e1 : us = us') (e2 : cs = cs') : CellsAt H us' cs' := e1 ▸ e2 ▸ h
/-- an ADDRESS, as the law lays it -/
structure AddrAt (K : PySem.W.Frag) (H : Hp) (v : V) (zs : List (Str × Int)) (ws : List Str) (p ix : PyData) : Prop where
  ex : ∃ (a a0 : Addr) (x1 x2 : V), v = .ref a ∧ SqT K H a [.ref a0, x1, x2] ∧ TupF H a0 (ws.map V.str) ∧ Dp K H x1 p ∧ Dp K H x2 ix
  ok : addr zs (.tuple [.tuple (ws.map PyData.str), p, ix]) = true
theorem AddrAt.same {K : PySem.W.Frag} {H H' : Hp} {v : V} {zs : List (Str × Int)} {ws : List Str} {p ix : PyData} (h : AddrAt K H v zs ws p ix) (s : Same H H') : AddrAt K H' v zs ws p ix := by
  obtain ⟨a, a0, x1, x2, e, h1, h2, h3, h4⟩ := h.ex
  exact ⟨⟨a, a0, x1, x2, e, sameT s h1, h2.same s, Dp_same s h3, Dp_same s h4⟩, h.ok⟩
def intIs (d : PyData) (i : Int) : Bool := match d with
  | .int j => decide (j = i)
  | _ => false
def pos : List Str → Str → Nat
  | [], _ => 0
  | y :: ys, z => if y = z then 0 else pos ys z + 1
theorem pos_at {z : Str} : ∀ {ws : List Str}, z ∈ ws → ws[pos ws z]? = some z ∧ ∀ m, m < pos ws z → ws[m]? ≠ some z
  | [], h => by cases h
  | y :: ys, h => by
    unfold pos
    by_cases e : y = z
    · rw [if_pos e]
      exact ⟨by simpa using e, fun m hm => absurd hm (Nat.not_lt_zero _)⟩
    · rw [if_neg e]
      have hm : z ∈ ys := (List.mem_cons.mp h).elim (fun q => absurd q.symm e) id
      obtain ⟨h1, h2⟩ := pos_at hm
      refine ⟨by simpa using h1, fun m hlt => ?_⟩
      cases m with
      | zero => simpa using e
      | succ m => simpa using h2 m (by omega)
def inFace (ws : List Str) (p ix : PyData) (c : Str × Int) : Bool := decide (c.1 ∈ ws) && (isaStr p || intIs p (pos ws c.1 : Nat)) && (isaStr ix || intIs ix c.2)
def lface (zs : List (Str × Int)) (ws : List Str) (p ix : PyData) : List (Str × Int) := (cellsL zs).filter (inFace ws p ix)
section
variable {P : Program} {w : World} {K : PySem.W.Frag} {mg : Str → Option Value} {base : Heap}
def spLFace (K : PySem.W.Frag) : Sp := fun vs H Q _ => ∃ (vo va : V) (zs : List (Str × Int)) (ws : List Str) (p ix : PyData), vs = [vo, va] ∧ ObjsAt K H vo zs ∧ AddrAt K H va zs ws p ix ∧ ∀ v' H', Same H H' → Dp K H' v' (.tuple ((lface zs ws p ix).map cellD)) → Q v' H'
theorem sc_lface : FnScope ["_law_objects_here", "_law_address_here", "_law_words", "_law_pick", "_law_index", "_law_found", "_law_word_here", "_law_at"] ["_law_objects_here", "_law_address_here"] (defScope (topS 29)) := ⟨rfl, rfl, rfl, by decide +kernel, rfl, by decide +kernel, by decide +kernel⟩
theorem ok_lface {f f1 : Addr} {fd fd1 : FuncData} (D : Df K mg "_law_face" (topS 29) ["_law_objects_here", "_law_address_here"] f fd) (D1 : Df K mg "_law_cells" (topS 28) ["_law_objects_here"] f1 fd1) (B : Bt mg)
    (G1 : FnOk P w K mg base CX0 1 f1 fd1 ["_law_objects_here"] (spLCells K)) : FnOk P w K mg base CX0 2 f fd ["_law_objects_here", "_law_address_here"] (spLFace K) := by
  refine D.fn.ok sc_lface (fun vs H Q E h => ?_) (fun cdv A outer s H vs Q E hr h => ?_)
  · obtain ⟨vo, va, zs, ws, p, ix, rfl, _⟩ := h
    rfl
  obtain ⟨vo, va, zs, ws, p, ix, rfl, hO, hAd, q⟩ := h
  have nd := sc_lface.nd
  refine ⟨_, pss_cons (ps_asg (pv 1) (pg_tup rfl (pgs_cons (pg_name (i := 2) nd rfl (Or.inl rfl)) (pgs_cons (pg_name (i := 3) nd rfl (Or.inl rfl)) (pgs_cons (pg_name (i := 4) nd rfl (Or.inl rfl)) pgs_nil)))))
    (pss_cons (ps_set (i := 5) nd rfl (Or.inl rfl) (pe_lst pa_nil))
    (pss_cons (ps_for PassesOwn.never rfl (pi_list (pe_call G1 hr (by rfl) D1.gl D1.fn.kp D1.bd .nil pass0 (pa_cons (pv 0) pa_nil))) (pg_tup rfl (pgs_cons (pg_name (i := 6) nd rfl (Or.inl rfl)) (pgs_cons (pg_name (i := 7) nd rfl (Or.inl rfl)) pgs_nil)))
      (pss_one (ps_if (PW.pt (pw_and (pt_cmpR op_in_seq (pv 6) (pv 2) (by rfl)) (pw_and1 (PW.pt (pw_or (pt_val (pe_callB call_isi (by rfl) B.isi (by decide +kernel) (pa_cons (pv 3) (pa_cons (pe_bltn (v := .ty "str") (by rfl) B.str (by decide +kernel) rfl) pa_nil)))) (pw_or1 (pt_cmpR op_eq (pe_idxF (pv 2) (pa_cons (pv 6) pa_nil)) (pv 3) (nomark _))))))))
        (pss_one (ps_set (i := 5) nd rfl (Or.inl rfl) (pe_op op_cat (pv 5) (pe_op op_rep (pe_lst (pa_cons (pe_tup (pa_cons (pv 6) (pa_cons (pv 7) pa_nil))) pa_nil)) (pe_callTy call_int1 (by rfl) B.int (by decide +kernel) (pa_cons (pe_or (pe_callB call_isi (by rfl) B.isi (by decide +kernel) (pa_cons (pv 4) (pa_cons (pe_bltn (v := .ty "str") (by rfl) B.str (by decide +kernel) rfl) pa_nil))) (pe_one (pe_cmpR op_eq (pv 4) (pv 7) (nomark _)))) pa_nil)))))) pss_nil)))
    (pss_one (ps_ret (pe_callTy call_tuple_of (by rfl) B.tuple (by decide +kernel) (pa_cons (pv 5) pa_nil)))))), ?_⟩
  clear G1 D1 D B hr
  obtain ⟨os', p', ix', e', hw, hnd, hne, hp, hi, hwp, hwi⟩ := addr_parts hAd.ok
  cases e'
  obtain ⟨a, a0, x1, x2, rfl, hx, hF, d1, d2⟩ := hAd.ex
  refine ⟨_, rfl, a, _, rfl, hx, rfl, _, _, rfl, x1, _, rfl, x2, _, rfl, rfl, Nat.zero_le _, fun F0 hF0 => ?_⟩
  have s0 := same_new (o := .lst []) hF0
  refine ⟨_, rfl, vo, zs, rfl, hO.same s0, fun L H1 us s1 nL hL hcs hul => ?_⟩
  have hF1 : H1 F0 = some (.lst []) := s1 _ _ upd_same
  have s01 := s0.trans s1
  have hcl : us.length = (cellsL zs).length := hcs.length
  refine ⟨L, rfl, ⟨_, SqL.of hL⟩, for_it (walk_list (xs := us)) (fun n σ H' => ∃ (F : Addr) (ys : List V) (x6 x7 : Option V), σ = [some vo, some (.ref a), some (.ref a0), some x1, some x2, some (.ref F), x6, x7] ∧ Same H1 H' ∧ H' F = some (.lst ys) ∧ CellsAt H' ys (((cellsL zs).take n).filter (inFace ws p ix)) ∧ ys.length ≤ n)
    ⟨F0, [], _, _, rfl, Same.refl _, hF1, .nil, Nat.le_refl _⟩ (fun n σ H' _ h => ?_) ?_ ?_⟩
  · obtain ⟨F, ys, x6, x7, _, s4, _⟩ := h
    exact SqL.of (s4 _ _ hL)
  · rintro n x σ H4 H5 hn ⟨F, ys, x6, x7, rfl, s4, hv4, hc4, hyl⟩ ⟨rfl, hxn⟩
    obtain ⟨c, hcn, t, rfl, ht⟩ := paired_get (show Paired _ us (cellsL zs) from hcs) hxn
    have etk : (cellsL zs).take (n + 1) = (cellsL zs).take n ++ [c] := by rw [List.take_succ, hcn]; rfl
    obtain ⟨z, k⟩ := c
    dsimp only at ht
    refine ⟨t, _, rfl, SqT.of (s4 _ _ ht), rfl, _, _, rfl, _, _, rfl, rfl, ?_⟩
    have s5 := s01.trans s4
    have hF5 : TupF H5 a0 (ws.map V.str) := hF.same s5
    have hflt : ((cellsL zs).take (n + 1)).filter (inFace ws p ix) = ((cellsL zs).take n).filter (inFace ws p ix) ++ (if inFace ws p ix (z, k) = true then [(z, k)] else []) := by
      rw [etk, List.filter_append]
      congr 1
      by_cases h : inFace ws p ix (z, k) = true <;> simp [h]
    rw [hflt]
    have stay : inFace ws p ix (z, k) = false → ∃ (F2 : Addr) (ys2 : List V) (x6 x7 : Option V), [some vo, some (V.ref a), some (V.ref a0), some x1, some x2, some (V.ref F), some (V.str z), some (V.int k)] = [some vo, some (.ref a), some (.ref a0), some x1, some x2, some (.ref F2), x6, x7] ∧ Same H1 H5 ∧ H5 F2 = some (.lst ys2) ∧ CellsAt H5 ys2 (((cellsL zs).take n).filter (inFace ws p ix) ++ (if inFace ws p ix (z, k) = true then [(z, k)] else [])) ∧ ys2.length ≤ n + 1 := fun h => ⟨F, ys, _, _, rfl, s4, hv4, by rw [if_neg (by rw [h]; simp), List.append_nil]; exact hc4, by omega⟩
    refine ⟨_, rfl, _, rfl, a0, _, rfl, .inr hF5.sq, rfl, flat_strs ws, _, rfl, ?_⟩
    refine ite2 (fun c1 => ?_) (fun c1 => ?_)
    rotate_left
    · refine iteF (stay ?_)
      rw [if_neg (by simp), inV_strs] at c1
      unfold inFace
      rw [show decide ((z, k).1 ∈ ws) = false by simpa using c1, Bool.false_and, Bool.false_and]
    rw [if_neg (by simp), inV_strs, decide_eq_true_eq] at c1
    obtain ⟨t1', ty1, k1⟩ := isa_str (Dp_same s5 d1)
    refine ⟨_, rfl, x1, .ty "str", t1', _, _, rfl, .ty _, ty1, k1, _, rfl, ?_⟩
    cases hps : isaStr p with
    | true =>
      refine iteT ?_
      -- found + [(word, at)] * int(..)
      have hin : inFace ws p ix (z, k) = (isaStr ix || intIs ix k) := by unfold inFace; rw [show decide ((z, k).1 ∈ ws) = true by simpa using c1, hps, Bool.true_or, Bool.true_and, Bool.true_and]
      refine ⟨_, rfl, _, rfl, _, rfl, by show 2 ≤ sizeLine; decide, fun t2 ht2 => ⟨by show 1 ≤ sizeLine; decide, fun N hN => ?_⟩⟩
      have s6 := same_new (o := .tup [.str z, .int k]) ht2
      have e6 : upd H5 t2 (.tup [.str z, .int k]) t2 = some (.tup [.str z, .int k]) := upd_same
      generalize upd H5 t2 (.tup [.str z, .int k]) = H6 at s6 e6 hN
      have s7 := same_new (o := .lst [.ref t2]) hN
      have e7 : upd H6 N (.lst [.ref t2]) N = some (.lst [.ref t2]) := upd_same
      generalize upd H6 N (.lst [.ref t2]) = H7 at s7 e7
      have tail : ∀ (b : Bool), b = (isaStr ix || intIs ix k) → ∀ R, H7 R = none → ∀ W, upd H7 R (.lst (if b = true then [.ref t2] else [])) W = none → ∃ (F : Addr) (ys2 : List V) (x6 x7 : Option V), [some vo, some (V.ref a), some (V.ref a0), some x1, some x2, some (V.ref W), some (V.str z), some (V.int k)] = [some vo, some (.ref a), some (.ref a0), some x1, some x2, some (.ref F), x6, x7] ∧ Same H1 (upd (upd H7 R (.lst (if b = true then [.ref t2] else []))) W (.lst (ys ++ (if b = true then [.ref t2] else [])))) ∧ upd (upd H7 R (.lst (if b = true then [.ref t2] else []))) W (.lst (ys ++ (if b = true then [.ref t2] else []))) F = some (.lst ys2) ∧ CellsAt (upd (upd H7 R (.lst (if b = true then [.ref t2] else []))) W (.lst (ys ++ (if b = true then [.ref t2] else [])))) ys2 (((cellsL zs).take n).filter (inFace ws p ix) ++ (if inFace ws p ix (z, k) = true then [(z, k)] else [])) ∧ ys2.length ≤ n + 1 := by
        intro b hb R hR W hW
        have s9 := ((s6.trans s7).trans (same_new (o := .lst (if b = true then [.ref t2] else [])) hR)).trans (same_new (o := .lst (ys ++ (if b = true then [.ref t2] else []))) hW)
        have e9 := ((s7.trans (same_new (o := .lst (if b = true then [.ref t2] else [])) hR)).trans (same_new (o := .lst (ys ++ (if b = true then [.ref t2] else []))) hW)) _ _ e6
        refine ⟨W, _, _, _, rfl, s4.trans s9, upd_same, ?_, ?_⟩
        · rw [hin, ← hb]
          cases b with
          | true => exact CellsAt.snoc (c := (z, k)) e9 (hc4.imp fun t xs h => s9 _ _ h)
          | false =>
            exact (hc4.imp fun t xs h => s9 _ _ h).cast (by simp) (by simp)
        · rw [List.length_append]
          cases b with
          | true => show ys.length + 1 ≤ _; omega
          | false => show ys.length + 0 ≤ _; omega
      have hv7 := (s6.trans s7) _ _ hv4
      obtain ⟨t2', ty2, k2⟩ := isa_str (Dp_same (s5.trans (s6.trans s7)) d2)
      refine ⟨_, rfl, x2, .ty "str", t2', _, _, rfl, .ty _, ty2, k2, _, rfl, ?_⟩
      cases hix : isaStr ix with
      | true =>
        refine iteT (.inr ⟨true, rfl, N, 1, _, rfl, rfl, e7, by decide, by decide, by show 1 * 1 ≤ sizeLine; decide, fun R hR => ⟨F, R, ys, _, rfl, rfl, (same_new hR) _ _ hv7, upd_same, by rw [sizeLine_eq]; show ys.length + 1 ≤ _; omega, fun W hW => ?_⟩⟩)
        exact tail true (by rw [hix]; rfl) R hR W hW
      | false =>
        refine iteF ?_
        cases ix with
        | int jx =>
          cases d2
          refine ⟨_, rfl, _, rfl, rfl, .inr ⟨decide (V.int jx = V.int k), rfl, ?_⟩⟩
          by_cases hjk : jx = k
          · rw [show decide (V.int jx = V.int k) = true by rw [hjk]; simp]
            refine ⟨N, 1, _, rfl, rfl, e7, by decide, by decide, by show 1 * 1 ≤ sizeLine; decide, fun R hR => ⟨F, R, ys, _, rfl, rfl, (same_new hR) _ _ hv7, upd_same, by rw [sizeLine_eq]; show ys.length + 1 ≤ _; omega, fun W hW => ?_⟩⟩
            exact tail true (by show true = (false || decide (jx = k)); simp [hjk]) R hR W hW
          · rw [show decide (V.int jx = V.int k) = false by rw [decide_eq_false_iff_not]; intro zz; injection zz with zz; exact hjk zz]
            refine ⟨N, 0, _, rfl, rfl, e7, by decide, by decide, by show 1 * 0 ≤ sizeLine; decide, fun R hR => ⟨F, R, ys, _, rfl, rfl, (same_new hR) _ _ hv7, upd_same, by rw [sizeLine_eq]; show ys.length + 0 ≤ _; omega, fun W hW => ?_⟩⟩
            exact tail false (by show false = (false || decide (jx = k)); simp [hjk]) R hR W hW
        | str _ => exact absurd hix (by simp [isaStr])
        | _ => exact absurd hi (by simp [dOper, dNum, dWord])
    | false =>
      refine iteF ?_
      cases p with
      | int jp =>
        cases d1
        obtain ⟨q1, q2⟩ := pos_at c1
        refine ⟨_, rfl, a0, ws, rfl, hF5, _, rfl, z, _, rfl, hF5, q1, q2, _, rfl, rfl, _, rfl, ?_⟩
        by_cases hj : jp = (pos ws z : Nat)
        · rw [show decide (V.int ((pos ws z : Nat) : Int) = V.int jp) = true by rw [hj]; simp]
          refine iteT ?_
          -- found + [(word, at)] * int(..)
          have hin : inFace ws (.int jp) ix (z, k) = (isaStr ix || intIs ix k) := by unfold inFace; rw [show decide ((z, k).1 ∈ ws) = true by simpa using c1, show (isaStr (PyData.int jp) || intIs (PyData.int jp) ((pos ws (z, k).1 : Nat) : Int)) = true by show (false || decide (jp = _)) = true; simp [hj], Bool.true_and, Bool.true_and]
          refine ⟨_, rfl, _, rfl, _, rfl, by show 2 ≤ sizeLine; decide, fun t2 ht2 => ⟨by show 1 ≤ sizeLine; decide, fun N hN => ?_⟩⟩
          have s6 := same_new (o := .tup [.str z, .int k]) ht2
          have e6 : upd H5 t2 (.tup [.str z, .int k]) t2 = some (.tup [.str z, .int k]) := upd_same
          generalize upd H5 t2 (.tup [.str z, .int k]) = H6 at s6 e6 hN
          have s7 := same_new (o := .lst [.ref t2]) hN
          have e7 : upd H6 N (.lst [.ref t2]) N = some (.lst [.ref t2]) := upd_same
          generalize upd H6 N (.lst [.ref t2]) = H7 at s7 e7
          have tail : ∀ (b : Bool), b = (isaStr ix || intIs ix k) → ∀ R, H7 R = none → ∀ W, upd H7 R (.lst (if b = true then [.ref t2] else [])) W = none → ∃ (F : Addr) (ys2 : List V) (x6 x7 : Option V), [some vo, some (V.ref a), some (V.ref a0), some (V.int jp), some x2, some (V.ref W), some (V.str z), some (V.int k)] = [some vo, some (.ref a), some (.ref a0), some (V.int jp), some x2, some (.ref F), x6, x7] ∧ Same H1 (upd (upd H7 R (.lst (if b = true then [.ref t2] else []))) W (.lst (ys ++ (if b = true then [.ref t2] else [])))) ∧ upd (upd H7 R (.lst (if b = true then [.ref t2] else []))) W (.lst (ys ++ (if b = true then [.ref t2] else []))) F = some (.lst ys2) ∧ CellsAt (upd (upd H7 R (.lst (if b = true then [.ref t2] else []))) W (.lst (ys ++ (if b = true then [.ref t2] else [])))) ys2 (((cellsL zs).take n).filter (inFace ws (.int jp) ix) ++ (if inFace ws (.int jp) ix (z, k) = true then [(z, k)] else [])) ∧ ys2.length ≤ n + 1 := by
            intro b hb R hR W hW
            have s9 := ((s6.trans s7).trans (same_new (o := .lst (if b = true then [.ref t2] else [])) hR)).trans (same_new (o := .lst (ys ++ (if b = true then [.ref t2] else []))) hW)
            have e9 := ((s7.trans (same_new (o := .lst (if b = true then [.ref t2] else [])) hR)).trans (same_new (o := .lst (ys ++ (if b = true then [.ref t2] else []))) hW)) _ _ e6
            refine ⟨W, _, _, _, rfl, s4.trans s9, upd_same, ?_, ?_⟩
            · rw [hin, ← hb]
              cases b with
              | true => exact CellsAt.snoc (c := (z, k)) e9 (hc4.imp fun t xs h => s9 _ _ h)
              | false =>
                exact (hc4.imp fun t xs h => s9 _ _ h).cast (by simp) (by simp)
            · rw [List.length_append]
              cases b with
              | true => show ys.length + 1 ≤ _; omega
              | false => show ys.length + 0 ≤ _; omega
          have hv7 := (s6.trans s7) _ _ hv4
          obtain ⟨t2', ty2, k2⟩ := isa_str (Dp_same (s5.trans (s6.trans s7)) d2)
          refine ⟨_, rfl, x2, .ty "str", t2', _, _, rfl, .ty _, ty2, k2, _, rfl, ?_⟩
          cases hix : isaStr ix with
          | true =>
            refine iteT (.inr ⟨true, rfl, N, 1, _, rfl, rfl, e7, by decide, by decide, by show 1 * 1 ≤ sizeLine; decide, fun R hR => ⟨F, R, ys, _, rfl, rfl, (same_new hR) _ _ hv7, upd_same, by rw [sizeLine_eq]; show ys.length + 1 ≤ _; omega, fun W hW => ?_⟩⟩)
            exact tail true (by rw [hix]; rfl) R hR W hW
          | false =>
            refine iteF ?_
            cases ix with
            | int jx =>
              cases d2
              refine ⟨_, rfl, _, rfl, rfl, .inr ⟨decide (V.int jx = V.int k), rfl, ?_⟩⟩
              by_cases hjk : jx = k
              · rw [show decide (V.int jx = V.int k) = true by rw [hjk]; simp]
                refine ⟨N, 1, _, rfl, rfl, e7, by decide, by decide, by show 1 * 1 ≤ sizeLine; decide, fun R hR => ⟨F, R, ys, _, rfl, rfl, (same_new hR) _ _ hv7, upd_same, by rw [sizeLine_eq]; show ys.length + 1 ≤ _; omega, fun W hW => ?_⟩⟩
                exact tail true (by show true = (false || decide (jx = k)); simp [hjk]) R hR W hW
              · rw [show decide (V.int jx = V.int k) = false by rw [decide_eq_false_iff_not]; intro zz; injection zz with zz; exact hjk zz]
                refine ⟨N, 0, _, rfl, rfl, e7, by decide, by decide, by show 1 * 0 ≤ sizeLine; decide, fun R hR => ⟨F, R, ys, _, rfl, rfl, (same_new hR) _ _ hv7, upd_same, by rw [sizeLine_eq]; show ys.length + 0 ≤ _; omega, fun W hW => ?_⟩⟩
                exact tail false (by show false = (false || decide (jx = k)); simp [hjk]) R hR W hW
            | str _ => exact absurd hix (by simp [isaStr])
            | _ => exact absurd hi (by simp [dOper, dNum, dWord])
        · rw [show decide (V.int ((pos ws z : Nat) : Int) = V.int jp) = false by rw [decide_eq_false_iff_not]; intro zz; injection zz with zz; exact hj zz.symm]
          refine iteF (stay ?_)
          unfold inFace
          rw [show (isaStr (PyData.int jp) || intIs (PyData.int jp) ((pos ws (z, k).1 : Nat) : Int)) = false by show (false || decide (jp = _)) = false; simp [hj], Bool.and_false, Bool.false_and]
      | str _ => exact absurd hps (by simp [isaStr])
      | _ => exact absurd hp (by simp [dOper, dNum, dWord])
  rintro σ H4 ⟨F, ys, x6, x7, rfl, s4, hv4, hc4, hyl⟩
  rw [hcl, List.take_length] at hc4
  obtain ⟨em, hall⟩ := hc4.all
  refine ⟨_, rfl, F, ys, rfl, .inl ⟨SqL.of hv4, fun T hT => ?_⟩⟩
  have s6 := same_new (o := .tup ys) hT
  have dA := DpAll_cells (K := K) (H := upd H4 T (.tup ys)) (k := cellOf H4) (ys := ys) fun x hx => by
    obtain ⟨t, e, h⟩ := hall x hx
    exact ⟨t, e, SqT.of (s6 _ _ h)⟩
  rw [em] at dA
  exact q (.ref T) _ (s01.trans (s4.trans s6)) (.tup (SqT.of upd_same) dA)
end
end Sw
set_option maxRecDepth 100000
set_option maxHeartbeats 4000000
namespace Sw
open PySem PySem.Spec PyProof.Rows L2
/-! ### the law's face is the program's -/
theorem ltSI_irr {a : Str × Int} : ltSI a a = false := by
  rw [ltSI_no]
  rintro (h | ⟨_, h⟩)
  · exact LtS.irr h
  · omega
theorem ltSI_trans {a b c : Str × Int} (h1 : ltSI a b = true) (h2 : ltSI b c = true) : ltSI a c = true := by
  rw [ltSI_iff] at h1 h2 ⊢
  rcases h1 with h1 | ⟨e1, h1⟩
  · rcases h2 with h2 | ⟨e2, h2⟩
    · exact .inl (h1.trans h2)
    · exact .inl (e2 ▸ h1)
  · rcases h2 with h2 | ⟨e2, h2⟩
    · exact .inl (e1 ▸ h2)
    · exact .inr ⟨e1.trans e2, by omega⟩
theorem up_unique : ∀ {ys zs : List (Str × Int)}, ys.Pairwise (fun a b => ltSI a b = true) → zs.Pairwise (fun a b => ltSI a b = true) → (∀ x, x ∈ ys ↔ x ∈ zs) → ys = zs
  | [], [], _, _, _ => rfl
  | [], z :: zs, _, _, h => absurd ((h z).mpr List.mem_cons_self) List.not_mem_nil
  | y :: ys, [], _, _, h => absurd ((h y).mp List.mem_cons_self) List.not_mem_nil
  | y :: ys, z :: zs, h1, h2, h => by
    obtain ⟨a1, a2⟩ := List.pairwise_cons.mp h1
    obtain ⟨b1, b2⟩ := List.pairwise_cons.mp h2
    have no : ∀ {a : Str × Int}, ¬ ltSI a a = true := fun {a} q => by rw [ltSI_irr] at q; cases q
    have e : y = z := by
      rcases List.mem_cons.mp ((h y).mp List.mem_cons_self) with e | m1
      · exact e
      · rcases List.mem_cons.mp ((h z).mpr List.mem_cons_self) with e | m2
        · exact e.symm
        · exact absurd (ltSI_trans (b1 y m1) (a1 z m2)) no
    subst e
    rw [up_unique a2 b2]
    intro x
    constructor
    · intro hx
      rcases List.mem_cons.mp ((h x).mp (List.mem_cons_of_mem _ hx)) with e | m
      · subst e
        exact absurd (a1 x hx) no
      · exact m
    · intro hx
      rcases List.mem_cons.mp ((h x).mpr (List.mem_cons_of_mem _ hx)) with e | m
      · subst e
        exact absurd (b1 x hx) no
      · exact m
theorem up_of {cs : List (Str × Int)} (hs : SrtO.Srtd ltSI cs) (nd : cs.Nodup) : cs.Pairwise fun a b => ltSI a b = true := by
  have h := List.Pairwise.and hs nd
  refine h.imp fun {a b} hab => ?_
  obtain ⟨h1, h2⟩ := hab
  rw [ltSI_no] at h1
  rw [ltSI_iff]
  rcases tri a.1 b.1 with q | q | q
  · exact .inl q
  · refine .inr ⟨q, ?_⟩
    have n1 : ¬ b.2 < a.2 := fun z => h1 (.inr ⟨q.symm, z⟩)
    have n2 : a.2 ≠ b.2 := fun z => h2 (by cases a; cases b; exact Prod.ext q z)
    omega
  · exact absurd (.inl q) h1
theorem cellsL_up {zs : List (Str × Int)} (h : (zs.map (·.1)).Pairwise LtS) : (cellsL zs).Pairwise fun a b => ltSI a b = true := by
  unfold cellsL
  rw [List.pairwise_flatMap]
  refine ⟨fun p _ => ?_, ?_⟩
  · rw [List.pairwise_map]
    exact List.pairwise_lt_range.imp fun {a b} hab => by
      rw [ltSI_iff]
      exact .inr ⟨rfl, by show (a : Int) < (b : Int); omega⟩
  · rw [List.pairwise_map] at h
    refine h.imp fun {a b} hab x hx y hy => ?_
    obtain ⟨i, _, rfl⟩ := List.mem_map.mp hx
    obtain ⟨j, _, rfl⟩ := List.mem_map.mp hy
    rw [ltSI_iff]
    exact .inl hab
theorem mem_cells {zs : List (Str × Int)} {z : Str} {k : Int} : (z, k) ∈ cellsL zs ↔ ∃ m, (z, m) ∈ zs ∧ 0 ≤ k ∧ k < m := by
  unfold cellsL
  rw [List.mem_flatMap]
  constructor
  · rintro ⟨p, hp, hm⟩
    obtain ⟨j, hj, e⟩ := List.mem_map.mp hm
    have := List.mem_range.mp hj
    cases e
    exact ⟨p.2, hp, by omega, by omega⟩
  · rintro ⟨m, hm, h0, h1⟩
    exact ⟨(z, m), hm, List.mem_map.mpr ⟨k.toNat, List.mem_range.mpr (by show k.toNat < m.toNat; omega), by show (z, ((k.toNat : Nat) : Int)) = (z, k); rw [Int.toNat_of_nonneg h0]⟩⟩
theorem sz_of {zs : List (Str × Int)} (h : (zs.map (·.1)).Pairwise LtS) : ∀ {z : Str} {m : Int}, (z, m) ∈ zs → sz zs z = some m := by
  intro z m hm
  induction zs with
  | nil => cases hm
  | cons p r ih =>
    rw [List.map_cons, List.pairwise_cons] at h
    unfold sz
    rcases List.mem_cons.mp hm with e | hr
    · subst e
      rw [List.find?_cons_of_pos (by simp)]
      rfl
    · have : p.1 ≠ z := fun e => LtS.irr (e ▸ h.1 z (List.mem_map_of_mem (f := fun (q : Str × Int) => q.1) hr))
      rw [List.find?_cons_of_neg (by simpa using this)]
      exact ih h.2 hr
theorem getD_strs (ws : List Str) (j : Nat) (hj : j < ws.length) : strL0 ((ws.map PyData.str).getD j .none) = ws[j] := by
  rw [List.getD, List.getElem?_map, List.getElem?_eq_getElem hj]
  rfl
theorem pos_of {ws : List Str} (nd : ws.Nodup) {j : Nat} (hj : j < ws.length) : pos ws ws[j] = j := by
  obtain ⟨h1, _⟩ := pos_at (List.getElem_mem hj)
  obtain ⟨h2, h3⟩ := List.getElem?_eq_some_iff.mp h1
  have pw := List.pairwise_iff_getElem.mp nd
  rcases Nat.lt_trichotomy (pos ws ws[j]) j with q | q | q
  · exact absurd h3 (pw _ _ h2 hj q)
  · exact q
  · exact absurd h3.symm (pw _ _ hj h2 q)
theorem mem_pick {ws : List Str} {p : PyData} (nd : ws.Nodup) (ho : dOper p = true) (hw : within p (ws.length : Nat) = true) {z : Str} : z ∈ pickL (ws.map PyData.str) p ↔ z ∈ ws ∧ (isaStr p || intIs p (pos ws z : Nat)) = true := by
  unfold pickL
  rw [List.length_map, List.mem_map]
  constructor
  · rintro ⟨k, hk, rfl⟩
    obtain ⟨j, rfl, hj⟩ := chs_in ho hw k hk
    rw [Int.toNat_natCast, getD_strs ws j hj]
    refine ⟨List.getElem_mem hj, ?_⟩
    cases p with
    | int i =>
      have e : (j : Int) = i := by simpa [chs] using hk
      show (false || decide (i = _)) = true
      rw [pos_of nd hj, ← e]
      simp
    | str y => rfl
    | _ => cases ho
  · rintro ⟨hz, hp⟩
    obtain ⟨h1, _⟩ := pos_at hz
    obtain ⟨h2, h3⟩ := List.getElem?_eq_some_iff.mp h1
    refine ⟨(pos ws z : Nat), ?_, by rw [Int.toNat_natCast, getD_strs ws _ h2, h3]⟩
    cases p with
    | int i =>
      have e : i = (pos ws z : Nat) := by
        have : (false || decide (i = ((pos ws z : Nat) : Int))) = true := hp
        simpa using this
      rw [← e]
      simp [chs]
    | str y =>
      show _ ∈ (List.range ((ws.length : Nat) : Int).toNat).map fun (k : Nat) => (k : Int)
      exact List.mem_map.mpr ⟨_, List.mem_range.mpr (by omega), rfl⟩
    | _ => cases ho
theorem mem_chs {ix : PyData} {m k : Int} (hm : 1 ≤ m) (ho : dOper ix = true) (hw : within ix m = true) : k ∈ chs ix m ↔ 0 ≤ k ∧ k < m ∧ (isaStr ix || intIs ix k) = true := by
  cases ix with
  | int i =>
    have h' : (decide (0 ≤ i) && decide (i < m)) = true := hw
    rw [Bool.and_eq_true, decide_eq_true_eq, decide_eq_true_eq] at h'
    show k ∈ [i] ↔ 0 ≤ k ∧ k < m ∧ (false || decide (i = k)) = true
    simp
    constructor
    · rintro rfl; exact ⟨h'.1, h'.2, rfl⟩
    · rintro ⟨_, _, e⟩; exact e.symm
  | str y =>
    show k ∈ (List.range m.toNat).map (fun (k : Nat) => (k : Int)) ↔ 0 ≤ k ∧ k < m ∧ true = true
    rw [List.mem_map]
    constructor
    · rintro ⟨j, hj, rfl⟩
      have := List.mem_range.mp hj
      exact ⟨by omega, by omega, rfl⟩
    · rintro ⟨h0, h1, _⟩
      exact ⟨k.toNat, List.mem_range.mpr (by omega), Int.toNat_of_nonneg h0⟩
  | _ => cases ho
theorem chs_nodup (d : PyData) (m : Int) : (chs d m).Nodup := by
  cases d with
  | int i => show [i].Nodup; simp
  | _ =>
    show ((List.range m.toNat).map fun (k : Nat) => (k : Int)).Nodup
    exact List.Pairwise.map _ (fun a b hab e => hab (by omega)) List.nodup_range
theorem pick_nodup {ws : List Str} {p : PyData} (nd : ws.Nodup) (ho : dOper p = true) (hw : within p (ws.length : Nat) = true) : (pickL (ws.map PyData.str) p).Nodup := by
  unfold pickL
  rw [List.length_map]
  have hin := chs_in ho hw
  have hn := chs_nodup p (ws.length : Nat)
  generalize chs p (ws.length : Nat) = l at hin hn
  show List.Pairwise _ _
  rw [List.pairwise_map]
  refine List.Pairwise.imp_of_mem (fun {a b} ha hb hab e => ?_) hn
  obtain ⟨i, rfl, hi⟩ := hin a ha
  obtain ⟨j, rfl, hj⟩ := hin b hb
  rw [Int.toNat_natCast, Int.toNat_natCast, getD_strs ws i hi, getD_strs ws j hj] at e
  have h1 := pos_of nd hi
  have h2 := pos_of nd hj
  rw [e, h2] at h1
  exact hab (by rw [h1])
/-- the program's face, sorted, is the law's -/
theorem face_is {zs : List (Str × Int)} {ws : List Str} {p ix : PyData} {cs : List (Str × Int)} (hasc : (zs.map (·.1)).Pairwise LtS) (hwd : ∀ z ∈ zs, 1 ≤ z.2) (hA : addr zs (.tuple [.tuple (ws.map PyData.str), p, ix]) = true)
    (hs : SrtO.Srtd ltSI cs) (hpm : cs.Perm (faceL zs (.tuple [.tuple (ws.map PyData.str), p, ix]))) : cs = lface zs ws p ix := by
  obtain ⟨os', p', ix', e', hw, hnd, hne, hp, hi, hwp, hwi⟩ := addr_parts hA
  cases e'
  have esl : (ws.map PyData.str).map strL0 = ws := by rw [List.map_map]; exact List.map_id' ws
  rw [esl] at hnd
  rw [List.length_map] at hwp
  have hkz : ∀ z ∈ ws, ∃ m, sz zs z = some m ∧ 1 ≤ m ∧ within ix m = true := fun z hz => by
    obtain ⟨y, m, e, _, hm⟩ := hw (.str z) (List.mem_map_of_mem hz)
    cases e
    have h2 := hwi (.str z) (List.mem_map_of_mem hz)
    rw [show strL0 (.str z) = z from rfl, hm] at h2
    exact ⟨m, hm, hwd _ (sz_mem hm), h2⟩
  have hndF : (faceL zs (.tuple [.tuple (ws.map PyData.str), p, ix])).Nodup := by
    show (List.flatMap _ _).Pairwise _
    rw [List.pairwise_flatMap]
    refine ⟨fun z _ => List.Pairwise.map _ (fun a b hab e => hab (Prod.mk.inj e).2) (chs_nodup _ _), (pick_nodup hnd hp hwp).imp fun {a b} hab x hx y hy e => ?_⟩
    obtain ⟨i, _, rfl⟩ := List.mem_map.mp hx
    obtain ⟨j, _, rfl⟩ := List.mem_map.mp hy
    exact hab (Prod.mk.inj e).1
  refine up_unique (up_of hs (hpm.nodup_iff.mpr hndF)) ((cellsL_up hasc).filter _) fun c => ?_
  rw [hpm.mem_iff]
  obtain ⟨z, k⟩ := c
  show (z, k) ∈ (pickL (ws.map PyData.str) p).flatMap (fun z => (chs ix ((sz zs z).getD 0)).map fun k => (z, k)) ↔ (z, k) ∈ (cellsL zs).filter (inFace ws p ix)
  rw [List.mem_flatMap, List.mem_filter, mem_cells]
  constructor
  · rintro ⟨y, hy, hm⟩
    obtain ⟨k', hk, e⟩ := List.mem_map.mp hm
    cases e
    obtain ⟨hz, hpp⟩ := (mem_pick hnd hp hwp).mp hy
    obtain ⟨m, hm, h1, hwm⟩ := hkz z hz
    rw [hm] at hk
    obtain ⟨k0, k1, kk⟩ := (mem_chs h1 hi hwm).mp hk
    refine ⟨⟨m, sz_mem hm, k0, k1⟩, ?_⟩
    unfold inFace
    rw [show decide ((z, k).1 ∈ ws) = true by simpa using hz, hpp, kk]
    rfl
  · rintro ⟨⟨m, hm, k0, k1⟩, hf⟩
    unfold inFace at hf
    rw [Bool.and_eq_true, Bool.and_eq_true, decide_eq_true_eq] at hf
    obtain ⟨m', hm', h1, hwm⟩ := hkz z hf.1.1
    have e := sz_of hasc hm
    rw [hm'] at e
    cases e
    refine ⟨z, (mem_pick hnd hp hwp).mpr ⟨hf.1.1, hf.1.2⟩, List.mem_map.mpr ⟨k, ?_, rfl⟩⟩
    rw [hm']
    exact (mem_chs h1 hi hwm).mpr ⟨k0, k1, hf.2⟩
end Sw
set_option maxRecDepth 100000
set_option maxHeartbeats 4000000
namespace Sw
open PySem PySem.Spec PyProof.Rows L2
theorem sz_isSome {zs : List (Str × Int)} {z : Str} : (sz zs z).isSome = decide (z ∈ zs.map (·.1)) := by
  induction zs with
  | nil => rfl
  | cons p r ih =>
    unfold sz at *
    by_cases e : p.1 = z
    · rw [List.find?_cons_of_pos (by simpa using e)]
      simp [e]
    · rw [List.find?_cons_of_neg (by simpa using e), ih]
      simp [Ne.symm e]
theorem DpAll_pick {K : PySem.W.Frag} {H : Hp} {vs : List V} {ds : List PyData} (h : DpAll K H vs ds) : ∀ l : List Nat, (∀ i ∈ l, i < vs.length) → DpAll K H (l.map fun i => vs.getD i .non) (l.map fun i => ds.getD i .none)
  | [], _ => .nil
  | i :: l, hl => by
    have hi := hl i List.mem_cons_self
    obtain ⟨d, h1, h2⟩ := DpAll_get h (List.getElem?_eq_getElem hi)
    refine .cons ?_ (DpAll_pick h l fun j hj => hl j (List.mem_cons_of_mem _ hj))
    show Dp K H (vs.getD i .non) (ds.getD i .none)
    rw [show vs.getD i .non = vs[i] by simp [List.getD, hi], show ds.getD i .none = d by simp [List.getD, h1]]
    exact h2
def okW (zs : List (Str × Int)) (d : PyData) : Bool := dWord d && (sz zs (strL0 d)).isSome
theorem unlike_eq {zs : List (Str × Int)} {ds : List PyData} (h : ds ≠ []) : unlike zs (.tuple ds) = (ds.all (okW zs) && decide ((ds.map strL0).Nodup)) := by
  show (!ds.isEmpty && (ds.all fun d => dWord d && (sz zs (strL0 d)).isSome) && decide ((ds.map strL0).Nodup)) = _
  cases ds with
  | nil => exact absurd rfl h
  | cons _ _ => rfl
/-- the sizes of those objects that are named -/
def sizesOf (zs : List (Str × Int)) (ws : List Str) : List Int := (zs.filter fun p => decide (p.1 ∈ ws)).map (·.2)
theorem all_within {zs : List (Str × Int)} {ds : List PyData} {j m : Int} (ha : (zs.map (·.1)).Pairwise LtS) (hok : ds.all (okW zs) = true) (hm : m ∈ sizesOf zs (ds.map strL0)) (hle : ∀ y ∈ sizesOf zs (ds.map strL0), m ≤ y) :
    (ds.all fun d => within (.int j) ((sz zs (strL0 d)).getD 0)) = (decide (0 ≤ j) && decide (j < m)) := by
  obtain ⟨p, hp, hp2⟩ := List.mem_map.mp hm
  obtain ⟨hp3, hp4⟩ := List.mem_filter.mp hp
  rw [decide_eq_true_eq] at hp4
  obtain ⟨d, hd, hd2⟩ := List.mem_map.mp hp4
  rw [List.all_eq_true] at hok
  have hz : sz zs p.1 = some p.2 := sz_of ha hp3
  rw [Bool.eq_iff_iff, List.all_eq_true]
  constructor
  · intro h
    have := h d hd
    rw [hd2, hz, Option.getD_some, hp2] at this
    exact this
  · intro h e he
    have h' : 0 ≤ j ∧ j < m := by simpa using h
    have o := hok e he
    unfold okW at o
    rw [Bool.and_eq_true] at o
    obtain ⟨k, hk⟩ := Option.isSome_iff_exists.mp o.2
    have hk2 : k ∈ sizesOf zs (ds.map strL0) := List.mem_map.mpr ⟨(strL0 e, k), List.mem_filter.mpr ⟨sz_mem hk, by rw [decide_eq_true_eq]; exact List.mem_map_of_mem he⟩, rfl⟩
    have := hle k hk2
    rw [hk, Option.getD_some]
    show (decide (0 ≤ j) && decide (j < k)) = true
    rw [decide_eq_true h'.1, decide_eq_true (by omega)]
    rfl
theorem sizes_some {zs : List (Str × Int)} {ds : List PyData} (hok : ds.all (okW zs) = true) (hne : ds ≠ []) : 0 < (sizesOf zs (ds.map strL0)).length := by
  cases ds with
  | nil => exact absurd rfl hne
  | cons d r =>
    rw [List.all_eq_true] at hok
    have o := hok d List.mem_cons_self
    unfold okW at o
    rw [Bool.and_eq_true] at o
    obtain ⟨k, hk⟩ := Option.isSome_iff_exists.mp o.2
    have : k ∈ sizesOf zs ((d :: r).map strL0) := List.mem_map.mpr ⟨(strL0 d, k), List.mem_filter.mpr ⟨sz_mem hk, by simp⟩, rfl⟩
    exact List.length_pos_of_mem this
theorem bools_shaped (a b : Bool) : SeqAt.shaped (.list [.bool a, .bool b]) = true := by cases a <;> cases b <;> decide +kernel
theorem bools_eq (a b : Bool) : PyData.eqv (.list [.bool a, .bool b]) (.list [.bool false, .bool false]) = (!a && !b) := by cases a <;> cases b <;> decide +kernel
abbrev N27 : List Str := ["_law_objects_here", "_law_thing", "_law_words", "_law_pick", "_law_index", "_law_least", "_law_far", "_law_word_here", "_law_pair", "_law_size"]
abbrev scPair : Scope := { kind := .function, names := [(".0", .local), ("_law_pair", .local)], isGenerator := false, isCoroutine := false }
theorem blk_pair (sc : Scope) : BlkOk N27 sc scPair [("_law_pair", 8)] := by
  have h : blkC N27 (defScope (topS 27)) scPair [("_law_pair", 8)] = true := by decide +kernel
  exact blkOk_by ((show blkC N27 sc scPair [("_law_pair", 8)] = blkC N27 (defScope (topS 27)) scPair [("_law_pair", 8)] from rfl).trans h)
section
variable {P : Program} {w : World} {K : PySem.W.Frag} {mg : Str → Option Value} {base : Heap}
def spAddressed (K : PySem.W.Frag) : Sp := fun vs H Q _ => ∃ (vo v : V) (zs : List (Str × Int)) (d : PyData), vs = [vo, v] ∧ ObjsAt K H vo zs ∧ Dp K H v d ∧ (∃ M, Fit M 60 60 1000000 d) ∧ ∀ H', Same H H' → Q (.bl (addr zs d)) H'
theorem sc_addressed : FnScope N27 ["_law_objects_here", "_law_thing"] (defScope (topS 27)) := ⟨rfl, rfl, rfl, by decide +kernel, rfl, by decide +kernel, by decide +kernel⟩
theorem ok_addressed {f f1 f2 : Addr} {fd fd1 fd2 : FuncData} (D : Df K mg "_law_addressed" (topS 27) ["_law_objects_here", "_law_thing"] f fd) (D1 : Df K mg "_law_worded" (topS 23) ["_law_thing"] f1 fd1) (D2 : Df K mg "_law_operanded" (topS 24) ["_law_thing"] f2 fd2) (B : Bt mg) (bMin : mg "min" = none)
    (G1 : FnOk P w K mg base CX0 1 f1 fd1 ["_law_thing"] (spLook K dWord)) (G2 : FnOk P w K mg base CX0 2 f2 fd2 ["_law_thing"] (spLook K dOper)) : FnOk P w K mg base CX0 3 f fd ["_law_objects_here", "_law_thing"] (spAddressed K) := by
  refine D.fn.ok sc_addressed (fun vs H Q E h => ?_) (fun cdv A outer s H vs Q E hr h => ?_)
  · obtain ⟨vo, v, zs, d, rfl, _⟩ := h
    rfl
  obtain ⟨vo, v, zs, d, rfl, hO, hd, ⟨M, hf⟩, q⟩ := h
  have nd := sc_addressed.nd
  have hu := hr.units
  have hr1 : Room 1 _ := hr.mono (by decide)
  refine ⟨_, pss_cons (ps_if (PW.pt (pw_or (pt_not (pt_val (pe_callB call_isi (by rfl) B.isi (by decide +kernel) (pa_cons (pv 1) (pa_cons (pe_bltn (v := .ty "tuple") (by rfl) B.tuple (by decide +kernel) rfl) pa_nil)))))
      (pw_or (pt_cmpR op_ne (pe_callB call_len_seq (by rfl) B.len PySem.boot_len (pa_cons (pv 1) pa_nil)) pe_int (nomark _))
      (pw_or (pt_not (pt_val (pe_callB call_isi (by rfl) B.isi (by decide +kernel) (pa_cons (pe_ix ix_tup (pv 1) pe_int (fun _ _ => rfl)) (pa_cons (pe_bltn (v := .ty "tuple") (by rfl) B.tuple (by decide +kernel) rfl) pa_nil)))))
      (pw_or1 (pt_cmpR (op_eqD hu) (pe_ix ix_tup (pv 1) pe_int (fun _ _ => rfl)) (pe_tup pa_nil) (nomark _))))))) (pss_one (ps_ret pe_bl)) pss_nil)
    (pss_cons (ps_asg (pv 1) (pg_tup rfl (pgs_cons (pg_name (i := 2) nd rfl (Or.inr rfl)) (pgs_cons (pg_name (i := 3) nd rfl (Or.inl rfl)) (pgs_cons (pg_name (i := 4) nd rfl (Or.inl rfl)) pgs_nil)))))
    (pss_cons (ps_if (pt_cmpR (op_neD hu) (pe_lc (own := [("_law_word_here", 7)]) (g := gName 7) rfl nd (pi_tup (pv 2))
        (blkOk_by (N := N27) (sc := defScope (topS 27)) (by decide +kernel)) (fun _ _ _ _ _ => pg_name (i := 7) nd rfl (Or.inl rfl))
        (fun _ _ _ _ _ => pts_one (PW.pt (pw_or (pt_not (pt_val (pe_call G1 hr1 (by rfl) D1.gl D1.fn.kp D1.bd .nil pass0 (pa_cons (pv 7) pa_nil))))
          (pw_or1 (pt_cmpR (r := rIn K true) op_notIn_seq (pv 7) (pe_lc (own := [("_law_pair", 8)]) (wi := iTup K (tVar 0)) (g := gName 8) (tt := tYes) rfl nd (pi_tup (pv 0))
            (blk_pair _) (fun _ _ _ _ _ => pg_name (i := 8) nd rfl (Or.inl rfl)) (fun _ _ _ _ _ => pts_nil)
            (fun _ _ _ _ _ => pe_ix (r := rIxT K) ix_tup (pv 8) pe_int (fun _ _ => rfl))) (by rfl))))))
        (fun _ _ _ _ _ => pv 7)) (pe_lst pa_nil) (nomark _)) (pss_one (ps_ret pe_bl)) pss_nil)
    (pss_cons (ps_if (PW.pt (pw_or (pt_cmpR op_lt (pe_callB cr_lenSS (by rfl) B.len PySem.boot_len (pa_cons (pe_callTy (cr_setST rfl) (by rfl) B.set (by decide +kernel) (pa_cons (pv 2) pa_nil)) pa_nil)) (pe_callB call_len_seq (by rfl) B.len PySem.boot_len (pa_cons (pv 2) pa_nil)) (nomark _))
      (pw_or (pt_not (pt_val (pe_call G2 hr (by rfl) D2.gl D2.fn.kp D2.bd .nil pass0 (pa_cons (pv 3) pa_nil)))) (pw_or1 (pt_not (pt_val (pe_call G2 hr (by rfl) D2.gl D2.fn.kp D2.bd .nil pass0 (pa_cons (pv 4) pa_nil)))))))) (pss_one (ps_ret pe_bl)) pss_nil)
    (pss_cons (ps_set (i := 5) nd rfl (Or.inl rfl) (pe_callB (cr_min rfl) (by rfl) bMin (by decide +kernel) (pa_cons (pe_lc (own := [("_law_word_here", 7), ("_law_size", 9)]) (g := gTup K 2 (gCons (gName 7) (gCons (gName 9) gNil))) rfl nd (pi_tup (pv 0))
        (blkOk_by (N := N27) (sc := defScope (topS 27)) (by decide +kernel)) (fun _ _ _ _ _ => pg_tup rfl (pgs_cons (pg_name (i := 7) nd rfl (Or.inl rfl)) (pgs_cons (pg_name (i := 9) nd rfl (Or.inl rfl)) pgs_nil)))
        (fun _ _ _ _ _ => pts_one (pt_cmpR (r := rIn K false) op_in_seq (pv 7) (pv 2) (by rfl)))
        (fun _ _ _ _ _ => pv 9)) pa_nil)))
    (pss_cons (ps_set (i := 6) nd rfl (Or.inl rfl) (pe_lst (pa_cons
        (pe_and (pe_callB call_isi (by rfl) B.isi (by decide +kernel) (pa_cons (pv 3) (pa_cons (pe_bltn (v := .ty "int") (by rfl) B.int (by decide +kernel) rfl) pa_nil))) (pe_one (pe_cmpR op_notIn_rng (pv 3) (pe_callTy cr_range1 (by rfl) B.range (by decide +kernel) (pa_cons (pe_callB call_len_seq (by rfl) B.len PySem.boot_len (pa_cons (pv 2) pa_nil)) pa_nil)) (by rfl))))
        (pa_cons (pe_and (pe_callB call_isi (by rfl) B.isi (by decide +kernel) (pa_cons (pv 4) (pa_cons (pe_bltn (v := .ty "int") (by rfl) B.int (by decide +kernel) rfl) pa_nil))) (pe_one (pe_not (pe_chain op_le op_lt pe_int (pv 4) (pv 5))))) pa_nil))))
    (pss_one (ps_ret (pe_cmpR (op_eqD hu) (pv 6) (pe_lst (pa_cons pe_bl (pa_cons pe_bl pa_nil))) (nomark _))))))))), ?_⟩
  clear G1 G2 D1 D2 D B bMin hr hr1
  obtain ⟨t1, ty1, k1⟩ := isa_tup hd
  refine ⟨v, rfl, v, .ty "tuple", t1, _, _, rfl, .ty _, ty1, k1, _, rfl, ?_⟩
  cases hd with
  | @tup a xs ds hx hr0 =>
    have hlen := DpAll_len hr0
    obtain ⟨hl, _, _, hin⟩ := hf.inTup
    refine iteF ⟨_, rfl, a, _, rfl, .inr hx, rfl, _, rfl, ?_⟩
    by_cases h3 : ds.length = 3
    rotate_left
    · have e1 : (!decide (V.int (xs.length : Nat) = V.int 3)) = true := by
        rw [Bool.not_eq_true', decide_eq_false_iff_not]
        intro z
        injection z with z
        omega
      refine ite2 (fun _ => ?_) (fun c => absurd e1 c)
      exact q_of (addrN h3) (q H (Same.refl H))
    have e1 : ¬ (!decide (V.int (xs.length : Nat) = V.int 3)) = true := by
      rw [hlen, h3]
      simp
    refine ite2 (fun c => absurd c e1) (fun _ => ?_)
    obtain ⟨d0, d1, d2, rfl⟩ := three h3
    obtain ⟨x0, x1, x2, rfl⟩ := three (hlen.trans h3)
    cases hr0 with
    | cons p0 r0 =>
    cases r0 with
    | cons p1 r1 =>
    cases r1 with
    | cons p2 r2 =>
    have ft : ∀ e ∈ [d0, d1, d2], Fit M 60 60 1000000 e := fun e he => (hin e he).mono (Nat.le_refl _) (Nat.le_refl _) (by omega) (Nat.le_refl _)
    have f0 := ft d0 (by simp)
    have f1 := ft d1 (by simp)
    have f2 := ft d2 (by simp)
    have ea := addr3 zs d0 d1 d2
    clear hin h3 e1 hlen hl ft hf
    obtain ⟨t0, ty0, k0⟩ := isa_tup p0
    refine ⟨_, rfl, a, _, 0, _, rfl, rfl, hx, atI_nat (j := 0) rfl, x0, .ty "tuple", t0, _, _, rfl, .ty _, ty0, k0, _, rfl, ?_⟩
    cases d0 with
    | tuple ds0 =>
      refine iteF ⟨_, rfl, a, _, 0, _, rfl, rfl, hx, atI_nat (j := 0) rfl, Nat.zero_le _, fun N hN => ?_⟩
      have sN := same_new (o := .tup []) hN
      refine ⟨.tuple ds0, .tuple [], Dp_same sN p0, .tup (SqT.of upd_same) .nil, f0.shaped (by omega), nilT_shaped, _, rfl, ?_⟩
      generalize upd H N (.tup []) = H0 at sN
      rw [eqv_nil_tup]
      refine ite2 (fun c => ?_) (fun c => ?_)
      · have e : ds0 = [] := by simpa using c
        subst e
        exact q_of (by rw [ea]; rfl) (q H0 sN)
      have hne : ds0 ≠ [] := fun e => c (by rw [e]; rfl)
      have eu := unlike_eq (zs := zs) hne
      have hx0' := sameT sN hx
      refine ⟨_, rfl, a, _, rfl, hx0', rfl, x0, _, rfl, x1, _, rfl, x2, _, rfl, rfl, ?_⟩
      cases id p0 with
      | @tup a0 xs0 _ hx0 hr00 =>
      have hl0 := DpAll_len hr00
      obtain ⟨hl00, _, _, hin0⟩ := f0.inTup
      have hx00 := sameT sN hx0
      have hr01 := DpAll_same sN hr00
      have hO0 := hO.same sN
      refine ⟨_, rfl, a0, rfl, ⟨_, hx00⟩, fun L hL => lc_pure (walk_tup (xs := xs0)) (fun i => !okW zs (ds0.getD i .none)) (fun i => xs0.getD i .non) hL (fun _ h => sameT h hx00) (big_size (by omega)) ?_ ?_ ?_⟩
      · intro i x H1 Q1 hi hxi hs q1
        obtain ⟨d, hdi, hdp⟩ := DpAll_get (DpAll_same hs hr01) hxi
        have e : ds0.getD i .none = d := by simp [List.getD, hdi]
        rw [e] at q1
        refine ⟨x, rfl, x, d, rfl, hdp, ⟨M, (hin0 d (List.mem_of_getElem? hdi)).mono (Nat.le_refl _) (Nat.le_refl _) (by omega) (Nat.le_refl _)⟩, fun H2 s2 => ⟨_, rfl, ?_⟩⟩
        cases hw : dWord d with
        | false =>
          have : okW zs d = false := by unfold okW; rw [hw]; rfl
          rw [this] at q1
          exact iteT (q1 H2 s2)
        | true =>
        refine iteF ?_
        cases d with
        | str z =>
          cases hdp
          have hO2 := hO0.same (hs.trans s2)
          obtain ⟨ao, ps, rfl, hfo, hpo⟩ := hO2.ex
          have hlp : ps.length = zs.length := hpo.length
          have few := hO2.few
          have hsq : SqT K H2 ao (ps.map V.ref) := hfo.sq
          refine ⟨_, rfl, _, rfl, ao, rfl, ⟨_, hsq⟩, fun L2 hL2 => lc_map (walk_tup (xs := ps.map V.ref)) (fun j => V.str (zs.getD j (Str.empty, 0)).1) hL2 (fun _ h => sameT h hsq) (big_size (by rw [List.length_map]; omega)) ?_ ?_⟩
          · intro j y H3 Q3 hj hy hs3 q3
            rw [List.length_map] at hj
            rw [List.getElem?_map, List.getElem?_eq_getElem hj] at hy
            have hy' : V.ref ps[j] = y := Option.some.inj hy
            subst hy'
            obtain ⟨zk, hzk, hsz⟩ := paired_get hpo (List.getElem?_eq_getElem hj)
            have ez : zs.getD j (Str.empty, 0) = zk := by simp [List.getD, hzk]
            rw [ez] at q3
            exact ⟨_, rfl, _, _, 0, _, rfl, rfl, sameT hs3 hsz, atI_nat (j := 0) rfl, q3 H3 (Same.refl H3)⟩
          · intro H3 s3 hL3
            have eL : (List.range (ps.map V.ref).length).map (fun j => V.str (zs.getD j (Str.empty, 0)).1) = (zs.map (·.1)).map V.str := by
              apply List.ext_getElem?
              intro j
              simp only [List.getElem?_map]
              by_cases h : j < zs.length
              · rw [List.getElem?_range (by rw [List.length_map]; omega), List.getElem?_eq_getElem h]
                simp [List.getD, h]
              · rw [List.getElem?_eq_none (by simp; omega), List.getElem?_eq_none (by omega)]
                rfl
            rw [eL] at hL3
            refine ⟨L2, _, rfl, .inl (SqL.of hL3), rfl, flat_strs _, _, rfl, ?_⟩
            rw [if_pos rfl, inV_strs]
            have e2 : okW zs (.str z) = decide (z ∈ zs.map (·.1)) := by unfold okW; rw [hw, Bool.true_and, ← sz_isSome]; rfl
            rw [e2] at q1
            exact q1 H3 (s2.trans s3)
        | _ => exact absurd hw (by simp [dWord])
      · intro i x H1 Q1 hi hxi hp hs q1
        have e : xs0.getD i .non = x := by simp [List.getD, hxi]
        rw [e] at q1
        exact ⟨_, rfl, q1 H1 (Same.refl H1)⟩
      intro H1 s1 hL1
      refine ⟨Nat.zero_le _, fun N2 hN2 => ?_⟩
      have s2 := same_new (o := .lst []) hN2
      have hrp := DpAll_pick (DpAll_same (s1.trans s2) hr01) ((List.range xs0.length).filter fun i => !okW zs (ds0.getD i .none)) (fun i hi => List.mem_range.mp (List.mem_filter.mp hi).1)
      refine ⟨.list (((List.range xs0.length).filter fun i => !okW zs (ds0.getD i .none)).map fun i => ds0.getD i .none), .list [], .lst (SqL.of (s2 _ _ hL1)) hrp, .lst (SqL.of upd_same) .nil, fit_shaped (M := M) (l := 60) (n := 60) (B := 1000000) ?_ (by omega), nil_shaped, _, rfl, ?_⟩
      · intro d hd
        obtain ⟨i, hi, rfl⟩ := List.mem_map.mp hd
        have hi2 : i < ds0.length := by have := List.mem_range.mp (List.mem_filter.mp hi).1; omega
        have : ds0.getD i .none = ds0[i] := by simp [List.getD, hi2]
        rw [this]
        exact (hin0 _ (List.getElem_mem hi2)).mono (Nat.le_refl _) (Nat.le_refl _) (by omega) (Nat.le_refl _)
      have ee : (((List.range xs0.length).filter fun i => !okW zs (ds0.getD i .none)).map fun i => ds0.getD i .none).isEmpty = ds0.all (okW zs) := by
        rw [hl0, ← range_filter_all (okW zs)]
        exact isEmpty_len (List.length_map _)
      rw [eqv_nil_list, ee]
      have s02 := sN.trans (s1.trans s2)
      generalize upd H1 N2 (.lst []) = H2 at s2 s02 hrp
      clear hrp hL1 s2 s1 hL hN2
      cases hall : ds0.all (okW zs) with
      | false =>
        refine iteT ?_
        exact q_of (by rw [ea, eu, hall]; rfl) (q H2 s02)
      | true =>
      refine iteF ?_
      have cw : ds0.all dWord = true := by
        rw [List.all_eq_true] at hall ⊢
        intro d hd
        have := hall d hd
        unfold okW at this
        rw [Bool.and_eq_true] at this
        exact this.1
      have ex := DpAll_words hr00 cw
      have hx2 := sameT s02 hx0
      rw [ex] at hx2
      refine ⟨_, rfl, a0, ds0.map strL0, rfl, hx2, by rw [List.length_map]; omega, fun S Ls hS lS mS nS => ?_⟩
      have s3 := same_new (o := SetSO w S Ls) hS
      refine ⟨S, Ls, rfl, upd_same, _, rfl, a0, _, rfl, .inr (sameT s3 hx2), _, _, rfl, rfl, _, rfl, ?_⟩
      have e2 : decide (((Ls.length : Nat) : Int) < (((ds0.map strL0).map V.str).length : Nat)) = !decide ((ds0.map strL0).Nodup) := by
        have := nodup_iff nS lS mS
        rw [List.length_map (f := V.str)]
        by_cases hnd : (ds0.map strL0).Nodup
        · have l1 := this.mpr hnd
          rw [decide_eq_true hnd, decide_eq_false (by omega)]
          rfl
        · rw [decide_eq_false hnd, decide_eq_true]
          · rfl
          · have : Ls.length ≠ (ds0.map strL0).length := fun e => hnd (this.mp e)
            omega
      rw [e2]
      have s03 := s02.trans s3
      clear lS mS nS e2
      cases hnd : decide ((ds0.map strL0).Nodup) with
      | false => exact iteT (q_of (by rw [ea, eu, hall, hnd]; rfl) (q _ s03))
      | true =>
      rw [hall, hnd, Bool.true_and] at eu
      refine iteF ⟨_, rfl, x1, d1, rfl, Dp_same s03 p1, ⟨M, f1⟩, fun H4 s4 => ⟨_, rfl, ?_⟩⟩
      have s04 := s03.trans s4
      cases h1 : dOper d1 with
      | false => exact iteT (q_of (by rw [ea, eu, h1]; rfl) (q H4 s04))
      | true =>
      refine iteF ⟨_, rfl, x2, d2, rfl, Dp_same s04 p2, ⟨M, f2⟩, fun H5 s5 => ⟨_, rfl, ?_⟩⟩
      have s05 := s04.trans s5
      cases h2 : dOper d2 with
      | false => exact iteT (q_of (by rw [ea, eu, h1, h2]; rfl) (q H5 s05))
      | true =>
      refine iteF ?_
      rw [eu, h1, h2, Bool.true_and, Bool.true_and, Bool.true_and, show tupL (.tuple ds0) = ds0 from rfl] at ea
      have hO6 := hO.same s05
      obtain ⟨ao, ps, rfl, hfo, hpo⟩ := hO6.ex
      have hlp : ps.length = zs.length := hpo.length
      have few := hO6.few
      have hsq : SqT K H5 ao (ps.map V.ref) := hfo.sq
      have hxw : SqT K H5 a0 ((ds0.map strL0).map V.str) := by have := sameT s05 hx0; rw [ex] at this; exact this
      have hnn := sizes_some hall hne
      refine ⟨_, rfl, ao, rfl, ⟨_, hsq⟩, fun L6 hL6 => lc_it (walk_tup (xs := ps.map V.ref)) (fun n H' => Same H5 H' ∧ H' L6 = some (.lst ((sizesOf (zs.take n) (ds0.map strL0)).map V.int)))
        ⟨same_new hL6, upd_same⟩ (fun n H' _ h => sameT h.1 hsq) ?_ ?_⟩
      · rintro n x H6 H7 hn ⟨s6, hv6⟩ ⟨rfl, hxn⟩
        rw [List.length_map] at hn
        rw [List.getElem?_map, List.getElem?_eq_getElem hn] at hxn
        have hxn' : V.ref ps[n] = x := Option.some.inj hxn
        subst hxn'
        obtain ⟨zk, hzk, hsz⟩ := paired_get hpo (List.getElem?_eq_getElem hn)
        have etk : sizesOf (zs.take (n + 1)) (ds0.map strL0) = sizesOf (zs.take n) (ds0.map strL0) ++ (if decide (zk.1 ∈ ds0.map strL0) = true then [zk.2] else []) := by
          unfold sizesOf
          rw [List.take_succ, hzk]
          show ((zs.take n ++ [zk]).filter _).map _ = _
          rw [List.filter_append, List.map_append]
          congr 1
          by_cases h : zk.1 ∈ ds0.map strL0
          · have hd := decide_eq_true h
            simp only [List.filter_cons, List.filter_nil, hd, if_true, List.map_cons, List.map_nil]
          · have hd := decide_eq_false h
            simp only [List.filter_cons, List.filter_nil, hd, List.map_nil]
            rfl
        have hfl : (sizesOf (zs.take n) (ds0.map strL0)).length ≤ 4 := by
          unfold sizesOf
          rw [List.length_map]
          have := List.length_filter_le (fun p : Str × Int => decide (p.1 ∈ ds0.map strL0)) (zs.take n)
          rw [List.length_take] at this
          omega
        refine ⟨_, _, rfl, sameT s6 hsz, rfl, _, _, rfl, _, _, rfl, rfl, rfl, ?_⟩
        refine ⟨_, rfl, _, rfl, a0, _, rfl, .inr (sameT s6 hxw), rfl, flat_strs _, _, rfl, ?_⟩
        rw [if_neg (by simp), inV_strs]
        by_cases h : zk.1 ∈ ds0.map strL0
        · rw [if_pos (decide_eq_true h)] at etk
          rw [if_pos (decide_eq_true h)]
          refine ⟨_, rfl, _, hv6, by rw [List.length_map]; exact small1000 (by omega), fun c o e => ?_, ?_⟩
          · rw [upd_ne (ne_of_none e hL6)]
            exact s6 _ _ e
          · rw [upd_same, etk, List.map_append]
            rfl
        · rw [if_neg (by rw [decide_eq_true_eq]; exact h), List.append_nil] at etk
          rw [if_neg (by rw [decide_eq_true_eq]; exact h)]
          exact ⟨s6, by rw [etk]; exact hv6⟩
      rintro H6 ⟨s6, hv6⟩
      rw [List.length_map, hlp, List.take_length] at hv6
      refine ⟨L6, _, rfl, SqL.of hv6, hnn, fun m hm hle => ?_⟩
      have s06 := s05.trans s6
      clear hv6 s6 hL6
      obtain ⟨t3, ty3, k3⟩ := isa_int (Dp_same s06 p1)
      refine ⟨_, rfl, x1, .ty "int", t3, _, _, rfl, .ty _, ty3, k3, _, rfl, ?_⟩
      have hwl : ((ds0.map strL0).map V.str).length = ds0.length := by rw [List.length_map, List.length_map]
      cases d1 with
      | int i =>
        cases p1
        refine iteT ⟨_, rfl, _, rfl, a0, _, rfl, .inr (by have := sameT s06 hx0; rw [ex] at this; exact this), _, rfl, fun R hR => ⟨i, R, 0, _, rfl, rfl, upd_same, ?_⟩⟩
        rw [hwl]
        have s07 := s06.trans (same_new (o := .rng 0 (ds0.length : Nat)) hR)
        have e1 : within (.int i) (ds0.length : Nat) = decide (0 ≤ i ∧ i < (ds0.length : Nat)) := by
          show (decide (0 ≤ i) && decide (i < _)) = _
          rw [Bool.decide_and]
        rw [e1] at ea
        generalize decide (0 ≤ i ∧ i < ((ds0.length : Nat) : Int)) = b at ea
        obtain ⟨t4, ty4, k4⟩ := isa_int (Dp_same s07 p2)
        refine ⟨_, rfl, x2, .ty "int", t4, _, _, rfl, .ty _, ty4, k4, _, rfl, ?_⟩
        cases d2 with
        | int j =>
          cases p2
          have ew := all_within (j := j) hO6.asc hall hm hle
          rw [ew] at ea
          refine iteT ⟨_, rfl, _, _, rfl, rfl, _, rfl, ?_⟩
          by_cases hj : 0 ≤ j
          · refine ite2 (fun _ => ?_) (fun c => absurd (decide_eq_true hj) c)
            refine ⟨_, rfl, _, _, rfl, rfl, _, rfl, ?_⟩
            refine ⟨by show 2 ≤ sizeLine; decide, fun L6 hL6 => ?_⟩
            have s8 := same_new (o := .lst [.bl (!b), .bl (!decide (j < m))]) hL6
            refine ⟨_, rfl, by show 2 ≤ sizeLine; decide, fun L7 hL7 => ?_⟩
            have s9 := same_new (o := .lst [.bl false, .bl false]) hL7
            refine ⟨.list [.bool (!b), .bool (!decide (j < m))], .list [.bool false, .bool false], .lst (SqL.of (s9 _ _ upd_same)) (.cons (.bl _) (.cons (.bl _) .nil)), .lst (SqL.of upd_same) (.cons (.bl _) (.cons (.bl _) .nil)), bools_shaped _ _, bools_shaped _ _, ?_⟩
            rw [bools_eq]
            refine q_of ?_ (q _ (s07.trans (s8.trans s9)))
            rw [ea, decide_eq_true hj]; simp
          · refine ite2 (fun c => absurd (of_decide_eq_true c) hj) (fun _ => ?_)
            first
              | refine ⟨false, rfl, ?_⟩
              | refine ⟨false, congrArg V.bl (decide_eq_false hj), ?_⟩
            refine ⟨by show 2 ≤ sizeLine; decide, fun L6 hL6 => ?_⟩
            have s8 := same_new (o := .lst [.bl (!b), .bl (!false)]) hL6
            refine ⟨_, rfl, by show 2 ≤ sizeLine; decide, fun L7 hL7 => ?_⟩
            have s9 := same_new (o := .lst [.bl false, .bl false]) hL7
            refine ⟨.list [.bool (!b), .bool (!false)], .list [.bool false, .bool false], .lst (SqL.of (s9 _ _ upd_same)) (.cons (.bl _) (.cons (.bl _) .nil)), .lst (SqL.of upd_same) (.cons (.bl _) (.cons (.bl _) .nil)), bools_shaped _ _, bools_shaped _ _, ?_⟩
            rw [bools_eq]
            refine q_of ?_ (q _ (s07.trans (s8.trans s9)))
            rw [ea, decide_eq_false hj]; simp
        | str z =>
          refine iteF ?_
          have ew : (ds0.all fun d => within (.str z) ((sz zs (strL0 d)).getD 0)) = true := List.all_eq_true.mpr fun _ _ => rfl
          rw [ew] at ea
          refine ⟨by show 2 ≤ sizeLine; decide, fun L6 hL6 => ?_⟩
          have s8 := same_new (o := .lst [.bl (!b), .bl (false)]) hL6
          refine ⟨_, rfl, by show 2 ≤ sizeLine; decide, fun L7 hL7 => ?_⟩
          have s9 := same_new (o := .lst [.bl false, .bl false]) hL7
          refine ⟨.list [.bool (!b), .bool (false)], .list [.bool false, .bool false], .lst (SqL.of (s9 _ _ upd_same)) (.cons (.bl _) (.cons (.bl _) .nil)), .lst (SqL.of upd_same) (.cons (.bl _) (.cons (.bl _) .nil)), bools_shaped _ _, bools_shaped _ _, ?_⟩
          rw [bools_eq]
          refine q_of ?_ (q _ (s07.trans (s8.trans s9)))
          rw [ea]; simp
        | none => cases h2
        | bool _ => cases h2
        | list _ => cases h2
        | tuple _ => cases h2
        | dict _ => cases h2
      | str z1 =>
        refine iteF ?_
        have e1 : within (.str z1) (ds0.length : Nat) = true := rfl
        rw [e1, Bool.true_and] at ea
        obtain ⟨t4, ty4, k4⟩ := isa_int (Dp_same s06 p2)
        refine ⟨_, rfl, x2, .ty "int", t4, _, _, rfl, .ty _, ty4, k4, _, rfl, ?_⟩
        cases d2 with
        | int j =>
          cases p2
          have ew := all_within (j := j) hO6.asc hall hm hle
          rw [ew] at ea
          refine iteT ⟨_, rfl, _, _, rfl, rfl, _, rfl, ?_⟩
          by_cases hj : 0 ≤ j
          · refine ite2 (fun _ => ?_) (fun c => absurd (decide_eq_true hj) c)
            refine ⟨_, rfl, _, _, rfl, rfl, _, rfl, ?_⟩
            refine ⟨by show 2 ≤ sizeLine; decide, fun L6 hL6 => ?_⟩
            have s8 := same_new (o := .lst [.bl (false), .bl (!decide (j < m))]) hL6
            refine ⟨_, rfl, by show 2 ≤ sizeLine; decide, fun L7 hL7 => ?_⟩
            have s9 := same_new (o := .lst [.bl false, .bl false]) hL7
            refine ⟨.list [.bool (false), .bool (!decide (j < m))], .list [.bool false, .bool false], .lst (SqL.of (s9 _ _ upd_same)) (.cons (.bl _) (.cons (.bl _) .nil)), .lst (SqL.of upd_same) (.cons (.bl _) (.cons (.bl _) .nil)), bools_shaped _ _, bools_shaped _ _, ?_⟩
            rw [bools_eq]
            refine q_of ?_ (q _ (s06.trans (s8.trans s9)))
            rw [ea, decide_eq_true hj]; simp
          · refine ite2 (fun c => absurd (of_decide_eq_true c) hj) (fun _ => ?_)
            first
              | refine ⟨false, rfl, ?_⟩
              | refine ⟨false, congrArg V.bl (decide_eq_false hj), ?_⟩
            refine ⟨by show 2 ≤ sizeLine; decide, fun L6 hL6 => ?_⟩
            have s8 := same_new (o := .lst [.bl (false), .bl (!false)]) hL6
            refine ⟨_, rfl, by show 2 ≤ sizeLine; decide, fun L7 hL7 => ?_⟩
            have s9 := same_new (o := .lst [.bl false, .bl false]) hL7
            refine ⟨.list [.bool (false), .bool (!false)], .list [.bool false, .bool false], .lst (SqL.of (s9 _ _ upd_same)) (.cons (.bl _) (.cons (.bl _) .nil)), .lst (SqL.of upd_same) (.cons (.bl _) (.cons (.bl _) .nil)), bools_shaped _ _, bools_shaped _ _, ?_⟩
            rw [bools_eq]
            refine q_of ?_ (q _ (s06.trans (s8.trans s9)))
            rw [ea, decide_eq_false hj]; simp
        | str z =>
          refine iteF ?_
          have ew : (ds0.all fun d => within (.str z) ((sz zs (strL0 d)).getD 0)) = true := List.all_eq_true.mpr fun _ _ => rfl
          rw [ew] at ea
          refine ⟨by show 2 ≤ sizeLine; decide, fun L6 hL6 => ?_⟩
          have s8 := same_new (o := .lst [.bl (false), .bl (false)]) hL6
          refine ⟨_, rfl, by show 2 ≤ sizeLine; decide, fun L7 hL7 => ?_⟩
          have s9 := same_new (o := .lst [.bl false, .bl false]) hL7
          refine ⟨.list [.bool (false), .bool (false)], .list [.bool false, .bool false], .lst (SqL.of (s9 _ _ upd_same)) (.cons (.bl _) (.cons (.bl _) .nil)), .lst (SqL.of upd_same) (.cons (.bl _) (.cons (.bl _) .nil)), bools_shaped _ _, bools_shaped _ _, ?_⟩
          rw [bools_eq]
          refine q_of ?_ (q _ (s06.trans (s8.trans s9)))
          rw [ea]; simp
        | none => cases h2
        | bool _ => cases h2
        | list _ => cases h2
        | tuple _ => cases h2
        | dict _ => cases h2
      | none => cases h1
      | bool _ => cases h1
      | list _ => cases h1
      | tuple _ => cases h1
      | dict _ => cases h1
    | none => exact iteT (q_of (by rw [ea]; rfl) (q H (Same.refl H)))
    | bool _ => exact iteT (q_of (by rw [ea]; rfl) (q H (Same.refl H)))
    | int _ => exact iteT (q_of (by rw [ea]; rfl) (q H (Same.refl H)))
    | str _ => exact iteT (q_of (by rw [ea]; rfl) (q H (Same.refl H)))
    | list _ => exact iteT (q_of (by rw [ea]; rfl) (q H (Same.refl H)))
    | dict _ => cases p0
  | non => exact iteT (q H (Same.refl H))
  | bl b => exact iteT (q H (Same.refl H))
  | int i => exact iteT (q H (Same.refl H))
  | str z => exact iteT (q H (Same.refl H))
  | lst h r => exact iteT (q H (Same.refl H))
end
end Sw
set_option maxRecDepth 100000
set_option maxHeartbeats 4000000
namespace Sw
open PySem PySem.Spec PyProof.Rows L2
/-- an OPERAND that picks one of n -/
def Picks (d : PyData) (n : Int) : Prop := (∃ i, d = .int i ∧ 0 ≤ i ∧ i < n) ∨ ∃ z, d = .str z ∧ wordS z = true
theorem Picks.oper {d : PyData} {n : Int} (h : Picks d n) : dOper d = true ∧ ∀ m, n ≤ m → within d m = true := by
  rcases h with ⟨i, rfl, h0, h1⟩ | ⟨z, rfl, hz⟩
  · refine ⟨rfl, fun m hm => ?_⟩
    show (decide (0 ≤ i) && decide (i < m)) = true
    rw [decide_eq_true h0, decide_eq_true (by omega)]
    rfl
  · refine ⟨?_, fun _ _ => rfl⟩
    unfold dOper
    rw [show dWord (.str z) = true from hz, Bool.or_true]
theorem addr_mk {zs : List (Str × Int)} {ws : List Str} {p ix : PyData} {m : Int} (hne : ws ≠ []) (hnd : ws.Nodup) (hok : ∀ z ∈ ws, wordS z = true ∧ ∃ k, sz zs z = some k ∧ m ≤ k) (hp : Picks p ws.length) (hi : Picks ix m) :
    addr zs (.tuple [.tuple (ws.map PyData.str), p, ix]) = true := by
  have hs : (ws.map PyData.str).map strL0 = ws := by
    rw [List.map_map]
    exact (List.map_congr_left fun a _ => rfl).trans (List.map_id _)
  rw [addr3, unlike_eq (by simpa using hne), hs, decide_eq_true hnd, hp.oper.1, hi.oper.1]
  have e1 : ((ws.map PyData.str).all (okW zs)) = true := List.all_eq_true.mpr fun d hd => by
    obtain ⟨z, hz, rfl⟩ := List.mem_map.mp hd
    obtain ⟨h1, k, h2, _⟩ := hok z hz
    unfold okW
    rw [show dWord (.str z) = true from h1, show strL0 (.str z) = z from rfl, h2]
    rfl
  have e2 : ((ws.map PyData.str).all fun d => within ix ((sz zs (strL0 d)).getD 0)) = true := List.all_eq_true.mpr fun d hd => by
    obtain ⟨z, hz, rfl⟩ := List.mem_map.mp hd
    obtain ⟨h1, k, h2, h3⟩ := hok z hz
    rw [show strL0 (.str z) = z from rfl, h2]
    exact hi.oper.2 k h3
  rw [e1, show tupL (.tuple (ws.map PyData.str)) = ws.map PyData.str from rfl, e2, hp.oper.2 _ (by rw [List.length_map]; exact Int.le_refl _)]
  rfl
theorem two_at {x y : V} {r : Int} (h0 : 0 ≤ r) (h1 : r < 2) : atI [x, y] r = some (if r = 0 then x else y) := by
  have : r = 0 ∨ r = 1 := by omega
  rcases this with rfl | rfl
  · exact atI_nat (j := 0) rfl
  · exact atI_nat (j := 1) rfl
theorem erase_map {α β : Type} (f : α → β) : ∀ (l : List α) (k : Nat), (l.map f).eraseIdx k = (l.eraseIdx k).map f
  | [], _ => by simp
  | _ :: _, 0 => rfl
  | x :: l, k + 1 => by simp [List.eraseIdx_cons_succ, erase_map f l k]
theorem IsWord.look {z : Str} (h : IsWord z) : wordS z = true := by
  unfold wordS
  rw [decide_eq_true h.lo, decide_eq_true h.hi, List.all_eq_true.mpr h.ok]
  rfl
theorem seq_at {n k : Nat} (h : k < n) : seqIndex? (k : Int) n = some k := by
  unfold seqIndex?
  have h1 : ¬ (k : Int) < 0 := by omega
  simp [h1, h]
theorem erase_perm {α : Type} : ∀ {l : List α} {k : Nat} {y : α}, l[k]? = some y → (y :: l.eraseIdx k).Perm l
  | [], _, _, h => by simp at h
  | x :: l, 0, y, h => by
    have : x = y := by simpa using h
    subst this
    exact List.Perm.refl _
  | x :: l, k + 1, y, h => by
    have := erase_perm (l := l) (k := k) (y := y) (by simpa using h)
    rw [List.eraseIdx_cons_succ]
    exact (List.Perm.swap x y _).trans (this.cons x)
/-- a list of texts and the feed, while draws go on -/
structure LA (p fq S : Addr) (H : Hp) (us : List Str) (c : Nat) (H' : Hp) : Prop where
  sm : Same (del H p) (del H' p)
  fd : FeedAt H' p fq c
  at_ : H' S = some (.lst (us.map V.str))
  np : S ≠ p
theorem LA.lay {p fq S : Addr} {H H1 H2 : Hp} {us : List Str} {c : Nat} (h : LA p fq S H us c H1) (s : Same H1 H2) : LA p fq S H us c H2 := ⟨h.sm.trans (same_del s), h.fd.same s, s _ _ h.at_, h.np⟩
theorem LA.next {p fq S : Addr} {H H1 H2 : Hp} {us : List Str} {c c2 : Nat} (h : LA p fq S H us c H1) (s : Same (del H1 p) (del H2 p)) (F : FeedAt H2 p fq c2) : LA p fq S H us c2 H2 := ⟨h.sm.trans s, F, (of_del (s _ _ (del_some h.at_ h.np))).1, h.np⟩
theorem LA.mono {p fq S : Addr} {H H1 : Hp} {us : List Str} {c c2 : Nat} (h : LA p fq S H us c H1) (hc : c ≤ c2) : LA p fq S H us c2 H1 := ⟨h.sm, h.fd.mono hc, h.at_, h.np⟩
abbrev zI : Str := "i"
abbrev zJ : Str := "j"
abbrev zP : Str := "p"
theorem zI_ok : wordS zI = true := by decide +kernel
theorem zJ_ok : wordS zJ = true := by decide +kernel
theorem zP_ok : wordS zP = true := by decide +kernel
abbrev N26 : List Str := ["_law_feed_here", "_law_objects_here", "_law_rest", "_law_some", "_law_k", "_law_least", "_law_pick", "_law_index", "_law_word_here", "_law_size"]
/-- what a draw and two draws choose -/
def chV (r3 r2 r1 : Int) (a b : Str) : V := if r3 = 0 then .int r1 else if r2 = 0 then .str a else .str b
def chD (r3 r2 r1 : Int) (a b : Str) : PyData := if r3 = 0 then .int r1 else if r2 = 0 then .str a else .str b
theorem chD_at {K : PySem.W.Frag} {H : Hp} {r3 r2 r1 : Int} {a b : Str} : Dp K H (chV r3 r2 r1 a b) (chD r3 r2 r1 a b) := by
  unfold chV chD
  by_cases h3 : r3 = 0
  · rw [if_pos h3, if_pos h3]; exact .int _
  · rw [if_neg h3, if_neg h3]
    by_cases h2 : r2 = 0
    · rw [if_pos h2, if_pos h2]; exact .str _
    · rw [if_neg h2, if_neg h2]; exact .str _
theorem chD_picks {r3 r2 r1 n : Int} {a b : Str} (h0 : 0 ≤ r1) (h1 : r1 < n) (ha : wordS a = true) (hb : wordS b = true) : Picks (chD r3 r2 r1 a b) n := by
  unfold chD
  by_cases h3 : r3 = 0
  · rw [if_pos h3]; exact .inl ⟨_, rfl, h0, h1⟩
  · rw [if_neg h3]
    by_cases h2 : r2 = 0
    · rw [if_pos h2]; exact .inr ⟨_, rfl, ha⟩
    · rw [if_neg h2]; exact .inr ⟨_, rfl, hb⟩
theorem two_ch {r3 r2 r1 : Int} {a b : Str} (h0 : 0 ≤ r3) (h1 : r3 < 2) : atI [.int r1, if r2 = 0 then .str a else .str b] r3 = some (chV r3 r2 r1 a b) := two_at h0 h1
section
variable {P : Program} {w : World} {K : PySem.W.Frag} {mg : Str → Option Value} {base : Heap}
def spLAddr (K : PySem.W.Frag) : Sp := fun vs H Q _ => ∃ (p fq : Addr) (vo : V) (zs : List (Str × Int)) (b : Nat), vs = [.ref p, vo] ∧ FeedAt H p fq b ∧ b + 100 ≤ 1000000000 ∧ ObjsAt K (del H p) vo zs ∧
  ∀ (v : V) (ws : List Str) (pd ix : PyData) (H' : Hp), AddrAt K (del H' p) v zs ws pd ix → Same (del H p) (del H' p) → FeedAt H' p fq (b + 20) → Q v H'
theorem sc_laddr : FnScope N26 ["_law_feed_here", "_law_objects_here"] (defScope (topS 26)) := ⟨rfl, rfl, rfl, by decide +kernel, rfl, by decide +kernel, by decide +kernel⟩
theorem ok_laddr {f f1 : Addr} {fd fd1 : FuncData} (D : Df K mg "_law_address" (topS 26) ["_law_feed_here", "_law_objects_here"] f fd) (DD : Df K mg "_law_draw" (topS 16) ["_law_feed_here", "_law_many"] f1 fd1) (B : Bt mg) (bD : mg "dict" = none) (bMin : mg "min" = none)
    (GD : FnOk P w K mg base CX0 1 f1 fd1 ["_law_feed_here", "_law_many"] spDraw) : FnOk P w K mg base CX0 2 f fd ["_law_feed_here", "_law_objects_here"] (spLAddr K) := by
  refine D.fn.ok sc_laddr (fun vs H Q E h => ?_) (fun cdv A outer s H vs Q E hr h => ?_)
  · obtain ⟨p, fq, vo, zs, b, rfl, _⟩ := h
    rfl
  obtain ⟨p, fq, vo, zs, b, rfl, hF, hb, hO, q⟩ := h
  have nd := sc_laddr.nd
  refine ⟨_, pss_cons (ps_par (i := 2) (j := 3) rfl nd rfl rfl (by decide) rfl rfl (pa_cons (pe_lc (own := [("_law_word_here", 8), ("_law_size", 9)]) (g := gTup K 2 (gCons (gName 8) (gCons (gName 9) gNil))) (tt := tYes) rfl nd (pi_tup (pv 1))
        (blkOk_by (N := N26) (sc := defScope (topS 26)) (by decide +kernel)) (fun _ _ _ _ _ => pg_tup rfl (pgs_cons (pg_name (i := 8) nd rfl (Or.inl rfl)) (pgs_cons (pg_name (i := 9) nd rfl (Or.inl rfl)) pgs_nil)))
        (fun _ _ _ _ _ => pts_nil) (fun _ _ _ _ _ => pv 8)) (pa_cons (pe_lst pa_nil) pa_nil)) (by rfl))
    (C8.pss_cut (ps_for PassesOwn.never rfl (pi_range1 (by rfl) B.range (pa_cons (pe_op op_add pe_int (pe_call GD hr (by rfl) DD.gl DD.fn.kp DD.bd .nil pass0 (pa_cons (pv 0) (pa_cons (pe_callB call_len_seq (by rfl) B.len PySem.boot_len (pa_cons (pv 1) pa_nil)) pa_nil)))) pa_nil)) (pg_name (i := 4) nd rfl (Or.inl rfl))
      (pss_one (ps_expr (pe_bm PySem.F.plainAttrs_list PySem.F.slot_list_append PySem.F.type_list_append mt_append (pv 3) (pa_cons (pe_bm PySem.F.plainAttrs_list PySem.F.slot_list_pop PySem.F.type_list_pop mt_popAt (pv 2) (pa_cons (pe_call GD hr (by rfl) DD.gl DD.fn.kp DD.bd .nil pass0 (pa_cons (pv 0) (pa_cons (pe_callB call_len_seq (by rfl) B.len PySem.boot_len (pa_cons (pv 2) pa_nil)) pa_nil))) pa_nil)) pa_nil)))))
    (pss_cons (ps_set (i := 5) nd rfl (Or.inl rfl) (pe_callB (cr_min rfl) (by rfl) bMin (by decide +kernel) (pa_cons (pe_lc (own := [("_law_word_here", 8)]) (g := gName 8) (tt := tYes) rfl nd (pi_list (pv 3))
        (blkOk_by (N := N26) (sc := defScope (topS 26)) (by decide +kernel)) (fun _ _ _ _ _ => pg_name (i := 8) nd rfl (Or.inl rfl)) (fun _ _ _ _ _ => pts_nil)
        (fun _ _ _ _ _ => pe_dget (by have h := hu_of hr; exact h) (pe_callTy (r := rDictT K) (call_dictT rfl) (by rfl) bD (by decide +kernel) (pa_cons (pv 1) pa_nil)) (pv 8) (fun _ _ => rfl))) pa_nil)))
    (pss_cons (ps_set (i := 6) nd rfl (Or.inl rfl) (pe_ix ix_tup (pe_tup (pa_cons (pe_call GD hr (by rfl) DD.gl DD.fn.kp DD.bd .nil pass0 (pa_cons (pv 0) (pa_cons (pe_callB call_len_seq (by rfl) B.len PySem.boot_len (pa_cons (pv 3) pa_nil)) pa_nil))) (pa_cons (pe_ix ix_tup (pe_tup (pa_cons pe_str (pa_cons pe_str pa_nil))) (pe_call GD hr (by rfl) DD.gl DD.fn.kp DD.bd .nil pass0 (pa_cons (pv 0) (pa_cons pe_int pa_nil))) (fun _ _ => rfl)) pa_nil))) (pe_call GD hr (by rfl) DD.gl DD.fn.kp DD.bd .nil pass0 (pa_cons (pv 0) (pa_cons pe_int pa_nil))) (fun _ _ => rfl)))
    (pss_cons (ps_set (i := 7) nd rfl (Or.inl rfl) (pe_ix ix_tup (pe_tup (pa_cons (pe_call GD hr (by rfl) DD.gl DD.fn.kp DD.bd .nil pass0 (pa_cons (pv 0) (pa_cons (pv 5) pa_nil))) (pa_cons (pe_ix ix_tup (pe_tup (pa_cons pe_str (pa_cons pe_str pa_nil))) (pe_call GD hr (by rfl) DD.gl DD.fn.kp DD.bd .nil pass0 (pa_cons (pv 0) (pa_cons pe_int pa_nil))) (fun _ _ => rfl)) pa_nil))) (pe_call GD hr (by rfl) DD.gl DD.fn.kp DD.bd .nil pass0 (pa_cons (pv 0) (pa_cons pe_int pa_nil))) (fun _ _ => rfl)))
    (pss_one (ps_ret (pe_tup (pa_cons (pe_callTy call_tupF (by rfl) B.tuple (by decide +kernel) (pa_cons (pv 3) pa_nil)) (pa_cons (pv 6) (pa_cons (pv 7) pa_nil)))))))))), ?_⟩
  clear GD DD D B bD bMin hr
  have hO1 := hO.same (del_same H p)
  obtain ⟨ao, ps, ev, hfo, hpo⟩ := hO1.ex
  subst ev
  have hlp : ps.length = zs.length := hpo.length
  have few := hO.few
  have hwd := hO.wd
  have hasc := hO.asc
  have hsq : SqT K H ao (ps.map V.ref) := hfo.sq
  refine ⟨_, rfl, ao, rfl, ⟨_, hsq⟩, fun R hR => lc_it (walk_tup (xs := ps.map V.ref)) (fun n H' => Same H H' ∧ H' R = some (.lst (((zs.take n).map (·.1)).map V.str)))
    ⟨same_new hR, upd_same⟩ (fun n H' _ h => sameT h.1 hsq) ?_ ?_⟩
  · rintro n x H2 H3 hn ⟨s2, hv2⟩ ⟨rfl, hxn⟩
    rw [List.length_map] at hn
    rw [List.getElem?_map, List.getElem?_eq_getElem hn] at hxn
    have hxn' : V.ref ps[n] = x := Option.some.inj hxn
    subst hxn'
    obtain ⟨zk, hzk, hsz⟩ := paired_get hpo (List.getElem?_eq_getElem hn)
    refine ⟨_, _, rfl, sameT s2 hsz, rfl, _, _, rfl, _, _, rfl, rfl, rfl, ?_⟩
    unfold tYes
    dsimp only
    rw [if_pos rfl]
    refine ⟨_, rfl, _, hv2, small1000 (by rw [List.length_map, List.length_map, List.length_take]; omega), fun c o e => ?_, ?_⟩
    · rw [upd_ne (ne_of_none e hR)]
      exact s2 _ _ e
    · rw [upd_same, List.take_succ, hzk]
      simp
  rintro H1 ⟨s1, hR1⟩
  rw [List.length_map, hlp, List.take_length] at hR1
  refine ⟨Nat.zero_le _, fun S hS => ⟨_, _, rfl, ?_⟩⟩
  have s2 := same_new (o := .lst []) hS
  have nSR : S ≠ R := Ne.symm (ne_of_none hR1 hS)
  obtain ⟨nRp, nRq⟩ := hF.ne hR
  obtain ⟨nSp, nSq⟩ := (hF.same s1).ne hS
  have hS0 : H S = none := s1.free hS
  have hR2 := s2 _ _ hR1
  have hS2 : upd H1 S (.lst []) S = some (.lst []) := upd_same
  have s02 := s1.trans s2
  generalize upd H1 S (.lst []) = H2 at s2 hR2 hS2 s02
  clear hR1 s1 s2
  refine ⟨fun σ H' => ∃ (us : List Str) (k : Option V), σ = [some (.ref p), some (.ref ao), some (.ref R), some (.ref S), k, none, none, none, none, none] ∧ LA p fq S H us (b + 6) H' ∧ us ≠ [] ∧ us.Nodup ∧ us.length ≤ 4 ∧ (∀ z ∈ us, z ∈ zs.map (·.1)), ?_, ?_⟩
  · refine ⟨_, rfl, _, rfl, ao, _, rfl, .inr (sameT s02 hsq), p, fq, _, b, rfl, hF.same s02, by omega, by rw [List.length_map]; omega, by rw [List.length_map]; omega, fun r H3 r0 r1 s3 F3 => ⟨_, _, rfl, rfl, ?_⟩⟩
    rw [List.length_map] at r1
    refine ⟨1 + r, rfl, by omega, by omega, for_range (lo := 0) (n := (1 + r).toNat) (fun i σ H' => ∃ (us rs : List Str) (k : Option V), σ = [some (.ref p), some (.ref ao), some (.ref R), some (.ref S), k, none, none, none, none, none] ∧ LA p fq S H us (b + 1 + i) H' ∧ H' R = some (.lst (rs.map V.str)) ∧ us.length = i ∧ (us ++ rs).Perm (zs.map (·.1)))
      ⟨[], zs.map (·.1), none, rfl, ⟨(same_del s02).trans s3, F3, (of_del (s3 _ _ (del_some hS2 nSp))).1, nSp⟩, (of_del (s3 _ _ (del_some hR2 nRp))).1, rfl, List.Perm.refl _⟩ ?_ ?_⟩
    · rintro i σ H4 hi ⟨us, rs, k, rfl, L4, hR4, hl4, pm4⟩
      have hlen : rs.length + i = zs.length := by
        have := pm4.length_eq
        rw [List.length_append, List.length_map] at this
        omega
      refine ⟨_, rfl, .inl ⟨rfl, _, SqL.of L4.at_⟩, _, rfl, .inl ⟨rfl, _, SqL.of hR4⟩, _, rfl, _, rfl, R, _, rfl, .inl (SqL.of hR4), p, fq, _, _, rfl, L4.fd, by omega, by rw [List.length_map]; omega, by rw [List.length_map]; omega, fun r5 H5 a0 a1 s5 F5 => ?_⟩
      rw [List.length_map] at a1
      obtain ⟨k5, rfl⟩ : ∃ k : Nat, r5 = (k : Int) := ⟨r5.toNat, (Int.toNat_of_nonneg a0).symm⟩
      have hk : k5 < rs.length := by omega
      have L5 := L4.next s5 F5
      have hR5 : H5 R = some (.lst (rs.map V.str)) := (of_del (s5 _ _ (del_some hR4 nRp))).1
      refine ⟨R, _, (k5 : Int), k5, .str rs[k5], rfl, rfl, hR5, by omega, by omega, seq_at (by rw [List.length_map]; exact hk), by rw [List.getElem?_map, List.getElem?_eq_getElem hk]; rfl, ?_⟩
      have hS6 : upd H5 R (.lst ((rs.map V.str).eraseIdx k5)) S = some (.lst (us.map V.str)) := by rw [upd_ne nSR]; exact L5.at_
      refine ⟨S, us.map V.str, .str rs[k5], rfl, rfl, hS6, by rw [List.length_map]; exact small1000 (by omega), us ++ [rs[k5]], rs.eraseIdx k5, _, rfl, ⟨fun c o e => ?_, (F5.upd nRp nRq).upd nSp nSq |>.mono (by omega), by rw [upd_same, List.map_append]; rfl, nSp⟩, ?_, by rw [List.length_append, hl4]; rfl, ?_⟩
      · obtain ⟨e1, e2⟩ := of_del e
        have nc : c ≠ S := ne_of_none e1 hS0
        have nc2 : c ≠ R := ne_of_none e1 hR
        refine del_some ?_ e2
        rw [upd_ne nc, upd_ne nc2]
        exact (of_del (L5.sm _ _ e)).1
      · rw [upd_ne (Ne.symm nSR), upd_same, erase_map]
      · refine List.Perm.trans ?_ pm4
        rw [List.append_assoc]
        exact List.Perm.append_left us (erase_perm (List.getElem?_eq_getElem hk))
    · rintro σ H4 ⟨us, rs, k, rfl, L4, hR4, hl4, pm4⟩
      have hlen : rs.length + us.length = zs.length := by
        have := pm4.length_eq
        rw [List.length_append, List.length_map] at this
        omega
      refine ⟨us, k, rfl, L4.mono (by omega), fun e => by rw [e] at hl4; simp at hl4; omega, ?_, by omega, fun z hz => pm4.mem_iff.mp (List.mem_append_left _ hz)⟩
      have := pm4.nodup_iff.mpr (asc_nodup hasc)
      exact (List.nodup_append.mp this).1
  rintro σ H4 ⟨us, k, rfl, L4, hne, hnd, hl4, hmem⟩
  have hok : ∀ z ∈ us, wordS z = true ∧ ∃ m, sz zs z = some m ∧ 1 ≤ m ∧ m ≤ 4 := fun z hz => by
    obtain ⟨pz, hp1, hp2⟩ := List.mem_map.mp (hmem z hz)
    obtain ⟨w1, w2, w3⟩ := hwd pz hp1
    refine ⟨hp2 ▸ w1.look, pz.2, ?_, w2, w3⟩
    rw [← hp2]
    exact sz_of hasc hp1
  refine ⟨_, rfl, S, rfl, ⟨_, SqL.of L4.at_⟩, fun L hL => lc_map (walk_list (xs := us.map V.str)) (fun j => V.int ((sz zs (us.getD j Str.empty)).getD 0)) hL (fun _ h => SqL.of (h _ _ L4.at_)) (big_size (by rw [List.length_map]; omega)) ?_ ?_⟩
  · intro j y H5 Q5 hj hy hs5 q5
    rw [List.length_map] at hj
    rw [List.getElem?_map, List.getElem?_eq_getElem hj] at hy
    have hy' : V.str us[j] = y := Option.some.inj hy
    subst hy'
    obtain ⟨_, m, hm, _, _⟩ := hok us[j] (List.getElem_mem hj)
    rw [show us.getD j Str.empty = us[j] by simp [List.getD, hj], hm] at q5
    have hO5 := (hO.same L4.sm).same ((del_same _ _).trans hs5)
    obtain ⟨ao5, ps5, ev5, hfo5, hpo5⟩ := hO5.ex
    cases ev5
    refine ⟨_, rfl, ao, ps5, kvO zs, rfl, hfo5, paired_kvO hpo5, fun dd hdd => ?_⟩
    have hg := sizes_get (H := upd H5 dd (.dK (mergeK [] (kvO zs)))) (d := dd) (zs := zs) upd_same hasc us[j]
    rw [hm] at hg
    exact ⟨_, rfl, dd, _, rfl, hg, q5 _ (same_new hdd)⟩
  intro H5 s5 hL5
  have eL : (List.range (us.map V.str).length).map (fun j => V.int ((sz zs (us.getD j Str.empty)).getD 0)) = (us.map fun z => (sz zs z).getD 0).map V.int := by
    apply List.ext_getElem?
    intro j
    simp only [List.getElem?_map]
    by_cases h : j < us.length
    · rw [List.getElem?_range (by rw [List.length_map]; omega), List.getElem?_eq_getElem h]
      simp [List.getD, h]
    · rw [List.getElem?_eq_none (by simp; omega), List.getElem?_eq_none (by omega)]
      rfl
  rw [eL] at hL5
  have hul : 1 ≤ us.length := by
    cases us with
    | nil => exact absurd rfl hne
    | cons _ _ => simp
  refine ⟨L, _, rfl, SqL.of hL5, by rw [List.length_map]; omega, fun m hm hle => ?_⟩
  have L5 := L4.lay s5
  obtain ⟨zm, hzm, ezm⟩ := List.mem_map.mp hm
  have hm14 : 1 ≤ m ∧ m ≤ 4 := by
    obtain ⟨_, m2, e2, h1, h2⟩ := hok zm hzm
    rw [e2] at ezm
    have : m2 = m := ezm
    omega
  have hok2 : ∀ z ∈ us, wordS z = true ∧ ∃ k, sz zs z = some k ∧ m ≤ k := fun z hz => by
    obtain ⟨h0, m2, e2, _, _⟩ := hok z hz
    have := hle _ (List.mem_map_of_mem (f := fun z => (sz zs z).getD 0) hz)
    rw [e2] at this
    exact ⟨h0, m2, e2, this⟩
  clear hL5 eL hm hle hzm ezm hL s5 L4 hok
  -- pick
  refine ⟨_, rfl, _, rfl, S, _, rfl, .inl (SqL.of L5.at_), p, fq, _, _, rfl, L5.fd, by omega, by rw [List.length_map]; omega, by rw [List.length_map]; omega, fun r1 H6 a10 a11 s6 F6 => ?_⟩
  rw [List.length_map] at a11
  have L6 := L5.next s6 F6
  refine ⟨by show 2 ≤ sizeLine; decide, fun T1 hT1 => ?_⟩
  have t7 := same_new (o := .tup [.str zI, .str zP]) hT1
  have L7 := L6.lay t7
  refine ⟨_, rfl, p, fq, 2, _, rfl, L7.fd, by omega, by decide, by decide, fun r2 H8 a20 a21 s8 F8 => ?_⟩
  have L8 := L7.next s8 F8
  refine ⟨T1, _, r2, _, rfl, rfl, SqT.of (of_del (s8 _ _ (del_some upd_same (L6.fd.ne hT1).1))).1, two_at a20 a21, by show 2 ≤ sizeLine; decide, fun T2 hT2 => ?_⟩
  have t9 := same_new (o := .tup [.int r1, if r2 = 0 then .str zI else .str zP]) hT2
  have L9 := L8.lay t9
  refine ⟨_, rfl, p, fq, 2, _, rfl, L9.fd, by omega, by decide, by decide, fun r3 H10 a30 a31 s10 F10 => ⟨T2, _, r3, _, rfl, rfl, SqT.of (of_del (s10 _ _ (del_some upd_same (L8.fd.ne hT2).1))).1, two_ch a30 a31, ?_⟩⟩
  have L10 := L9.next s10 F10
  clear L5 L6 L7 L8 L9 t7 t9 s6 s8 s10 F6 F8 F10 hT1 hT2
  have hpk : Picks (chD r3 r2 r1 zI zP) us.length := chD_picks a10 a11 zI_ok zP_ok
  have dpk : ∀ G : Hp, Dp K G (chV r3 r2 r1 zI zP) (chD r3 r2 r1 zI zP) := fun G => chD_at
  generalize chV r3 r2 r1 zI zP = xp at dpk
  generalize chD r3 r2 r1 zI zP = dp at dpk hpk
  clear a10 a11 a20 a21 a30 a31
  -- index
  refine ⟨_, rfl, _, rfl, p, fq, m, _, rfl, L10.fd, by omega, by omega, by omega, fun r4 H11 a10 a11 s11 F11 => ?_⟩
  have L11 := L10.next s11 F11
  refine ⟨by show 2 ≤ sizeLine; decide, fun T3 hT3 => ?_⟩
  have t12 := same_new (o := .tup [.str zI, .str zJ]) hT3
  have L12 := L11.lay t12
  refine ⟨_, rfl, p, fq, 2, _, rfl, L12.fd, by omega, by decide, by decide, fun r5 H13 a20 a21 s13 F13 => ?_⟩
  have L13 := L12.next s13 F13
  refine ⟨T3, _, r5, _, rfl, rfl, SqT.of (of_del (s13 _ _ (del_some upd_same (L11.fd.ne hT3).1))).1, two_at a20 a21, by show 2 ≤ sizeLine; decide, fun T4 hT4 => ?_⟩
  have t14 := same_new (o := .tup [.int r4, if r5 = 0 then .str zI else .str zJ]) hT4
  have L14 := L13.lay t14
  refine ⟨_, rfl, p, fq, 2, _, rfl, L14.fd, by omega, by decide, by decide, fun r6 H15 a30 a31 s15 F15 => ⟨T4, _, r6, _, rfl, rfl, SqT.of (of_del (s15 _ _ (del_some upd_same (L13.fd.ne hT4).1))).1, two_ch a30 a31, ?_⟩⟩
  have L15 := L14.next s15 F15
  clear L10 L11 L12 L13 L14 t12 t14 s11 s13 s15 F11 F13 F15 hT3 hT4
  have hix : Picks (chD r6 r5 r4 zI zJ) m := chD_picks a10 a11 zI_ok zJ_ok
  have dix : ∀ G : Hp, Dp K G (chV r6 r5 r4 zI zJ) (chD r6 r5 r4 zI zJ) := fun G => chD_at
  generalize chV r6 r5 r4 zI zJ = xi at dix
  generalize chD r6 r5 r4 zI zJ = di at dix hix
  refine ⟨_, rfl, S, _, rfl, SqL.of L15.at_, fun T its hT => ⟨_, rfl, _, rfl, by show 3 ≤ sizeLine; decide, fun T9 hT9 => ?_⟩⟩
  have t16 := same_new (o := .frz (tupO its) (.tup (us.map V.str))) hT
  have L16 := L15.lay t16
  have hT16 : del (upd H15 T (.frz (tupO its) (.tup (us.map V.str)))) p T = some (.frz (tupO its) (.tup (us.map V.str))) := del_some upd_same (L15.fd.ne hT).1
  generalize upd H15 T (.frz (tupO its) (.tup (us.map V.str))) = H16 at t16 L16 hT16 hT9
  have t17 := same_new (o := .tup [.ref T, xp, xi]) hT9
  have L17 := L16.lay t17
  exact q (.ref T9) us dp di _ ⟨⟨T9, T, xp, xi, rfl, SqT.of (del_some upd_same (L16.fd.ne hT9).1), ⟨its, same_del t17 _ _ hT16⟩, dpk _, dix _⟩, addr_mk hne hnd hok2 hpk hix⟩ L17.sm (L17.fd.mono (by omega))
end
end Sw
set_option maxRecDepth 100000
set_option maxHeartbeats 4000000
namespace Sw
open PySem PySem.Spec PyProof.Rows L2
/-! ### displays with names in them: data in a part of the heap -/
/-- W is a part of the heap that grows with it; G tells where one stands -/
structure Dc (W : L2.St → Hp → Hp) (G : L2.St → Hp → Prop) : Prop where
  mono : ∀ {σ : L2.St} {H H' : Hp}, Same H H' → Same (W σ H) (W σ H')
  sub : ∀ {σ : L2.St} {H : Hp}, Same (W σ H) H
  keep : ∀ {σ : L2.St} {H H' : Hp}, G σ H → Same H H' → G σ H'
  new : ∀ {σ : L2.St} {H : Hp} {a : Addr} {o : HO}, G σ H → H a = none → W σ (upd H a o) a = some o
def tD (K : PySem.W.Frag) (W : L2.St → Hp → Hp) (G : L2.St → Hp → Prop) (d : PyData) : TE := fun σ H Q => G σ H ∧ ∀ v H', Same H H' → Dp K (W σ H') v d → Q v H'
def tDs (K : PySem.W.Frag) (W : L2.St → Hp → Hp) (G : L2.St → Hp → Prop) (ds : List PyData) : TA := fun σ H Q => G σ H ∧ ∀ vs H', Same H H' → DpAll K (W σ H') vs ds → Q vs H'
section
variable {X : Cx} {K : PySem.W.Frag} {W : L2.St → Hp → Hp} {G : L2.St → Hp → Prop}
theorem pd_var {e : Expr} {i : Nat} {d : PyData} (he : PE X e (tVar i)) (h : ∀ σ H, G σ H → ∃ v, σ[i]? = some (some v) ∧ Dp K (W σ H) v d) : PE X e (tD K W G d) :=
  pe_imp he fun σ H Q q => by
    obtain ⟨v, h1, h2⟩ := h σ H q.1
    exact ⟨v, h1, q.2 v H (Same.refl H) h2⟩
theorem pd_int {i : Int} {k : Nat} {pos : Pos} : PE X (.Constant (.int i) k pos) (tD K W G (.int i)) := pe_imp pe_int fun σ H Q q => q.2 _ H (Same.refl H) (.int i)
theorem pd_str {z : Str} {k : Nat} {pos : Pos} : PE X (.Constant (.str z) k pos) (tD K W G (.str z)) := pe_imp pe_str fun σ H Q q => q.2 _ H (Same.refl H) (.str z)
theorem pd_bl {b : Bool} {k : Nat} {pos : Pos} : PE X (.Constant (.bool b) k pos) (tD K W G (.bool b)) := pe_imp pe_bl fun σ H Q q => q.2 _ H (Same.refl H) (.bl b)
theorem pd_non {k : Nat} {pos : Pos} : PE X (.Constant .none k pos) (tD K W G .none) := pe_imp pe_non fun σ H Q q => q.2 _ H (Same.refl H) .non
theorem pd_neg {e : Expr} {i : Int} {pos : Pos} (he : PE X e (tD K W G (.int i))) : PE X (.UnaryOp .USub e pos) (tD K W G (.int (-i))) :=
  pe_imp (pe_un un_neg he) fun σ H Q q => ⟨q.1, fun v H1 s1 d1 => by cases d1; exact ⟨i, rfl, q.2 _ H1 s1 (.int _)⟩⟩
theorem pd_sub (C : Dc W G) {a b : Expr} {i j : Int} {pos : Pos} (ha : PE X a (tD K W G (.int i))) (hb : PE X b (tD K W G (.int j))) : PE X (.BinOp a .Sub b pos) (tD K W G (.int (i - j))) :=
  pe_imp (pe_op op_sub ha hb) fun σ H Q q => ⟨q.1, fun v H1 s1 d1 => ⟨C.keep q.1 s1, fun u H2 s2 d2 => by cases d1; cases d2; exact ⟨i, j, rfl, rfl, q.2 _ H2 (s1.trans s2) (.int _)⟩⟩⟩
theorem pds_nil : PA X [] (tDs K W G []) := pa_imp pa_nil fun σ H Q q => q.2 [] H (Same.refl H) .nil
theorem pds_cons (C : Dc W G) {e : Expr} {es : List Expr} {d : PyData} {ds : List PyData} (he : PE X e (tD K W G d)) (hes : PA X es (tDs K W G ds)) (hs : starEach (e :: es) X.env = (false, eval e X.env) :: starEach es X.env := by rfl) : PA X (e :: es) (tDs K W G (d :: ds)) :=
  pa_imp (pa_cons he hes hs) fun σ H Q q => ⟨q.1, fun v H1 s1 d1 => ⟨C.keep q.1 s1, fun vs H2 s2 d2 => q.2 _ H2 (s1.trans s2) (.cons (Dp_same (C.mono s2) d1) d2)⟩⟩
theorem pd_tup (C : Dc W G) {es : List Expr} {ds : List PyData} {k : Nat} {pos : Pos} (h : PA X es (tDs K W G ds)) (hl : Nat.ble ds.length 1000 = true := by rfl) : PE X (.Tuple es k pos) (tD K W G (.tuple ds)) :=
  pe_imp (pe_tup h) fun σ H Q q => ⟨q.1, fun vs H1 s1 d1 => ⟨by have := DpAll_len d1; have := Nat.le_of_ble_eq_true hl; exact Nat.le_of_lt (small1000 (by omega)), fun a ha => by
    have s2 := same_new (o := .tup vs) ha
    exact q.2 _ _ (s1.trans s2) (.tup (SqT.of (C.new (C.keep q.1 s1) ha)) (DpAll_same (C.mono s2) d1))⟩⟩
theorem pd_lst (C : Dc W G) {es : List Expr} {ds : List PyData} {pos : Pos} (h : PA X es (tDs K W G ds)) (hl : Nat.ble ds.length 1000 = true := by rfl) : PE X (.List es pos) (tD K W G (.list ds)) :=
  pe_imp (pe_lst h) fun σ H Q q => ⟨q.1, fun vs H1 s1 d1 => ⟨by have := DpAll_len d1; have := Nat.le_of_ble_eq_true hl; exact Nat.le_of_lt (small1000 (by omega)), fun a ha => by
    have s2 := same_new (o := .lst vs) ha
    exact q.2 _ _ (s1.trans s2) (.lst (SqL.of (C.new (C.keep q.1 s1) ha)) (DpAll_same (C.mono s2) d1))⟩⟩
/-- len(t), by the rule for the call -/
theorem pd_len {e : Expr} {ds : List PyData} {c p : Pos} (hg : Gl X "len") (hm : X.mg "len" = none) (C : Dc W G) (hK : X.K = K) (he : PE X e (tD K W G (.tuple ds))) (hs : starEach [e] X.env = (false, eval e X.env) :: starEach [] X.env := by rfl) : PE X (.Call (.Name "len" p) [e] [] c) (tD K W G (.int (ds.length : Nat))) := by
  subst hK
  refine pe_imp (pe_callB call_len_seq hg hm PySem.boot_len (pa_cons he pa_nil hs) (by decide) (by decide) hs rfl) fun σ H Q q => ⟨q.1, fun v H1 s1 d1 => ?_⟩
  cases d1 with
  | @tup a xs _ hx hr =>
    refine ⟨a, xs, rfl, .inr (sameT C.sub hx), ?_⟩
    rw [DpAll_len hr]
    exact q.2 _ H1 s1 (.int _)
/-- a + b of tuples -/
theorem pd_cat (C : Dc W G) (hK : X.K = K) {a b : Expr} {ds es : List PyData} {pos : Pos} (ha : PE X a (tD K W G (.tuple ds))) (hb : PE X b (tD K W G (.tuple es))) (hl : ds.length + es.length ≤ 1000) : PE X (.BinOp a .Add b pos) (tD K W G (.tuple (ds ++ es))) := by
  subst hK
  refine pe_imp (pe_op op_catA ha hb) fun σ H Q q => ⟨q.1, fun v H1 s1 d1 => ⟨C.keep q.1 s1, fun u H2 s2 d2 => ?_⟩⟩
  have d1' := Dp_same (C.mono s2) d1
  have s02 := s1.trans s2
  cases d1' with
  | @tup a1 xs _ hx hrx =>
    cases d2 with
    | @tup a2 ys _ hy hry =>
      have l1 := DpAll_len hrx
      have l2 := DpAll_len hry
      refine ⟨a1, a2, xs, ys, rfl, rfl, sameT C.sub hx, sameT C.sub hy, Nat.le_of_lt (small1000 (by omega)), fun z => ?_, fun _ z => ?_, fun _ _ t ht => ?_⟩
      · have e : ds = [] := List.eq_nil_of_length_eq_zero (by rw [← l1, z]; rfl)
        subst e
        exact q.2 _ H2 s02 (.tup hy hry)
      · have e : es = [] := List.eq_nil_of_length_eq_zero (by rw [← l2, z]; rfl)
        subst e
        have q2 := q.2
        rw [List.append_nil] at q2
        exact q2 _ H2 s02 (.tup hx hrx)
      · have s3 := same_new (o := .tup (xs ++ ys)) ht
        exact q.2 _ _ (s02.trans s3) (.tup (SqT.of (C.new (C.keep q.1 s02) ht)) (DpAll_append (DpAll_same (C.mono s3) hrx) (DpAll_same (C.mono s3) hry)))
/-- a[:n] of a tuple -/
theorem pd_to (C : Dc W G) (hK : X.K = K) {a : Expr} {ds : List PyData} {n : Int} {k : Nat} {p1 p2 pos : Pos} (ha : PE X a (tD K W G (.tuple ds))) : PE X (.Subscript a (.Slice none (some (.Constant (.int n) k p1)) none p2) pos) (tD K W G (.tuple (cutD ds none (some n)))) := by
  subst hK
  refine pe_imp (pe_slice sl_tupA ha po_none (po_some pe_int)) fun σ H Q q => ⟨q.1, fun v H1 s1 d1 => ?_⟩
  cases d1 with
  | @tup a1 xs _ hx hrx =>
    have hl := DpAll_len hrx
    refine ⟨n, rfl, a1, xs, rfl, sameT C.sub hx, fun hw => ?_, fun hw t ht => ?_⟩
    · rw [hl] at hw
      have e : cutD ds none (some n) = ds := by
        unfold cutD
        rw [hw.1, hw.2]
        simp
      have q2 := q.2
      rw [e] at q2
      exact q2 _ H1 s1 (.tup hx hrx)
    · have s := same_new (o := .tup (cutV xs none (some n))) ht
      refine q.2 _ _ (s1.trans s) (.tup (SqT.of (C.new (C.keep q.1 s1) ht)) ?_)
      have r2 := DpAll_same (C.mono s) hrx
      generalize upd H1 t (.tup (cutV xs none (some n))) = H2 at r2
      unfold cutV cutD
      rw [hl]
      exact DpAll_take _ (DpAll_drop _ r2)
/-- a[::-1] of a tuple -/
theorem pd_rev (C : Dc W G) (hK : X.K = K) {a : Expr} {ds : List PyData} {k : Nat} {p1 p2 p3 pos : Pos} (ha : PE X a (tD K W G (.tuple ds))) : PE X (.Subscript a (.Slice none none (some (.UnaryOp .USub (.Constant (.int 1) k p1) p2)) p3) pos) (tD K W G (.tuple ds.reverse)) := by
  subst hK
  refine pe_imp (pe_revT ha) fun σ H Q q => ⟨q.1, fun v H1 s1 d1 => ?_⟩
  cases d1 with
  | @tup a1 xs _ hx hrx =>
    refine ⟨a1, xs, rfl, sameT C.sub hx, fun t ht => ?_⟩
    have s := same_new (o := .tup xs.reverse) ht
    exact q.2 _ _ (s1.trans s) (.tup (SqT.of (C.new (C.keep q.1 s1) ht)) (DpAll_reverse (DpAll_same (C.mono s) hrx)))
end
/-- parts of the heap -/
theorem dc_fr {H0 : Hp} {g : L2.St → Hp → Prop} (hk : ∀ {σ H H'}, g σ H → Same H H' → g σ H') : Dc (fun _ H => fr H0 H) (fun σ H => Same H0 H ∧ g σ H) :=
  ⟨fun s => fr_next s, fr_same _ _, fun h s => ⟨h.1.trans s, hk h.2 s⟩, fun h ha => fr_some (h.1.free ha) upd_same⟩
theorem dc_nw {H0 : Hp} {L : L2.St → Addr} {g : L2.St → Hp → Prop} (hk : ∀ {σ H H'}, g σ H → Same H H' → g σ H') : Dc (fun σ H => nw H0 (L σ) H) (fun σ H => (Same H0 H ∧ ∃ u, H (L σ) = some u) ∧ g σ H) :=
  ⟨fun s => nw_next s, nw_sub, fun h s => ⟨⟨h.1.1.trans s, by obtain ⟨u, hu⟩ := h.1.2; exact ⟨u, s _ _ hu⟩⟩, hk h.2 s⟩, fun h ha => by obtain ⟨u, hu⟩ := h.1.2; exact nw_new h.1.1 hu ha⟩
theorem dc_del2 {p : Addr} {L : L2.St → Addr} {g : L2.St → Hp → Prop} (hk : ∀ {σ H H'}, g σ H → Same H H' → g σ H') : Dc (fun σ H => del (del H p) (L σ)) (fun σ H => ((∃ u, H p = some u) ∧ ∃ u, H (L σ) = some u) ∧ g σ H) :=
  ⟨fun s => same_del (same_del s), (del_same _ _).trans (del_same _ _), fun h s => ⟨⟨by obtain ⟨u, hu⟩ := h.1.1; exact ⟨u, s _ _ hu⟩, by obtain ⟨u, hu⟩ := h.1.2; exact ⟨u, s _ _ hu⟩⟩, hk h.2 s⟩, fun h ha => by
    obtain ⟨⟨u, hu⟩, ⟨u2, hu2⟩⟩ := h.1
    exact del_some (new_del hu ha) (fun e => by rw [e, hu2] at ha; cases ha)⟩
theorem dc_del {p : Addr} {g : L2.St → Hp → Prop} (hk : ∀ {σ H H'}, g σ H → Same H H' → g σ H') : Dc (fun _ H => del H p) (fun σ H => (∃ u, H p = some u) ∧ g σ H) :=
  ⟨fun s => same_del s, del_same _ _, fun h s => ⟨by obtain ⟨u, hu⟩ := h.1; exact ⟨u, s _ _ hu⟩, hk h.2 s⟩, fun h ha => by
    obtain ⟨u, hu⟩ := h.1
    exact new_del hu ha⟩
/-- the place that a slot holds -/
def refAt (i : Nat) (σ : L2.St) : Addr := match σ[i]? with
  | some (some (.ref a)) => a
  | _ => 0
end Sw
set_option maxRecDepth 100000
set_option maxHeartbeats 4000000
namespace Sw
open PySem PySem.Spec PyProof.Rows L2
/-- things near a word z and a size k -/
theorem fitS {z : Str} {k : Int} {d : PyData} (h1 : leaf 10 d = true) (h2 : lens 8 d = true) (h3 : d.depth ≤ 4) (h4 : wt d ≤ 3000) : Fit 10 8 4 3000 d := ⟨h1, h2, h3, h4⟩
theorem kI : ((Str.ofString "i").cps.toList.all fun c => decide (c < 128)) = true := by decide +kernel
theorem lI : (Str.ofString "i").length = 1 := by decide +kernel
theorem kII : ((Str.ofString "I").cps.toList.all fun c => decide (c < 128)) = true := by decide +kernel
theorem lII : (Str.ofString "I").length = 1 := by decide +kernel
theorem k9 : ((Str.ofString "abcdefghi").cps.toList.all fun c => decide (c < 128)) = true := by decide +kernel
theorem l9 : (Str.ofString "abcdefghi").length = 9 := by decide +kernel
theorem kz : ((Str.ofString "zzzzzzzz").cps.toList.all fun c => decide (c < 128)) = true := by decide +kernel
theorem lz : (Str.ofString "zzzzzzzz").length = 8 := by decide +kernel
theorem k0 : ((Str.ofString "").cps.toList.all fun c => decide (c < 128)) = true := by decide +kernel
theorem l0 : (Str.ofString "").length = 0 := by decide +kernel
abbrev fx0 (z : Str) (k : Int) : List PyData := [.tuple [.tuple [.str z], .int 0, .int 0], .tuple [.tuple [.str z], .str (Str.ofString "i"), .str (Str.ofString "i")], .tuple [.tuple [.str z], .int 0, .int (k - 1)], .tuple [.tuple [.str z], .int 0, (.int k)], .tuple [.tuple [.str z], .int 1, .int 0], .tuple [.tuple [.str z], .int 0, .int (-1)]]
abbrev fx1 (z : Str) (k : Int) : List PyData := [.tuple [.tuple [.str z], .int (-1), .int 0]]
abbrev fx2 (z : Str) (k : Int) : List PyData := [.tuple [.tuple [], .int 0, .int 0], .tuple [(.str z), .int 0, .int 0], .tuple [.list [(.str z)], .int 0, .int 0], .tuple [.tuple [(.str z), (.str z)], .int 0, .int 0], .tuple [.tuple [.str (Str.ofString "zzzzzzzz")], .int 0, .int 0], .tuple [.tuple [.str z], .int 0]]
abbrev fx3 (z : Str) (k : Int) : List PyData := [.tuple [.tuple [.str z], .int 0, .int 0, .int 0]]
abbrev fx4 (z : Str) (k : Int) : List PyData := [.tuple [.tuple [.str z], .bool true, .int 0], .tuple [.tuple [.str z], .int 0, .bool true], .tuple [.tuple [.str z], .none, .int 0], .tuple [.tuple [.str z], .int 0, .str (Str.ofString "I")], .tuple [.tuple [.str z], .str (Str.ofString ""), .int 0], .tuple [.tuple [.str z], .int 0, .tuple [.int 0]]]
abbrev fx5 (z : Str) (k : Int) : List PyData := [.tuple [.str z]]
abbrev fx6 (z : Str) (k : Int) : List PyData := [.list [.tuple [.str z], .int 0, .int 0], .none, .int 0, .str (Str.ofString ""), .tuple [], .tuple [.tuple [.str z], .int 0, .list [.int 0]], .tuple [.tuple [.str z], .list [.int 0], .int 0], .tuple [.tuple [.tuple [.str z]], .int 0, .int 0]]
abbrev fx7 (z : Str) (k : Int) : List PyData := [.tuple [.tuple [.none], .int 0, .int 0], .tuple [.tuple [.str z], .str (Str.ofString "abcdefghi"), .int 0]]
abbrev fx8 (z : Str) (k : Int) : List PyData := [.tuple [.tuple [.str z], .bool false, .int 0], .tuple [.tuple [.str z], .int 0, .str (Str.ofString "zzzzzzzz")], .tuple [.tuple [.list [(.str z)]], .int 0, .int 0]]
def fxAll (z : Str) (k : Int) : List PyData := fx0 z k ++ fx1 z k ++ fx2 z k ++ fx3 z k ++ fx4 z k ++ fx5 z k ++ fx6 z k ++ fx7 z k ++ fx8 z k
theorem fxAll_len (z : Str) (k : Int) : (fxAll z k).length = 34 := rfl
theorem fx0_fit {z : Str} {k : Int} (hz : IsWord z) (k1 : 1 ≤ k) (k4 : k ≤ 4) : ∀ d ∈ fx0 z k, Fit 10 8 4 3000 d := by
  have h1 : (z.cps.toList.all fun c => decide (c < 128)) = true := by have := leaf_str (M := 0).mpr hz.ascii; simpa [leaf] using this
  have h8 := hz.hi
  have hk : decide (k.natAbs ≤ 10) = true := decide_eq_true (by omega)
  have hk2 : decide ((k - 1).natAbs ≤ 10) = true := decide_eq_true (by omega)
  intro d hd
  simp only [fx0, List.mem_cons, List.not_mem_nil, or_false] at hd
  rcases hd with rfl | rfl | rfl | rfl | rfl | rfl
  · refine fitS (z := z) (k := k) ?_ rfl (Nat.le_of_ble_eq_true rfl) ?_
    · simp only [leaf, leafAll, h1, hk, hk2, kI, kII, k9, kz, k0] <;> rfl
    · simp only [wt, wtAll, lI, lII, l9, lz, l0]; omega
  · refine fitS (z := z) (k := k) ?_ rfl (Nat.le_of_ble_eq_true rfl) ?_
    · simp only [leaf, leafAll, h1, hk, hk2, kI, kII, k9, kz, k0] <;> rfl
    · simp only [wt, wtAll, lI, lII, l9, lz, l0]; omega
  · refine fitS (z := z) (k := k) ?_ rfl (Nat.le_of_ble_eq_true rfl) ?_
    · simp only [leaf, leafAll, h1, hk, hk2, kI, kII, k9, kz, k0] <;> rfl
    · simp only [wt, wtAll, lI, lII, l9, lz, l0]; omega
  · refine fitS (z := z) (k := k) ?_ rfl (Nat.le_of_ble_eq_true rfl) ?_
    · simp only [leaf, leafAll, h1, hk, hk2, kI, kII, k9, kz, k0] <;> rfl
    · simp only [wt, wtAll, lI, lII, l9, lz, l0]; omega
  · refine fitS (z := z) (k := k) ?_ rfl (Nat.le_of_ble_eq_true rfl) ?_
    · simp only [leaf, leafAll, h1, hk, hk2, kI, kII, k9, kz, k0] <;> rfl
    · simp only [wt, wtAll, lI, lII, l9, lz, l0]; omega
  · refine fitS (z := z) (k := k) ?_ rfl (Nat.le_of_ble_eq_true rfl) ?_
    · simp only [leaf, leafAll, h1, hk, hk2, kI, kII, k9, kz, k0] <;> rfl
    · simp only [wt, wtAll, lI, lII, l9, lz, l0]; omega
theorem fx1_fit {z : Str} {k : Int} (hz : IsWord z) (k1 : 1 ≤ k) (k4 : k ≤ 4) : ∀ d ∈ fx1 z k, Fit 10 8 4 3000 d := by
  have h1 : (z.cps.toList.all fun c => decide (c < 128)) = true := by have := leaf_str (M := 0).mpr hz.ascii; simpa [leaf] using this
  have h8 := hz.hi
  have hk : decide (k.natAbs ≤ 10) = true := decide_eq_true (by omega)
  have hk2 : decide ((k - 1).natAbs ≤ 10) = true := decide_eq_true (by omega)
  intro d hd
  simp only [fx1, List.mem_cons, List.not_mem_nil, or_false] at hd
  rcases hd with rfl
  · refine fitS (z := z) (k := k) ?_ rfl (Nat.le_of_ble_eq_true rfl) ?_
    · simp only [leaf, leafAll, h1, hk, hk2, kI, kII, k9, kz, k0] <;> rfl
    · simp only [wt, wtAll, lI, lII, l9, lz, l0]; omega
theorem fx2_fit {z : Str} {k : Int} (hz : IsWord z) (k1 : 1 ≤ k) (k4 : k ≤ 4) : ∀ d ∈ fx2 z k, Fit 10 8 4 3000 d := by
  have h1 : (z.cps.toList.all fun c => decide (c < 128)) = true := by have := leaf_str (M := 0).mpr hz.ascii; simpa [leaf] using this
  have h8 := hz.hi
  have hk : decide (k.natAbs ≤ 10) = true := decide_eq_true (by omega)
  have hk2 : decide ((k - 1).natAbs ≤ 10) = true := decide_eq_true (by omega)
  intro d hd
  simp only [fx2, List.mem_cons, List.not_mem_nil, or_false] at hd
  rcases hd with rfl | rfl | rfl | rfl | rfl | rfl
  · refine fitS (z := z) (k := k) ?_ rfl (Nat.le_of_ble_eq_true rfl) ?_
    · simp only [leaf, leafAll, h1, hk, hk2, kI, kII, k9, kz, k0] <;> rfl
    · simp only [wt, wtAll, lI, lII, l9, lz, l0]; omega
  · refine fitS (z := z) (k := k) ?_ rfl (Nat.le_of_ble_eq_true rfl) ?_
    · simp only [leaf, leafAll, h1, hk, hk2, kI, kII, k9, kz, k0] <;> rfl
    · simp only [wt, wtAll, lI, lII, l9, lz, l0]; omega
  · refine fitS (z := z) (k := k) ?_ rfl (Nat.le_of_ble_eq_true rfl) ?_
    · simp only [leaf, leafAll, h1, hk, hk2, kI, kII, k9, kz, k0] <;> rfl
    · simp only [wt, wtAll, lI, lII, l9, lz, l0]; omega
  · refine fitS (z := z) (k := k) ?_ rfl (Nat.le_of_ble_eq_true rfl) ?_
    · simp only [leaf, leafAll, h1, hk, hk2, kI, kII, k9, kz, k0] <;> rfl
    · simp only [wt, wtAll, lI, lII, l9, lz, l0]; omega
  · refine fitS (z := z) (k := k) ?_ rfl (Nat.le_of_ble_eq_true rfl) ?_
    · simp only [leaf, leafAll, h1, hk, hk2, kI, kII, k9, kz, k0] <;> rfl
    · simp only [wt, wtAll, lI, lII, l9, lz, l0]; omega
  · refine fitS (z := z) (k := k) ?_ rfl (Nat.le_of_ble_eq_true rfl) ?_
    · simp only [leaf, leafAll, h1, hk, hk2, kI, kII, k9, kz, k0] <;> rfl
    · simp only [wt, wtAll, lI, lII, l9, lz, l0]; omega
theorem fx3_fit {z : Str} {k : Int} (hz : IsWord z) (k1 : 1 ≤ k) (k4 : k ≤ 4) : ∀ d ∈ fx3 z k, Fit 10 8 4 3000 d := by
  have h1 : (z.cps.toList.all fun c => decide (c < 128)) = true := by have := leaf_str (M := 0).mpr hz.ascii; simpa [leaf] using this
  have h8 := hz.hi
  have hk : decide (k.natAbs ≤ 10) = true := decide_eq_true (by omega)
  have hk2 : decide ((k - 1).natAbs ≤ 10) = true := decide_eq_true (by omega)
  intro d hd
  simp only [fx3, List.mem_cons, List.not_mem_nil, or_false] at hd
  rcases hd with rfl
  · refine fitS (z := z) (k := k) ?_ rfl (Nat.le_of_ble_eq_true rfl) ?_
    · simp only [leaf, leafAll, h1, hk, hk2, kI, kII, k9, kz, k0] <;> rfl
    · simp only [wt, wtAll, lI, lII, l9, lz, l0]; omega
theorem fx4_fit {z : Str} {k : Int} (hz : IsWord z) (k1 : 1 ≤ k) (k4 : k ≤ 4) : ∀ d ∈ fx4 z k, Fit 10 8 4 3000 d := by
  have h1 : (z.cps.toList.all fun c => decide (c < 128)) = true := by have := leaf_str (M := 0).mpr hz.ascii; simpa [leaf] using this
  have h8 := hz.hi
  have hk : decide (k.natAbs ≤ 10) = true := decide_eq_true (by omega)
  have hk2 : decide ((k - 1).natAbs ≤ 10) = true := decide_eq_true (by omega)
  intro d hd
  simp only [fx4, List.mem_cons, List.not_mem_nil, or_false] at hd
  rcases hd with rfl | rfl | rfl | rfl | rfl | rfl
  · refine fitS (z := z) (k := k) ?_ rfl (Nat.le_of_ble_eq_true rfl) ?_
    · simp only [leaf, leafAll, h1, hk, hk2, kI, kII, k9, kz, k0] <;> rfl
    · simp only [wt, wtAll, lI, lII, l9, lz, l0]; omega
  · refine fitS (z := z) (k := k) ?_ rfl (Nat.le_of_ble_eq_true rfl) ?_
    · simp only [leaf, leafAll, h1, hk, hk2, kI, kII, k9, kz, k0] <;> rfl
    · simp only [wt, wtAll, lI, lII, l9, lz, l0]; omega
  · refine fitS (z := z) (k := k) ?_ rfl (Nat.le_of_ble_eq_true rfl) ?_
    · simp only [leaf, leafAll, h1, hk, hk2, kI, kII, k9, kz, k0] <;> rfl
    · simp only [wt, wtAll, lI, lII, l9, lz, l0]; omega
  · refine fitS (z := z) (k := k) ?_ rfl (Nat.le_of_ble_eq_true rfl) ?_
    · simp only [leaf, leafAll, h1, hk, hk2, kI, kII, k9, kz, k0] <;> rfl
    · simp only [wt, wtAll, lI, lII, l9, lz, l0]; omega
  · refine fitS (z := z) (k := k) ?_ rfl (Nat.le_of_ble_eq_true rfl) ?_
    · simp only [leaf, leafAll, h1, hk, hk2, kI, kII, k9, kz, k0] <;> rfl
    · simp only [wt, wtAll, lI, lII, l9, lz, l0]; omega
  · refine fitS (z := z) (k := k) ?_ rfl (Nat.le_of_ble_eq_true rfl) ?_
    · simp only [leaf, leafAll, h1, hk, hk2, kI, kII, k9, kz, k0] <;> rfl
    · simp only [wt, wtAll, lI, lII, l9, lz, l0]; omega
theorem fx5_fit {z : Str} {k : Int} (hz : IsWord z) (k1 : 1 ≤ k) (k4 : k ≤ 4) : ∀ d ∈ fx5 z k, Fit 10 8 4 3000 d := by
  have h1 : (z.cps.toList.all fun c => decide (c < 128)) = true := by have := leaf_str (M := 0).mpr hz.ascii; simpa [leaf] using this
  have h8 := hz.hi
  have hk : decide (k.natAbs ≤ 10) = true := decide_eq_true (by omega)
  have hk2 : decide ((k - 1).natAbs ≤ 10) = true := decide_eq_true (by omega)
  intro d hd
  simp only [fx5, List.mem_cons, List.not_mem_nil, or_false] at hd
  rcases hd with rfl
  · refine fitS (z := z) (k := k) ?_ rfl (Nat.le_of_ble_eq_true rfl) ?_
    · simp only [leaf, leafAll, h1, hk, hk2, kI, kII, k9, kz, k0] <;> rfl
    · simp only [wt, wtAll, lI, lII, l9, lz, l0]; omega
theorem fx6_fit {z : Str} {k : Int} (hz : IsWord z) (k1 : 1 ≤ k) (k4 : k ≤ 4) : ∀ d ∈ fx6 z k, Fit 10 8 4 3000 d := by
  have h1 : (z.cps.toList.all fun c => decide (c < 128)) = true := by have := leaf_str (M := 0).mpr hz.ascii; simpa [leaf] using this
  have h8 := hz.hi
  have hk : decide (k.natAbs ≤ 10) = true := decide_eq_true (by omega)
  have hk2 : decide ((k - 1).natAbs ≤ 10) = true := decide_eq_true (by omega)
  intro d hd
  simp only [fx6, List.mem_cons, List.not_mem_nil, or_false] at hd
  rcases hd with rfl | rfl | rfl | rfl | rfl | rfl | rfl | rfl
  · refine fitS (z := z) (k := k) ?_ rfl (Nat.le_of_ble_eq_true rfl) ?_
    · simp only [leaf, leafAll, h1, hk, hk2, kI, kII, k9, kz, k0] <;> rfl
    · simp only [wt, wtAll, lI, lII, l9, lz, l0]; omega
  · refine fitS (z := z) (k := k) ?_ rfl (Nat.le_of_ble_eq_true rfl) ?_
    · simp only [leaf, leafAll, h1, hk, hk2, kI, kII, k9, kz, k0] <;> rfl
    · simp only [wt, wtAll, lI, lII, l9, lz, l0]; omega
  · refine fitS (z := z) (k := k) ?_ rfl (Nat.le_of_ble_eq_true rfl) ?_
    · simp only [leaf, leafAll, h1, hk, hk2, kI, kII, k9, kz, k0] <;> rfl
    · simp only [wt, wtAll, lI, lII, l9, lz, l0]; omega
  · refine fitS (z := z) (k := k) ?_ rfl (Nat.le_of_ble_eq_true rfl) ?_
    · simp only [leaf, leafAll, h1, hk, hk2, kI, kII, k9, kz, k0] <;> rfl
    · simp only [wt, wtAll, lI, lII, l9, lz, l0]; omega
  · refine fitS (z := z) (k := k) ?_ rfl (Nat.le_of_ble_eq_true rfl) ?_
    · simp only [leaf, leafAll, h1, hk, hk2, kI, kII, k9, kz, k0] <;> rfl
    · simp only [wt, wtAll, lI, lII, l9, lz, l0]; omega
  · refine fitS (z := z) (k := k) ?_ rfl (Nat.le_of_ble_eq_true rfl) ?_
    · simp only [leaf, leafAll, h1, hk, hk2, kI, kII, k9, kz, k0] <;> rfl
    · simp only [wt, wtAll, lI, lII, l9, lz, l0]; omega
  · refine fitS (z := z) (k := k) ?_ rfl (Nat.le_of_ble_eq_true rfl) ?_
    · simp only [leaf, leafAll, h1, hk, hk2, kI, kII, k9, kz, k0] <;> rfl
    · simp only [wt, wtAll, lI, lII, l9, lz, l0]; omega
  · refine fitS (z := z) (k := k) ?_ rfl (Nat.le_of_ble_eq_true rfl) ?_
    · simp only [leaf, leafAll, h1, hk, hk2, kI, kII, k9, kz, k0] <;> rfl
    · simp only [wt, wtAll, lI, lII, l9, lz, l0]; omega
theorem fx7_fit {z : Str} {k : Int} (hz : IsWord z) (k1 : 1 ≤ k) (k4 : k ≤ 4) : ∀ d ∈ fx7 z k, Fit 10 8 4 3000 d := by
  have h1 : (z.cps.toList.all fun c => decide (c < 128)) = true := by have := leaf_str (M := 0).mpr hz.ascii; simpa [leaf] using this
  have h8 := hz.hi
  have hk : decide (k.natAbs ≤ 10) = true := decide_eq_true (by omega)
  have hk2 : decide ((k - 1).natAbs ≤ 10) = true := decide_eq_true (by omega)
  intro d hd
  simp only [fx7, List.mem_cons, List.not_mem_nil, or_false] at hd
  rcases hd with rfl | rfl
  · refine fitS (z := z) (k := k) ?_ rfl (Nat.le_of_ble_eq_true rfl) ?_
    · simp only [leaf, leafAll, h1, hk, hk2, kI, kII, k9, kz, k0] <;> rfl
    · simp only [wt, wtAll, lI, lII, l9, lz, l0]; omega
  · refine fitS (z := z) (k := k) ?_ rfl (Nat.le_of_ble_eq_true rfl) ?_
    · simp only [leaf, leafAll, h1, hk, hk2, kI, kII, k9, kz, k0] <;> rfl
    · simp only [wt, wtAll, lI, lII, l9, lz, l0]; omega
theorem fx8_fit {z : Str} {k : Int} (hz : IsWord z) (k1 : 1 ≤ k) (k4 : k ≤ 4) : ∀ d ∈ fx8 z k, Fit 10 8 4 3000 d := by
  have h1 : (z.cps.toList.all fun c => decide (c < 128)) = true := by have := leaf_str (M := 0).mpr hz.ascii; simpa [leaf] using this
  have h8 := hz.hi
  have hk : decide (k.natAbs ≤ 10) = true := decide_eq_true (by omega)
  have hk2 : decide ((k - 1).natAbs ≤ 10) = true := decide_eq_true (by omega)
  intro d hd
  simp only [fx8, List.mem_cons, List.not_mem_nil, or_false] at hd
  rcases hd with rfl | rfl | rfl
  · refine fitS (z := z) (k := k) ?_ rfl (Nat.le_of_ble_eq_true rfl) ?_
    · simp only [leaf, leafAll, h1, hk, hk2, kI, kII, k9, kz, k0] <;> rfl
    · simp only [wt, wtAll, lI, lII, l9, lz, l0]; omega
  · refine fitS (z := z) (k := k) ?_ rfl (Nat.le_of_ble_eq_true rfl) ?_
    · simp only [leaf, leafAll, h1, hk, hk2, kI, kII, k9, kz, k0] <;> rfl
    · simp only [wt, wtAll, lI, lII, l9, lz, l0]; omega
  · refine fitS (z := z) (k := k) ?_ rfl (Nat.le_of_ble_eq_true rfl) ?_
    · simp only [leaf, leafAll, h1, hk, hk2, kI, kII, k9, kz, k0] <;> rfl
    · simp only [wt, wtAll, lI, lII, l9, lz, l0]; omega
end Sw
set_option maxRecDepth 100000
set_option maxHeartbeats 4000000
namespace Sw
open PySem PySem.Spec PyProof.Rows L2
structure FXat (K : PySem.W.Frag) (H0 : Hp) (L So : Addr) (z : Str) (H : Hp) (vs : List V) (ds : List PyData) : Prop where
  found : FoundAt K H0 L H vs ds
  so : nw H0 L H So = some (.tup [.str z])
theorem FXat.more {K : PySem.W.Frag} {H0 H H1 : Hp} {L So : Addr} {z : Str} {vs us : List V} {ds es : List PyData} (F : FXat K H0 L So z H vs ds) (s : Same H H1) (h : DpAll K (nw H0 L H1) us es) : FXat K H0 L So z (upd H1 L (.lst (vs ++ us))) (vs ++ us) (ds ++ es) :=
  ⟨F.found.more s h, ((nw_next s).trans nw_upd) _ _ F.so⟩
theorem FXat.next {K : PySem.W.Frag} {H0 H H1 : Hp} {L So : Addr} {z : Str} {vs : List V} {ds : List PyData} (F : FXat K H0 L So z H vs ds) (s : Same H H1) : FXat K H0 L So z H1 vs ds := ⟨F.found.next s, nw_next s _ _ F.so⟩
section
variable {P : Program} {w : World} {K : PySem.W.Frag} {mg : Str → Option Value} {base : Heap}
def g1 (H0 : Hp) (z : Str) (k : Int) : L2.St → Hp → Prop := fun σ H => σ[1]? = some (some (.str z)) ∧ σ[2]? = some (some (.int k)) ∧ ∃ So, σ[3]? = some (some (.ref So)) ∧ fr H0 H So = some (.tup [.str z])
def g2 (H0 : Hp) (z : Str) (k : Int) : L2.St → Hp → Prop := fun σ H => σ[1]? = some (some (.str z)) ∧ σ[2]? = some (some (.int k)) ∧ ∃ So, σ[3]? = some (some (.ref So)) ∧ nw H0 (refAt 4 σ) H So = some (.tup [.str z])
def spFixed (K : PySem.W.Frag) : Sp := fun vs H Q _ => ∃ (vo : V) (zs r : List (Str × Int)) (z : Str) (k : Int), vs = [vo] ∧ ObjsAt K H vo zs ∧ zs = (z, k) :: r ∧ ∀ T us H', FoundAt K H T H' us (fxAll z k) → Q (.ref T) H'
theorem sc_fixed : FnScope ["_law_objects_here", "_law_word_here", "_law_size", "_law_some", "_law_found"] ["_law_objects_here"] (defScope (topS 30)) := ⟨rfl, rfl, rfl, by decide +kernel, rfl, by decide +kernel, by decide +kernel⟩
theorem ok_fixed {f : Addr} {fd : FuncData} (D : Df K mg "_law_fixed" (topS 30) ["_law_objects_here"] f fd) : FnOk P w K mg base CX0 1 f fd ["_law_objects_here"] (spFixed K) := by
  refine D.fn.ok sc_fixed (fun vs H Q E h => ?_) (fun cdv A outer s H vs Q E hr h => ?_)
  · obtain ⟨vo, zs, r, z, k, rfl, _⟩ := h
    rfl
  obtain ⟨vo, zs, r, z, k, rfl, hO, ezs, q⟩ := h
  have nd := sc_fixed.nd
  have c1 : Dc (fun _ H' => fr H H') (fun σ H' => Same H H' ∧ g1 H z k σ H') := dc_fr fun h s => ⟨h.1, h.2.1, by obtain ⟨So, e1, e2⟩ := h.2.2; exact ⟨So, e1, fr_next s _ _ e2⟩⟩
  have c2 : Dc (fun σ H' => nw H (refAt 4 σ) H') (fun σ H' => (Same H H' ∧ ∃ u, H' (refAt 4 σ) = some u) ∧ g2 H z k σ H') := dc_nw fun h s => ⟨h.1, h.2.1, by obtain ⟨So, e1, e2⟩ := h.2.2; exact ⟨So, e1, nw_next s _ _ e2⟩⟩
  have gw1 : ∀ σ H', (Same H H' ∧ g1 H z k σ H') → ∃ v, σ[1]? = some (some v) ∧ Dp K (fr H H') v (.str z) := fun σ H' h => ⟨_, h.2.1, .str z⟩
  have gk1 : ∀ σ H', (Same H H' ∧ g1 H z k σ H') → ∃ v, σ[2]? = some (some v) ∧ Dp K (fr H H') v (.int k) := fun σ H' h => ⟨_, h.2.2.1, .int k⟩
  have gs1 : ∀ σ H', (Same H H' ∧ g1 H z k σ H') → ∃ v, σ[3]? = some (some v) ∧ Dp K (fr H H') v (.tuple [.str z]) := fun σ H' h => by
    obtain ⟨So, e1, e2⟩ := h.2.2.2
    exact ⟨_, e1, .tup (SqT.of e2) (.cons (.str z) .nil)⟩
  have gw2 : ∀ σ H', ((Same H H' ∧ ∃ u, H' (refAt 4 σ) = some u) ∧ g2 H z k σ H') → ∃ v, σ[1]? = some (some v) ∧ Dp K (nw H (refAt 4 σ) H') v (.str z) := fun σ H' h => ⟨_, h.2.1, .str z⟩
  have gk2 : ∀ σ H', ((Same H H' ∧ ∃ u, H' (refAt 4 σ) = some u) ∧ g2 H z k σ H') → ∃ v, σ[2]? = some (some v) ∧ Dp K (nw H (refAt 4 σ) H') v (.int k) := fun σ H' h => ⟨_, h.2.2.1, .int k⟩
  have gs2 : ∀ σ H', ((Same H H' ∧ ∃ u, H' (refAt 4 σ) = some u) ∧ g2 H z k σ H') → ∃ v, σ[3]? = some (some v) ∧ Dp K (nw H (refAt 4 σ) H') v (.tuple [.str z]) := fun σ H' h => by
    obtain ⟨So, e1, e2⟩ := h.2.2.2
    exact ⟨_, e1, .tup (SqT.of e2) (.cons (.str z) .nil)⟩
  refine ⟨_, pss_cons (ps_asg (pe_ix ix_tup (pv 0) pe_int (fun _ _ => rfl)) (pg_tup rfl (pgs_cons (pg_name (i := 1) nd rfl (Or.inl rfl)) (pgs_cons (pg_name (i := 2) nd rfl (Or.inl rfl)) pgs_nil))))
    (pss_cons (ps_set (i := 3) nd rfl (Or.inl rfl) (pe_tup (pa_cons (pv 1) pa_nil)))
    (pss_cons (ps_set (i := 4) nd rfl (Or.inl rfl) (pe_lst (pds_cons c1 (pd_tup c1 (pds_cons c1 (pd_var (d := .tuple [.str z]) (pv 3) gs1) (pds_cons c1 pd_int (pds_cons c1 pd_int pds_nil)))) (pds_cons c1 (pd_tup c1 (pds_cons c1 (pd_var (d := .tuple [.str z]) (pv 3) gs1) (pds_cons c1 pd_str (pds_cons c1 pd_str pds_nil)))) (pds_cons c1 (pd_tup c1 (pds_cons c1 (pd_var (d := .tuple [.str z]) (pv 3) gs1) (pds_cons c1 pd_int (pds_cons c1 (pd_sub c1 (pd_var (d := .int k) (pv 2) gk1) pd_int) pds_nil)))) (pds_cons c1 (pd_tup c1 (pds_cons c1 (pd_var (d := .tuple [.str z]) (pv 3) gs1) (pds_cons c1 pd_int (pds_cons c1 (pd_var (d := .int k) (pv 2) gk1) pds_nil)))) (pds_cons c1 (pd_tup c1 (pds_cons c1 (pd_var (d := .tuple [.str z]) (pv 3) gs1) (pds_cons c1 pd_int (pds_cons c1 pd_int pds_nil)))) (pds_cons c1 (pd_tup c1 (pds_cons c1 (pd_var (d := .tuple [.str z]) (pv 3) gs1) (pds_cons c1 pd_int (pds_cons c1 (pd_neg pd_int) pds_nil)))) pds_nil))))))))
    (pss_cons (ps_expr (pe_bm PySem.F.plainAttrs_list PySem.F.slot_list_append PySem.F.type_list_append mt_append (pv 4) (pa_cons (pd_tup c2 (pds_cons c2 (pd_var (d := .tuple [.str z]) (pv 3) gs2) (pds_cons c2 (pd_neg pd_int) (pds_cons c2 pd_int pds_nil)))) pa_nil)))
    (pss_cons (ps_expr (pe_bm PySem.F.plainAttrs_list PySem.F.slot_list_extend PySem.F.type_list_extend mt_extend (pv 4) (pa_cons (pe_lst (pds_cons c2 (pd_tup c2 (pds_cons c2 (pd_tup c2 pds_nil) (pds_cons c2 pd_int (pds_cons c2 pd_int pds_nil)))) (pds_cons c2 (pd_tup c2 (pds_cons c2 (pd_var (d := .str z) (pv 1) gw2) (pds_cons c2 pd_int (pds_cons c2 pd_int pds_nil)))) (pds_cons c2 (pd_tup c2 (pds_cons c2 (pd_lst c2 (pds_cons c2 (pd_var (d := .str z) (pv 1) gw2) pds_nil)) (pds_cons c2 pd_int (pds_cons c2 pd_int pds_nil)))) (pds_cons c2 (pd_tup c2 (pds_cons c2 (pd_tup c2 (pds_cons c2 (pd_var (d := .str z) (pv 1) gw2) (pds_cons c2 (pd_var (d := .str z) (pv 1) gw2) pds_nil))) (pds_cons c2 pd_int (pds_cons c2 pd_int pds_nil)))) (pds_cons c2 (pd_tup c2 (pds_cons c2 (pd_tup c2 (pds_cons c2 pd_str pds_nil)) (pds_cons c2 pd_int (pds_cons c2 pd_int pds_nil)))) (pds_cons c2 (pd_tup c2 (pds_cons c2 (pd_var (d := .tuple [.str z]) (pv 3) gs2) (pds_cons c2 pd_int pds_nil))) pds_nil))))))) pa_nil)))
    (pss_cons (ps_expr (pe_bm PySem.F.plainAttrs_list PySem.F.slot_list_append PySem.F.type_list_append mt_append (pv 4) (pa_cons (pd_tup c2 (pds_cons c2 (pd_var (d := .tuple [.str z]) (pv 3) gs2) (pds_cons c2 pd_int (pds_cons c2 pd_int (pds_cons c2 pd_int pds_nil))))) pa_nil)))
    (pss_cons (ps_expr (pe_bm PySem.F.plainAttrs_list PySem.F.slot_list_extend PySem.F.type_list_extend mt_extend (pv 4) (pa_cons (pe_lst (pds_cons c2 (pd_tup c2 (pds_cons c2 (pd_var (d := .tuple [.str z]) (pv 3) gs2) (pds_cons c2 pd_bl (pds_cons c2 pd_int pds_nil)))) (pds_cons c2 (pd_tup c2 (pds_cons c2 (pd_var (d := .tuple [.str z]) (pv 3) gs2) (pds_cons c2 pd_int (pds_cons c2 pd_bl pds_nil)))) (pds_cons c2 (pd_tup c2 (pds_cons c2 (pd_var (d := .tuple [.str z]) (pv 3) gs2) (pds_cons c2 pd_non (pds_cons c2 pd_int pds_nil)))) (pds_cons c2 (pd_tup c2 (pds_cons c2 (pd_var (d := .tuple [.str z]) (pv 3) gs2) (pds_cons c2 pd_int (pds_cons c2 pd_str pds_nil)))) (pds_cons c2 (pd_tup c2 (pds_cons c2 (pd_var (d := .tuple [.str z]) (pv 3) gs2) (pds_cons c2 pd_str (pds_cons c2 pd_int pds_nil)))) (pds_cons c2 (pd_tup c2 (pds_cons c2 (pd_var (d := .tuple [.str z]) (pv 3) gs2) (pds_cons c2 pd_int (pds_cons c2 (pd_tup c2 (pds_cons c2 pd_int pds_nil)) pds_nil)))) pds_nil))))))) pa_nil)))
    (pss_cons (ps_expr (pe_bm PySem.F.plainAttrs_list PySem.F.slot_list_append PySem.F.type_list_append mt_append (pv 4) (pa_cons (pd_var (d := .tuple [.str z]) (pv 3) gs2) pa_nil)))
    (pss_cons (ps_expr (pe_bm PySem.F.plainAttrs_list PySem.F.slot_list_extend PySem.F.type_list_extend mt_extend (pv 4) (pa_cons (pe_lst (pds_cons c2 (pd_lst c2 (pds_cons c2 (pd_var (d := .tuple [.str z]) (pv 3) gs2) (pds_cons c2 pd_int (pds_cons c2 pd_int pds_nil)))) (pds_cons c2 pd_non (pds_cons c2 pd_int (pds_cons c2 pd_str (pds_cons c2 (pd_tup c2 pds_nil) (pds_cons c2 (pd_tup c2 (pds_cons c2 (pd_var (d := .tuple [.str z]) (pv 3) gs2) (pds_cons c2 pd_int (pds_cons c2 (pd_lst c2 (pds_cons c2 pd_int pds_nil)) pds_nil)))) (pds_cons c2 (pd_tup c2 (pds_cons c2 (pd_var (d := .tuple [.str z]) (pv 3) gs2) (pds_cons c2 (pd_lst c2 (pds_cons c2 pd_int pds_nil)) (pds_cons c2 pd_int pds_nil)))) (pds_cons c2 (pd_tup c2 (pds_cons c2 (pd_tup c2 (pds_cons c2 (pd_var (d := .tuple [.str z]) (pv 3) gs2) pds_nil)) (pds_cons c2 pd_int (pds_cons c2 pd_int pds_nil)))) pds_nil))))))))) pa_nil)))
    (pss_cons (ps_expr (pe_bm PySem.F.plainAttrs_list PySem.F.slot_list_extend PySem.F.type_list_extend mt_extend (pv 4) (pa_cons (pe_lst (pds_cons c2 (pd_tup c2 (pds_cons c2 (pd_tup c2 (pds_cons c2 pd_non pds_nil)) (pds_cons c2 pd_int (pds_cons c2 pd_int pds_nil)))) (pds_cons c2 (pd_tup c2 (pds_cons c2 (pd_var (d := .tuple [.str z]) (pv 3) gs2) (pds_cons c2 pd_str (pds_cons c2 pd_int pds_nil)))) pds_nil))) pa_nil)))
    (pss_one (ps_ret (pe_op op_cat (pv 4) (pe_lst (pds_cons c2 (pd_tup c2 (pds_cons c2 (pd_var (d := .tuple [.str z]) (pv 3) gs2) (pds_cons c2 pd_bl (pds_cons c2 pd_int pds_nil)))) (pds_cons c2 (pd_tup c2 (pds_cons c2 (pd_var (d := .tuple [.str z]) (pv 3) gs2) (pds_cons c2 pd_int (pds_cons c2 pd_str pds_nil)))) (pds_cons c2 (pd_tup c2 (pds_cons c2 (pd_tup c2 (pds_cons c2 (pd_lst c2 (pds_cons c2 (pd_var (d := .str z) (pv 1) gw2) pds_nil)) pds_nil)) (pds_cons c2 pd_int (pds_cons c2 pd_int pds_nil)))) pds_nil)))))))))))))))), ?_⟩
  clear gw1 gk1 gs1 gw2 gk2 gs2 D hr nd
  obtain ⟨ao, ps, rfl, hfo, hpo⟩ := hO.ex
  subst ezs
  have hsq : SqT K H ao (ps.map V.ref) := hfo.sq
  cases hpo with
  | @cons a0 b0 l m hp0 hpr =>
  refine ⟨_, rfl, ao, _, 0, _, rfl, rfl, hsq, atI_nat (j := 0) rfl, a0, _, rfl, hp0, rfl, _, _, rfl, _, _, rfl, rfl, ?_⟩
  refine ⟨_, rfl, by show 1 ≤ sizeLine; decide, fun So hSo => ?_⟩
  have s1 := same_new (o := .tup [.str z]) hSo
  have e1 : fr H (upd H So (.tup [.str z])) So = some (.tup [.str z]) := fr_some hSo upd_same
  generalize upd H So (.tup [.str z]) = H1 at s1 e1
  refine ⟨⟨s1, rfl, rfl, So, rfl, e1⟩, fun vs0 H2 s2 d2 => ?_⟩
  have l0 : vs0.length = 6 := DpAll_len d2
  refine ⟨Nat.le_of_lt (small1000 (by omega)), fun L hL => ?_⟩
  have s02 := s1.trans s2
  have FA0 : FXat K H L So z (upd H2 L (.lst vs0)) vs0 (fx0 z k) := by
    have sx : Same (fr H H2) (nw H L (upd H2 L (.lst vs0))) := fun c o e => by
      obtain ⟨e3, e4⟩ := of_fr e
      have nc : c ≠ L := ne_of_none e4 hL
      exact del_some (fr_some e3 (by rw [upd_ne nc]; exact e4)) nc
    exact ⟨⟨s02.trans (same_new hL), s02.free hL, upd_same, DpAll_same sx d2⟩, sx _ _ (fr_next s2 _ _ e1)⟩
  generalize upd H2 L (.lst vs0) = HA0 at FA0
  clear d2 s02 s2 s1 e1 hSo hL
  have gA : (Same H HA0 ∧ ∃ u, HA0 (refAt 4 [some (.ref ao), some (.str z), some (.int k), some (.ref So), some (.ref L)]) = some u) ∧ g2 H z k [some (.ref ao), some (.str z), some (.int k), some (.ref So), some (.ref L)] HA0 := ⟨⟨FA0.found.s0, _, FA0.found.at_⟩, rfl, rfl, So, rfl, FA0.so⟩
  refine ⟨_, rfl, .inl ⟨rfl, _, SqL.of FA0.found.at_⟩, gA, fun v1 H3 s1 d1 => ⟨L, _, _, rfl, rfl, s1 _ _ FA0.found.at_, small1000 (by have := DpAll_len FA0.found.dat; have : vs0.length = 6 := this; omega), ?_⟩⟩
  have FA1 := FA0.more s1 (us := [v1]) (es := fx1 z k) (.cons d1 .nil)
  generalize ev1 : vs0 ++ [v1] = wb1 at FA1
  generalize upd H3 L (.lst wb1) = HA1 at FA1
  clear FA0 gA ev1
  have gA : (Same H HA1 ∧ ∃ u, HA1 (refAt 4 [some (.ref ao), some (.str z), some (.int k), some (.ref So), some (.ref L)]) = some u) ∧ g2 H z k [some (.ref ao), some (.str z), some (.int k), some (.ref So), some (.ref L)] HA1 := ⟨⟨FA1.found.s0, _, FA1.found.at_⟩, rfl, rfl, So, rfl, FA1.so⟩
  refine ⟨_, rfl, .inl ⟨rfl, _, SqL.of FA1.found.at_⟩, gA, fun us2 H4 s2 d2 => ⟨Nat.le_of_lt (small1000 (by have := DpAll_len d2; have : us2.length = 6 := this; omega)), fun N2 hN => ?_⟩⟩
  have sN := same_new (o := .lst us2) hN
  refine ⟨L, N2, _, us2, rfl, rfl, sN _ _ (s2 _ _ FA1.found.at_), upd_same, Nat.le_of_lt (small1000 (by have := DpAll_len d2; have : us2.length = 6 := this; have := DpAll_len FA1.found.dat; have : wb1.length = 7 := this; omega)), ?_⟩
  have FA2 := FA1.more (s2.trans sN) (us := us2) (es := fx2 z k) (DpAll_same (nw_next sN) d2)
  generalize upd H4 N2 (.lst us2) = HN2 at FA2
  generalize ev2 : wb1 ++ us2 = wb2 at FA2
  generalize upd HN2 L (.lst wb2) = HA2 at FA2
  clear FA1 gA ev2
  have gA : (Same H HA2 ∧ ∃ u, HA2 (refAt 4 [some (.ref ao), some (.str z), some (.int k), some (.ref So), some (.ref L)]) = some u) ∧ g2 H z k [some (.ref ao), some (.str z), some (.int k), some (.ref So), some (.ref L)] HA2 := ⟨⟨FA2.found.s0, _, FA2.found.at_⟩, rfl, rfl, So, rfl, FA2.so⟩
  refine ⟨_, rfl, .inl ⟨rfl, _, SqL.of FA2.found.at_⟩, gA, fun v3 H5 s3 d3 => ⟨L, _, _, rfl, rfl, s3 _ _ FA2.found.at_, small1000 (by have := DpAll_len FA2.found.dat; have : wb2.length = 13 := this; omega), ?_⟩⟩
  have FA3 := FA2.more s3 (us := [v3]) (es := fx3 z k) (.cons d3 .nil)
  generalize ev3 : wb2 ++ [v3] = wb3 at FA3
  generalize upd H5 L (.lst wb3) = HA3 at FA3
  clear FA2 gA ev3
  have gA : (Same H HA3 ∧ ∃ u, HA3 (refAt 4 [some (.ref ao), some (.str z), some (.int k), some (.ref So), some (.ref L)]) = some u) ∧ g2 H z k [some (.ref ao), some (.str z), some (.int k), some (.ref So), some (.ref L)] HA3 := ⟨⟨FA3.found.s0, _, FA3.found.at_⟩, rfl, rfl, So, rfl, FA3.so⟩
  refine ⟨_, rfl, .inl ⟨rfl, _, SqL.of FA3.found.at_⟩, gA, fun us4 H6 s4 d4 => ⟨Nat.le_of_lt (small1000 (by have := DpAll_len d4; have : us4.length = 6 := this; omega)), fun N4 hN => ?_⟩⟩
  have sN := same_new (o := .lst us4) hN
  refine ⟨L, N4, _, us4, rfl, rfl, sN _ _ (s4 _ _ FA3.found.at_), upd_same, Nat.le_of_lt (small1000 (by have := DpAll_len d4; have : us4.length = 6 := this; have := DpAll_len FA3.found.dat; have : wb3.length = 14 := this; omega)), ?_⟩
  have FA4 := FA3.more (s4.trans sN) (us := us4) (es := fx4 z k) (DpAll_same (nw_next sN) d4)
  generalize upd H6 N4 (.lst us4) = HN4 at FA4
  generalize ev4 : wb3 ++ us4 = wb4 at FA4
  generalize upd HN4 L (.lst wb4) = HA4 at FA4
  clear FA3 gA ev4
  have gA : (Same H HA4 ∧ ∃ u, HA4 (refAt 4 [some (.ref ao), some (.str z), some (.int k), some (.ref So), some (.ref L)]) = some u) ∧ g2 H z k [some (.ref ao), some (.str z), some (.int k), some (.ref So), some (.ref L)] HA4 := ⟨⟨FA4.found.s0, _, FA4.found.at_⟩, rfl, rfl, So, rfl, FA4.so⟩
  refine ⟨_, rfl, .inl ⟨rfl, _, SqL.of FA4.found.at_⟩, gA, fun v5 H7 s5 d5 => ⟨L, _, _, rfl, rfl, s5 _ _ FA4.found.at_, small1000 (by have := DpAll_len FA4.found.dat; have : wb4.length = 20 := this; omega), ?_⟩⟩
  have FA5 := FA4.more s5 (us := [v5]) (es := fx5 z k) (.cons d5 .nil)
  generalize ev5 : wb4 ++ [v5] = wb5 at FA5
  generalize upd H7 L (.lst wb5) = HA5 at FA5
  clear FA4 gA ev5
  have gA : (Same H HA5 ∧ ∃ u, HA5 (refAt 4 [some (.ref ao), some (.str z), some (.int k), some (.ref So), some (.ref L)]) = some u) ∧ g2 H z k [some (.ref ao), some (.str z), some (.int k), some (.ref So), some (.ref L)] HA5 := ⟨⟨FA5.found.s0, _, FA5.found.at_⟩, rfl, rfl, So, rfl, FA5.so⟩
  refine ⟨_, rfl, .inl ⟨rfl, _, SqL.of FA5.found.at_⟩, gA, fun us6 H8 s6 d6 => ⟨Nat.le_of_lt (small1000 (by have := DpAll_len d6; have : us6.length = 8 := this; omega)), fun N6 hN => ?_⟩⟩
  have sN := same_new (o := .lst us6) hN
  refine ⟨L, N6, _, us6, rfl, rfl, sN _ _ (s6 _ _ FA5.found.at_), upd_same, Nat.le_of_lt (small1000 (by have := DpAll_len d6; have : us6.length = 8 := this; have := DpAll_len FA5.found.dat; have : wb5.length = 21 := this; omega)), ?_⟩
  have FA6 := FA5.more (s6.trans sN) (us := us6) (es := fx6 z k) (DpAll_same (nw_next sN) d6)
  generalize upd H8 N6 (.lst us6) = HN6 at FA6
  generalize ev6 : wb5 ++ us6 = wb6 at FA6
  generalize upd HN6 L (.lst wb6) = HA6 at FA6
  clear FA5 gA ev6
  have gA : (Same H HA6 ∧ ∃ u, HA6 (refAt 4 [some (.ref ao), some (.str z), some (.int k), some (.ref So), some (.ref L)]) = some u) ∧ g2 H z k [some (.ref ao), some (.str z), some (.int k), some (.ref So), some (.ref L)] HA6 := ⟨⟨FA6.found.s0, _, FA6.found.at_⟩, rfl, rfl, So, rfl, FA6.so⟩
  refine ⟨_, rfl, .inl ⟨rfl, _, SqL.of FA6.found.at_⟩, gA, fun us7 H9 s7 d7 => ⟨Nat.le_of_lt (small1000 (by have := DpAll_len d7; have : us7.length = 2 := this; omega)), fun N7 hN => ?_⟩⟩
  have sN := same_new (o := .lst us7) hN
  refine ⟨L, N7, _, us7, rfl, rfl, sN _ _ (s7 _ _ FA6.found.at_), upd_same, Nat.le_of_lt (small1000 (by have := DpAll_len d7; have : us7.length = 2 := this; have := DpAll_len FA6.found.dat; have : wb6.length = 29 := this; omega)), ?_⟩
  have FA7 := FA6.more (s7.trans sN) (us := us7) (es := fx7 z k) (DpAll_same (nw_next sN) d7)
  generalize upd H9 N7 (.lst us7) = HN7 at FA7
  generalize ev7 : wb6 ++ us7 = wb7 at FA7
  generalize upd HN7 L (.lst wb7) = HA7 at FA7
  clear FA6 gA ev7
  have gA : (Same H HA7 ∧ ∃ u, HA7 (refAt 4 [some (.ref ao), some (.str z), some (.int k), some (.ref So), some (.ref L)]) = some u) ∧ g2 H z k [some (.ref ao), some (.str z), some (.int k), some (.ref So), some (.ref L)] HA7 := ⟨⟨FA7.found.s0, _, FA7.found.at_⟩, rfl, rfl, So, rfl, FA7.so⟩
  refine ⟨_, rfl, gA, fun us8 H10 s8 d8 => ⟨Nat.le_of_lt (small1000 (by have := DpAll_len d8; have : us8.length = 3 := this; omega)), fun N hN => ?_⟩⟩
  have sN := same_new (o := .lst us8) hN
  refine ⟨L, N, _, us8, rfl, rfl, sN _ _ (s8 _ _ FA7.found.at_), upd_same, Nat.le_of_lt (small1000 (by have := DpAll_len d8; have : us8.length = 3 := this; have := DpAll_len FA7.found.dat; have : wb7.length = 31 := this; omega)), fun T hT => ?_⟩
  have FB := FA7.next (s8.trans sN)
  have dB := DpAll_same (nw_next (H0 := H) (L := L) sN) d8
  have hLB : upd H10 N (.lst us8) L = some (.lst wb7) := FB.found.at_
  generalize upd H10 N (.lst us8) = HN at FB dB hT hLB
  have dAll := DpAll_append FB.found.dat dB
  have sx : Same (nw H L HN) (nw H T (upd HN T (.lst (wb7 ++ us8)))) := fun c o e => by
    obtain ⟨e1, e2⟩ := of_del e
    obtain ⟨e3, e4⟩ := of_fr e1
    have nc : c ≠ T := ne_of_none e4 hT
    exact del_some (fr_some e3 (by rw [upd_ne nc]; exact e4)) nc
  exact q T _ _ ⟨FB.found.s0.trans (same_new hT), FB.found.s0.free hT, upd_same, DpAll_same sx dAll⟩
end
end Sw
set_option maxRecDepth 100000
set_option maxHeartbeats 4000000
namespace Sw
open PySem PySem.Spec PyProof.Rows L2
theorem word_of {z : Str} (h : wordS z = true) : IsWord z := by
  unfold wordS at h
  rw [Bool.and_eq_true, Bool.and_eq_true, decide_eq_true_eq, decide_eq_true_eq] at h
  exact ⟨h.1.1, h.1.2, fun c hc => List.all_eq_true.mp h.2 c hc⟩
abbrev Sm (d : PyData) : Prop := Fit (10 ^ 199) 22 2 900 d
abbrev FitN (d : PyData) : Prop := Fit (10 ^ 199 + 2) 22 10 7000 d
theorem sm_int {i : Int} (h : i.natAbs ≤ 10) : Sm (.int i) := Fit.int (Nat.le_trans h (by decide +kernel)) (by omega)
theorem sm_str {z : Str} (h : IsWord z) : Sm (.str z) := Fit.str h.ascii (by have := h.hi; omega)
theorem strs_wt : ∀ l : List Str, (∀ z ∈ l, IsWord z) → wtAll (l.map PyData.str) ≤ 87 * l.length
  | [], _ => by simp [wtAll]
  | x :: l, h => by
    have h1 := (h x List.mem_cons_self).hi
    have h2 := strs_wt l fun d hd => h d (List.mem_cons_of_mem _ hd)
    simp only [List.map_cons, wtAll, wt, List.length_cons]
    omega
theorem sm_strs {l : List Str} (h : ∀ z ∈ l, IsWord z) (hl : l.length ≤ 10) : Sm (.tuple (l.map PyData.str)) := by
  have hw := strs_wt l h
  refine Fit.tup (n := 1) (by rw [List.length_map]; omega) (fun x hx => ?_) (by omega)
  obtain ⟨z, hz, rfl⟩ := List.mem_map.mp hx
  have := sm_str (h z hz)
  exact ⟨this.lf, this.ln, by simp [PyData.depth]⟩
theorem tri_fit {a b c : PyData} (ha : Sm a) (hb : Sm b) (hc : Sm c) : FitN (.tuple [a, b, c]) := by
  have h1 := ha.wg
  have h2 := hb.wg
  have h3 := hc.wg
  have : Fit (10 ^ 199) 22 10 7000 (.tuple [a, b, c]) := Fit.tup (n := 9) (by show 3 ≤ 22; omega) (fun x hx => by
    simp only [List.mem_cons, List.not_mem_nil, or_false] at hx
    rcases hx with rfl | rfl | rfl
    · exact ⟨ha.lf, ha.ln, Nat.le_trans ha.dp (by omega)⟩
    · exact ⟨hb.lf, hb.ln, Nat.le_trans hb.dp (by omega)⟩
    · exact ⟨hc.lf, hc.ln, Nat.le_trans hc.dp (by omega)⟩) (by simp only [wtAll]; omega)
  exact this.mono (by omega) (Nat.le_refl _) (Nat.le_refl _) (Nat.le_refl _)
/-- what an ADDRESS is like -/
structure AddrF (ws : List Str) (p ix : PyData) : Prop where
  lo : 1 ≤ ws.length
  hi : ws.length ≤ 4
  nd : ws.Nodup
  wd : ∀ z ∈ ws, IsWord z
  sp : Sm p
  si : Sm ix
  fit : Fit (10 ^ 199) 4 2 900 (.tuple [.tuple (ws.map PyData.str), p, ix])
theorem oper_sm {d : PyData} {m : Int} (ho : dOper d = true) (hw : within d m = true) (hm : m ≤ 4) : Sm d ∧ Fit (10 ^ 199) 4 0 250 d := by
  cases d with
  | int i =>
    have h' : (decide (0 ≤ i) && decide (i < m)) = true := hw
    rw [Bool.and_eq_true, decide_eq_true_eq, decide_eq_true_eq] at h'
    exact ⟨sm_int (by omega), Fit.int (Nat.le_trans (show i.natAbs ≤ 10 by omega) (by decide +kernel)) (by omega)⟩
  | str z =>
    have hz : IsWord z := word_of (by
      unfold dOper at ho
      rw [show dNum (.str z) = false from rfl, Bool.false_or] at ho
      exact ho)
    exact ⟨sm_str hz, Fit.str hz.ascii (by have := hz.hi; omega)⟩
  | _ => cases ho
theorem AddrAt.facts {K : PySem.W.Frag} {H : Hp} {v vo : V} {zs : List (Str × Int)} {ws : List Str} {p ix : PyData} (h : AddrAt K H v zs ws p ix) (hO : ObjsAt K H vo zs) : AddrF ws p ix := by
  obtain ⟨os', p', ix', e', hw, hnd, hne, hp, hi, hwp, hwi⟩ := addr_parts h.ok
  cases e'
  have hs : (ws.map PyData.str).map strL0 = ws := by
    rw [List.map_map]
    exact (List.map_congr_left fun a _ => rfl).trans (List.map_id _)
  rw [hs] at hnd
  have hm : ∀ z ∈ ws, IsWord z ∧ ∃ k, sz zs z = some k ∧ k ≤ 4 ∧ z ∈ zs.map (·.1) := fun z hz => by
    obtain ⟨z', k, e, hd, hk⟩ := hw (.str z) (List.mem_map_of_mem hz)
    cases e
    have hz2 := sz_mem hk
    exact ⟨word_of hd, k, hk, (hO.wd _ hz2).2.2, List.mem_map_of_mem hz2⟩
  have h4 : ws.length ≤ 4 := by
    have := nodup_le hnd fun z hz => (hm z hz).2.choose_spec.2.2
    rw [List.length_map] at this
    have := hO.few
    omega
  have h1 : 1 ≤ ws.length := by
    cases ws with
    | nil => exact absurd rfl hne
    | cons _ _ => simp
  have sp := oper_sm hp hwp (by rw [List.length_map]; omega)
  have si : Sm ix ∧ Fit (10 ^ 199) 4 0 250 ix := by
    cases ws with
    | nil => exact absurd rfl hne
    | cons z r =>
      obtain ⟨_, k, hk, hk4, _⟩ := hm z List.mem_cons_self
      have := hwi (.str z) (List.mem_map_of_mem List.mem_cons_self)
      rw [show strL0 (.str z) = z from rfl, hk] at this
      exact oper_sm hi this hk4
  refine ⟨h1, h4, hnd, fun z hz => (hm z hz).1, sp.1, si.1, ?_⟩
  have hwt := strs_wt ws fun z hz => (hm z hz).1
  have wp := sp.2.wg
  have wi := si.2.wg
  refine Fit.tup (n := 1) (by show 3 ≤ 4; omega) (fun x hx => ?_) (by simp only [wtAll, wt]; omega)
  simp only [List.mem_cons, List.not_mem_nil, or_false] at hx
  rcases hx with rfl | rfl | rfl
  · have : Fit (10 ^ 199) 4 1 900 (.tuple (ws.map PyData.str)) := Fit.tup (n := 0) (by rw [List.length_map]; omega) (fun x hx => by
      obtain ⟨z, hz, rfl⟩ := List.mem_map.mp hx
      have := sm_str (hm z hz).1
      exact ⟨this.lf, rfl, by simp [PyData.depth]⟩) (by omega)
    exact ⟨this.lf, this.ln, this.dp⟩
  · exact ⟨sp.2.lf, sp.2.ln, Nat.le_trans sp.2.dp (by omega)⟩
  · exact ⟨si.2.lf, si.2.ln, Nat.le_trans si.2.dp (by omega)⟩
end Sw
set_option maxRecDepth 100000
set_option maxHeartbeats 4000000
namespace Sw
open PySem PySem.Spec PyProof.Rows L2
abbrev N31 : List Str := ["_law_feed_here", "_law_objects_here", "_law_address_here", "_law_words", "_law_pick", "_law_index", "_law_bent", "_law_size", "_law_found", "_law_word_here"]
/-- what the names hold -/
def gN2 (K : PySem.W.Frag) (p : Addr) (ws : List Str) (pd ix : PyData) (k : Int) : L2.St → Hp → Prop := fun σ H => (∃ v, σ[3]? = some (some v) ∧ Dp K (del (del H p) (refAt 8 σ)) v (.tuple (ws.map PyData.str))) ∧ (∃ v, σ[4]? = some (some v) ∧ Dp K (del (del H p) (refAt 8 σ)) v pd) ∧ (∃ v, σ[5]? = some (some v) ∧ Dp K (del (del H p) (refAt 8 σ)) v ix) ∧ σ[7]? = some (some (.int k))
theorem max_of : ∀ l : List Int, l ≠ [] → ∃ k, k ∈ l ∧ ∀ y ∈ l, y ≤ k
  | [], h => absurd rfl h
  | x :: l, _ => by
    by_cases hl : l = []
    · subst hl
      exact ⟨x, by simp, by simp⟩
    · obtain ⟨k, h1, h2⟩ := max_of l hl
      by_cases hx : x ≤ k
      · exact ⟨k, List.mem_cons_of_mem _ h1, fun y hy => (List.mem_cons.mp hy).elim (fun e => e ▸ hx) (h2 y)⟩
      · exact ⟨x, List.mem_cons_self, fun y hy => (List.mem_cons.mp hy).elim (fun e => by omega) fun h => by have := h2 y h; omega⟩
/-- the list found, in a heap without the feed and itself -/
structure NAt (K : PySem.W.Frag) (p fq L : Addr) (H0 : Hp) (b : Nat) (ws : List Str) (pd ix : PyData) (vw vp vi : V) (H : Hp) (vs : List V) (ds : List PyData) : Prop where
  feed : FeedAt H p fq b
  at_ : H L = some (.lst vs)
  np : L ≠ p
  nq : L ≠ fq
  n0 : H0 L = none
  sm : Same (del H0 p) (del (del H p) L)
  dat : DpAll K (del (del H p) L) vs ds
  w : Dp K (del (del H p) L) vw (.tuple (ws.map PyData.str))
  pk : Dp K (del (del H p) L) vp pd
  ix : Dp K (del (del H p) L) vi ix
section
variable {K : PySem.W.Frag} {p fq L : Addr} {H0 H H1 : Hp} {b : Nat} {ws : List Str} {pd ix : PyData} {vw vp vi : V} {vs us : List V} {ds es : List PyData}
theorem NAt.next (h : NAt K p fq L H0 b ws pd ix vw vp vi H vs ds) (s : Same H H1) : NAt K p fq L H0 b ws pd ix vw vp vi H1 vs ds :=
  ⟨h.feed.same s, s _ _ h.at_, h.np, h.nq, h.n0, h.sm.trans (same_del (same_del s)), DpAll_same (same_del (same_del s)) h.dat, Dp_same (same_del (same_del s)) h.w, Dp_same (same_del (same_del s)) h.pk, Dp_same (same_del (same_del s)) h.ix⟩
theorem NAt.more (h : NAt K p fq L H0 b ws pd ix vw vp vi H vs ds) (s : Same H H1) (hd : DpAll K (del (del H1 p) L) us es) : NAt K p fq L H0 b ws pd ix vw vp vi (upd H1 L (.lst (vs ++ us))) (vs ++ us) (ds ++ es) := by
  have h1 := h.next s
  have sx : Same (del (del H1 p) L) (del (del (upd H1 L (.lst (vs ++ us))) p) L) := fun c o e => by
    obtain ⟨e1, e2⟩ := of_del e
    obtain ⟨e3, e4⟩ := of_del e1
    exact del_some (del_some (by rw [upd_ne e2]; exact e3) e4) e2
  exact ⟨h1.feed.upd h.np h.nq, upd_same, h.np, h.nq, h.n0, h1.sm.trans sx, DpAll_same sx (DpAll_append h1.dat hd), Dp_same sx h1.w, Dp_same sx h1.pk, Dp_same sx h1.ix⟩
end
section
variable {P : Program} {w : World} {K : PySem.W.Frag} {mg : Str → Option Value} {base : Heap}
def spNear (K : PySem.W.Frag) : Sp := fun vs H Q _ => ∃ (p fq : Addr) (vo va : V) (zs : List (Str × Int)) (ws : List Str) (pd ix : PyData) (b : Nat), vs = [.ref p, vo, va] ∧ FeedAt H p fq b ∧ b + 300 ≤ 1000000000 ∧ ObjsAt K (del H p) vo zs ∧ AddrAt K (del H p) va zs ws pd ix ∧
  ∀ (N : Addr) (us : List V) (ds : List PyData) (H' : Hp), H' N = some (.lst us) → H N = none → DpAll K (del H' p) us ds → ds.length = 13 → (∀ d ∈ ds, FitN d) → Same (del H p) (del H' p) → FeedAt H' p fq (b + 100) → Q (.ref N) H'
theorem sc_near : FnScope N31 ["_law_feed_here", "_law_objects_here", "_law_address_here"] (defScope (topS 31)) := ⟨rfl, rfl, rfl, by decide +kernel, rfl, by decide +kernel, by decide +kernel⟩
theorem ok_near {f fB fO : Addr} {fd dB dO : FuncData} (D : Df K mg "_law_near" (topS 31) ["_law_feed_here", "_law_objects_here", "_law_address_here"] f fd) (DB : Df K mg "_law_bend" (topS 19) ["_law_feed_here", "_law_thing", "_law_odd_here"] fB dB) (DO : Df K mg "_law_odd" (topS 20) [] fO dO) (B : Bt mg) (bMax : mg "max" = none)
    (GB3 : FnOk P w K mg base CX0 4 fB dB ["_law_feed_here", "_law_thing", "_law_odd_here"] (spBend K 3)) (GB5 : FnOk P w K mg base CX0 6 fB dB ["_law_feed_here", "_law_thing", "_law_odd_here"] (spBend K 5)) (GO : FnOk P w K mg base CX0 1 fO dO [] (spOdd K)) :
    FnOk P w K mg base CX0 7 f fd ["_law_feed_here", "_law_objects_here", "_law_address_here"] (spNear K) := by
  refine D.fn.ok sc_near (fun vs H Q E h => ?_) (fun cdv A outer s H vs Q E hr h => ?_)
  · obtain ⟨p, fq, vo, va, zs, ws, pd, ix, b, rfl, _⟩ := h
    rfl
  obtain ⟨p, fq, vo, va, zs, ws, pd, ix, b, rfl, hF, hb, hO, hA, q⟩ := h
  have nd := sc_near.nd
  obtain ⟨k, hk1, hk2⟩ := max_of (zs.map (·.2)) (by
    have := hO.few
    intro e
    have : zs.length = 0 := by rw [← List.length_map (f := fun x : Str × Int => x.2), e]; rfl
    omega)
  have hk14 : 1 ≤ k ∧ k ≤ 4 := by
    obtain ⟨pz, h1, h2⟩ := List.mem_map.mp hk1
    have := (hO.wd pz h1).2
    omega
  have AF := hA.facts hO
  have alo := AF.lo
  have ahi := AF.hi
  have c : Dc (fun σ H' => del (del H' p) (refAt 8 σ)) (fun σ H' => ((∃ u, H' p = some u) ∧ ∃ u, H' (refAt 8 σ) = some u) ∧ gN2 K p ws pd ix k σ H') := dc_del2 fun {σ H1 H2} h s => by
    obtain ⟨⟨v1, e1, d1⟩, ⟨v2, e2, d2⟩, ⟨v3, e3, d3⟩, hk⟩ := h
    exact ⟨⟨v1, e1, Dp_same (same_del (same_del s)) d1⟩, ⟨v2, e2, Dp_same (same_del (same_del s)) d2⟩, ⟨v3, e3, Dp_same (same_del (same_del s)) d3⟩, hk⟩
  have gw : ∀ σ H', (((∃ u, H' p = some u) ∧ ∃ u, H' (refAt 8 σ) = some u) ∧ gN2 K p ws pd ix k σ H') → ∃ v, σ[3]? = some (some v) ∧ Dp K (del (del H' p) (refAt 8 σ)) v (.tuple (ws.map PyData.str)) := fun σ H' h => h.2.1
  have gp : ∀ σ H', (((∃ u, H' p = some u) ∧ ∃ u, H' (refAt 8 σ) = some u) ∧ gN2 K p ws pd ix k σ H') → ∃ v, σ[4]? = some (some v) ∧ Dp K (del (del H' p) (refAt 8 σ)) v pd := fun σ H' h => h.2.2.1
  have gi : ∀ σ H', (((∃ u, H' p = some u) ∧ ∃ u, H' (refAt 8 σ) = some u) ∧ gN2 K p ws pd ix k σ H') → ∃ v, σ[5]? = some (some v) ∧ Dp K (del (del H' p) (refAt 8 σ)) v ix := fun σ H' h => h.2.2.2.1
  have gk : ∀ σ H', (((∃ u, H' p = some u) ∧ ∃ u, H' (refAt 8 σ) = some u) ∧ gN2 K p ws pd ix k σ H') → ∃ v, σ[7]? = some (some v) ∧ Dp K (del (del H' p) (refAt 8 σ)) v (.int k) := fun σ H' h => ⟨_, h.2.2.2.2, .int k⟩
  have hl1 : (ws.map PyData.str).length + (cutD (ws.map PyData.str) none (some 1)).length ≤ 1000 := by
    have := (cutD_sub (ws.map PyData.str) none (some 1)).2.1
    rw [List.length_map] at this ⊢
    omega
  have hl2 : (ws.map PyData.str).length + [PyData.str (Str.ofString "zzzzzzzz")].length ≤ 1000 := by
    rw [List.length_map]
    show ws.length + 1 ≤ 1000
    omega
  refine ⟨_, pss_cons (ps_asg (pv 2) (pg_tup rfl (pgs_cons (pg_name (i := 3) nd rfl (Or.inl rfl)) (pgs_cons (pg_name (i := 4) nd rfl (Or.inl rfl)) (pgs_cons (pg_name (i := 5) nd rfl (Or.inl rfl)) pgs_nil)))))
    (pss_cons (ps_set (i := 6) nd rfl (Or.inl rfl) (pe_call GB3 (hr.mono (by decide)) (by rfl) DB.gl DB.fn.kp DB.bd .nil pass0 (pa_cons (pv 0) (pa_cons (pv 2) (pa_cons (pe_call0 GO (hr.mono (by decide)) (by rfl) DO.gl DO.fn.kp DO.bd .nil pass0) pa_nil)))))
    (pss_cons (ps_set (i := 7) nd rfl (Or.inl rfl) (pe_callB (cr_max rfl) (by rfl) bMax (by decide +kernel) (pa_cons (pe_lc (own := [("_law_word_here", 9), ("_law_size", 7)]) (g := gTup K 2 (gCons (gName 9) (gCons (gName 7) gNil))) (tt := tYes) rfl nd (pi_tup (pv 1))
        (blkOk_by (N := N31) (sc := defScope (topS 31)) (by decide +kernel)) (fun _ _ _ _ _ => pg_tup rfl (pgs_cons (pg_name (i := 9) nd rfl (Or.inl rfl)) (pgs_cons (pg_name (i := 7) nd rfl (Or.inl rfl)) pgs_nil)))
        (fun _ _ _ _ _ => pts_nil) (fun _ _ _ _ _ => pv 7)) pa_nil)))
    (pss_cons (ps_set (i := 8) nd rfl (Or.inl rfl) (pe_lst (pa_cons (pv 2) (pa_cons (pv 6) (pa_cons (pe_call GB5 hr (by rfl) DB.gl DB.fn.kp DB.bd .nil pass0 (pa_cons (pv 0) (pa_cons (pv 6) (pa_cons (pe_call0 GO (hr.mono (by decide)) (by rfl) DO.gl DO.fn.kp DO.bd .nil pass0) pa_nil)))) (pa_cons (pe_tup (pa_cons (pv 3) (pa_cons (pe_callB call_len_seq (by rfl) B.len PySem.boot_len (pa_cons (pv 3) pa_nil)) (pa_cons (pv 5) pa_nil)))) pa_nil))))))
    (pss_cons (ps_expr (pe_bm PySem.F.plainAttrs_list PySem.F.slot_list_append PySem.F.type_list_append mt_append (pv 8) (pa_cons (pd_tup c (pds_cons c (pd_var (d := .tuple (ws.map PyData.str)) (pv 3) gw) (pds_cons c (pd_sub c (pd_len (by rfl) B.len c rfl (pd_var (d := .tuple (ws.map PyData.str)) (pv 3) gw)) pd_int) (pds_cons c (pd_var (d := ix) (pv 5) gi) pds_nil)))) pa_nil)))
    (pss_cons (ps_expr (pe_bm PySem.F.plainAttrs_list PySem.F.slot_list_extend PySem.F.type_list_extend mt_extend (pv 8) (pa_cons (pe_lst (pds_cons c (pd_tup c (pds_cons c (pd_var (d := .tuple (ws.map PyData.str)) (pv 3) gw) (pds_cons c (pd_var (d := pd) (pv 4) gp) (pds_cons c (pd_var (d := .int k) (pv 7) gk) pds_nil)))) (pds_cons c (pd_tup c (pds_cons c (pd_var (d := .tuple (ws.map PyData.str)) (pv 3) gw) (pds_cons c (pd_var (d := pd) (pv 4) gp) (pds_cons c (pd_sub c (pd_var (d := .int k) (pv 7) gk) pd_int) pds_nil)))) (pds_cons c (pd_tup c (pds_cons c (pd_var (d := .tuple (ws.map PyData.str)) (pv 3) gw) (pds_cons c (pd_var (d := pd) (pv 4) gp) (pds_cons c (pd_neg pd_int) pds_nil)))) (pds_cons c (pd_tup c (pds_cons c (pd_var (d := .tuple (ws.map PyData.str)) (pv 3) gw) (pds_cons c (pd_neg pd_int) (pds_cons c (pd_var (d := ix) (pv 5) gi) pds_nil)))) pds_nil))))) pa_nil)))
    (pss_cons (ps_expr (pe_bm PySem.F.plainAttrs_list PySem.F.slot_list_append PySem.F.type_list_append mt_append (pv 8) (pa_cons (pd_tup c (pds_cons c (pd_cat c rfl (pd_var (d := .tuple (ws.map PyData.str)) (pv 3) gw) (pd_to c rfl (pd_var (d := .tuple (ws.map PyData.str)) (pv 3) gw)) hl1) (pds_cons c (pd_var (d := pd) (pv 4) gp) (pds_cons c (pd_var (d := ix) (pv 5) gi) pds_nil)))) pa_nil)))
    (pss_one (ps_ret (pe_op op_cat (pv 8) (pe_lst (pds_cons c (pd_tup c (pds_cons c (pd_rev c rfl (pd_var (d := .tuple (ws.map PyData.str)) (pv 3) gw)) (pds_cons c (pd_var (d := pd) (pv 4) gp) (pds_cons c (pd_var (d := ix) (pv 5) gi) pds_nil)))) (pds_cons c (pd_tup c (pds_cons c (pd_cat c rfl (pd_var (d := .tuple (ws.map PyData.str)) (pv 3) gw) (pd_tup c (pds_cons c pd_str pds_nil)) hl2) (pds_cons c (pd_var (d := pd) (pv 4) gp) (pds_cons c (pd_var (d := ix) (pv 5) gi) pds_nil)))) (pds_cons c (pd_tup c (pds_cons c (pd_var (d := .tuple (ws.map PyData.str)) (pv 3) gw) (pds_cons c (pd_var (d := ix) (pv 5) gi) (pds_cons c (pd_var (d := pd) (pv 4) gp) pds_nil)))) pds_nil))))))))))))), ?_⟩
  clear gw gp gi gk hl1 hl2 D DB DO B bMax GB3 GB5 GO hr nd
  obtain ⟨a, a0, x1, x2, rfl, hx, hFw, d1, d2⟩ := hA.ex
  have dA : Dp K (del H p) (.ref a) (.tuple [.tuple (ws.map PyData.str), pd, ix]) := .tup hx (.cons (.tup hFw.sq (DpAll_strs ws)) (.cons d1 (.cons d2 .nil)))
  have dW : Dp K (del H p) (.ref a0) (.tuple (ws.map PyData.str)) := .tup hFw.sq (DpAll_strs ws)
  refine ⟨_, rfl, a, _, rfl, sameT (del_same _ _) hx, rfl, _, _, rfl, x1, _, rfl, x2, _, rfl, rfl, ?_⟩
  obtain ⟨up, hup⟩ := hF.there
  refine ⟨_, rfl, _, rfl, rfl, fun vd os H1 s1 dO hol hof => ?_⟩
  have F1 := hF.same s1
  refine ⟨p, fq, .ref a, vd, b, 2, 10 ^ 199, 4, 900, _, os, rfl, rfl, by decide, F1, by omega, Dp_same (same_del s1) dA, Dp_same (fr_del hup) dO, hol, hof, AF.fit, Nat.le_refl _, by decide, by decide, fun vb db H2 ddb hfb s2 F2 => ?_⟩
  have S2 := (same_del (p := p) s1).trans s2
  clear dO hol hof vd os s1 F1
  -- the largest size
  have hO2 := (hO.same S2).same (del_same _ _)
  obtain ⟨ao, ps, rfl, hfo, hpo⟩ := hO2.ex
  have hlp : ps.length = zs.length := hpo.length
  have few := hO2.few
  have hsq : SqT K H2 ao (ps.map V.ref) := hfo.sq
  refine ⟨_, rfl, ao, rfl, ⟨_, hsq⟩, fun R hR => lc_it (walk_tup (xs := ps.map V.ref)) (fun n H' => Same H2 H' ∧ H' R = some (.lst (((zs.take n).map (·.2)).map V.int)))
    ⟨same_new hR, upd_same⟩ (fun n H' _ h => sameT h.1 hsq) ?_ ?_⟩
  · rintro n x H3 H4 hn ⟨s3, hv3⟩ ⟨rfl, hxn⟩
    rw [List.length_map] at hn
    rw [List.getElem?_map, List.getElem?_eq_getElem hn] at hxn
    have hxn' : V.ref ps[n] = x := Option.some.inj hxn
    subst hxn'
    obtain ⟨zk, hzk, hsz⟩ := paired_get hpo (List.getElem?_eq_getElem hn)
    refine ⟨_, _, rfl, sameT s3 hsz, rfl, _, _, rfl, _, _, rfl, rfl, rfl, ?_⟩
    unfold tYes
    dsimp only
    rw [if_pos rfl]
    refine ⟨_, rfl, _, hv3, small1000 (by rw [List.length_map, List.length_map, List.length_take]; omega), fun c o e => ?_, ?_⟩
    · rw [upd_ne (ne_of_none e hR)]
      exact s3 _ _ e
    · rw [upd_same, List.take_succ, hzk]
      simp
  rintro H3 ⟨s3, hR3⟩
  rw [List.length_map, hlp, List.take_length] at hR3
  refine ⟨R, _, rfl, SqL.of hR3, by rw [List.length_map]; omega, fun m hm hle => ?_⟩
  obtain rfl : m = k := Int.le_antisymm (hk2 m hm) (hle k hk1)
  have F3 := F2.same s3
  have S3 := S2.trans (same_del (p := p) s3)
  have ddb3 := Dp_same (same_del s3) ddb
  clear hR3 hR s3 hm hle hk1 hk2 ddb S2 F2 hsq hfo hpo hlp s2
  -- the first four
  obtain ⟨u3, hp3⟩ := F3.there
  refine ⟨_, rfl, _, rfl, _, rfl, _, rfl, rfl, fun vd os H4 s4 dO hol hof => ?_⟩
  have F4 := F3.same s4
  refine ⟨p, fq, vb, vd, _, 4, 10 ^ 199 + 1, 10, 2900, db, os, rfl, rfl, by decide, F4, by omega, Dp_same (same_del s4) ddb3, Dp_same (fr_del hp3) dO, hol, hof, hfb, by omega, by decide, by decide, fun vc dc H5 ddc hfc s5 F5 => ?_⟩
  have S5 := (S3.trans (same_del (p := p) s4)).trans s5
  have ddb5 := Dp_same ((same_del (p := p) s4).trans s5) ddb3
  clear dO hol hof F4 s4 s5 ddb3 S3 F3
  have dW5 := Dp_same S5 dW
  have hx5 : SqT K H5 a0 (ws.map V.str) := sameT (del_same _ _) (sameT S5 hFw.sq)
  refine ⟨_, rfl, _, rfl, a0, _, rfl, .inr hx5, _, rfl, by show 3 ≤ sizeLine; decide, fun T hT => ?_⟩
  have s6 := same_new (o := .tup [.ref a0, .int ((ws.map V.str).length : Nat), x2]) hT
  have F6 := F5.same s6
  obtain ⟨u5, hp5⟩ := F5.there
  have dT : Dp K (del (upd H5 T (.tup [.ref a0, .int ((ws.map V.str).length : Nat), x2])) p) (.ref T) (.tuple [.tuple (ws.map PyData.str), .int ((ws.map V.str).length : Nat), ix]) := .tup (SqT.of (new_del hp5 hT)) (.cons (Dp_same (same_del s6) dW5) (.cons (.int _) (.cons (Dp_same (S5.trans (same_del s6)) d2) .nil)))
  have S6 := S5.trans (same_del (p := p) s6)
  have ddb6 := Dp_same (same_del (p := p) s6) ddb5
  have ddc6 := Dp_same (same_del (p := p) s6) ddc
  generalize upd H5 T (.tup [.ref a0, .int ((ws.map V.str).length : Nat), x2]) = H6 at s6 F6 dT S6 ddb6 ddc6
  refine ⟨by show 4 ≤ sizeLine; decide, fun L hL => ?_⟩
  obtain ⟨nLp, nLq⟩ := F6.ne hL
  have nL0 : H L = none := by
    cases e : H L with
    | none => rfl
    | some o =>
      have := (of_del (S6 _ _ (del_some e nLp))).1
      rw [hL] at this
      cases this
  have sx : Same (del H6 p) (del (del (upd H6 L (.lst [.ref a, vb, vc, .ref T])) p) L) := fun c o e => by
    obtain ⟨e1, e2⟩ := of_del e
    have nc : c ≠ L := ne_of_none e1 hL
    exact del_some (del_some (by rw [upd_ne nc]; exact e1) e2) nc
  have FA : NAt K p fq L H (b + 90) ws pd ix (.ref a0) x1 x2 (upd H6 L (.lst [.ref a, vb, vc, .ref T])) [.ref a, vb, vc, .ref T] [.tuple [.tuple (ws.map PyData.str), pd, ix], db, dc, .tuple [.tuple (ws.map PyData.str), .int ((ws.map V.str).length : Nat), ix]] :=
    ⟨(F6.same (same_new hL)).mono (by omega), upd_same, nLp, nLq, nL0, S6.trans sx, .cons (Dp_same (S6.trans sx) dA) (.cons (Dp_same sx ddb6) (.cons (Dp_same sx ddc6) (.cons (Dp_same sx dT) .nil))), Dp_same (S6.trans sx) dW, Dp_same (S6.trans sx) d1, Dp_same (S6.trans sx) d2⟩
  generalize upd H6 L (.lst [.ref a, vb, vc, .ref T]) = HA0 at FA
  clear sx nL0 hL dT ddb6 ddc6 S6 F6 s6 hT hx5 dW5 ddb5 S5 F5 ddc hp5 dA dW hx hFw d1 d2
  have fA : ∀ d ∈ [PyData.tuple [.tuple (ws.map PyData.str), pd, ix], db, dc, .tuple [.tuple (ws.map PyData.str), .int ((ws.map V.str).length : Nat), ix]], FitN d := by
    intro d hd
    simp only [List.mem_cons, List.not_mem_nil, or_false] at hd
    rcases hd with rfl | rfl | rfl | rfl
    · exact tri_fit (sm_strs AF.wd (by omega)) AF.sp AF.si
    · exact hfb.mono (by omega) (by omega) (by omega) (by omega)
    · exact hfc.mono (by omega) (by omega) (by omega) (by omega)
    · exact tri_fit (sm_strs AF.wd (by omega)) (sm_int (by rw [List.length_map]; omega)) AF.si
  clear hfb hfc
  generalize hvs0 : [V.ref a, vb, vc, .ref T] = vs0 at FA
  have lvs0 : vs0.length = 4 := by rw [← hvs0]; rfl
  generalize [PyData.tuple [.tuple (ws.map PyData.str), pd, ix], db, dc, .tuple [.tuple (ws.map PyData.str), .int ((ws.map V.str).length : Nat), ix]] = ds0 at FA fA
  clear hvs0
  have smW : Sm (.tuple (ws.map PyData.str)) := sm_strs AF.wd (by omega)
  have FA0 := FA
  have fA0 := fA
  clear FA fA
  have gA0 : ((∃ u, HA0 p = some u) ∧ ∃ u, HA0 (refAt 8 [some (.ref p), some (.ref ao), some (.ref a), some (.ref a0), some x1, some x2, some vb, some (.int m), some (.ref L), none]) = some u) ∧ gN2 K p ws pd ix m [some (.ref p), some (.ref ao), some (.ref a), some (.ref a0), some x1, some x2, some vb, some (.int m), some (.ref L), none] HA0 := ⟨⟨FA0.feed.there, _, FA0.at_⟩, ⟨_, rfl, FA0.w⟩, ⟨_, rfl, FA0.pk⟩, ⟨_, rfl, FA0.ix⟩, rfl⟩
  refine ⟨_, rfl, .inl ⟨rfl, _, SqL.of FA0.at_⟩, gA0, fun v0 H70 s70 d70 => ⟨L, _, _, rfl, rfl, s70 _ _ FA0.at_, small1000 (by omega), ?_⟩⟩
  have FA1 := FA0.more s70 (us := [v0]) (es := [PyData.tuple [.tuple (ws.map PyData.str), .int (((ws.map PyData.str).length : Nat) - 1), ix]]) (.cons d70 .nil)
  generalize ev0 : vs0 ++ [v0] = vs1 at FA1
  generalize upd H70 L (.lst vs1) = HA1 at FA1
  have lvs1 : vs1.length = 5 := by rw [← ev0, List.length_append, lvs0]; rfl
  have fA1 : ∀ d ∈ ds0 ++ [PyData.tuple [.tuple (ws.map PyData.str), .int (((ws.map PyData.str).length : Nat) - 1), ix]], FitN d := by
    intro d hd
    rcases List.mem_append.mp hd with hd | hd
    · exact fA0 d hd
    simp only [List.mem_cons, List.not_mem_nil, or_false] at hd
    rcases hd with rfl
    · exact tri_fit smW (sm_int (by rw [List.length_map]; omega)) AF.si
  generalize ds0 ++ [PyData.tuple [.tuple (ws.map PyData.str), .int (((ws.map PyData.str).length : Nat) - 1), ix]] = ds1 at FA1 fA1
  clear ev0 FA0 gA0 s70 d70
  have gA1 : ((∃ u, HA1 p = some u) ∧ ∃ u, HA1 (refAt 8 [some (.ref p), some (.ref ao), some (.ref a), some (.ref a0), some x1, some x2, some vb, some (.int m), some (.ref L), none]) = some u) ∧ gN2 K p ws pd ix m [some (.ref p), some (.ref ao), some (.ref a), some (.ref a0), some x1, some x2, some vb, some (.int m), some (.ref L), none] HA1 := ⟨⟨FA1.feed.there, _, FA1.at_⟩, ⟨_, rfl, FA1.w⟩, ⟨_, rfl, FA1.pk⟩, ⟨_, rfl, FA1.ix⟩, rfl⟩
  refine ⟨_, rfl, .inl ⟨rfl, _, SqL.of FA1.at_⟩, gA1, fun us1 H71 s71 d71 => ⟨Nat.le_of_lt (small1000 (by have := DpAll_len d71; have : us1.length = 4 := this; omega)), fun N1 hN1 => ?_⟩⟩
  have lu1 : us1.length = 4 := DpAll_len d71
  have sN1 := same_new (o := .lst us1) hN1
  refine ⟨L, N1, _, us1, rfl, rfl, sN1 _ _ (s71 _ _ FA1.at_), upd_same, Nat.le_of_lt (small1000 (by omega)), ?_⟩
  have FA2 := FA1.more (s71.trans sN1) (us := us1) (es := [PyData.tuple [.tuple (ws.map PyData.str), pd, .int m], .tuple [.tuple (ws.map PyData.str), pd, .int (m - 1)], .tuple [.tuple (ws.map PyData.str), pd, .int (-1)], .tuple [.tuple (ws.map PyData.str), .int (-1), ix]]) (DpAll_same (same_del (same_del sN1)) d71)
  generalize ev1 : vs1 ++ us1 = vs2 at FA2
  generalize upd H71 N1 (.lst us1) = HN1 at FA2
  generalize upd HN1 L (.lst vs2) = HA2 at FA2
  have lvs2 : vs2.length = 9 := by rw [← ev1, List.length_append, lvs1, lu1]
  have fA2 : ∀ d ∈ ds1 ++ [PyData.tuple [.tuple (ws.map PyData.str), pd, .int m], .tuple [.tuple (ws.map PyData.str), pd, .int (m - 1)], .tuple [.tuple (ws.map PyData.str), pd, .int (-1)], .tuple [.tuple (ws.map PyData.str), .int (-1), ix]], FitN d := by
    intro d hd
    rcases List.mem_append.mp hd with hd | hd
    · exact fA1 d hd
    simp only [List.mem_cons, List.not_mem_nil, or_false] at hd
    rcases hd with rfl | rfl | rfl | rfl
    · exact tri_fit smW AF.sp (sm_int (by omega))
    · exact tri_fit smW AF.sp (sm_int (by omega))
    · exact tri_fit smW AF.sp (sm_int (by omega))
    · exact tri_fit smW (sm_int (by omega)) AF.si
  generalize ds1 ++ [PyData.tuple [.tuple (ws.map PyData.str), pd, .int m], .tuple [.tuple (ws.map PyData.str), pd, .int (m - 1)], .tuple [.tuple (ws.map PyData.str), pd, .int (-1)], .tuple [.tuple (ws.map PyData.str), .int (-1), ix]] = ds2 at FA2 fA2
  clear ev1 FA1 gA1 s71 d71 sN1 hN1
  have smC : Sm (.tuple (ws.map PyData.str ++ cutD (ws.map PyData.str) none (some 1))) := by
    have e : cutD (ws.map PyData.str) none (some 1) = (ws.take 1).map PyData.str := by
      have := cutD_to (ws.map PyData.str) (k := 1) (by rw [List.length_map]; omega)
      rw [List.map_take]
      exact this
    rw [e, ← List.map_append]
    refine sm_strs (fun z hz => ?_) (by rw [List.length_append, List.length_take]; omega)
    exact (List.mem_append.mp hz).elim (AF.wd z) fun h => AF.wd z (List.mem_of_mem_take h)
  have smR : Sm (.tuple (ws.map PyData.str).reverse) := by
    rw [← List.map_reverse]
    exact sm_strs (fun z hz => AF.wd z (List.mem_reverse.mp hz)) (by rw [List.length_reverse]; omega)
  have smZ : Sm (.tuple (ws.map PyData.str ++ [.str (Str.ofString "zzzzzzzz")])) := by
    rw [show ws.map PyData.str ++ [.str (Str.ofString "zzzzzzzz")] = (ws ++ [Str.ofString "zzzzzzzz"]).map PyData.str by rw [List.map_append]; rfl]
    refine sm_strs (fun z hz => ?_) (by rw [List.length_append]; show ws.length + 1 ≤ 10; omega)
    refine (List.mem_append.mp hz).elim (AF.wd z) fun h => ?_
    rw [List.mem_singleton.mp h]
    exact word_of (by decide +kernel)
  have gA2 : ((∃ u, HA2 p = some u) ∧ ∃ u, HA2 (refAt 8 [some (.ref p), some (.ref ao), some (.ref a), some (.ref a0), some x1, some x2, some vb, some (.int m), some (.ref L), none]) = some u) ∧ gN2 K p ws pd ix m [some (.ref p), some (.ref ao), some (.ref a), some (.ref a0), some x1, some x2, some vb, some (.int m), some (.ref L), none] HA2 := ⟨⟨FA2.feed.there, _, FA2.at_⟩, ⟨_, rfl, FA2.w⟩, ⟨_, rfl, FA2.pk⟩, ⟨_, rfl, FA2.ix⟩, rfl⟩
  refine ⟨_, rfl, .inl ⟨rfl, _, SqL.of FA2.at_⟩, gA2, fun v2 H72 s72 d72 => ⟨L, _, _, rfl, rfl, s72 _ _ FA2.at_, small1000 (by omega), ?_⟩⟩
  have FA3 := FA2.more s72 (us := [v2]) (es := [PyData.tuple [.tuple (ws.map PyData.str ++ cutD (ws.map PyData.str) none (some 1)), pd, ix]]) (.cons d72 .nil)
  generalize ev2 : vs2 ++ [v2] = vs3 at FA3
  generalize upd H72 L (.lst vs3) = HA3 at FA3
  have lvs3 : vs3.length = 10 := by rw [← ev2, List.length_append, lvs2]; rfl
  have fA3 : ∀ d ∈ ds2 ++ [PyData.tuple [.tuple (ws.map PyData.str ++ cutD (ws.map PyData.str) none (some 1)), pd, ix]], FitN d := by
    intro d hd
    rcases List.mem_append.mp hd with hd | hd
    · exact fA2 d hd
    simp only [List.mem_cons, List.not_mem_nil, or_false] at hd
    rcases hd with rfl
    · exact tri_fit smC AF.sp AF.si
  generalize ds2 ++ [PyData.tuple [.tuple (ws.map PyData.str ++ cutD (ws.map PyData.str) none (some 1)), pd, ix]] = ds3 at FA3 fA3
  clear ev2 FA2 gA2 s72 d72
  have gA3 : ((∃ u, HA3 p = some u) ∧ ∃ u, HA3 (refAt 8 [some (.ref p), some (.ref ao), some (.ref a), some (.ref a0), some x1, some x2, some vb, some (.int m), some (.ref L), none]) = some u) ∧ gN2 K p ws pd ix m [some (.ref p), some (.ref ao), some (.ref a), some (.ref a0), some x1, some x2, some vb, some (.int m), some (.ref L), none] HA3 := ⟨⟨FA3.feed.there, _, FA3.at_⟩, ⟨_, rfl, FA3.w⟩, ⟨_, rfl, FA3.pk⟩, ⟨_, rfl, FA3.ix⟩, rfl⟩
  refine ⟨_, rfl, gA3, fun us3 H73 s73 d73 => ⟨Nat.le_of_lt (small1000 (by have := DpAll_len d73; have : us3.length = 3 := this; omega)), fun N3 hN3 => ?_⟩⟩
  have lu3 : us3.length = 3 := DpAll_len d73
  have sN3 := same_new (o := .lst us3) hN3
  refine ⟨L, N3, _, us3, rfl, rfl, sN3 _ _ (s73 _ _ FA3.at_), upd_same, Nat.le_of_lt (small1000 (by omega)), fun N hN => ?_⟩
  have FB := FA3.next (s73.trans sN3)
  have dB : DpAll K (del (del (upd H73 N3 (.lst us3)) p) L) us3 [PyData.tuple [.tuple (ws.map PyData.str).reverse, pd, ix], .tuple [.tuple (ws.map PyData.str ++ [.str (Str.ofString "zzzzzzzz")]), pd, ix], .tuple [.tuple (ws.map PyData.str), ix, pd]] := DpAll_same (same_del (same_del sN3)) d73
  generalize upd H73 N3 (.lst us3) = HB at FB dB hN
  have nN0 : H N = none := by
    have nNp := (FB.feed.ne hN).1
    cases e : H N with
    | none => rfl
    | some o =>
      have := (of_del (of_del (FB.sm _ _ (del_some e nNp))).1).1
      rw [hN] at this
      cases this
  have sN := same_new (o := .lst (vs3 ++ us3)) hN
  have lds := DpAll_len FB.dat
  refine q N (vs3 ++ us3) (ds3 ++ [PyData.tuple [.tuple (ws.map PyData.str).reverse, pd, ix], .tuple [.tuple (ws.map PyData.str ++ [.str (Str.ofString "zzzzzzzz")]), pd, ix], .tuple [.tuple (ws.map PyData.str), ix, pd]]) _ upd_same nN0 (DpAll_same ((del_same _ _).trans (same_del sN)) (DpAll_append FB.dat dB)) (by rw [List.length_append]; show ds3.length + 3 = 13; omega) ?_ ((FB.sm.trans (del_same _ _)).trans (same_del sN)) ((FB.feed.same sN).mono (by omega))
  intro d hd
  rcases List.mem_append.mp hd with hd | hd
  · exact fA3 d hd
  simp only [List.mem_cons, List.not_mem_nil, or_false] at hd
  rcases hd with rfl | rfl | rfl
  · exact tri_fit smR AF.sp AF.si
  · exact tri_fit smZ AF.sp AF.si
  · exact tri_fit smW AF.si AF.sp
end
end Sw
set_option maxRecDepth 100000
set_option maxHeartbeats 4000000
namespace Sw
open PySem PySem.Spec PyProof.Rows L2
/-- f(e), f's promise kept where no repr is under way -/
theorem pe_callG {X : Cx} {k : Nat} {f : Addr} {fd : FuncData} {ps : List Str} {sp : Sp} {x : Str} {p pos : Pos} {e : Expr} {es : List Expr} {t : TA} {E : XK} (hG : X.A.guards = some []) (F : FnG X.prog X.w X.K X.mg X.base k f fd ps sp) (hr : Room k X.A) (hg : Gl X x) (hm : X.mg x = some (.ref f)) (hk : PySem.W.keepIn X.K (.ref f) = true) (hb : Binds X.K fd ps []) (hx : Passes CX0 X E)
    (ha : PA X (e :: es) t) (hdb : (x == ("__debug__" : Str)) = false := by decide) (he : starEach (e :: es) X.env = (false, eval e X.env) :: starEach es X.env := by rfl) (hpl : (backTo pos (starEach es X.env)).any (·.1) = false := by rfl) :
    PE X (.Call (.Name x p) (e :: es) [] pos) (tCall sp [] E t) := by
  refine ⟨fun pins s σ H Q I h => ?_⟩
  refine wpAny_Call_Name_kw (ld_glob I hg hm ?_ hdb)
  refine PySem.W.callWith_K (h₀ := X.base) I.ok.mod.kin hk (thn (ha.run pos pins s σ H _ I h) fun us s1 ⟨vs, H1, I1, r, q⟩ => ⟨I1.kIn, ?_⟩) he hpl
  have r2 : Vals (vs ++ []) (us ++ []) := r.append .nil
  have hl : (us ++ []).length = ps.length := by rw [← r2.length]; exact F.size _ _ _ _ q
  refine wpAny_call (codeAny_mono (F.goes X.A X.stack s1 H1 ⟨us, []⟩ (us ++ []) (vs ++ []) Q E hG hr I1.env0 (hb s1 us I1.kIn hl) r2 q) fun r s' hq => ?_)
  cases r with
  | error e => exact hx pins σ H1 s1 e s' I1 hq
  | ok fl =>
    cases fl with
    | ret u => exact I1.after hq
    | next => exact False.elim hq
    | brk => exact False.elim hq
    | cont => exact False.elim hq
theorem cells_fit {cs : List (Str × Int)} (h : ∀ c ∈ cs, IsWord c.1 ∧ 0 ≤ c.2 ∧ c.2 ≤ 4) (hl : cs.length ≤ 16) : Fit (10 ^ 199) 60 2 6000 (.tuple (cs.map cellD)) := by
  have hw : ∀ l : List (Str × Int), (∀ c ∈ l, IsWord c.1 ∧ 0 ≤ c.2 ∧ c.2 ≤ 4) → wtAll (l.map cellD) ≤ 350 * l.length := by
    intro l
    induction l with
    | nil => intro _; simp [wtAll]
    | cons x l ih =>
      intro hx
      have h1 := (hx x List.mem_cons_self).1.hi
      have h2 := ih fun d hd => hx d (List.mem_cons_of_mem _ hd)
      simp only [List.map_cons, wtAll, List.length_cons, cellD, wt] at *
      omega
  have := hw cs h
  refine Fit.tup (n := 1) (by rw [List.length_map]; omega) (fun x hx => ?_) (by omega)
  obtain ⟨c, hc, rfl⟩ := List.mem_map.mp hx
  obtain ⟨h1, h2, h3⟩ := h c hc
  have : Fit (10 ^ 199) 60 1 350 (cellD c) := Fit.tup (n := 0) (by show 2 ≤ 60; omega) (fun y hy => by
    simp only [List.mem_cons, List.not_mem_nil, or_false] at hy
    rcases hy with rfl | rfl
    · exact ⟨leaf_str.mpr h1.ascii, rfl, by simp [PyData.depth]⟩
    · exact ⟨by simp only [leaf, decide_eq_true_eq]; exact Nat.le_trans (show c.2.natAbs ≤ 10 by omega) (by decide +kernel), rfl, by simp [PyData.depth]⟩) (by have := h1.hi; simp only [wtAll, wt]; omega)
  exact ⟨this.lf, this.ln, this.dp⟩
theorem cells_len {zs : List (Str × Int)} (hl : zs.length ≤ 4) (h : ∀ z ∈ zs, z.2 ≤ 4) : (cellsL zs).length ≤ 16 := by
  have : ∀ l : List (Str × Int), (∀ z ∈ l, z.2 ≤ 4) → (cellsL l).length ≤ 4 * l.length := by
    intro l
    induction l with
    | nil => intro _; simp [cellsL]
    | cons x l ih =>
      intro hx
      have h1 := hx x List.mem_cons_self
      have h2 := ih fun d hd => hx d (List.mem_cons_of_mem _ hd)
      unfold cellsL at *
      rw [List.flatMap_cons, List.length_append, List.length_map, List.length_range, List.length_cons]
      omega
  have := this zs h
  omega
theorem cells_wd {zs : List (Str × Int)} (h : ∀ z ∈ zs, IsWord z.1 ∧ 1 ≤ z.2 ∧ z.2 ≤ 4) : ∀ c ∈ cellsL zs, IsWord c.1 ∧ 0 ≤ c.2 ∧ c.2 ≤ 4 := fun c hc => by
  obtain ⟨z, k⟩ := c
  obtain ⟨m, hm, h1, h2⟩ := mem_cells.mp hc
  obtain ⟨w1, w2, w3⟩ := h _ hm
  exact ⟨w1, h1, by dsimp only at *; omega⟩
theorem told_fit {cs : List (Str × Int)} (h : ∀ c ∈ cs, IsWord c.1 ∧ 0 ≤ c.2 ∧ c.2 ≤ 4) (hl : cs.length ≤ 16) (a b d : Bool) : Fit (10 ^ 199) 60 3 7000 (.tuple [.bool a, .tuple (cs.map cellD), .bool b, .bool d]) := by
  have hc := cells_fit h hl
  have := hc.wg
  refine Fit.tup (n := 2) (by show 4 ≤ 60; omega) (fun x hx => ?_) (by simp only [wtAll, wt] at *; omega)
  simp only [List.mem_cons, List.not_mem_nil, or_false] at hx
  rcases hx with rfl | rfl | rfl | rfl
  · exact ⟨rfl, rfl, by simp [PyData.depth]⟩
  · exact ⟨hc.lf, hc.ln, hc.dp⟩
  · exact ⟨rfl, rfl, by simp [PyData.depth]⟩
  · exact ⟨rfl, rfl, by simp [PyData.depth]⟩
section
variable {P : Program} {w : World} {K : PySem.W.Frag} {mg : Str → Option Value} {base : Heap}
def spRight (K : PySem.W.Frag) : Sp := fun vs H Q _ => ∃ (vc vo va : V) (zs : List (Str × Int)) (ws : List Str) (pd ix : PyData), vs = [vc, vo, va] ∧ CodeAt K H vc vo zs ∧ AddrAt K H va zs ws pd ix ∧ ∀ H', Same H H' → Q (.bl true) H'
theorem sc_right : FnScope ["_law_code", "_law_objects_here", "_law_address_here", "_law_cells_here", "_law_told", "_law_named"] ["_law_code", "_law_objects_here", "_law_address_here"] (defScope (topS 32)) := ⟨rfl, rfl, rfl, by decide +kernel, rfl, by decide +kernel, by decide +kernel⟩
theorem ok_right {f fL fA fF fS fC : Addr} {fd dL dA dF dS dC : FuncData} (D : Df K mg "_law_right" (topS 32) ["_law_code", "_law_objects_here", "_law_address_here"] f fd) (B : Bt mg)
    (DL : Df K mg "_law_face" (topS 29) ["_law_objects_here", "_law_address_here"] fL dL) (GL : FnOk P w K mg base CX0 2 fL dL ["_law_objects_here", "_law_address_here"] (spLFace K))
    (DA : Df K mg "is_address" (topS 9) ["code", "thing"] fA dA) (GA : FnOk P w K mg base CX0 3 fA dA ["code", "thing"] (spAddr K))
    (DF : Df K mg "face" (topS 11) ["code", "address"] fF dF) (GF : FnOk P w K mg base CX0 3 fF dF ["code", "address"] (spFace K))
    (DS : Df K mg "is_sure" (topS 12) ["code", "address"] fS dS) (GS : FnOk P w K mg base CX0 4 fS dS ["code", "address"] (spSure K))
    (DC : Df K mg "can_fault" (topS 13) ["address"] fC dC) (GC : FnOk P w K mg base CX0 2 fC dC ["address"] (spFault K)) :
    FnG P w K mg base 5 f fd ["_law_code", "_law_objects_here", "_law_address_here"] (spRight K) := by
  refine fun_okG D.fn sc_right (fun vs H Q E h => ?_) (fun cdv A outer s H vs Q E hg hr h => ?_)
  · obtain ⟨vc, vo, va, zs, ws, pd, ix, rfl, _⟩ := h
    rfl
  obtain ⟨vc, vo, va, zs, ws, pd, ix, rfl, hC, hA, q⟩ := h
  have nd := sc_right.nd
  have hu := hr.units
  have hg2 : (A.deeper (envOfC "_law_right" (defScope (topS 32)) s.heap.objs.size f cdv)).guards = some [] := hg
  refine ⟨_, pss_cons (ps_set (i := 3) nd rfl (Or.inl rfl) (pe_call GL (hr.mono (by decide)) (by rfl) DL.gl DL.fn.kp DL.bd .nil pass0 (pa_cons (pv 1) (pa_cons (pv 2) pa_nil))))
    (pss_cons (ps_set (i := 4) nd rfl (Or.inl rfl) (pe_tup (pa_cons (pe_call GA (hr.mono (by decide)) (by rfl) DA.gl DA.fn.kp DA.bd .nil pass0 (pa_cons (pv 0) (pa_cons (pv 2) pa_nil))) (pa_cons (pe_call GF (hr.mono (by decide)) (by rfl) DF.gl DF.fn.kp DF.bd .nil pass0 (pa_cons (pv 0) (pa_cons (pv 2) pa_nil))) (pa_cons (pe_call GS hr (by rfl) DS.gl DS.fn.kp DS.bd .nil pass0 (pa_cons (pv 0) (pa_cons (pv 2) pa_nil))) (pa_cons (pe_call GC (hr.mono (by decide)) (by rfl) DC.gl DC.fn.kp DC.bd .nil pass0 (pa_cons (pv 2) pa_nil)) pa_nil))))))
    (pss_cons (ps_set (i := 5) nd rfl (Or.inl rfl) (pe_or (pe_callB call_isi (by rfl) B.isi (by decide +kernel) (pa_cons (pe_ix ix_tup (pv 2) pe_int (fun _ _ => rfl)) (pa_cons (pe_bltn (v := .ty "str") (by rfl) B.str (by decide +kernel) rfl) pa_nil))) (pe_one (pe_callB call_isi (by rfl) B.isi (by decide +kernel) (pa_cons (pe_ix ix_tup (pv 2) pe_int (fun _ _ => rfl)) (pa_cons (pe_bltn (v := .ty "str") (by rfl) B.str (by decide +kernel) rfl) pa_nil))))))
    (pss_one (ps_ret (pe_cmpR op_eq (pe_callB (call_repr hg2 hu) (by rfl) B.repr (by decide +kernel) (pa_cons (pv 4) pa_nil)) (pe_callB (call_repr hg2 hu) (by rfl) B.repr (by decide +kernel) (pa_cons (pe_tup (pa_cons pe_bl (pa_cons (pv 3) (pa_cons (pe_cmpR op_eq (pe_callB call_len_seq (by rfl) B.len PySem.boot_len (pa_cons (pv 3) pa_nil)) pe_int (nomark _)) (pa_cons (pv 5) pa_nil))))) pa_nil)) (nomark _)))))), ?_⟩
  clear D B DL GL DA GA DF GF DS GS DC GC hr nd hu hg hg2
  have AF := hA.facts hC.ob
  obtain ⟨a, a0, x1, x2, rfl, hx, hFw, d1, d2⟩ := hA.ex
  have dA : Dp K H (.ref a) (.tuple [.tuple (ws.map PyData.str), pd, ix]) := .tup hx (.cons (.tup hFw.sq (DpAll_strs ws)) (.cons d1 (.cons d2 .nil)))
  have fA : ∃ M, Fit M 60 60 1000000 (.tuple [.tuple (ws.map PyData.str), pd, ix]) := ⟨_, AF.fit.mono (Nat.le_refl _) (by omega) (by omega) (by omega)⟩
  have hwd := hC.ob.wd
  have hfew := hC.ob.few
  have hcw : ∀ c ∈ lface zs ws pd ix, IsWord c.1 ∧ 0 ≤ c.2 ∧ c.2 ≤ 4 := fun c hc => cells_wd hwd c (List.mem_filter.mp hc).1
  have hcl : (lface zs ws pd ix).length ≤ 16 := Nat.le_trans (List.length_filter_le _ _) (cells_len hfew.2 fun z hz => (hwd z hz).2.2)
  refine ⟨_, rfl, _, rfl, vo, .ref a, zs, ws, pd, ix, rfl, hC.ob, hA, fun v1 H1 s1 c1 => ?_⟩
  refine ⟨_, rfl, _, rfl, vc, vo, .ref a, zs, _, rfl, hC.same s1, Dp_same s1 dA, fA, fun H2 s2 => ?_⟩
  have s12 := s1.trans s2
  refine ⟨_, rfl, _, rfl, vc, vo, .ref a, zs, _, rfl, hC.same s12, Dp_same s12 dA, fA, hA.ok, fun v3 H3 cs s3 c3 hsr hpm _ => ?_⟩
  have s13 := s12.trans s3
  have efl : (faceL zs (.tuple [.tuple (ws.map PyData.str), pd, ix])).length = cs.length := hpm.length_eq.symm
  obtain rfl : cs = lface zs ws pd ix := face_is hC.ob.asc (fun z hz => (hwd z hz).2.1) hA.ok hsr hpm
  refine ⟨_, rfl, _, rfl, vc, vo, .ref a, zs, _, rfl, hC.same s13, Dp_same s13 dA, fA, hA.ok, fun H4 s4 => ?_⟩
  have s14 := s13.trans s4
  refine ⟨_, rfl, .ref a, zs, _, rfl, Dp_same s14 dA, fA, hA.ok, fun H5 s5 => ?_⟩
  have s15 := s14.trans s5
  refine ⟨by show 4 ≤ sizeLine; decide, fun T hT => ?_⟩
  have s6 := same_new (o := .tup [.bl (addr zs (.tuple [.tuple (ws.map PyData.str), pd, ix])), v3, .bl (decide ((faceL zs (.tuple [.tuple (ws.map PyData.str), pd, ix])).length = 1)), .bl (named (.tuple [.tuple (ws.map PyData.str), pd, ix]))]) hT
  have dT : Dp K (upd H5 T (.tup [.bl (addr zs (.tuple [.tuple (ws.map PyData.str), pd, ix])), v3, .bl (decide ((faceL zs (.tuple [.tuple (ws.map PyData.str), pd, ix])).length = 1)), .bl (named (.tuple [.tuple (ws.map PyData.str), pd, ix]))])) (.ref T) (.tuple [.bool (addr zs (.tuple [.tuple (ws.map PyData.str), pd, ix])), .tuple ((lface zs ws pd ix).map cellD), .bool (decide ((faceL zs (.tuple [.tuple (ws.map PyData.str), pd, ix])).length = 1)), .bool (named (.tuple [.tuple (ws.map PyData.str), pd, ix]))]) :=
    .tup (SqT.of upd_same) (.cons (.bl _) (.cons (Dp_same ((s4.trans s5).trans s6) c3) (.cons (.bl _) (.cons (.bl _) .nil))))
  have c6 := Dp_same ((((s2.trans s3).trans s4).trans s5).trans s6) c1
  have s16 := s15.trans s6
  generalize upd H5 T (.tup [.bl (addr zs (.tuple [.tuple (ws.map PyData.str), pd, ix])), v3, .bl (decide ((faceL zs (.tuple [.tuple (ws.map PyData.str), pd, ix])).length = 1)), .bl (named (.tuple [.tuple (ws.map PyData.str), pd, ix]))]) = H6 at s6 dT c6 s16
  clear c1 c3 s1 s2 s3 s4 s5 s12 s13 s14 s15 hT hsr hpm
  obtain ⟨t1, ty1, k1⟩ := isa_str (Dp_same s16 d1)
  refine ⟨_, rfl, a, _, 1, _, rfl, rfl, sameT s16 hx, atI_nat (j := 1) rfl, x1, .ty "str", t1, _, _, rfl, .ty _, ty1, k1, _, rfl, ?_⟩
  cases hb : isaStr pd with
  | true =>
    refine iteT ?_
    obtain ⟨j1, j2, j3, j4⟩ := repr_of (told_fit hcw hcl (addr zs (.tuple [.tuple (ws.map PyData.str), pd, ix])) (decide ((faceL zs (.tuple [.tuple (ws.map PyData.str), pd, ix])).length = 1)) (named (.tuple [.tuple (ws.map PyData.str), pd, ix]))) (by decide +kernel) (by decide) (by decide)
    refine ⟨_, rfl, T, _, rfl, dT, j1, j2, j3, j4, ?_⟩
    cases id c6 with
    | @tup av xv _ hv hrv =>
    have lv := DpAll_len hrv
    refine ⟨_, rfl, _, rfl, av, _, rfl, .inr hv, rfl, _, rfl, by show 4 ≤ sizeLine; decide, fun T2 hT2 => ?_⟩
    have s7 := same_new (o := .tup [.bl true, .ref av, .bl (decide (V.int (xv.length : Nat) = V.int 1)), .bl (true)]) hT2
    have dT2 : Dp K (upd H6 T2 (.tup [.bl true, .ref av, .bl (decide (V.int (xv.length : Nat) = V.int 1)), .bl (true)])) (.ref T2) (.tuple [.bool true, .tuple ((lface zs ws pd ix).map cellD), .bool (decide (V.int (xv.length : Nat) = V.int 1)), .bool (true)]) := .tup (SqT.of upd_same) (.cons (.bl _) (.cons (Dp_same s7 c6) (.cons (.bl _) (.cons (.bl _) .nil))))
    obtain ⟨i1, i2, i3, i4⟩ := repr_of (told_fit hcw hcl true (decide (V.int (xv.length : Nat) = V.int 1)) (true)) (by decide +kernel) (by decide) (by decide)
    refine ⟨T2, _, rfl, dT2, i1, i2, i3, i4, rfl, ?_⟩
    have eq : PyData.tuple [.bool (addr zs (.tuple [.tuple (ws.map PyData.str), pd, ix])), .tuple ((lface zs ws pd ix).map cellD), .bool (decide ((faceL zs (.tuple [.tuple (ws.map PyData.str), pd, ix])).length = 1)), .bool (named (.tuple [.tuple (ws.map PyData.str), pd, ix]))] = PyData.tuple [.bool true, .tuple ((lface zs ws pd ix).map cellD), .bool (decide (V.int (xv.length : Nat) = V.int 1)), .bool (true)] := by
      rw [hA.ok, efl, int_one, lv, List.length_map, show named (.tuple [.tuple (ws.map PyData.str), pd, ix]) = (true) from by show (isaStr pd || isaStr ix) = true; rw [hb]; rfl]
    refine q_of ?_ (q _ (s16.trans s7))
    rw [eq]
    simp
  | false =>
    refine iteF ?_
    obtain ⟨t2, ty2, k2⟩ := isa_str (Dp_same s16 d2)
    refine ⟨_, rfl, a, _, 2, _, rfl, rfl, sameT s16 hx, atI_nat (j := 2) rfl, x2, .ty "str", t2, _, _, rfl, .ty _, ty2, k2, ?_⟩
    obtain ⟨j1, j2, j3, j4⟩ := repr_of (told_fit hcw hcl (addr zs (.tuple [.tuple (ws.map PyData.str), pd, ix])) (decide ((faceL zs (.tuple [.tuple (ws.map PyData.str), pd, ix])).length = 1)) (named (.tuple [.tuple (ws.map PyData.str), pd, ix]))) (by decide +kernel) (by decide) (by decide)
    refine ⟨_, rfl, T, _, rfl, dT, j1, j2, j3, j4, ?_⟩
    cases id c6 with
    | @tup av xv _ hv hrv =>
    have lv := DpAll_len hrv
    refine ⟨_, rfl, _, rfl, av, _, rfl, .inr hv, rfl, _, rfl, by show 4 ≤ sizeLine; decide, fun T2 hT2 => ?_⟩
    have s7 := same_new (o := .tup [.bl true, .ref av, .bl (decide (V.int (xv.length : Nat) = V.int 1)), .bl (isaStr ix)]) hT2
    have dT2 : Dp K (upd H6 T2 (.tup [.bl true, .ref av, .bl (decide (V.int (xv.length : Nat) = V.int 1)), .bl (isaStr ix)])) (.ref T2) (.tuple [.bool true, .tuple ((lface zs ws pd ix).map cellD), .bool (decide (V.int (xv.length : Nat) = V.int 1)), .bool (isaStr ix)]) := .tup (SqT.of upd_same) (.cons (.bl _) (.cons (Dp_same s7 c6) (.cons (.bl _) (.cons (.bl _) .nil))))
    obtain ⟨i1, i2, i3, i4⟩ := repr_of (told_fit hcw hcl true (decide (V.int (xv.length : Nat) = V.int 1)) (isaStr ix)) (by decide +kernel) (by decide) (by decide)
    refine ⟨T2, _, rfl, dT2, i1, i2, i3, i4, rfl, ?_⟩
    have eq : PyData.tuple [.bool (addr zs (.tuple [.tuple (ws.map PyData.str), pd, ix])), .tuple ((lface zs ws pd ix).map cellD), .bool (decide ((faceL zs (.tuple [.tuple (ws.map PyData.str), pd, ix])).length = 1)), .bool (named (.tuple [.tuple (ws.map PyData.str), pd, ix]))] = PyData.tuple [.bool true, .tuple ((lface zs ws pd ix).map cellD), .bool (decide (V.int (xv.length : Nat) = V.int 1)), .bool (isaStr ix)] := by
      rw [hA.ok, efl, int_one, lv, List.length_map, show named (.tuple [.tuple (ws.map PyData.str), pd, ix]) = (isaStr ix) from by show (isaStr pd || isaStr ix) = isaStr ix; rw [hb]; rfl]
    refine q_of ?_ (q _ (s16.trans s7))
    rw [eq]
    simp
end
end Sw
set_option maxRecDepth 100000
set_option maxHeartbeats 4000000
namespace Sw
open PySem PySem.Spec PyProof.Rows L2
/-- the routines, as data -/
abbrev rtD : PyData := .tuple [.tuple [.str (Str.ofString "main"), .tuple [.tuple [.tuple [], .tuple [.str (Str.ofString "back")]]]]]
theorem paired_dat {K : PySem.W.Frag} {H : Hp} : ∀ {ps : List Addr} {zs : List (Str × Int)}, Paired (fun p (z : Str × Int) => SqT K H p [.str z.1, .int z.2]) ps zs → DpAll K H (ps.map V.ref) (zs.map cellD)
  | _, _, .nil => .nil
  | _, _, .cons h t => .cons (.tup h (.cons (.str _) (.cons (.int _) .nil))) (paired_dat t)
theorem ObjsAt.dat {K : PySem.W.Frag} {H : Hp} {v : V} {zs : List (Str × Int)} (h : ObjsAt K H v zs) : Dp K H v (.tuple (zs.map cellD)) := by
  obtain ⟨a, ps, rfl, hf, hp⟩ := h.ex
  exact .tup hf.sq (paired_dat hp)
theorem dc_delS {L : L2.St → Addr} : Dc (fun σ H => del H (L σ)) (fun σ H => ∃ u, H (L σ) = some u) :=
  ⟨fun s => same_del s, del_same _ _, fun h s => by obtain ⟨u, hu⟩ := h; exact ⟨u, s _ _ hu⟩, fun h ha => by
    obtain ⟨u, hu⟩ := h
    exact new_del hu ha⟩
/-- the things while they grow, with the code beside -/
structure LJ (K : PySem.W.Frag) (p fq T : Addr) (C : Addr) (vo vr : V) (zs : List (Str × Int)) (b : Nat) (H : Hp) (us : List V) (ds : List PyData) : Prop where
  feed : FeedAt H p fq b
  at_ : H T = some (.lst us)
  np : T ≠ p
  nq : T ≠ fq
  dat : DpAll K (del (del H p) T) us ds
  cd : SqT K (del (del H p) T) C [vo, vr]
  ob : ObjsAt K (del (del H p) T) vo zs
  rt : Dp K (del (del H p) T) vr rtD
  long : 34 ≤ us.length
  fit : ∀ d ∈ ds, FitN d
section
variable {K : PySem.W.Frag} {p fq T C : Addr} {vo vr : V} {zs : List (Str × Int)} {b : Nat} {H H' : Hp} {us : List V} {ds : List PyData}
theorem LJ.next {b' : Nat} (I : LJ K p fq T C vo vr zs b H us ds) (s : Same (del H p) (del H' p)) (F : FeedAt H' p fq b') : LJ K p fq T C vo vr zs b' H' us ds :=
  ⟨F, (of_del (s _ _ (del_some I.at_ I.np))).1, I.np, I.nq, DpAll_same (same_del s) I.dat, sameT (same_del s) I.cd, I.ob.same (same_del s), Dp_same (same_del s) I.rt, I.long, I.fit⟩
theorem LJ.lay (I : LJ K p fq T C vo vr zs b H us ds) (s : Same H H') : LJ K p fq T C vo vr zs b H' us ds := I.next (same_del s) (I.feed.same s)
theorem LJ.mono {c : Nat} (I : LJ K p fq T C vo vr zs b H us ds) (h : b ≤ c) : LJ K p fq T C vo vr zs c H us ds := ⟨I.feed.mono h, I.at_, I.np, I.nq, I.dat, I.cd, I.ob, I.rt, I.long, I.fit⟩
theorem LJ.code (I : LJ K p fq T C vo vr zs b H us ds) : CodeAt K H (.ref C) vo zs := ⟨⟨C, vr, rfl, sameT ((del_same _ _).trans (del_same _ _)) I.cd⟩, I.ob.same ((del_same _ _).trans (del_same _ _))⟩
theorem LJ.obp (I : LJ K p fq T C vo vr zs b H us ds) : ObjsAt K (del H p) vo zs := I.ob.same (del_same _ _)
theorem DpAll_offN {K : PySem.W.Frag} {G : Hp} {T : Addr} {us vs : List V} {ds : List PyData} (hT : G T = some (.lst us)) (hl : 22 < us.length) (h : DpAll K G vs ds) (hf : ∀ d ∈ ds, FitN d) : DpAll K (del G T) vs ds :=
  DpAll_off hT hl h (lensAll_iff.mpr fun d hd => (hf d hd).ln)
theorem LJ.more (I : LJ K p fq T C vo vr zs b H us ds) {ws : List V} {es : List PyData} (h : DpAll K (del H p) ws es) (hf : ∀ d ∈ es, FitN d) : LJ K p fq T C vo vr zs b (upd H T (.lst (us ++ ws))) (us ++ ws) (ds ++ es) := by
  have h2 := DpAll_offN (del_some I.at_ I.np) (by have := I.long; omega) h hf
  have s : Same (del (del H p) T) (del (del (upd H T (.lst (us ++ ws))) p) T) := fun c o e => by
    obtain ⟨e1, e2⟩ := of_del e
    obtain ⟨e3, e4⟩ := of_del e1
    exact del_some (del_some (by rw [upd_ne e2]; exact e3) e4) e2
  refine ⟨I.feed.upd I.np I.nq, upd_same, I.np, I.nq, DpAll_same s (DpAll_append I.dat h2), sameT s I.cd, I.ob.same s, Dp_same s I.rt, ?_, fun d hd => (List.mem_append.mp hd).elim (I.fit d) (hf d)⟩
  have := I.long
  rw [List.length_append]
  omega
theorem LJ.told (I : LJ K p fq T C vo vr zs b H us ds) : Dp K H (.ref C) (.tuple [.tuple (zs.map cellD), rtD]) ∧ Dp K H (.ref T) (.list ds) := by
  have s : Same (del (del H p) T) H := (del_same _ _).trans (del_same _ _)
  exact ⟨.tup (sameT s I.cd) (.cons (I.ob.same s).dat (.cons (Dp_same s I.rt) .nil)), .lst (SqL.of I.at_) (DpAll_same s I.dat)⟩
theorem wt_le {ds : List PyData} {B : Nat} (h : ∀ d ∈ ds, wt d ≤ B) : wtAll ds ≤ (B + 2) * ds.length := by
  induction ds with
  | nil => simp [wtAll]
  | cons x l ih =>
    have h1 := h x List.mem_cons_self
    have h2 := ih fun d hd => h d (List.mem_cons_of_mem _ hd)
    simp only [wtAll, List.length_cons, Nat.mul_add, Nat.mul_one]
    omega
theorem rt_fit : Fit 0 60 10 1000 rtD := fitB_fit (by decide +kernel)
theorem pair_fit {M n : Nat} {a b : PyData} {B1 B2 B : Nat} (ha : Fit M 400 n B1 a) (hb : Fit M 400 n B2 b) (h : B1 + B2 + 9 ≤ B) : Fit M 400 (n + 1) B (.tuple [a, b]) := by
  have h1 := ha.wg
  have h2 := hb.wg
  refine Fit.tup (n := n) (Nat.le_of_ble_eq_true rfl) (fun x hx => ?_) (by simp only [wtAll]; omega)
  simp only [List.mem_cons, List.not_mem_nil, or_false] at hx
  rcases hx with rfl | rfl
  · exact ⟨ha.lf, ha.ln, ha.dp⟩
  · exact ⟨hb.lf, hb.ln, hb.dp⟩
theorem all_fitM {M : Nat} {zs : List (Str × Int)} {ds : List PyData} (h2 : Fit M 60 2 6000 (.tuple (zs.map cellD))) (hf : ∀ d ∈ ds, Fit M 22 10 7000 d) (hl : ds.length ≤ 200) : Fit M 400 53 16000000 (.tuple [.tuple [.tuple (zs.map cellD), rtD], .list ds]) := by
  have w1 := wt_le (B := 7000) (fun d hd => (hf d hd).wg)
  have h1 : Fit M 400 11 1500000 (.list ds) := Fit.lst (n := 10) (by omega) (fun x hx => by
    have := (hf x hx).mono (Nat.le_refl _) (show 22 ≤ 400 by omega) (Nat.le_refl _) (Nat.le_refl _)
    exact ⟨this.lf, this.ln, this.dp⟩) (by omega)
  have h4 := pair_fit (h2.mono (n' := 10) (B' := 6000) (Nat.le_refl _) (show 60 ≤ 400 by omega) (by omega) (Nat.le_refl _)) (rt_fit.mono (M' := M) (n' := 10) (B' := 1000) (Nat.zero_le _) (show 60 ≤ 400 by omega) (Nat.le_refl _) (Nat.le_refl _)) (show 6000 + 1000 + 9 ≤ 8000 by omega)
  have h5 := pair_fit h4 h1 (show 8000 + 1500000 + 9 ≤ 16000000 by omega)
  exact h5.mono (Nat.le_refl _) (Nat.le_refl _) (by omega) (Nat.le_refl _)
theorem all_fit (I : LJ K p fq T C vo vr zs b H us ds) (hl : ds.length ≤ 200) : Fit (10 ^ 199 + 2) 400 53 16000000 (.tuple [.tuple [.tuple (zs.map cellD), rtD], .list ds]) := by
  have few := I.ob.few
  have wd := I.ob.wd
  have h2 := cells_fit (cs := zs) (fun c hc => ⟨(wd c hc).1, by have := (wd c hc).2; omega, by have := (wd c hc).2; omega⟩) (by omega)
  exact all_fitM (h2.mono (Nat.le_add_right _ _) (Nat.le_refl _) (Nat.le_refl _) (Nat.le_refl _)) I.fit hl
end
end Sw
set_option maxRecDepth 100000
set_option maxHeartbeats 4000000
namespace Sw
open PySem PySem.Spec PyProof.Rows L2
section
variable {P : Program} {w : World} {K : PySem.W.Frag} {mg : Str → Option Value} {base : Heap}
def spLaw (K : PySem.W.Frag) : Sp := fun vs H Q _ => ∃ (a : Addr) (ns : List Int), vs = [.ref a] ∧ SqL K H a (ns.map V.int) ∧ ns.length ≤ 63 ∧ ∀ H', Q (.bl true) H'
theorem sc_law : FnScope ["_law_script", "_law_feed_here", "_law_turn", "_law_objects_here", "_law_code", "_law_things", "_law_k", "_law_address_here", "_law_kept", "_law_thing"] ["_law_script"] (defScope (topS 33)) := ⟨rfl, rfl, rfl, by decide +kernel, rfl, by decide +kernel, by decide +kernel⟩
theorem ok_law {f fFE fOB fFX fAD fNE fSA fIA fLA fCI fLC fRI : Addr} {fd dFE dOB dFX dAD dNE dSA dIA dLA dCI dLC dRI : FuncData} (D : Fun K "law" "law" (topS 33) f fd) (B : Bt mg) (DFE : Df K mg "_law_feed" (topS 15) ["_law_script"] fFE dFE) (GFE : FnOk P w K mg base CX0 1 fFE dFE ["_law_script"] (spFeed K)) (DOB : Df K mg "_law_objects" (topS 25) ["_law_feed_here"] fOB dOB) (GOB : FnOk P w K mg base CX0 3 fOB dOB ["_law_feed_here"] (spObjsF K)) (DFX : Df K mg "_law_fixed" (topS 30) ["_law_objects_here"] fFX dFX) (GFX : FnOk P w K mg base CX0 1 fFX dFX ["_law_objects_here"] (spFixed K)) (DAD : Df K mg "_law_address" (topS 26) ["_law_feed_here", "_law_objects_here"] fAD dAD) (GAD : FnOk P w K mg base CX0 2 fAD dAD ["_law_feed_here", "_law_objects_here"] (spLAddr K)) (DNE : Df K mg "_law_near" (topS 31) ["_law_feed_here", "_law_objects_here", "_law_address_here"] fNE dNE) (GNE : FnOk P w K mg base CX0 7 fNE dNE ["_law_feed_here", "_law_objects_here", "_law_address_here"] (spNear K)) (DSA : Df K mg "_law_same" (topS 21) ["_law_told", "_law_wanted"] fSA dSA) (GSA : FnOk P w K mg base CX0 1 fSA dSA ["_law_told", "_law_wanted"] (spSame)) (DIA : Df K mg "is_address" (topS 9) ["code", "thing"] fIA dIA) (GIA : FnOk P w K mg base CX0 3 fIA dIA ["code", "thing"] (spAddr K)) (DLA : Df K mg "_law_addressed" (topS 27) ["_law_objects_here", "_law_thing"] fLA dLA) (GLA : FnOk P w K mg base CX0 3 fLA dLA ["_law_objects_here", "_law_thing"] (spAddressed K)) (DCI : Df K mg "cells_in" (topS 6) ["code"] fCI dCI) (GCI : FnOk P w K mg base CX0 1 fCI dCI ["code"] (spCells K)) (DLC : Df K mg "_law_cells" (topS 28) ["_law_objects_here"] fLC dLC) (GLC : FnOk P w K mg base CX0 1 fLC dLC ["_law_objects_here"] (spLCells K)) (DRI : Df K mg "_law_right" (topS 32) ["_law_code", "_law_objects_here", "_law_address_here"] fRI dRI) (GRI : FnG P w K mg base 5 fRI dRI ["_law_code", "_law_objects_here", "_law_address_here"] (spRight K)) :
    FnG P w K mg base 8 f fd ["_law_script"] (spLaw K) := by
  refine fun_okG D sc_law (fun vs H Q E h => ?_) (fun cdv A outer s H vs Q E hg hr h => ?_)
  · obtain ⟨a, ns, rfl, _⟩ := h
    rfl
  obtain ⟨a, ns, rfl, hS, hn, q⟩ := h
  have nd := sc_law.nd
  have hu := hr.units
  have hg2 : (A.deeper (envOfC "law" (defScope (topS 33)) s.heap.objs.size f cdv)).guards = some [] := hg
  have cR : Dc (fun σ H' => del H' (refAt 1 σ)) (fun σ H' => ∃ u, H' (refAt 1 σ) = some u) := dc_delS
  refine ⟨_, pss_cons (ps_set (i := 1) nd rfl (Or.inl rfl) (pe_call GFE (hr.mono (by decide)) (by rfl) DFE.gl DFE.fn.kp DFE.bd .nil pass0 (pa_cons (pv 0) pa_nil)))
    (pss_cons (ps_for PassesOwn.never rfl (pi_range1 (by rfl) B.range (pa_cons pe_int pa_nil)) (pg_name (i := 2) nd rfl (Or.inl rfl))
      (pss_cons (ps_set (i := 3) nd rfl (Or.inl rfl) (pe_call GOB (hr.mono (by decide)) (by rfl) DOB.gl DOB.fn.kp DOB.bd .nil pass0 (pa_cons (pv 1) pa_nil)))
      (pss_cons (ps_set (i := 4) nd rfl (Or.inl rfl) (pe_tup (pa_cons (pv 3) (pa_cons (te := tD K (fun σ H' => del H' (refAt 1 σ)) (fun σ H' => ∃ u, H' (refAt 1 σ) = some u) rtD) (pd_tup cR (pds_cons cR (pd_tup cR (pds_cons cR pd_str (pds_cons cR (pd_tup cR (pds_cons cR (pd_tup cR (pds_cons cR (pd_tup cR pds_nil) (pds_cons cR (pd_tup cR (pds_cons cR pd_str pds_nil)) pds_nil))) pds_nil)) pds_nil))) pds_nil)) pa_nil))))
      (pss_cons (ps_set (i := 5) nd rfl (Or.inl rfl) (pe_call GFX (hr.mono (by decide)) (by rfl) DFX.gl DFX.fn.kp DFX.bd .nil pass0 (pa_cons (pv 3) pa_nil)))
      (C8.pss_cut (ps_for PassesOwn.never rfl (pi_range1 (by rfl) B.range (pa_cons pe_int pa_nil)) (pg_name (i := 6) nd rfl (Or.inl rfl))
        (pss_cons (ps_set (i := 7) nd rfl (Or.inl rfl) (pe_call GAD (hr.mono (by decide)) (by rfl) DAD.gl DAD.fn.kp DAD.bd .nil pass0 (pa_cons (pv 1) (pa_cons (pv 3) pa_nil))))
        (pss_cons (ps_if (pt_not (pt_val (pe_callG hg2 GRI (hr.mono (by decide)) (by rfl) DRI.gl DRI.fn.kp DRI.bd pass0 (pa_cons (pv 4) (pa_cons (pv 3) (pa_cons (pv 7) pa_nil)))))) (pss_one (ps_ret pe_bl)) pss_nil)
        (pss_one (ps_expr (pe_bm PySem.F.plainAttrs_list PySem.F.slot_list_extend PySem.F.type_list_extend mt_extend (pv 5) (pa_cons (pe_call GNE hr (by rfl) DNE.gl DNE.fn.kp DNE.bd .nil pass0 (pa_cons (pv 1) (pa_cons (pv 3) (pa_cons (pv 7) pa_nil)))) pa_nil)))))))
      (pss_cons (ps_set (i := 8) nd rfl (Or.inl rfl) (pe_callB (call_repr hg2 hu) (by rfl) B.repr (by decide +kernel) (pa_cons (pe_tup (pa_cons (pv 4) (pa_cons (pv 5) pa_nil))) pa_nil)))
      (C8.pss_cut (ps_for PassesOwn.never rfl (pi_list (pv 5)) (pg_name (i := 9) nd rfl (Or.inl rfl))
        (pss_one (ps_if (pt_not (pt_val (pe_call GSA (hr.mono (by decide)) (by rfl) DSA.gl DSA.fn.kp DSA.bd .nil pass0 (pa_cons (pe_call GIA (hr.mono (by decide)) (by rfl) DIA.gl DIA.fn.kp DIA.bd .nil pass0 (pa_cons (pv 4) (pa_cons (pv 9) pa_nil))) (pa_cons (pe_call GLA (hr.mono (by decide)) (by rfl) DLA.gl DLA.fn.kp DLA.bd .nil pass0 (pa_cons (pv 3) (pa_cons (pv 9) pa_nil))) pa_nil))))) (pss_one (ps_ret pe_bl)) pss_nil)))
      (pss_one (ps_if (PW.pt (pw_or (pt_cmpR op_ne (pe_callB (call_repr hg2 hu) (by rfl) B.repr (by decide +kernel) (pa_cons (pe_call GCI (hr.mono (by decide)) (by rfl) DCI.gl DCI.fn.kp DCI.bd .nil pass0 (pa_cons (pv 4) pa_nil)) pa_nil)) (pe_callB (call_repr hg2 hu) (by rfl) B.repr (by decide +kernel) (pa_cons (pe_callTy call_tuple_of (by rfl) B.tuple (by decide +kernel) (pa_cons (pe_call GLC (hr.mono (by decide)) (by rfl) DLC.gl DLC.fn.kp DLC.bd .nil pass0 (pa_cons (pv 3) pa_nil)) pa_nil)) pa_nil)) (nomark _)) (pw_or1 (pt_cmpR op_ne (pe_callB (call_repr hg2 hu) (by rfl) B.repr (by decide +kernel) (pa_cons (pe_tup (pa_cons (pv 4) (pa_cons (pv 5) pa_nil))) pa_nil)) (pv 8) (nomark _))))) (pss_one (ps_ret pe_bl)) pss_nil)))))))))
    (pss_one (ps_ret pe_bl))), ?_⟩
  clear D B DFE GFE DOB GOB DFX GFX DAD GAD DNE GNE DSA GSA DIA GIA DLA GLA DCI GCI DLC GLC DRI GRI hr nd hu hg hg2
  refine ⟨_, rfl, a, ns, rfl, hS, hn, fun p fq H1 s1 np F1 => ?_⟩
  refine ⟨5, rfl, by decide, by decide, for_range (lo := 0) (n := 5) (fun i σ H' => ∃ (x2 x3 x4 x5 x6 x7 x8 x9 : Option V), σ = [some (.ref a), some (.ref p), x2, x3, x4, x5, x6, x7, x8, x9] ∧ FeedAt H' p fq (1000 * i))
    ⟨_, _, _, _, _, _, _, _, rfl, F1⟩ ?_ ?_⟩
  rotate_left
  · rintro σ H2 ⟨x2, x3, x4, x5, x6, x7, x8, x9, rfl, F2⟩
    exact q H2
  rintro i σ H2 hi ⟨x2, x3, x4, x5, x6, x7, x8, x9, rfl, F2⟩
  -- objects, code, things
  refine ⟨_, rfl, p, fq, _, rfl, F2, by omega, fun vo zs H3 hO3 s3 F3 => ?_⟩
  refine ⟨_, rfl, F3.there, fun vr H4 s4 d4 => ⟨by show 2 ≤ sizeLine; decide, fun C hC => ?_⟩⟩
  have d4' : Dp K (del H4 p) vr rtD := d4
  clear d4
  have F4 := F3.same s4
  have hO4 := hO3.same (same_del (p := p) s4)
  have s5 := same_new (o := .tup [vo, vr]) hC
  have F5 := F4.same s5
  obtain ⟨u4, hp4⟩ := F4.there
  have hC5 : SqT K (del (upd H4 C (.tup [vo, vr])) p) C [vo, vr] := SqT.of (new_del hp4 hC)
  have hO5 := hO4.same (same_del (p := p) s5)
  have d5 := Dp_same (same_del (p := p) s5) d4'
  generalize upd H4 C (.tup [vo, vr]) = H5 at s5 F5 hC5 hO5 d5
  clear s3 s4 hC F3 F4 hO3 hO4 d4' hp4 F2
  obtain ⟨z, k, r, ezs⟩ : ∃ z k r, zs = (z, k) :: r := by
    have := hO5.few
    cases zs with
    | nil => simp at this
    | cons x r => exact ⟨x.1, x.2, r, rfl⟩
  refine ⟨_, rfl, vo, zs, r, z, k, rfl, hO5.same (del_same _ _), ezs, fun T us0 H6 FT => ?_⟩
  obtain ⟨wz, k1, k4⟩ := hO5.wd (z, k) (by rw [ezs]; exact List.mem_cons_self)
  obtain ⟨nTp, nTq⟩ := F5.ne FT.n0
  obtain ⟨u5, hp5⟩ := F5.there
  have I6 : LJ K p fq T C vo vr zs (1000 * i + 60) H6 us0 (fxAll z k) := by
    have sx : Same (del H5 p) (del (del H6 p) T) := fun c o e => by
      obtain ⟨e1, e2⟩ := of_del e
      exact del_some (del_some (FT.s0 _ _ e1) e2) (ne_of_none e1 FT.n0)
    have sy : Same (nw H5 T H6) (del (del H6 p) T) := fun c o e => by
      obtain ⟨e1, e2⟩ := of_del e
      obtain ⟨e3, e4⟩ := of_fr e1
      exact del_some (del_some e4 (Ne.symm (ne_of_none hp5 e3))) e2
    refine ⟨F5.same FT.s0, FT.at_, nTp, nTq, DpAll_same sy FT.dat, sameT sx hC5, hO5.same sx, Dp_same sx d5, ?_, fun d hd => ?_⟩
    · have := DpAll_len FT.dat
      rw [fxAll_len] at this
      omega
    · have hb : Fit 10 8 4 3000 d := by
        unfold fxAll at hd
        simp only [List.mem_append] at hd
        rcases hd with (((((((hd | hd) | hd) | hd) | hd) | hd) | hd) | hd) | hd
        · exact fx0_fit wz k1 k4 d hd
        · exact fx1_fit wz k1 k4 d hd
        · exact fx2_fit wz k1 k4 d hd
        · exact fx3_fit wz k1 k4 d hd
        · exact fx4_fit wz k1 k4 d hd
        · exact fx5_fit wz k1 k4 d hd
        · exact fx6_fit wz k1 k4 d hd
        · exact fx7_fit wz k1 k4 d hd
        · exact fx8_fit wz k1 k4 d hd
      exact hb.mono (Nat.le_trans (show 10 ≤ 10 ^ 199 by decide +kernel) (Nat.le_add_right _ _)) (by omega) (by omega) (by omega)
  have hl0 : (fxAll z k).length = 34 := fxAll_len z k
  generalize fxAll z k = ds0 at I6 hl0
  clear FT hC5 hO5 d5 F5 s5 wz k1 k4 ezs hp5
  refine ⟨fun σ H' => ∃ (us : List V) (ds : List PyData) (x2 x6 x7 x8 x9 : Option V), σ = [some (.ref a), some (.ref p), x2, some vo, some (.ref C), some (.ref T), x6, x7, x8, x9] ∧ LJ K p fq T C vo vr zs (1000 * i + 800) H' us ds ∧ ds.length = 112, ?_, ?_⟩
  · refine ⟨6, rfl, by decide, by decide, for_range (lo := 0) (n := 6) (fun j σ H' => ∃ (us : List V) (ds : List PyData) (x2 x6 x7 x8 x9 : Option V), σ = [some (.ref a), some (.ref p), x2, some vo, some (.ref C), some (.ref T), x6, x7, x8, x9] ∧ LJ K p fq T C vo vr zs (1000 * i + 60 + 120 * j) H' us ds ∧ ds.length = 34 + 13 * j)
      ⟨us0, ds0, _, _, _, _, _, rfl, I6, hl0⟩ ?_ ?_⟩
    rotate_left
    · rintro σ H7 ⟨us, ds, x2, x6, x7, x8, x9, rfl, I7, hl7⟩
      exact ⟨us, ds, _, _, _, _, _, rfl, I7.mono (by omega), by omega⟩
    rintro j σ H7 hj ⟨us, ds, x2, x6, x7, x8, x9, rfl, I7, hl7⟩
    refine ⟨_, rfl, _, rfl, p, fq, vo, zs, _, rfl, I7.feed, by omega, I7.obp, fun va ws pd ix H8 hA8 s8 F8 => ?_⟩
    have I8 := I7.next s8 F8
    refine ⟨_, rfl, _, rfl, _, rfl, .ref C, vo, va, zs, ws, pd, ix, rfl, I8.code, hA8.same (del_same _ _), fun H9 s9 => ⟨_, rfl, ?_⟩⟩
    refine iteF ?_
    have I9 := I8.lay s9
    refine ⟨_, rfl, .inl ⟨rfl, _, SqL.of I9.at_⟩, _, rfl, _, rfl, _, rfl, p, fq, vo, va, zs, ws, pd, ix, _, rfl, I9.feed, by omega, I9.obp, hA8.same (same_del s9), fun N us2 ds2 H10 hN hn0 dat2 hl2 hf2 s10 F10 => ?_⟩
    have I10 := I9.next s10 F10
    have lu := DpAll_len I10.dat
    have lu2 := DpAll_len dat2
    refine ⟨T, N, us, us2, rfl, rfl, I10.at_, hN, Nat.le_of_lt (small1000 (by omega)), ?_⟩
    exact ⟨_, _, _, _, _, _, _, rfl, (I10.more dat2 hf2).mono (by omega), by rw [List.length_append]; omega⟩
  rintro σ H7 ⟨us, ds, x2, x6, x7, x8, x9, rfl, I7, hl7⟩
  -- kept
  have hfit := all_fit I7 (by omega)
  obtain ⟨g1, g2, g3, g4⟩ := repr_of hfit (by decide +kernel) (by decide) (by decide)
  obtain ⟨tC, tT⟩ := I7.told
  have dA : DpAll K H7 us ds := DpAll_same ((del_same _ _).trans (del_same _ _)) I7.dat
  refine ⟨_, rfl, _, rfl, by show 2 ≤ sizeLine; decide, fun U hU => ?_⟩
  have s8 := same_new (o := .tup [.ref C, .ref T]) hU
  refine ⟨U, .tuple [.tuple [.tuple (zs.map cellD), rtD], .list ds], rfl, .tup (SqT.of upd_same) (.cons (Dp_same s8 tC) (.cons (Dp_same s8 tT) .nil)), g1, g2, g3, g4, ?_⟩
  generalize hkp : (PyData.tuple [.tuple [.tuple (zs.map cellD), rtD], .list ds]).shown = kept at g4
  have I8 := I7.lay s8
  have dA8 := DpAll_same s8 dA
  generalize upd H7 U (.tup [.ref C, .ref T]) = H8 at s8 I8 dA8
  have hfT := I7.fit
  clear I7 dA tC tT hU s8
  refine ⟨fun σ H' => Same H8 H' ∧ ∃ x9 : Option V, σ = [some (.ref a), some (.ref p), x2, some vo, some (.ref C), some (.ref T), x6, x7, some (.str kept), x9], ?_, ?_⟩
  · refine ⟨_, rfl, T, rfl, ⟨_, SqL.of I8.at_⟩, for_it (walk_list (xs := us)) (fun j σ H' => Same H8 H' ∧ ∃ x9 : Option V, σ = [some (.ref a), some (.ref p), x2, some vo, some (.ref C), some (.ref T), x6, x7, some (.str kept), x9])
      ⟨Same.refl _, _, by rw [← hkp]; rfl⟩ (fun j σ H' _ h => SqL.of (h.1 _ _ I8.at_)) ?_ (fun σ H' h => h)⟩
    rintro j x σ H9 H10 hj ⟨s9, x9, rfl⟩ ⟨rfl, hx⟩
    obtain ⟨d, hd, dx⟩ := DpAll_get (DpAll_same s9 dA8) hx
    have hf2 : ∃ M, Fit M 60 60 1000000 d := ⟨_, (hfT d (List.mem_of_getElem? hd)).mono (Nat.le_refl _) (by omega) (by omega) (by omega)⟩
    refine ⟨_, rfl, _, rfl, .ref C, vo, x, zs, d, rfl, I8.code.same s9, dx, hf2, fun J1 q1 => ?_⟩
    refine ⟨_, rfl, _, rfl, vo, x, zs, d, rfl, (I8.code.ob.same s9).same q1, Dp_same q1 dx, hf2, fun J2 q2 => ?_⟩
    refine ⟨_, _, rfl, ?_⟩
    refine ⟨_, rfl, ?_⟩
    refine ite2 (fun c => absurd c (by simp)) (fun _ => ?_)
    exact ⟨s9.trans (q1.trans q2), _, rfl⟩
  rintro σ H9 ⟨s9, x9, rfl⟩
  have I9 := I8.lay s9
  have wd := I9.ob.wd
  have few := I9.ob.few
  have hcf := cells_fit (cells_wd wd) (cells_len few.2 fun z hz => (wd z hz).2.2)
  obtain ⟨i1, i2, i3, i4⟩ := repr_of hcf (by decide +kernel) (by decide) (by decide)
  refine ⟨_, rfl, .ref C, vo, zs, rfl, I9.code, fun v1 H10 s10 c10 => ?_⟩
  cases id c10 with
  | @tup a1 xs1 _ hx1 hr1 =>
  refine ⟨a1, _, rfl, c10, i1, i2, i3, i4, ?_⟩
  refine ⟨_, rfl, vo, zs, rfl, I9.code.ob.same s10, fun L H11 ys s11 nL hL hcs hul => ?_⟩
  obtain ⟨em, hall⟩ := hcs.all
  refine ⟨L, ys, rfl, .inl ⟨SqL.of hL, fun R hR => ?_⟩⟩
  have s12 := same_new (o := .tup ys) hR
  have dR := DpAll_cells (K := K) (H := upd H11 R (.tup ys)) (k := cellOf H11) (ys := ys) fun x hx => by
    obtain ⟨t, e, h⟩ := hall x hx
    exact ⟨t, e, SqT.of (s12 _ _ h)⟩
  rw [em] at dR
  refine ⟨R, _, rfl, .tup (SqT.of upd_same) dR, i1, i2, i3, i4, rfl, _, rfl, ?_⟩
  refine ite2 (fun c => absurd c (by simp)) (fun _ => ?_)
  have I12 := I9.lay ((s10.trans s11).trans s12)
  generalize upd H11 R (.tup ys) = H12 at I12
  obtain ⟨tC, tT⟩ := I12.told
  refine ⟨_, rfl, _, rfl, by show 2 ≤ sizeLine; decide, fun U2 hU2 => ?_⟩
  have s13 := same_new (o := .tup [.ref C, .ref T]) hU2
  refine ⟨U2, .tuple [.tuple [.tuple (zs.map cellD), rtD], .list ds], rfl, .tup (SqT.of upd_same) (.cons (Dp_same s13 tC) (.cons (Dp_same s13 tT) .nil)), g1, g2, g3, (by rw [hkp]; exact g4), _, rfl, rfl, _, rfl, ?_⟩
  refine ite2 (fun c => absurd c (by rw [hkp]; simp)) (fun _ => ?_)
  exact ⟨_, _, _, _, _, _, _, _, rfl, (I12.feed.same s13).mono (by omega)⟩
end
end Sw
set_option maxRecDepth 100000
set_option maxHeartbeats 4000000
namespace Sw
open PySem PySem.Spec PyProof.Rows L2
theorem all_mk {l : PySem.W.OpenLaw} {w : World} {K : PySem.W.Frag} {h : Heap} {mg : Str → Option Value} {fa f2 f3 f4 f6 f7 f8 f9 f10 f11 f12 f13 f15 f16 f17 f18 f19 f20 f21 f22 f23 f24 f25 f26 f27 f28 f29 f30 f31 f32 f33 : Addr} (X : K.In h) (G : h.Ns mainGlobals mg) (hfa : mg "law" = some (.ref fa))
    {od2 od3 od4 od6 od7 od8 od9 od10 od11 od12 od13 od15 od16 od17 od18 od19 od20 od21 od22 od23 od24 od25 od26 od27 od28 od29 od30 od31 od32 od33 an2 an3 an4 an6 an7 an8 an9 an10 an11 an12 an13 an15 an16 an17 an18 an19 an20 an21 an22 an23 an24 an25 an26 an27 an28 an29 an30 an31 an32 an33 : Option Addr} {sl2 sl3 sl4 sl6 sl7 sl8 sl9 sl10 sl11 sl12 sl13 sl15 sl16 sl17 sl18 sl19 sl20 sl21 sl22 sl23 sl24 sl25 sl26 sl27 sl28 sl29 sl30 sl31 sl32 sl33 : Array (Option Value)} {oc2 oc3 oc4 oc6 oc7 oc8 oc9 oc10 oc11 oc12 oc13 oc15 oc16 oc17 oc18 oc19 oc20 oc21 oc22 oc23 oc24 oc25 oc26 oc27 oc28 oc29 oc30 oc31 oc32 oc33 kV2 kV3 kV4 kV6 kV7 kV8 kV9 kV10 kV11 kV12 kV13 kV15 kV16 kV17 kV18 kV19 kV20 kV21 kV22 kV23 kV24 kV25 kV26 kV27 kV28 kV29 kV30 kV31 kV32 kV33 dc2 dc3 dc4 dc6 dc7 dc8 dc9 dc10 dc11 dc12 dc13 dc15 dc16 dc17 dc18 dc19 dc20 dc21 dc22 dc23 dc24 dc25 dc26 dc27 dc28 dc29 dc30 dc31 dc32 dc33 pm2 pm3 pm4 pm6 pm7 pm8 pm9 pm10 pm11 pm12 pm13 pm15 pm16 pm17 pm18 pm19 pm20 pm21 pm22 pm23 pm24 pm25 pm26 pm27 pm28 pm29 pm30 pm31 pm32 pm33 cd2 cd3 cd4 cd6 cd7 cd8 cd9 cd10 cd11 cd12 cd13 cd15 cd16 cd17 cd18 cd19 cd20 cd21 cd22 cd23 cd24 cd25 cd26 cd27 cd28 cd29 cd30 cd31 cd32 cd33 ct2 ct3 ct4 ct6 ct7 ct8 ct9 ct10 ct11 ct12 ct13 ct15 ct16 ct17 ct18 ct19 ct20 ct21 ct22 ct23 ct24 ct25 ct26 ct27 ct28 ct29 ct30 ct31 ct32 ct33 : Value} {tL : Tok}
    (a2 : PySem.W.nsIn K mainGlobals "is_number" = some (some (.ref f2))) (l2 : K.lookup f2 = some ⟨oc2, od2, .func (PySem.W.fnOf "is_number" "is_number" (defArgs (topS 2)) (defBody (topS 2)) (defScope (topS 2)) .none kV2 dc2 pm2 an2 cd2 ct2), sl2⟩) (c2 : PySem.W.codeIn K cd2 "is_number" = true) (k2 : PySem.W.keepIn K (.ref f2) = true)
    (a3 : PySem.W.nsIn K mainGlobals "is_word" = some (some (.ref f3))) (l3 : K.lookup f3 = some ⟨oc3, od3, .func (PySem.W.fnOf "is_word" "is_word" (defArgs (topS 3)) (defBody (topS 3)) (defScope (topS 3)) .none kV3 dc3 pm3 an3 cd3 ct3), sl3⟩) (c3 : PySem.W.codeIn K cd3 "is_word" = true) (k3 : PySem.W.keepIn K (.ref f3) = true)
    (a4 : PySem.W.nsIn K mainGlobals "is_operand" = some (some (.ref f4))) (l4 : K.lookup f4 = some ⟨oc4, od4, .func (PySem.W.fnOf "is_operand" "is_operand" (defArgs (topS 4)) (defBody (topS 4)) (defScope (topS 4)) .none kV4 dc4 pm4 an4 cd4 ct4), sl4⟩) (c4 : PySem.W.codeIn K cd4 "is_operand" = true) (k4 : PySem.W.keepIn K (.ref f4) = true)
    (a6 : PySem.W.nsIn K mainGlobals "cells_in" = some (some (.ref f6))) (l6 : K.lookup f6 = some ⟨oc6, od6, .func (PySem.W.fnOf "cells_in" "cells_in" (defArgs (topS 6)) (defBody (topS 6)) (defScope (topS 6)) .none kV6 dc6 pm6 an6 cd6 ct6), sl6⟩) (c6 : PySem.W.codeIn K cd6 "cells_in" = true) (k6 : PySem.W.keepIn K (.ref f6) = true)
    (a7 : PySem.W.nsIn K mainGlobals "can_be_within" = some (some (.ref f7))) (l7 : K.lookup f7 = some ⟨oc7, od7, .func (PySem.W.fnOf "can_be_within" "can_be_within" (defArgs (topS 7)) (defBody (topS 7)) (defScope (topS 7)) .none kV7 dc7 pm7 an7 cd7 ct7), sl7⟩) (c7 : PySem.W.codeIn K cd7 "can_be_within" = true) (k7 : PySem.W.keepIn K (.ref f7) = true)
    (a8 : PySem.W.nsIn K mainGlobals "are_unlike_objects" = some (some (.ref f8))) (l8 : K.lookup f8 = some ⟨oc8, od8, .func (PySem.W.fnOf "are_unlike_objects" "are_unlike_objects" (defArgs (topS 8)) (defBody (topS 8)) (defScope (topS 8)) .none kV8 dc8 pm8 an8 cd8 ct8), sl8⟩) (c8 : PySem.W.codeIn K cd8 "are_unlike_objects" = true) (k8 : PySem.W.keepIn K (.ref f8) = true)
    (a9 : PySem.W.nsIn K mainGlobals "is_address" = some (some (.ref f9))) (l9 : K.lookup f9 = some ⟨oc9, od9, .func (PySem.W.fnOf "is_address" "is_address" (defArgs (topS 9)) (defBody (topS 9)) (defScope (topS 9)) .none kV9 dc9 pm9 an9 cd9 ct9), sl9⟩) (c9 : PySem.W.codeIn K cd9 "is_address" = true) (k9 : PySem.W.keepIn K (.ref f9) = true)
    (a10 : PySem.W.nsIn K mainGlobals "choices" = some (some (.ref f10))) (l10 : K.lookup f10 = some ⟨oc10, od10, .func (PySem.W.fnOf "choices" "choices" (defArgs (topS 10)) (defBody (topS 10)) (defScope (topS 10)) .none kV10 dc10 pm10 an10 cd10 ct10), sl10⟩) (c10 : PySem.W.codeIn K cd10 "choices" = true) (k10 : PySem.W.keepIn K (.ref f10) = true)
    (a11 : PySem.W.nsIn K mainGlobals "face" = some (some (.ref f11))) (l11 : K.lookup f11 = some ⟨oc11, od11, .func (PySem.W.fnOf "face" "face" (defArgs (topS 11)) (defBody (topS 11)) (defScope (topS 11)) .none kV11 dc11 pm11 an11 cd11 ct11), sl11⟩) (c11 : PySem.W.codeIn K cd11 "face" = true) (k11 : PySem.W.keepIn K (.ref f11) = true)
    (a12 : PySem.W.nsIn K mainGlobals "is_sure" = some (some (.ref f12))) (l12 : K.lookup f12 = some ⟨oc12, od12, .func (PySem.W.fnOf "is_sure" "is_sure" (defArgs (topS 12)) (defBody (topS 12)) (defScope (topS 12)) .none kV12 dc12 pm12 an12 cd12 ct12), sl12⟩) (c12 : PySem.W.codeIn K cd12 "is_sure" = true) (k12 : PySem.W.keepIn K (.ref f12) = true)
    (a13 : PySem.W.nsIn K mainGlobals "can_fault" = some (some (.ref f13))) (l13 : K.lookup f13 = some ⟨oc13, od13, .func (PySem.W.fnOf "can_fault" "can_fault" (defArgs (topS 13)) (defBody (topS 13)) (defScope (topS 13)) .none kV13 dc13 pm13 an13 cd13 ct13), sl13⟩) (c13 : PySem.W.codeIn K cd13 "can_fault" = true) (k13 : PySem.W.keepIn K (.ref f13) = true)
    (a15 : PySem.W.nsIn K mainGlobals "_law_feed" = some (some (.ref f15))) (l15 : K.lookup f15 = some ⟨oc15, od15, .func (PySem.W.fnOf "_law_feed" "_law_feed" (defArgs (topS 15)) (defBody (topS 15)) (defScope (topS 15)) .none kV15 dc15 pm15 an15 cd15 ct15), sl15⟩) (c15 : PySem.W.codeIn K cd15 "_law_feed" = true) (k15 : PySem.W.keepIn K (.ref f15) = true)
    (a16 : PySem.W.nsIn K mainGlobals "_law_draw" = some (some (.ref f16))) (l16 : K.lookup f16 = some ⟨oc16, od16, .func (PySem.W.fnOf "_law_draw" "_law_draw" (defArgs (topS 16)) (defBody (topS 16)) (defScope (topS 16)) .none kV16 dc16 pm16 an16 cd16 ct16), sl16⟩) (c16 : PySem.W.codeIn K cd16 "_law_draw" = true) (k16 : PySem.W.keepIn K (.ref f16) = true)
    (a17 : PySem.W.nsIn K mainGlobals "_law_after" = some (some (.ref f17))) (l17 : K.lookup f17 = some ⟨oc17, od17, .func (PySem.W.fnOf "_law_after" "_law_after" (defArgs (topS 17)) (defBody (topS 17)) (defScope (topS 17)) .none kV17 dc17 pm17 an17 cd17 ct17), sl17⟩) (c17 : PySem.W.codeIn K cd17 "_law_after" = true) (k17 : PySem.W.keepIn K (.ref f17) = true)
    (a18 : PySem.W.nsIn K mainGlobals "_law_word" = some (some (.ref f18))) (l18 : K.lookup f18 = some ⟨oc18, od18, .func (PySem.W.fnOf "_law_word" "_law_word" (defArgs (topS 18)) (defBody (topS 18)) (defScope (topS 18)) .none kV18 dc18 pm18 an18 cd18 ct18), sl18⟩) (c18 : PySem.W.codeIn K cd18 "_law_word" = true) (k18 : PySem.W.keepIn K (.ref f18) = true)
    (a19 : PySem.W.nsIn K mainGlobals "_law_bend" = some (some (.ref f19))) (l19 : K.lookup f19 = some ⟨oc19, od19, .func (PySem.W.fnOf "_law_bend" "_law_bend" (defArgs (topS 19)) (defBody (topS 19)) (defScope (topS 19)) .none kV19 dc19 pm19 an19 cd19 ct19), sl19⟩) (c19 : PySem.W.codeIn K cd19 "_law_bend" = true) (k19 : PySem.W.keepIn K (.ref f19) = true)
    (a20 : PySem.W.nsIn K mainGlobals "_law_odd" = some (some (.ref f20))) (l20 : K.lookup f20 = some ⟨oc20, od20, .func (PySem.W.fnOf "_law_odd" "_law_odd" (defArgs (topS 20)) (defBody (topS 20)) (defScope (topS 20)) .none kV20 dc20 pm20 an20 cd20 ct20), sl20⟩) (c20 : PySem.W.codeIn K cd20 "_law_odd" = true) (k20 : PySem.W.keepIn K (.ref f20) = true)
    (a21 : PySem.W.nsIn K mainGlobals "_law_same" = some (some (.ref f21))) (l21 : K.lookup f21 = some ⟨oc21, od21, .func (PySem.W.fnOf "_law_same" "_law_same" (defArgs (topS 21)) (defBody (topS 21)) (defScope (topS 21)) .none kV21 dc21 pm21 an21 cd21 ct21), sl21⟩) (c21 : PySem.W.codeIn K cd21 "_law_same" = true) (k21 : PySem.W.keepIn K (.ref f21) = true)
    (a22 : PySem.W.nsIn K mainGlobals "_law_number" = some (some (.ref f22))) (l22 : K.lookup f22 = some ⟨oc22, od22, .func (PySem.W.fnOf "_law_number" "_law_number" (defArgs (topS 22)) (defBody (topS 22)) (defScope (topS 22)) .none kV22 dc22 pm22 an22 cd22 ct22), sl22⟩) (c22 : PySem.W.codeIn K cd22 "_law_number" = true) (k22 : PySem.W.keepIn K (.ref f22) = true)
    (a23 : PySem.W.nsIn K mainGlobals "_law_worded" = some (some (.ref f23))) (l23 : K.lookup f23 = some ⟨oc23, od23, .func (PySem.W.fnOf "_law_worded" "_law_worded" (defArgs (topS 23)) (defBody (topS 23)) (defScope (topS 23)) .none kV23 dc23 pm23 an23 cd23 ct23), sl23⟩) (c23 : PySem.W.codeIn K cd23 "_law_worded" = true) (k23 : PySem.W.keepIn K (.ref f23) = true)
    (a24 : PySem.W.nsIn K mainGlobals "_law_operanded" = some (some (.ref f24))) (l24 : K.lookup f24 = some ⟨oc24, od24, .func (PySem.W.fnOf "_law_operanded" "_law_operanded" (defArgs (topS 24)) (defBody (topS 24)) (defScope (topS 24)) .none kV24 dc24 pm24 an24 cd24 ct24), sl24⟩) (c24 : PySem.W.codeIn K cd24 "_law_operanded" = true) (k24 : PySem.W.keepIn K (.ref f24) = true)
    (a25 : PySem.W.nsIn K mainGlobals "_law_objects" = some (some (.ref f25))) (l25 : K.lookup f25 = some ⟨oc25, od25, .func (PySem.W.fnOf "_law_objects" "_law_objects" (defArgs (topS 25)) (defBody (topS 25)) (defScope (topS 25)) .none kV25 dc25 pm25 an25 cd25 ct25), sl25⟩) (c25 : PySem.W.codeIn K cd25 "_law_objects" = true) (k25 : PySem.W.keepIn K (.ref f25) = true)
    (a26 : PySem.W.nsIn K mainGlobals "_law_address" = some (some (.ref f26))) (l26 : K.lookup f26 = some ⟨oc26, od26, .func (PySem.W.fnOf "_law_address" "_law_address" (defArgs (topS 26)) (defBody (topS 26)) (defScope (topS 26)) .none kV26 dc26 pm26 an26 cd26 ct26), sl26⟩) (c26 : PySem.W.codeIn K cd26 "_law_address" = true) (k26 : PySem.W.keepIn K (.ref f26) = true)
    (a27 : PySem.W.nsIn K mainGlobals "_law_addressed" = some (some (.ref f27))) (l27 : K.lookup f27 = some ⟨oc27, od27, .func (PySem.W.fnOf "_law_addressed" "_law_addressed" (defArgs (topS 27)) (defBody (topS 27)) (defScope (topS 27)) .none kV27 dc27 pm27 an27 cd27 ct27), sl27⟩) (c27 : PySem.W.codeIn K cd27 "_law_addressed" = true) (k27 : PySem.W.keepIn K (.ref f27) = true)
    (a28 : PySem.W.nsIn K mainGlobals "_law_cells" = some (some (.ref f28))) (l28 : K.lookup f28 = some ⟨oc28, od28, .func (PySem.W.fnOf "_law_cells" "_law_cells" (defArgs (topS 28)) (defBody (topS 28)) (defScope (topS 28)) .none kV28 dc28 pm28 an28 cd28 ct28), sl28⟩) (c28 : PySem.W.codeIn K cd28 "_law_cells" = true) (k28 : PySem.W.keepIn K (.ref f28) = true)
    (a29 : PySem.W.nsIn K mainGlobals "_law_face" = some (some (.ref f29))) (l29 : K.lookup f29 = some ⟨oc29, od29, .func (PySem.W.fnOf "_law_face" "_law_face" (defArgs (topS 29)) (defBody (topS 29)) (defScope (topS 29)) .none kV29 dc29 pm29 an29 cd29 ct29), sl29⟩) (c29 : PySem.W.codeIn K cd29 "_law_face" = true) (k29 : PySem.W.keepIn K (.ref f29) = true)
    (a30 : PySem.W.nsIn K mainGlobals "_law_fixed" = some (some (.ref f30))) (l30 : K.lookup f30 = some ⟨oc30, od30, .func (PySem.W.fnOf "_law_fixed" "_law_fixed" (defArgs (topS 30)) (defBody (topS 30)) (defScope (topS 30)) .none kV30 dc30 pm30 an30 cd30 ct30), sl30⟩) (c30 : PySem.W.codeIn K cd30 "_law_fixed" = true) (k30 : PySem.W.keepIn K (.ref f30) = true)
    (a31 : PySem.W.nsIn K mainGlobals "_law_near" = some (some (.ref f31))) (l31 : K.lookup f31 = some ⟨oc31, od31, .func (PySem.W.fnOf "_law_near" "_law_near" (defArgs (topS 31)) (defBody (topS 31)) (defScope (topS 31)) .none kV31 dc31 pm31 an31 cd31 ct31), sl31⟩) (c31 : PySem.W.codeIn K cd31 "_law_near" = true) (k31 : PySem.W.keepIn K (.ref f31) = true)
    (a32 : PySem.W.nsIn K mainGlobals "_law_right" = some (some (.ref f32))) (l32 : K.lookup f32 = some ⟨oc32, od32, .func (PySem.W.fnOf "_law_right" "_law_right" (defArgs (topS 32)) (defBody (topS 32)) (defScope (topS 32)) .none kV32 dc32 pm32 an32 cd32 ct32), sl32⟩) (c32 : PySem.W.codeIn K cd32 "_law_right" = true) (k32 : PySem.W.keepIn K (.ref f32) = true)
    (a33 : PySem.W.nsIn K mainGlobals "law" = some (some (.ref f33))) (l33 : K.lookup f33 = some ⟨oc33, od33, .func (PySem.W.fnOf "law" "law" (defArgs (topS 33)) (defBody (topS 33)) (defScope (topS 33)) .none kV33 dc33 pm33 an33 cd33 ct33), sl33⟩) (c33 : PySem.W.codeIn K cd33 "law" = true) (k33 : PySem.W.keepIn K (.ref f33) = true)
    (aL : PySem.W.nsIn K mainGlobals "LONGEST_WORD" = some (some (.int 8 tL))) (z0 : PySem.W.nsIn K mainGlobals "isinstance" = some none) (z1 : PySem.W.nsIn K mainGlobals "int" = some none) (z2 : PySem.W.nsIn K mainGlobals "bool" = some none) (z3 : PySem.W.nsIn K mainGlobals "str" = some none) (z4 : PySem.W.nsIn K mainGlobals "tuple" = some none) (z5 : PySem.W.nsIn K mainGlobals "list" = some none) (z6 : PySem.W.nsIn K mainGlobals "len" = some none) (z7 : PySem.W.nsIn K mainGlobals "all" = some none) (z8 : PySem.W.nsIn K mainGlobals "zip" = some none) (z9 : PySem.W.nsIn K mainGlobals "range" = some none) (z10 : PySem.W.nsIn K mainGlobals "ord" = some none) (z11 : PySem.W.nsIn K mainGlobals "sorted" = some none) (z12 : PySem.W.nsIn K mainGlobals "set" = some none) (z13 : PySem.W.nsIn K mainGlobals "repr" = some none) (z14 : PySem.W.nsIn K mainGlobals "dict" = some none) (z15 : PySem.W.nsIn K mainGlobals "min" = some none) (z16 : PySem.W.nsIn K mainGlobals "max" = some none) :
    ∃ fd : FuncData, (∀ (s : Shared) (v : Value), BindsTo s fd ⟨[v], []⟩ [("_law_script", v)]) ∧ ∀ base : Heap, K.In base → base.Ns mainGlobals mg → FnG l.prog w K mg base 8 fa fd ["_law_script"] (spLaw K) := by
  have e := hfa.symm.trans (PySem.W.mg_of X G a33)
  cases e
  have B : Bt mg := ⟨PySem.W.mg_none_of X G z0, PySem.W.mg_none_of X G z1, PySem.W.mg_none_of X G z2, PySem.W.mg_none_of X G z3, PySem.W.mg_none_of X G z4, PySem.W.mg_none_of X G z5, PySem.W.mg_none_of X G z6, PySem.W.mg_none_of X G z7, PySem.W.mg_none_of X G z8, PySem.W.mg_none_of X G z9, PySem.W.mg_none_of X G z10, PySem.W.mg_none_of X G z11, PySem.W.mg_none_of X G z12, PySem.W.mg_none_of X G z13⟩
  have bD : mg "dict" = none := PySem.W.mg_none_of X G z14
  have bMin : mg "min" = none := PySem.W.mg_none_of X G z15
  have bMax : mg "max" = none := PySem.W.mg_none_of X G z16
  have F2 := fun_mk (st := topS 2) l2 c2 k2
  have D2 : Df K mg "is_number" (topS 2) ["thing"] f2 _ := ⟨F2, F2.binds (ps := ["thing"]) fun _ _ _ _ _ _ us hl => match us, hl with | [_], _ => rfl, PySem.W.mg_of X G a2⟩
  have F3 := fun_mk (st := topS 3) l3 c3 k3
  have D3 : Df K mg "is_word" (topS 3) ["thing"] f3 _ := ⟨F3, F3.binds (ps := ["thing"]) fun _ _ _ _ _ _ us hl => match us, hl with | [_], _ => rfl, PySem.W.mg_of X G a3⟩
  have F4 := fun_mk (st := topS 4) l4 c4 k4
  have D4 : Df K mg "is_operand" (topS 4) ["thing"] f4 _ := ⟨F4, F4.binds (ps := ["thing"]) fun _ _ _ _ _ _ us hl => match us, hl with | [_], _ => rfl, PySem.W.mg_of X G a4⟩
  have F6 := fun_mk (st := topS 6) l6 c6 k6
  have D6 : Df K mg "cells_in" (topS 6) ["code"] f6 _ := ⟨F6, F6.binds (ps := ["code"]) fun _ _ _ _ _ _ us hl => match us, hl with | [_], _ => rfl, PySem.W.mg_of X G a6⟩
  have F7 := fun_mk (st := topS 7) l7 c7 k7
  have D7 : Df K mg "can_be_within" (topS 7) ["operand", "many"] f7 _ := ⟨F7, F7.binds (ps := ["operand", "many"]) fun _ _ _ _ _ _ us hl => match us, hl with | [_, _], _ => rfl, PySem.W.mg_of X G a7⟩
  have F8 := fun_mk (st := topS 8) l8 c8 k8
  have D8 : Df K mg "are_unlike_objects" (topS 8) ["code", "thing"] f8 _ := ⟨F8, F8.binds (ps := ["code", "thing"]) fun _ _ _ _ _ _ us hl => match us, hl with | [_, _], _ => rfl, PySem.W.mg_of X G a8⟩
  have F9 := fun_mk (st := topS 9) l9 c9 k9
  have D9 : Df K mg "is_address" (topS 9) ["code", "thing"] f9 _ := ⟨F9, F9.binds (ps := ["code", "thing"]) fun _ _ _ _ _ _ us hl => match us, hl with | [_, _], _ => rfl, PySem.W.mg_of X G a9⟩
  have F10 := fun_mk (st := topS 10) l10 c10 k10
  have D10 : Df K mg "choices" (topS 10) ["operand", "many"] f10 _ := ⟨F10, F10.binds (ps := ["operand", "many"]) fun _ _ _ _ _ _ us hl => match us, hl with | [_, _], _ => rfl, PySem.W.mg_of X G a10⟩
  have F11 := fun_mk (st := topS 11) l11 c11 k11
  have D11 : Df K mg "face" (topS 11) ["code", "address"] f11 _ := ⟨F11, F11.binds (ps := ["code", "address"]) fun _ _ _ _ _ _ us hl => match us, hl with | [_, _], _ => rfl, PySem.W.mg_of X G a11⟩
  have F12 := fun_mk (st := topS 12) l12 c12 k12
  have D12 : Df K mg "is_sure" (topS 12) ["code", "address"] f12 _ := ⟨F12, F12.binds (ps := ["code", "address"]) fun _ _ _ _ _ _ us hl => match us, hl with | [_, _], _ => rfl, PySem.W.mg_of X G a12⟩
  have F13 := fun_mk (st := topS 13) l13 c13 k13
  have D13 : Df K mg "can_fault" (topS 13) ["address"] f13 _ := ⟨F13, F13.binds (ps := ["address"]) fun _ _ _ _ _ _ us hl => match us, hl with | [_], _ => rfl, PySem.W.mg_of X G a13⟩
  have F15 := fun_mk (st := topS 15) l15 c15 k15
  have D15 : Df K mg "_law_feed" (topS 15) ["_law_script"] f15 _ := ⟨F15, F15.binds (ps := ["_law_script"]) fun _ _ _ _ _ _ us hl => match us, hl with | [_], _ => rfl, PySem.W.mg_of X G a15⟩
  have F16 := fun_mk (st := topS 16) l16 c16 k16
  have D16 : Df K mg "_law_draw" (topS 16) ["_law_feed_here", "_law_many"] f16 _ := ⟨F16, F16.binds (ps := ["_law_feed_here", "_law_many"]) fun _ _ _ _ _ _ us hl => match us, hl with | [_, _], _ => rfl, PySem.W.mg_of X G a16⟩
  have F17 := fun_mk (st := topS 17) l17 c17 k17
  have D17 : Df K mg "_law_after" (topS 17) ["_law_word_here"] f17 _ := ⟨F17, F17.binds (ps := ["_law_word_here"]) fun _ _ _ _ _ _ us hl => match us, hl with | [_], _ => rfl, PySem.W.mg_of X G a17⟩
  have F18 := fun_mk (st := topS 18) l18 c18 k18
  have D18 : Df K mg "_law_word" (topS 18) ["_law_feed_here", "_law_found"] f18 _ := ⟨F18, F18.binds (ps := ["_law_feed_here", "_law_found"]) fun _ _ _ _ _ _ us hl => match us, hl with | [_, _], _ => rfl, PySem.W.mg_of X G a18⟩
  have F19 := fun_mk (st := topS 19) l19 c19 k19
  have D19 : Df K mg "_law_bend" (topS 19) ["_law_feed_here", "_law_thing", "_law_odd_here"] f19 _ := ⟨F19, F19.binds (ps := ["_law_feed_here", "_law_thing", "_law_odd_here"]) fun _ _ _ _ _ _ us hl => match us, hl with | [_, _, _], _ => rfl, PySem.W.mg_of X G a19⟩
  have F20 := fun_mk (st := topS 20) l20 c20 k20
  have D20 : Df K mg "_law_odd" (topS 20) [] f20 _ := ⟨F20, F20.binds (ps := []) fun _ _ _ _ _ _ us hl => match us, hl with | [], _ => rfl, PySem.W.mg_of X G a20⟩
  have F21 := fun_mk (st := topS 21) l21 c21 k21
  have D21 : Df K mg "_law_same" (topS 21) ["_law_told", "_law_wanted"] f21 _ := ⟨F21, F21.binds (ps := ["_law_told", "_law_wanted"]) fun _ _ _ _ _ _ us hl => match us, hl with | [_, _], _ => rfl, PySem.W.mg_of X G a21⟩
  have F22 := fun_mk (st := topS 22) l22 c22 k22
  have D22 : Df K mg "_law_number" (topS 22) ["_law_thing"] f22 _ := ⟨F22, F22.binds (ps := ["_law_thing"]) fun _ _ _ _ _ _ us hl => match us, hl with | [_], _ => rfl, PySem.W.mg_of X G a22⟩
  have F23 := fun_mk (st := topS 23) l23 c23 k23
  have D23 : Df K mg "_law_worded" (topS 23) ["_law_thing"] f23 _ := ⟨F23, F23.binds (ps := ["_law_thing"]) fun _ _ _ _ _ _ us hl => match us, hl with | [_], _ => rfl, PySem.W.mg_of X G a23⟩
  have F24 := fun_mk (st := topS 24) l24 c24 k24
  have D24 : Df K mg "_law_operanded" (topS 24) ["_law_thing"] f24 _ := ⟨F24, F24.binds (ps := ["_law_thing"]) fun _ _ _ _ _ _ us hl => match us, hl with | [_], _ => rfl, PySem.W.mg_of X G a24⟩
  have F25 := fun_mk (st := topS 25) l25 c25 k25
  have D25 : Df K mg "_law_objects" (topS 25) ["_law_feed_here"] f25 _ := ⟨F25, F25.binds (ps := ["_law_feed_here"]) fun _ _ _ _ _ _ us hl => match us, hl with | [_], _ => rfl, PySem.W.mg_of X G a25⟩
  have F26 := fun_mk (st := topS 26) l26 c26 k26
  have D26 : Df K mg "_law_address" (topS 26) ["_law_feed_here", "_law_objects_here"] f26 _ := ⟨F26, F26.binds (ps := ["_law_feed_here", "_law_objects_here"]) fun _ _ _ _ _ _ us hl => match us, hl with | [_, _], _ => rfl, PySem.W.mg_of X G a26⟩
  have F27 := fun_mk (st := topS 27) l27 c27 k27
  have D27 : Df K mg "_law_addressed" (topS 27) ["_law_objects_here", "_law_thing"] f27 _ := ⟨F27, F27.binds (ps := ["_law_objects_here", "_law_thing"]) fun _ _ _ _ _ _ us hl => match us, hl with | [_, _], _ => rfl, PySem.W.mg_of X G a27⟩
  have F28 := fun_mk (st := topS 28) l28 c28 k28
  have D28 : Df K mg "_law_cells" (topS 28) ["_law_objects_here"] f28 _ := ⟨F28, F28.binds (ps := ["_law_objects_here"]) fun _ _ _ _ _ _ us hl => match us, hl with | [_], _ => rfl, PySem.W.mg_of X G a28⟩
  have F29 := fun_mk (st := topS 29) l29 c29 k29
  have D29 : Df K mg "_law_face" (topS 29) ["_law_objects_here", "_law_address_here"] f29 _ := ⟨F29, F29.binds (ps := ["_law_objects_here", "_law_address_here"]) fun _ _ _ _ _ _ us hl => match us, hl with | [_, _], _ => rfl, PySem.W.mg_of X G a29⟩
  have F30 := fun_mk (st := topS 30) l30 c30 k30
  have D30 : Df K mg "_law_fixed" (topS 30) ["_law_objects_here"] f30 _ := ⟨F30, F30.binds (ps := ["_law_objects_here"]) fun _ _ _ _ _ _ us hl => match us, hl with | [_], _ => rfl, PySem.W.mg_of X G a30⟩
  have F31 := fun_mk (st := topS 31) l31 c31 k31
  have D31 : Df K mg "_law_near" (topS 31) ["_law_feed_here", "_law_objects_here", "_law_address_here"] f31 _ := ⟨F31, F31.binds (ps := ["_law_feed_here", "_law_objects_here", "_law_address_here"]) fun _ _ _ _ _ _ us hl => match us, hl with | [_, _, _], _ => rfl, PySem.W.mg_of X G a31⟩
  have F32 := fun_mk (st := topS 32) l32 c32 k32
  have D32 : Df K mg "_law_right" (topS 32) ["_law_code", "_law_objects_here", "_law_address_here"] f32 _ := ⟨F32, F32.binds (ps := ["_law_code", "_law_objects_here", "_law_address_here"]) fun _ _ _ _ _ _ us hl => match us, hl with | [_, _, _], _ => rfl, PySem.W.mg_of X G a32⟩
  have F33 := fun_mk (st := topS 33) l33 c33 k33
  refine ⟨PySem.W.fnOf "law" "law" (defArgs (topS 33)) (defBody (topS 33)) (defScope (topS 33)) .none kV33 dc33 pm33 an33 cd33 ct33, fun s v => .of_eq rfl, fun base _ _ => ?_⟩
  have G2 := ok_num (P := l.prog) (w := w) (base := base) D2 B
  have G3 := ok_word (P := l.prog) (w := w) (base := base) D3 B ⟨_, PySem.W.mg_of X G aL⟩
  have G4 := ok_oper D4 D2 D3 G2 G3
  have G6 := ok_cells (P := l.prog) (w := w) (base := base) D6 B
  have G7 := ok_within D7 D3 G3
  have G8 := ok_unlike D8 D3 B bD G3
  have G9 := ok_isaddr D9 D8 D4 D7 B bD G8 G4 G7
  have G10 := ok_choices D10 D3 B G3
  have G11 := ok_face D11 D10 B bD G10
  have G12 := ok_sure D12 D11 B G11
  have G13 := ok_fault D13 D3 G3
  have G15 := ok_feed (P := l.prog) (w := w) (base := base) D15
  have G16 := ok_draw (P := l.prog) (w := w) (base := base) D16 B
  have G17 := ok_after (P := l.prog) (w := w) (base := base) D17 B
  have G18 := ok_lw D18 D16 D17 B G16 G17
  have G19 := ok_bend D19 D16 B G16
  have G20 := ok_odd (P := l.prog) (w := w) (base := base) D20
  have G21 := ok_same (P := l.prog) (w := w) (base := base) D21
  have G22 := ok_lnum (P := l.prog) (w := w) (base := base) D22 B
  have G23 := ok_lword (P := l.prog) (w := w) (base := base) D23 B
  have G24 := ok_loper D24 D22 D23 G22 G23
  have G25 := ok_objsF D25 D16 D18 B G16 G18
  have G26 := ok_laddr D26 D16 B bD bMin G16
  have G27 := ok_addressed D27 D23 D24 B bMin G23 G24
  have G28 := ok_lcells (P := l.prog) (w := w) (base := base) D28 B
  have G29 := ok_lface D29 D28 B G28
  have G30 := ok_fixed (P := l.prog) (w := w) (base := base) D30
  have G31 := ok_near D31 D19 D20 B bMax (G19 3) (G19 5) G20
  have G32 := ok_right D32 B D29 G29 D9 G9 D11 G11 D12 G12 D13 G13
  exact ok_law F33 B D15 G15 D25 G25 D30 G30 D26 G26 D31 G31 D21 G21 D9 G9 D27 G27 D6 G6 D28 G28 D32 G32
theorem walk {l : PySem.W.OpenLaw} {q : Program} {loose : List Str} {XP : (Str → Option Value) → Heap → Prop} {YP : World → Heap → Prop} {d : DefRec} {K : Params → PySem.W.Frag} (hn : l.most = some 63) (hdf : d.params.defaults = [])
    (hY : ∀ (w : World) (h : Heap), YP w h → (K w.params).In h)
    (F : ∀ (w : World) (mg : Str → Option Value) (fa : Addr) (h : Heap), (K w.params).In h → h.Ns mainGlobals mg → mg d.name = some (.ref fa) →
      ∃ fd : FuncData, (∀ (s : Shared) (u : Value), BindsTo s fd ⟨[u], []⟩ [("_law_script", u)]) ∧ ∀ base : Heap, (K w.params).In base → base.Ns mainGlobals mg → FnG l.prog w (K w.params) mg base 8 fa fd ["_law_script"] (spLaw (K w.params))) :
    PySem.W.WalkO q loose XP YP l.row.toRowW d [] (fun f vs => PySem.call f vs) :=
  walkG (n := 63) (k := 8) (x := "_law_script") (sp := spLaw) hn (by decide) hdf ⟨rfl, by decide, by decide⟩ hY F (fun K H a ns hl _ hS => ⟨a, ns, rfl, hS, hl, fun _ => rfl⟩)
end Sw
open PySem PySem.W PyProof.Rows
set_option maxRecDepth 100000 in
set_option maxHeartbeats 0 in
theorem PySem.Challenge.cw_storeways_k02_addresses_holds : PySem.Challenge.rw_storeways_k02_addresses.Holds := by
  w_on; o_law; k_head; (case hw => w_witness2)
  k_fill
  refine Sw.walk (l := PySem.Challenge.rw_storeways_k02_addresses) rfl rfl (fun w h Y => PySem.W.kIn_of Y) ?F
  case F =>
    intro w mg fa h KX G hmg
    refine' Sw.all_mk KX G hmg ?a2 ?l2 ?c2 ?k2 ?a3 ?l3 ?c3 ?k3 ?a4 ?l4 ?c4 ?k4 ?a6 ?l6 ?c6 ?k6 ?a7 ?l7 ?c7 ?k7 ?a8 ?l8 ?c8 ?k8 ?a9 ?l9 ?c9 ?k9 ?a10 ?l10 ?c10 ?k10 ?a11 ?l11 ?c11 ?k11 ?a12 ?l12 ?c12 ?k12 ?a13 ?l13 ?c13 ?k13 ?a15 ?l15 ?c15 ?k15 ?a16 ?l16 ?c16 ?k16 ?a17 ?l17 ?c17 ?k17 ?a18 ?l18 ?c18 ?k18 ?a19 ?l19 ?c19 ?k19 ?a20 ?l20 ?c20 ?k20 ?a21 ?l21 ?c21 ?k21 ?a22 ?l22 ?c22 ?k22 ?a23 ?l23 ?c23 ?k23 ?a24 ?l24 ?c24 ?k24 ?a25 ?l25 ?c25 ?k25 ?a26 ?l26 ?c26 ?k26 ?a27 ?l27 ?c27 ?k27 ?a28 ?l28 ?c28 ?k28 ?a29 ?l29 ?c29 ?k29 ?a30 ?l30 ?c30 ?k30 ?a31 ?l31 ?c31 ?k31 ?a32 ?l32 ?c32 ?k32 ?a33 ?l33 ?c33 ?k33 ?aL ?z0 ?z1 ?z2 ?z3 ?z4 ?z5 ?z6 ?z7 ?z8 ?z9 ?z10 ?z11 ?z12 ?z13 ?z14 ?z15 ?z16
    (case a2 => k_is); (case l2 => k_is); (case c2 => k_is); (case k2 => k_is); (case a3 => k_is); (case l3 => k_is); (case c3 => k_is); (case k3 => k_is)
    (case a4 => k_is); (case l4 => k_is); (case c4 => k_is); (case k4 => k_is); (case a6 => k_is); (case l6 => k_is); (case c6 => k_is); (case k6 => k_is)
    (case a7 => k_is); (case l7 => k_is); (case c7 => k_is); (case k7 => k_is); (case a8 => k_is); (case l8 => k_is); (case c8 => k_is); (case k8 => k_is)
    (case a9 => k_is); (case l9 => k_is); (case c9 => k_is); (case k9 => k_is); (case a10 => k_is); (case l10 => k_is); (case c10 => k_is); (case k10 => k_is)
    (case a11 => k_is); (case l11 => k_is); (case c11 => k_is); (case k11 => k_is); (case a12 => k_is); (case l12 => k_is); (case c12 => k_is); (case k12 => k_is)
    (case a13 => k_is); (case l13 => k_is); (case c13 => k_is); (case k13 => k_is); (case a15 => k_is); (case l15 => k_is); (case c15 => k_is); (case k15 => k_is)
    (case a16 => k_is); (case l16 => k_is); (case c16 => k_is); (case k16 => k_is); (case a17 => k_is); (case l17 => k_is); (case c17 => k_is); (case k17 => k_is)
    (case a18 => k_is); (case l18 => k_is); (case c18 => k_is); (case k18 => k_is); (case a19 => k_is); (case l19 => k_is); (case c19 => k_is); (case k19 => k_is)
    (case a20 => k_is); (case l20 => k_is); (case c20 => k_is); (case k20 => k_is); (case a21 => k_is); (case l21 => k_is); (case c21 => k_is); (case k21 => k_is)
    (case a22 => k_is); (case l22 => k_is); (case c22 => k_is); (case k22 => k_is); (case a23 => k_is); (case l23 => k_is); (case c23 => k_is); (case k23 => k_is)
    (case a24 => k_is); (case l24 => k_is); (case c24 => k_is); (case k24 => k_is); (case a25 => k_is); (case l25 => k_is); (case c25 => k_is); (case k25 => k_is)
    (case a26 => k_is); (case l26 => k_is); (case c26 => k_is); (case k26 => k_is); (case a27 => k_is); (case l27 => k_is); (case c27 => k_is); (case k27 => k_is)
    (case a28 => k_is); (case l28 => k_is); (case c28 => k_is); (case k28 => k_is); (case a29 => k_is); (case l29 => k_is); (case c29 => k_is); (case k29 => k_is)
    (case a30 => k_is); (case l30 => k_is); (case c30 => k_is); (case k30 => k_is); (case a31 => k_is); (case l31 => k_is); (case c31 => k_is); (case k31 => k_is)
    (case a32 => k_is); (case l32 => k_is); (case c32 => k_is); (case k32 => k_is); (case a33 => k_is); (case l33 => k_is); (case c33 => k_is); (case k33 => k_is)
    (case aL => k_is); (case z0 => k_is); (case z1 => k_is); (case z2 => k_is); (case z3 => k_is); (case z4 => k_is); (case z5 => k_is); (case z6 => k_is)
    (case z7 => k_is); (case z8 => k_is); (case z9 => k_is); (case z10 => k_is); (case z11 => k_is); (case z12 => k_is); (case z13 => k_is); (case z14 => k_is)
    (case z15 => k_is); (case z16 => k_is)
