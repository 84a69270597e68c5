import PyProof.Rows.All
import Wide.All
import OpenK.AllK
import Wide.FinOn
import HandS.ForMost
import HandS.IsInst
import HandS.EndBits
import PyProof.ReprRoads
import HandS.Walk
import HandS.TupAny
import HandS.Style
import HandS.Zip
import HandS.Set
import HandS.SetFor
import PyProof.Rows.SortShellAny
import HandS.Codes
import HandS.Flow
import HandS.StrMore
import PyProof.StrBlock2
import HandS.Wide
import PyProof.Rows.IntBool
import HandS.More
import HandS.Strs
import HandS.Iter
import KE.GoesEnum
import HandS.Evl
import PyProof.P3Eq
import HandS.AnyAll
import HandS.ExcInit
import HandS.ExcField
import HandS.TryOnly
import HandS.WordsExc
import KE.KExcIs
import HandS.Dict
import HandS.Conv
import HandS.ExcIs
import PySem.Challenge.RW_storeways_k14_fences_judged
set_option Elab.async false
set_option linter.all false
set_option maxRecDepth 100000
set_option maxHeartbeats 4000000
namespace Sw
open PySem PySem.Spec PyProof.Rows L2

/-- repr of data at a place, where no repr is under way -/
def rRepr (K : PySem.W.Frag) : List V → Hp → VK → Prop := fun xs H Q =>
  ∃ (a : Addr) (d : PyData), xs = [.ref a] ∧ Dp K H (.ref a) d ∧ d.showable = true ∧ d.hasDict = false ∧ d.depth ≤ 60 ∧ d.shown.length ≤ sizeLine ∧ Q (.str d.shown) H
theorem call_repr {X : Cx} (hg : X.A.guards = some []) (hu : X.A.units + 64 < cLine) : CallR X (.builtin "repr") (rRepr X.K) := by
  intro pins s σ H xs us Q I r h
  obtain ⟨a, d, rfl, hd, h1, h2, h3, h4, q⟩ := h
  cases r with
  | cons r0 r1 =>
    cases r1
    cases (show _ = Value.ref a from r0)
    obtain ⟨as, rd⟩ := Dp.reads I d _ _ hd rfl
    exact repr_of_reads' rd h1 (PyData.noDict_hsm h2) hg (by omega) (fun b o e => e) (fun h' u tk k => ⟨.str d.shown, H, I.kept k, ⟨u, rfl⟩, q⟩) h4

/-- a promise that is kept where no repr is under way -/
structure FnG (P : Program) (w : World) (K : PySem.W.Frag) (mg : Str → Option Value) (base : Heap) (k : Nat) (f : Addr) (fd : FuncData) (ps : List Str) (sp : Sp) : Prop where
  size : ∀ vs H Q E, sp vs H Q E → vs.length = ps.length
  goes : ∀ (A : Around) (outer : List Env) (s : Shared) (H : Hp) (args : Args) (us : List Value) (vs : List V) (Q : VK) (E : XK), A.guards = some [] →
    Room k A → Env0 P w K mg base A outer s H → BindsTo s fd args (ps.zip us) → Vals vs us → sp vs H Q E → codeAny (model P w) A (.call (.ref f) args) (CR CX0 outer P w H s Q E) s
section
variable {P : Program} {w : World} {K : PySem.W.Frag} {mg : Str → Option Value} {base : Heap}
theorem fun_okG {x qual : Str} {st : Stmt} {f : Addr} {fd : FuncData} {N ps : List Str} {k : Nat} {sp : Sp} (F : Fun K x qual st f fd) (S : FnScope N ps (defScope st))
    (len : ∀ vs H Q E, sp vs H Q E → vs.length = ps.length)
    (hb : ∀ (cdv : Value) (A : Around) (outer : List Env) (s : Shared) (H : Hp) (vs : List V) (Q : VK) (E : XK), A.guards = some [] → Room k (A.deeper (envOfC qual (defScope st) s.heap.objs.size f cdv)) → sp vs H Q E →
      ∃ t, PSs (cxOf CX0 P w K mg base N qual (defScope st) f cdv A outer s H E).nox (defBody st) t ∧
        t { nx := fun _ H' => Q .non H', rt := Q } (start N vs) H) : FnG P w K mg base (k + 1) f fd ps sp := by
  refine ⟨len, fun A outer s H args us vs Q E hg => ?_⟩
  obtain ⟨oc, od, kV, doc, pm, an, cdv, ct, osl, rfl, lk, hcd⟩ := F.ex
  intro hr e0 bd r hsp
  obtain ⟨t, ht0, hq⟩ := hb cdv A outer s H vs Q E hg (hr.deeper _) hsp
  have ht := ht0.nox
  have kin : K.In s.heap := e0.mod.kin.keeps fun b o e => (e0.bs b o e).1
  refine codeAny_call_function hr.depth (kin _ _ lk) rfl S.co S.gen rfl (PySem.W.codeRec_of kin hcd) (bd _ _ _ _ ?_)
  refine wpAny_newFunctionEnv_cells S.kind ?_ fun env he s1 x => ?_
  · rintro ⟨n, v⟩ hy
    rcases S.par n (List.of_mem_zip hy).1 with q | q
    · exact .inl q
    · exact .inr ⟨q, PySem.W.cellsFrom_some _ _ _ (.inl q)⟩
  · subst he
    refine ⟨(e0.mod.nolimit.keeps fun b o e => (e0.bs b o e).1).keeps x.toInCall.keep, codeAny_func ?_⟩
    refine wpAny_mono (ht.run [] s1 (start N vs) H _ (inv_start S hr.hd e0 (len _ _ _ _ hsp) r x) hq) (fun fl s' hs => ?_) fun e s' hs => hs
    cases fl with
    | ret u =>
      obtain ⟨v, σ', H', J, rv, q⟩ := hs
      exact ⟨v, H', J.os, J.bare, J.base, J.hok, rv, q⟩
    | next =>
      obtain ⟨σ', H', J, q⟩ := hs
      exact ⟨V.non, H', J.os, J.bare, J.base, J.hok, rfl, q⟩
    | brk =>
      obtain ⟨_, _, _, q⟩ := hs
      exact q.elim
    | cont =>
      obtain ⟨_, _, _, q⟩ := hs
      exact q.elim
end
/-- the law's own call, from the promise of its def: the script is locked, or it is one of the module's own objects -/
theorem law_goes {P : Program} {w : World} {K : PySem.W.Frag} {mg mb : Str → Option Value} {k : Nat} {fa a : Addr} {fd : FuncData} {x : Str} {sp : Sp} {s : Shared} {vs : List Value} {ns : List Int}
    (kin : K.In s.heap) (g : s.heap.Ns mainGlobals mg) (b : s.heap.Ns builtinsNs mb) (hbb : ∀ y : Str, y ≠ "__name__" → mb y = bootBuiltins y) (nl : s.heap.NoLimit) (gn : s.gens = #[])
    (ha : s.heap.get? a = some { cls := .type "list", data := .seq vs.toArray }) (hi : IntsAre vs ns) (hl : ns.length ≤ sizeLine) (hr : Room k callerA)
    (F : ∀ base : Heap, K.In base → base.Ns mainGlobals mg → FnG P w K mg base k fa fd [x] sp) (bd : ∀ (s : Shared) (u : Value), BindsTo s fd ⟨[u], []⟩ [(x, u)])
    (hsp : ∀ H : Hp, SqL K H a (ns.map V.int) → sp [.ref a] H (fun v _ => v = .bl true) fun _ _ _ => False) :
    codeAny (model P w) callerA (.call (.ref fa) ⟨[.ref a], []⟩) (fun r s' => r = .ok (.ret (.bool true)) ∧ OldK s.heap s'.heap ∧ s'.os = s.os ∧ AllBare s'.gens) s := by
  have rv := vals_ints hi
  have step : ∀ H : Hp, SqL K H a (ns.map V.int) → HOk P w H s.heap → (∀ c u, H c = some u → c = a ∧ u = .frz { cls := .type "list", data := .seq vs.toArray } (.lst (ns.map V.int)) ∧ K.lookup a = none) →
      codeAny (model P w) callerA (.call (.ref fa) ⟨[.ref a], []⟩) (fun r s' => r = .ok (.ret (.bool true)) ∧ OldK s.heap s'.heap ∧ s'.os = s.os ∧ AllBare s'.gens) s := by
    intro H hS hok only
    have dictFree : ∀ {c : Addr} {o : Obj} {es : Array DictEntry} {ep : Nat}, s.heap.get? c = some o → o.data = .dict es ep → H c = none := by
      intro c o es ep e d
      cases q : H c with
      | none => rfl
      | some u =>
        obtain ⟨rfl, _, _⟩ := only c u q
        rw [ha] at e
        cases e
        cases d
    have ns2 : ∀ {c : Addr} {m : Str → Option Value}, s.heap.Ns c m → (hidT s.heap H).Ns c m := by
      rintro c m ⟨o, es, ep, e, d, r⟩
      exact ⟨o, es, ep, hidT_get e (dictFree e d), d, r⟩
    have kb : K.In (hidT s.heap H) := by
      intro c o e
      refine hidT_get (kin c o e) ?_
      cases q : H c with
      | none => rfl
      | some u =>
        obtain ⟨rfl, _, z⟩ := only c u q
        rw [z] at e
        cases e
    have md : Mod K mg (hidT s.heap H) := ⟨kb, ns2 g, ⟨mb, ns2 b, hbb⟩, by
      obtain ⟨mc, h1, h2⟩ := nl
      exact ⟨mc, ns2 h1, h2⟩⟩
    have e0 : Env0 P w K mg (hidT s.heap H) callerA [] s H := ⟨rfl, md, fun c o e => of_hidT e, Nat.le_of_eq (hidT_size _ _), trivial, fun c hc => (nomatch hc), hok, .of_eq gn⟩
    refine codeAny_mono ((F _ kb (ns2 g)).goes callerA [] s H ⟨[.ref a], []⟩ [.ref a] [.ref a] _ _ rfl hr e0 (bd s (.ref a)) (.cons rfl .nil) (hsp H hS)) ?_
    intro r s' h
    cases r with
    | error e => exact h.elim
    | ok fl =>
      cases fl with
      | ret u =>
        obtain ⟨v, H', os, bare, un, hok', r', q⟩ := h
        cases (show v = .bl true from q)
        cases (show u = Value.bool true from r')
        refine ⟨rfl, OldK.of_keep fun c o e => ?_, os, bare⟩
        cases q : H c with
        | none => exact un.keep c o e q (fun z => nomatch z) (fun z => nomatch z)
        | some u =>
          obtain ⟨rfl, rfl, _⟩ := only c u q
          obtain ⟨e2, _⟩ := hok' _ _ (un.frzs _ _ _ q)
          rw [ha] at e
          cases e
          exact e2
      | next => exact False.elim h
      | brk => exact False.elim h
      | cont => exact False.elim h
  cases hk : K.lookup a with
  | some o =>
    have e := kin a o hk
    rw [ha] at e
    cases e
    refine step (fun _ => none) (.inr ⟨_, vs.toArray, _, hk, rfl, rfl, rfl, ?_, by simpa using rv⟩) (fun c u z => nomatch z) (fun c u z => nomatch z)
    rw [List.size_toArray, hi.length]
    exact hl
  | none =>
    refine step (fun c => if c = a then some (.frz { cls := .type "list", data := .seq vs.toArray } (.lst (ns.map V.int))) else none) (.inl (.inr ⟨_, if_pos rfl⟩)) ?_ ?_
    · intro c u z
      by_cases hc : c = a
      · have z' := (if_pos hc).symm.trans z
        cases z'
        subst hc
        exact ⟨ha, by rw [List.length_map]; exact hl, vs, _, rv, ha⟩
      · have z' := (if_neg hc).symm.trans z
        cases z'
    · intro c u z
      by_cases hc : c = a
      · have z' := (if_pos hc).symm.trans z
        exact ⟨hc, (Option.some.inj z').symm, hk⟩
      · have z' := (if_neg hc).symm.trans z
        cases z'
/-- the goal that k_head leaves, from the promise of the law's def -/
theorem walkG {l : PySem.W.OpenLaw} {n k : Nat} {q : Program} {loose : List Str} {XP : (Str → Option Value) → Heap → Prop} {YP : World → Heap → Prop} {d : DefRec} {K : Params → PySem.W.Frag} {sp : PySem.W.Frag → Sp} {x : Str}
    (hn : l.most = some n) (hn2 : n ≤ sizeLine) (hdf : d.params.defaults = []) (hr : Room k callerA) (hY : ∀ (w : World) (h : Heap), YP w h → (K w.params).In h)
    (F : ∀ (w : World) (mg : Str → Option Value) (fa : Addr) (h : Heap), (K w.params).In h → h.Ns mainGlobals mg → mg d.name = some (.ref fa) →
      ∃ fd : FuncData, (∀ (s : Shared) (u : Value), BindsTo s fd ⟨[u], []⟩ [(x, u)]) ∧ ∀ base : Heap, (K w.params).In base → base.Ns mainGlobals mg → FnG l.prog w (K w.params) mg base k fa fd [x] (sp (K w.params)))
    (hsp : ∀ (K : PySem.W.Frag) (H : Hp) (a : Addr) (ns : List Int), ns.length ≤ n → (∀ z ∈ ns, Builtin.Int.intBits z ≤ 1048576) → SqL K H a (ns.map V.int) → sp K [.ref a] H (fun v _ => v = .bl true) fun _ _ _ => False) :
    PySem.W.WalkO q loose XP YP l.row.toRowW d [] (fun f vs => PySem.call f vs) := by
  refine Att.attach_callB hn hdf ?_
  intro w s₀ s₁ mg mb fa o pm cd doc a vs ns G Y ho hd hcd hmg hobj hints hlen hbits hg
  obtain ⟨fd, hb, hF⟩ := F w mg fa _ (hY w _ Y) G.T.g hmg
  exact law_goes (hY w _ Y) G.T.g G.T.b G.T.builtins G.T.nolimit hg hobj hints (Nat.le_trans hlen hn2) hr hF hb fun H hS => hsp _ H a ns hlen hbits hS
end Sw
set_option maxRecDepth 100000
set_option maxHeartbeats 4000000
namespace Sw
open PySem PySem.Spec PyProof.Rows L2

/-! ### heaps -/
theorem same_new {H : Hp} {p : Addr} {o : HO} (h : H p = none) : Same H (upd H p o) := fun b x e => by
  rw [upd_ne (ne_of_none e h)]
  exact e
theorem sameT {K : PySem.W.Frag} {H H' : Hp} {a : Addr} {xs : List V} (e : Same H H') (h : SqT K H a xs) : SqT K H' a xs := by
  rcases h with (h | ⟨o, h⟩) | h
  · exact .inl (.inl (e _ _ h))
  · exact .inl (.inr ⟨o, e _ _ h⟩)
  · exact .inr h
mutual
theorem Dp_same {K : PySem.W.Frag} {H H' : Hp} (e : Same H H') : ∀ {v : V} {d : PyData}, Dp K H v d → Dp K H' v d
  | _, _, .non => .non
  | _, _, .bl b => .bl b
  | _, _, .int i => .int i
  | _, _, .str x => .str x
  | _, _, .lst h r => .lst (e.seq h) (DpAll_same e r)
  | _, _, .tup h r => .tup (sameT e h) (DpAll_same e r)
theorem DpAll_same {K : PySem.W.Frag} {H H' : Hp} (e : Same H H') : ∀ {vs : List V} {ds : List PyData}, DpAll K H vs ds → DpAll K H' vs ds
  | _, _, .nil => .nil
  | _, _, .cons h r => .cons (Dp_same e h) (DpAll_same e r)
end
theorem DpAll_len {K : PySem.W.Frag} {H : Hp} : ∀ {vs : List V} {ds : List PyData}, DpAll K H vs ds → vs.length = ds.length
  | _, _, .nil => rfl
  | _, _, .cons _ r => by rw [List.length_cons, List.length_cons, DpAll_len r]
theorem DpAll_get {K : PySem.W.Frag} {H : Hp} : ∀ {vs : List V} {ds : List PyData} {i : Nat} {v : V}, DpAll K H vs ds → vs[i]? = some v → ∃ d, ds[i]? = some d ∧ Dp K H v d
  | _, _, _, _, .nil, e => by simp at e
  | _, _, 0, _, .cons h _, e => by simp at e; subst e; exact ⟨_, rfl, h⟩
  | _, _, i + 1, v, .cons _ r, e => by
    obtain ⟨d, h1, h2⟩ := DpAll_get (i := i) (v := v) r (by simpa using e)
    exact ⟨d, by simpa using h1, h2⟩
theorem DpAll_get' {K : PySem.W.Frag} {H : Hp} {vs : List V} {ds : List PyData} {i : Nat} {d : PyData} (h : DpAll K H vs ds) (e : ds[i]? = some d) : ∃ v, vs[i]? = some v ∧ Dp K H v d := by
  have hl := DpAll_len h
  obtain ⟨hi, _⟩ := List.getElem?_eq_some_iff.mp e
  have hv : i < vs.length := by omega
  obtain ⟨d', h1, h2⟩ := DpAll_get h (List.getElem?_eq_getElem hv)
  rw [e] at h1
  cases h1
  exact ⟨_, List.getElem?_eq_getElem hv, h2⟩
theorem DpAll_append {K : PySem.W.Frag} {H : Hp} : ∀ {vs us : List V} {ds es : List PyData}, DpAll K H vs ds → DpAll K H us es → DpAll K H (vs ++ us) (ds ++ es)
  | _, _, _, _, .nil, r => r
  | _, _, _, _, .cons h t, r => .cons h (DpAll_append t r)
theorem DpAll_of {K : PySem.W.Frag} {H : Hp} : ∀ {vs : List V} {ds : List PyData}, vs.length = ds.length → (∀ (i : Nat) v d, vs[i]? = some v → ds[i]? = some d → Dp K H v d) → DpAll K H vs ds
  | [], [], _, _ => .nil
  | v :: vs, d :: ds, hl, h => .cons (h 0 v d rfl rfl) (DpAll_of (by simpa using hl) fun i x y e1 e2 => h (i + 1) x y (by simpa using e1) (by simpa using e2))
  | [], _ :: _, hl, _ => by simp at hl
  | _ :: _, [], hl, _ => by simp at hl
theorem DpAll_strs {K : PySem.W.Frag} {H : Hp} : ∀ zs : List Str, DpAll K H (zs.map V.str) (zs.map PyData.str)
  | [] => .nil
  | z :: zs => .cons (.str z) (DpAll_strs zs)

/-! ### comprehensions over what stays: the tests and the items change nothing that stood -/
theorem lc_pure {J : It} {n : Nat} {G : Hp → Prop} {xs : List V} (w : Walk J n G (YAt xs)) {tt : TT} {te : TE} {j : Nat} {σ : L2.St} {H1 : Hp} {D : Addr} {Qd : Hp → Prop} (p : Nat → Bool) (f : Nat → V) (hD : H1 D = none)
    (hG : ∀ H, Same H1 H → G H) (hn : n < sizeLine)
    (ht : ∀ (i : Nat) x H (Q : Bool → Hp → Prop), i < n → xs[i]? = some x → Same H1 H → (∀ H', Same H H' → Q (p i) H') → tt ((wipe σ [j]).set j (some x)) H Q)
    (he : ∀ (i : Nat) x H (Q : VK), i < n → xs[i]? = some x → p i = true → Same H1 H → (∀ H', Same H H' → Q (f i) H') → te ((wipe σ [j]).set j (some x)) H Q)
    (hd : ∀ H', Same H1 H' → H' D = some (.lst (((List.range n).filter p).map f)) → Qd H') :
    ∃ W : Nat → Nat → Hp → Prop, (∃ m, W 0 m (upd H1 D (.lst []))) ∧ ∀ i m H, W i m H → (J.stop i H ∧ Qd H) ∨ (J.go i H ∧ ∃ Nx : Hp → Prop, (∀ H', Nx H' → ∃ m', m' < m ∧ W (i + 1) m' H') ∧
      ∀ x H', J.yld i H x H' → gName j x (wipe σ [j]) H' fun σ2 H2 => wipe σ2 [j] = wipe σ [j] ∧ tt σ2 H2 fun b H3 =>
        if b = true then te σ2 H3 fun y H4 => ∃ acc, H4 D = some (.lst acc) ∧ acc.length < sizeLine ∧ Nx (upd H4 D (.lst (acc ++ [y]))) else Nx H3) := by
  refine lc_it w (fun i H => Same H1 H ∧ H D = some (.lst (((List.range i).filter p).map f))) ⟨same_new hD, by rw [upd_same]; rfl⟩ (fun i H _ h => hG H h.1) ?_ (fun H h => hd H h.1 h.2)
  rintro i x H H' hi ⟨hs, hacc⟩ ⟨rfl, hx⟩
  refine ⟨?_, ?_⟩
  · show ((List.set (List.set σ j none) j (some x)).set j none) = List.set σ j none
    rw [List.set_set, List.set_set]
  have hr : (List.range (i + 1)).filter p = (List.range i).filter p ++ (if p i = true then [i] else []) := by
    rw [List.range_succ, List.filter_append]
    congr 1
    by_cases hp : p i = true <;> simp [hp]
  refine ht i x H' _ hi hx hs fun H2 h2 => ?_
  by_cases hp : p i = true
  · rw [hp]
    refine iteT ?_
    refine he i x H2 _ hi hx hp (hs.trans h2) fun H3 h3 => ?_
    have h3D := h3 _ _ (h2 _ _ hacc)
    refine ⟨_, h3D, ?_, ?_, ?_⟩
    · rw [List.length_map]
      have := List.length_filter_le p (List.range i)
      rw [List.length_range] at this
      omega
    · intro b o e
      rw [upd_ne (ne_of_none e hD)]
      exact h3 _ _ (h2 _ _ (hs _ _ e))
    · rw [upd_same, hr, if_pos hp, List.map_append]
      rfl
  · have hp' : p i = false := by simpa using hp
    rw [hp']
    refine iteF ?_
    refine ⟨hs.trans h2, ?_⟩
    rw [hr, if_neg hp, List.append_nil]
    exact h2 _ _ hacc
theorem range_all {n : Nat} {f : Nat → V} : ((List.range n).filter (fun _ => true)).map f = (List.range n).map f := by
  rw [List.filter_eq_self.mpr (by simp)]
/-- without tests -/
theorem lc_map {J : It} {n : Nat} {G : Hp → Prop} {xs : List V} (w : Walk J n G (YAt xs)) {te : TE} {j : Nat} {σ : L2.St} {H1 : Hp} {D : Addr} {Qd : Hp → Prop} (f : Nat → V) (hD : H1 D = none)
    (hG : ∀ H, Same H1 H → G H) (hn : n < sizeLine)
    (he : ∀ (i : Nat) x H (Q : VK), i < n → xs[i]? = some x → Same H1 H → (∀ H', Same H H' → Q (f i) H') → te ((wipe σ [j]).set j (some x)) H Q)
    (hd : ∀ H', Same H1 H' → H' D = some (.lst ((List.range n).map f)) → Qd H') :
    ∃ W : Nat → Nat → Hp → Prop, (∃ m, W 0 m (upd H1 D (.lst []))) ∧ ∀ i m H, W i m H → (J.stop i H ∧ Qd H) ∨ (J.go i H ∧ ∃ Nx : Hp → Prop, (∀ H', Nx H' → ∃ m', m' < m ∧ W (i + 1) m' H') ∧
      ∀ x H', J.yld i H x H' → gName j x (wipe σ [j]) H' fun σ2 H2 => wipe σ2 [j] = wipe σ [j] ∧ tYes σ2 H2 fun b H3 =>
        if b = true then te σ2 H3 fun y H4 => ∃ acc, H4 D = some (.lst acc) ∧ acc.length < sizeLine ∧ Nx (upd H4 D (.lst (acc ++ [y]))) else Nx H3) :=
  lc_pure w (tt := tYes) (fun _ => true) f hD hG hn (fun i x H Q _ _ _ q => q H (Same.refl H)) (fun i x H Q hi hx _ hs q => he i x H Q hi hx hs q) fun H' hs h => hd H' hs (by rw [h, range_all])
/-- a text's signs as its walk's items -/
theorem walk_signs {z : Str} : Walk (Its z) z.cps.size (fun _ => True) (YAt (z.cps.toList.map fun c => V.str ⟨#[c]⟩)) := by
  refine ⟨walk_str.goes, walk_str.stops, fun i H x H' hi hg y => ?_⟩
  obtain ⟨rfl, c, hc, rfl⟩ := walk_str.yields i H x H' hi hg y
  refine ⟨rfl, ?_⟩
  rw [List.getElem?_map, Array.getElem?_toList, hc]
  rfl
end Sw
set_option maxRecDepth 100000
set_option maxHeartbeats 4000000
namespace Sw
open PySem PySem.Spec PyProof.Rows L2

/-! ### how large data are -/
mutual
/-- leaves: ints at most M, texts of ASCII; no dict -/
def leaf (M : Nat) : PyData → Bool
  | .none | .bool _ => true
  | .int i => decide (i.natAbs ≤ M)
  | .str x => x.cps.toList.all (fun c => decide (c < 128))
  | .list xs | .tuple xs => leafAll M xs
  | .dict _ => false
def leafAll (M : Nat) : List PyData → Bool
  | [] => true
  | x :: xs => leaf M x && leafAll M xs
end
mutual
/-- no list or tuple in it is longer than l -/
def lens (l : Nat) : PyData → Bool
  | .none | .bool _ | .int _ | .str _ => true
  | .list xs | .tuple xs => decide (xs.length ≤ l) && lensAll l xs
  | .dict _ => false
def lensAll (l : Nat) : List PyData → Bool
  | [] => true
  | x :: xs => lens l x && lensAll l xs
end
mutual
/-- at least as much as its text is long -/
def wt : PyData → Nat
  | .none | .bool _ => 5
  | .int _ => 250
  | .str x => 10 * x.length + 5
  | .list xs | .tuple xs => wtAll xs + 5
  | .dict _ => 0
def wtAll : List PyData → Nat
  | [] => 0
  | x :: xs => wt x + 2 + wtAll xs
end
theorem leaf_str {M : Nat} {x : Str} : leaf M (.str x) = true ↔ ∀ c ∈ x.cps.toList, c < 128 := by
  simp only [leaf, List.all_eq_true, decide_eq_true_eq]
theorem leafAll_iff {M : Nat} : ∀ {xs : List PyData}, leafAll M xs = true ↔ ∀ x ∈ xs, leaf M x = true
  | [] => by simp [leafAll]
  | x :: xs => by simp [leafAll, leafAll_iff (xs := xs)]
theorem lensAll_iff {l : Nat} : ∀ {xs : List PyData}, lensAll l xs = true ↔ ∀ x ∈ xs, lens l x = true
  | [] => by simp [lensAll]
  | x :: xs => by simp [lensAll, lensAll_iff (xs := xs)]
theorem wtAll_append : ∀ xs ys : List PyData, wtAll (xs ++ ys) = wtAll xs + wtAll ys
  | [], ys => by simp [wtAll]
  | x :: xs, ys => by simp [wtAll, wtAll_append xs ys]; omega
theorem wt_mem : ∀ {xs : List PyData} {x : PyData}, x ∈ xs → wt x + 2 ≤ wtAll xs
  | y :: xs, x, h => by
    rcases List.mem_cons.mp h with rfl | h
    · simp [wtAll]
    · have := wt_mem h
      simp [wtAll]; omega
theorem wtAll_take (xs : List PyData) (k : Nat) : wtAll (xs.take k) ≤ wtAll xs := by
  have h := wtAll_append (xs.take k) (xs.drop k)
  rw [List.take_append_drop] at h
  omega
theorem wtAll_drop (xs : List PyData) (k : Nat) : wtAll (xs.drop k) ≤ wtAll xs := by
  have h := wtAll_append (xs.take k) (xs.drop k)
  rw [List.take_append_drop] at h
  omega
theorem depthAll_iff {n : Nat} : ∀ {xs : List PyData}, PyData.depthAll xs ≤ n ↔ ∀ x ∈ xs, x.depth ≤ n
  | [] => by simp [PyData.depthAll]
  | x :: xs => by simp [PyData.depthAll, depthAll_iff (xs := xs), Nat.max_le]
theorem depth_tuple {n : Nat} {xs : List PyData} : (PyData.tuple xs).depth ≤ n + 1 ↔ ∀ x ∈ xs, x.depth ≤ n := by
  simp [PyData.depth, depthAll_iff]
theorem depth_list {n : Nat} {xs : List PyData} : (PyData.list xs).depth ≤ n + 1 ↔ ∀ x ∈ xs, x.depth ≤ n := by
  simp [PyData.depth, depthAll_iff]

mutual
theorem leaf_noDict {M : Nat} : ∀ d : PyData, leaf M d = true → d.hasDict = false
  | .none, _ => by simp [PyData.hasDict]
  | .bool _, _ => by simp [PyData.hasDict]
  | .int _, _ => by simp [PyData.hasDict]
  | .str _, _ => by simp [PyData.hasDict]
  | .list xs, h => by simpa [PyData.hasDict] using leafAll_noDict xs (by simpa [leaf] using h)
  | .tuple xs, h => by simpa [PyData.hasDict] using leafAll_noDict xs (by simpa [leaf] using h)
  | .dict _, h => by simp [leaf] at h
theorem leafAll_noDict {M : Nat} : ∀ xs : List PyData, leafAll M xs = true → PyData.hasDictAll xs = false
  | [], _ => by simp [PyData.hasDictAll]
  | x :: xs, h => by
    have h' : leaf M x = true ∧ leafAll M xs = true := by simpa [leafAll] using h
    simp [PyData.hasDictAll, leaf_noDict x h'.1, leafAll_noDict xs h'.2]
end
mutual
theorem leaf_canLay {M : Nat} : ∀ d : PyData, leaf M d = true → d.canLay0 = true
  | .none, _ => by simp [PyData.canLay0]
  | .bool _, _ => by simp [PyData.canLay0]
  | .int _, _ => by simp [PyData.canLay0]
  | .str x, h => by
    have h' := leaf_str.mp h
    simp only [PyData.canLay0, PyData.strOk, Array.all_eq_true_iff_forall_mem, decide_eq_true_eq]
    intro c hc
    have := h' c (by simpa using hc)
    omega
  | .list xs, h => by simpa [PyData.canLay0] using leafAll_canLay xs (by simpa [leaf] using h)
  | .tuple xs, h => by simpa [PyData.canLay0] using leafAll_canLay xs (by simpa [leaf] using h)
  | .dict _, h => by simp [leaf] at h
theorem leafAll_canLay {M : Nat} : ∀ xs : List PyData, leafAll M xs = true → PyData.canLayAll0 xs = true
  | [], _ => by simp [PyData.canLayAll0]
  | x :: xs, h => by
    have h' : leaf M x = true ∧ leafAll M xs = true := by simpa [leafAll] using h
    simp [PyData.canLayAll0, leaf_canLay x h'.1, leafAll_canLay xs h'.2]
end
mutual
theorem leaf_shows {M : Nat} (hM : M < 2 ^ 1920) : ∀ d : PyData, leaf M d = true → d.showable = true
  | .none, _ => by simp [PyData.showable]
  | .bool _, _ => by simp [PyData.showable]
  | .int i, h => by
    have h' : i.natAbs ≤ M := by simpa [leaf] using h
    simp only [PyData.showable, decide_eq_true_eq]
    exact log2_small (Nat.lt_of_le_of_lt h' hM)
  | .str x, h => by simp [PyData.showable]
  | .list xs, h => by simpa [PyData.showable] using leafAll_shows hM xs (by simpa [leaf] using h)
  | .tuple xs, h => by simpa [PyData.showable] using leafAll_shows hM xs (by simpa [leaf] using h)
  | .dict _, h => by simp [leaf] at h
theorem leafAll_shows {M : Nat} (hM : M < 2 ^ 1920) : ∀ xs : List PyData, leafAll M xs = true → PyData.showableAll xs = true
  | [], _ => by simp [PyData.showableAll]
  | x :: xs, h => by
    have h' : leaf M x = true ∧ leafAll M xs = true := by simpa [leafAll] using h
    simp [PyData.showableAll, leaf_shows hM x h'.1, leafAll_shows hM xs h'.2]
end
mutual
theorem shown_wt {M : Nat} (hM : M < 10 ^ 240) : ∀ d : PyData, leaf M d = true → d.shown.length ≤ wt d
  | .none, _ => by simp only [PyData.shown, wt]; decide +kernel
  | .bool b, _ => by cases b <;> (simp only [PyData.shown, wt]; decide +kernel)
  | .int i, h => by
    have h' : i.natAbs ≤ M := by simpa [leaf] using h
    have e := int_text_length_le10 (k := 240) (by decide) (Nat.lt_of_le_of_lt h' hM)
    simp only [PyData.shown, wt]
    rw [PySem.ofString_length]
    omega
  | .str x, h => by
    have h' := leaf_str.mp h
    have e := StrLaws.reprText_len x (fun c hc => by have := h' c hc; omega)
    simp only [PyData.shown, wt]
    omega
  | .list xs, h => by
    have e1 := listText_len_le (PyData.shownAll xs)
    have e2 := shownAll_wt hM xs (by simpa [leaf] using h)
    rw [PyData.shownAll_length] at e1
    simp only [PyData.shown, wt]
    omega
  | .tuple xs, h => by
    have e1 := tupleText_len_le (PyData.shownAll xs)
    have e2 := shownAll_wt hM xs (by simpa [leaf] using h)
    rw [PyData.shownAll_length] at e1
    simp only [PyData.shown, wt]
    omega
  | .dict _, h => by simp [leaf] at h
theorem shownAll_wt {M : Nat} (hM : M < 10 ^ 240) : ∀ xs : List PyData, leafAll M xs = true → ((PyData.shownAll xs).map (·.length)).sum + 2 * xs.length ≤ wtAll xs
  | [], _ => by simp [PyData.shownAll, wtAll]
  | x :: xs, h => by
    have h' : leaf M x = true ∧ leafAll M xs = true := by simpa [leafAll] using h
    have e1 := shown_wt hM x h'.1
    have e2 := shownAll_wt hM xs h'.2
    simp only [PyData.shownAll, wtAll, List.map_cons, List.sum_cons, List.length_cons]
    omega
end
mutual
theorem leaf_mono {M N : Nat} (h : M ≤ N) : ∀ d : PyData, leaf M d = true → leaf N d = true
  | .none, _ => by simp [leaf]
  | .bool _, _ => by simp [leaf]
  | .int i, e => by
    have e' : i.natAbs ≤ M := by simpa [leaf] using e
    simp only [leaf, decide_eq_true_eq]; omega
  | .str _, e => by simpa [leaf] using e
  | .list xs, e => by simpa [leaf] using leafAll_mono h xs (by simpa [leaf] using e)
  | .tuple xs, e => by simpa [leaf] using leafAll_mono h xs (by simpa [leaf] using e)
  | .dict _, e => by simp [leaf] at e
theorem leafAll_mono {M N : Nat} (h : M ≤ N) : ∀ xs : List PyData, leafAll M xs = true → leafAll N xs = true
  | [], _ => by simp [leafAll]
  | x :: xs, e => by
    have e' : leaf M x = true ∧ leafAll M xs = true := by simpa [leafAll] using e
    simp [leafAll, leaf_mono h x e'.1, leafAll_mono h xs e'.2]
end
mutual
theorem lens_mono {k l : Nat} (h : k ≤ l) : ∀ d : PyData, lens k d = true → lens l d = true
  | .none, _ => by simp [lens]
  | .bool _, _ => by simp [lens]
  | .int _, _ => by simp [lens]
  | .str _, _ => by simp [lens]
  | .list xs, e => by
    have e' : xs.length ≤ k ∧ lensAll k xs = true := by simpa [lens] using e
    simp only [lens, Bool.and_eq_true, decide_eq_true_eq]
    exact ⟨by omega, lensAll_mono h xs e'.2⟩
  | .tuple xs, e => by
    have e' : xs.length ≤ k ∧ lensAll k xs = true := by simpa [lens] using e
    simp only [lens, Bool.and_eq_true, decide_eq_true_eq]
    exact ⟨by omega, lensAll_mono h xs e'.2⟩
  | .dict _, e => by simp [lens] at e
theorem lensAll_mono {k l : Nat} (h : k ≤ l) : ∀ xs : List PyData, lensAll k xs = true → lensAll l xs = true
  | [], _ => by simp [lensAll]
  | x :: xs, e => by
    have e' : lens k x = true ∧ lensAll k xs = true := by simpa [lensAll] using e
    simp [lensAll, lens_mono h x e'.1, lensAll_mono h xs e'.2]
end

/-- data of this size: ints at most M, sequences at most l long, n deep, B heavy -/
structure Fit (M l n B : Nat) (d : PyData) : Prop where
  lf : leaf M d = true
  ln : lens l d = true
  dp : d.depth ≤ n
  wg : wt d ≤ B
theorem Fit.mono {M l n B M' l' n' B' : Nat} {d : PyData} (h : Fit M l n B d) (h1 : M ≤ M') (h2 : l ≤ l') (h3 : n ≤ n') (h4 : B ≤ B') : Fit M' l' n' B' d :=
  ⟨leaf_mono h1 d h.lf, lens_mono h2 d h.ln, Nat.le_trans h.dp h3, Nat.le_trans h.wg h4⟩
theorem Fit.none {M l n B : Nat} (h : 5 ≤ B) : Fit M l n B .none := ⟨rfl, rfl, Nat.zero_le _, h⟩
theorem Fit.bool {M l n B : Nat} {b : Bool} (h : 5 ≤ B) : Fit M l n B (.bool b) := ⟨rfl, rfl, Nat.zero_le _, h⟩
theorem Fit.int {M l n B : Nat} {i : Int} (hi : i.natAbs ≤ M) (h : 250 ≤ B) : Fit M l n B (.int i) := ⟨by simpa [leaf] using hi, rfl, Nat.zero_le _, h⟩
theorem Fit.str {M l n B : Nat} {x : Str} (hx : ∀ c ∈ x.cps.toList, c < 128) (h : 10 * x.length + 5 ≤ B) : Fit M l n B (.str x) := ⟨leaf_str.mpr hx, rfl, Nat.zero_le _, h⟩
theorem Fit.tup {M l n B : Nat} {xs : List PyData} (hl : xs.length ≤ l) (h : ∀ x ∈ xs, leaf M x = true ∧ lens l x = true ∧ x.depth ≤ n) (hw : wtAll xs + 5 ≤ B) : Fit M l (n + 1) B (.tuple xs) :=
  ⟨by simpa [leaf] using leafAll_iff.mpr fun x hx => (h x hx).1, by simp only [lens, Bool.and_eq_true, decide_eq_true_eq]; exact ⟨hl, lensAll_iff.mpr fun x hx => (h x hx).2.1⟩, depth_tuple.mpr fun x hx => (h x hx).2.2, by simpa [wt] using hw⟩
theorem Fit.lst {M l n B : Nat} {xs : List PyData} (hl : xs.length ≤ l) (h : ∀ x ∈ xs, leaf M x = true ∧ lens l x = true ∧ x.depth ≤ n) (hw : wtAll xs + 5 ≤ B) : Fit M l (n + 1) B (.list xs) :=
  ⟨by simpa [leaf] using leafAll_iff.mpr fun x hx => (h x hx).1, by simp only [lens, Bool.and_eq_true, decide_eq_true_eq]; exact ⟨hl, lensAll_iff.mpr fun x hx => (h x hx).2.1⟩, depth_list.mpr fun x hx => (h x hx).2.2, by simpa [wt] using hw⟩
theorem Fit.inTup {M l n B : Nat} {xs : List PyData} (h : Fit M l n B (.tuple xs)) : xs.length ≤ l ∧ 1 ≤ n ∧ wtAll xs + 5 ≤ B ∧ ∀ x ∈ xs, Fit M l (n - 1) B x := by
  have h2 : xs.length ≤ l ∧ lensAll l xs = true := by simpa [lens] using h.ln
  have h3 : PyData.depthAll xs + 1 ≤ n := by simpa [PyData.depth] using h.dp
  have h4 : wtAll xs + 5 ≤ B := by simpa [wt] using h.wg
  refine ⟨h2.1, by omega, h4, fun x hx => ⟨leafAll_iff.mp (by simpa [leaf] using h.lf) x hx, lensAll_iff.mp h2.2 x hx, (depthAll_iff (n := n - 1)).mp (by omega) x hx, ?_⟩⟩
  have := wt_mem hx
  omega
theorem Fit.inLst {M l n B : Nat} {xs : List PyData} (h : Fit M l n B (.list xs)) : xs.length ≤ l ∧ 1 ≤ n ∧ wtAll xs + 5 ≤ B ∧ ∀ x ∈ xs, Fit M l (n - 1) B x := by
  have h2 : xs.length ≤ l ∧ lensAll l xs = true := by simpa [lens] using h.ln
  have h3 : PyData.depthAll xs + 1 ≤ n := by simpa [PyData.depth] using h.dp
  have h4 : wtAll xs + 5 ≤ B := by simpa [wt] using h.wg
  refine ⟨h2.1, by omega, h4, fun x hx => ⟨leafAll_iff.mp (by simpa [leaf] using h.lf) x hx, lensAll_iff.mp h2.2 x hx, (depthAll_iff (n := n - 1)).mp (by omega) x hx, ?_⟩⟩
  have := wt_mem hx
  omega
theorem Fit.shaped {M l n B : Nat} {d : PyData} (h : Fit M l n B d) (hn : n ≤ 64) : SeqAt.shaped d = true := by
  unfold SeqAt.shaped
  rw [leaf_canLay d h.lf, Bool.true_and, decide_eq_true_eq]
  exact Nat.le_trans h.dp hn
end Sw
set_option maxRecDepth 100000
set_option maxHeartbeats 4000000
namespace Sw
open PySem PySem.Spec PyProof.Rows L2

/-- a def of the text, how it binds, where it stands -/
structure Df (K : PySem.W.Frag) (mg : Str → Option Value) (x : Str) (st : Stmt) (ps : List Str) (f : Addr) (fd : FuncData) : Prop where
  fn : Fun K x x st f fd
  bd : Binds K fd ps []
  gl : mg x = some (.ref f)

/-! ### isinstance of data -/
def isaInt : PyData → Bool
  | .int _ => true
  | .bool _ => true
  | _ => false
def isaBool : PyData → Bool
  | .bool _ => true
  | _ => false
def isaStr : PyData → Bool
  | .str _ => true
  | _ => false
def isaTup : PyData → Bool
  | .tuple _ => true
  | _ => false
theorem ty_list {K : PySem.W.Frag} {H : Hp} {a : Addr} {xs : List V} (h : SqL K H a xs) : TyX K H (.ref a) (.type "list") := by
  rcases h with (h | ⟨o, h⟩) | ⟨o, its, n, h, hc, _⟩
  · exact .base (.lst h)
  · exact .base (.frz h)
  · exact .kList h hc
theorem ty_tup {K : PySem.W.Frag} {H : Hp} {a : Addr} {xs : List V} (h : SqT K H a xs) : TyX K H (.ref a) (.type "tuple") := by
  rcases h with (h | ⟨o, h⟩) | ⟨o, its, n, h, hc, _⟩
  · exact .base (.tup h)
  · exact .fTuple h
  · exact .kTuple h hc
theorem isa_data {K : PySem.W.Frag} {H : Hp} {v : V} {d : PyData} {T : String} {g : PyData → Bool} (h : Dp K H v d)
    (k0 : kitB "NoneType" T = some (g .none)) (k1 : ∀ b, kitB "bool" T = some (g (.bool b))) (k2 : ∀ i, kitB "int" T = some (g (.int i))) (k3 : ∀ x, kitB "str" T = some (g (.str x)))
    (k4 : ∀ xs, kitB "list" T = some (g (.list xs))) (k5 : ∀ xs, kitB "tuple" T = some (g (.tuple xs))) : ∃ t, TyX K H v t ∧ PySem.W.kitOne K t (.type T) = some (g d) := by
  cases h with
  | non => exact ⟨_, .base .non, kit_ty k0⟩
  | bl b => exact ⟨_, .base (.bl b), kit_ty (k1 b)⟩
  | int i => exact ⟨_, .base (.int i), kit_ty (k2 i)⟩
  | str x => exact ⟨_, .base (.str x), kit_ty (k3 x)⟩
  | lst h _ => exact ⟨_, ty_list h, kit_ty (k4 _)⟩
  | tup h _ => exact ⟨_, ty_tup h, kit_ty (k5 _)⟩
theorem isa_int {K : PySem.W.Frag} {H : Hp} {v : V} {d : PyData} (h : Dp K H v d) : ∃ t, TyX K H v t ∧ PySem.W.kitOne K t (.type "int") = some (isaInt d) :=
  isa_data (g := isaInt) h (by decide +kernel) (fun _ => by show _ = some true; decide +kernel) (fun _ => by show _ = some true; decide +kernel) (fun _ => by show _ = some false; decide +kernel) (fun _ => by show _ = some false; decide +kernel) (fun _ => by show _ = some false; decide +kernel)
theorem isa_bool {K : PySem.W.Frag} {H : Hp} {v : V} {d : PyData} (h : Dp K H v d) : ∃ t, TyX K H v t ∧ PySem.W.kitOne K t (.type "bool") = some (isaBool d) :=
  isa_data (g := isaBool) h (by decide +kernel) (fun _ => by show _ = some true; decide +kernel) (fun _ => by show _ = some false; decide +kernel) (fun _ => by show _ = some false; decide +kernel) (fun _ => by show _ = some false; decide +kernel) (fun _ => by show _ = some false; decide +kernel)
theorem isa_str {K : PySem.W.Frag} {H : Hp} {v : V} {d : PyData} (h : Dp K H v d) : ∃ t, TyX K H v t ∧ PySem.W.kitOne K t (.type "str") = some (isaStr d) :=
  isa_data (g := isaStr) h (by decide +kernel) (fun _ => by show _ = some false; decide +kernel) (fun _ => by show _ = some false; decide +kernel) (fun _ => by show _ = some true; decide +kernel) (fun _ => by show _ = some false; decide +kernel) (fun _ => by show _ = some false; decide +kernel)
theorem isa_tup {K : PySem.W.Frag} {H : Hp} {v : V} {d : PyData} (h : Dp K H v d) : ∃ t, TyX K H v t ∧ PySem.W.kitOne K t (.type "tuple") = some (isaTup d) :=
  isa_data (g := isaTup) h (by decide +kernel) (fun _ => by show _ = some false; decide +kernel) (fun _ => by show _ = some false; decide +kernel) (fun _ => by show _ = some false; decide +kernel) (fun _ => by show _ = some false; decide +kernel) (fun _ => by show _ = some true; decide +kernel)

/-! ### what a look promises -/
def dNum : PyData → Bool
  | .int _ => true
  | _ => false
def okSign (c : Nat) : Bool := decide (97 ≤ c) && decide (c ≤ 122)
def wordS (z : Str) : Bool := decide (1 ≤ z.length) && decide (z.length ≤ 8) && z.cps.toList.all okSign
def dWord : PyData → Bool
  | .str z => wordS z
  | _ => false
def dOper (d : PyData) : Bool := dNum d || dWord d
def dPair : PyData → Bool
  | .tuple ds => decide (ds.length = 2)
  | _ => false
def dPos : PyData → Bool
  | .int i => decide (1 ≤ i)
  | _ => false
def dObj : PyData → Bool
  | .tuple [a, b] => dWord a && dPos b
  | _ => false
def fstS : PyData → Str
  | .tuple (.str z :: _) => z
  | _ => Str.empty
def rises : List Str → Bool
  | a :: b :: r => decide (a.cps.toList < b.cps.toList) && rises (b :: r)
  | _ => true
def dObjs : PyData → Bool
  | .tuple ds => !ds.isEmpty && ds.all dObj && rises (ds.map fstS)
  | _ => false
/-- a look at data: its answer, all that stood stands -/
def spLook (K : PySem.W.Frag) (g : PyData → Bool) : Sp := fun vs H Q _ => ∃ (v : V) (d : PyData), vs = [v] ∧ Dp K H v d ∧ (∃ M, Fit M 60 60 1000000 d) ∧ ∀ H', Same H H' → Q (.bl (g d)) H'
theorem big_size {n : Nat} (h : n ≤ 1000000) : n < sizeLine := by rw [sizeLine_eq]; omega
theorem fit_strlen {M l n B : Nat} {x : Str} (h : Fit M l n B (.str x)) (hB : B ≤ 1000000) : x.length ≤ sizeLine := by
  have h1 : 10 * x.length + 5 ≤ B := by simpa [wt] using h.wg
  rw [sizeLine_eq]; omega
theorem isi_dNum (d : PyData) : (isaInt d && !isaBool d) = dNum d := by cases d <;> rfl
end Sw
set_option maxRecDepth 100000
set_option maxHeartbeats 4000000
namespace Sw
open PySem PySem.Spec PyProof.Rows L2
def topS (i : Nat) : Stmt := PySem.Challenge.pw_storeways_k14_fences_judged.main.body.getD i (.Pass ⟨0, 0, 0, 0⟩)
/-- built-in names that the text leaves alone -/
structure Bt (mg : Str → Option Value) : Prop where
  isi : mg "isinstance" = none
  int : mg "int" = none
  bool : mg "bool" = none
  str : mg "str" = none
  tuple : mg "tuple" = none
  list : mg "list" = none
  len : mg "len" = none
  all : mg "all" = none
  zip : mg "zip" = none
  range : mg "range" = none
  ord : mg "ord" = none
  sorted : mg "sorted" = none
  set : mg "set" = none
  repr : mg "repr" = none
section
variable {P : Program} {w : World} {K : PySem.W.Frag} {mg : Str → Option Value} {base : Heap}
theorem sc_num : FnScope ["thing"] ["thing"] (defScope (topS 8)) := ⟨rfl, rfl, rfl, by decide +kernel, rfl, by decide +kernel, by decide +kernel⟩
theorem ok_num {f : Addr} {fd : FuncData} (D : Df K mg "is_number" (topS 8) ["thing"] f fd) (B : Bt mg) : FnOk P w K mg base CX0 1 f fd ["thing"] (spLook K dNum) := by
  refine D.fn.ok sc_num (fun vs H Q E h => ?_) (fun cdv A outer s H vs Q E hr h => ?_)
  · obtain ⟨v, d, rfl, _⟩ := h
    rfl
  obtain ⟨v, d, rfl, hd, hf, q⟩ := h
  refine ⟨_, pss_one (ps_ret (pe_and (pe_callB call_isi (by rfl) B.isi (by decide +kernel) (pa_cons (pv 0) (pa_cons (pe_bltn (v := .ty "int") (by rfl) B.int (by decide +kernel) rfl) pa_nil)))
    (pe_one (pe_not (pe_callB call_isi (by rfl) B.isi (by decide +kernel) (pa_cons (pv 0) (pa_cons (pe_bltn (v := .ty "bool") (by rfl) B.bool (by decide +kernel) rfl) pa_nil))))))), ?_⟩
  obtain ⟨t1, ty1, k1⟩ := isa_int hd
  obtain ⟨t2, ty2, k2⟩ := isa_bool hd
  refine ⟨v, rfl, v, .ty "int", t1, _, _, rfl, .ty _, ty1, k1, _, rfl, ?_⟩
  have e := isi_dNum d
  refine ite2 (fun c => ?_) (fun c => ?_)
  · refine ⟨v, rfl, v, .ty "bool", t2, _, _, rfl, .ty _, ty2, k2, _, rfl, ?_⟩
    rw [c, Bool.true_and] at e
    rw [e]
    exact q H (Same.refl H)
  · have c' : isaInt d = false := by simpa using c
    rw [c', Bool.false_and] at e
    rw [e]
    exact q H (Same.refl H)
theorem sign_lo (c : Nat) : (!decide (([c] : List Nat) < ("a" : Str).cps.toList)) = decide (97 ≤ c) := by
  show (!decide (([c] : List Nat) < [97])) = decide (97 ≤ c)
  by_cases h : 97 ≤ c
  · have : ¬ (([c] : List Nat) < [97]) := by intro z; have := List.cons_lt_cons_iff.mp z; simp at this; omega
    simp [h, this]
  · have : ([c] : List Nat) < [97] := List.cons_lt_cons_iff.mpr (.inl (by omega))
    simp [h, this]
theorem sign_hi (c : Nat) : (!decide (("z" : Str).cps.toList < ([c] : List Nat))) = decide (c ≤ 122) := by
  show (!decide (([122] : List Nat) < [c])) = decide (c ≤ 122)
  by_cases h : c ≤ 122
  · have : ¬ (([122] : List Nat) < [c]) := by intro z; have := List.cons_lt_cons_iff.mp z; simp at this; omega
    simp [h, this]
  · have : ([122] : List Nat) < [c] := List.cons_lt_cons_iff.mpr (.inl (by omega))
    simp [h, this]
theorem all_range {z : Str} : ((List.range z.cps.size).map fun i => V.bl (okSign (z.cps.toList.getD i 0))) = (z.cps.toList.map okSign).map V.bl := by
  apply List.ext_getElem?
  intro i
  simp only [List.getElem?_map, List.getElem?_range']
  by_cases h : i < z.cps.size
  · rw [List.getElem?_range h, List.getElem?_eq_getElem (by simpa using h)]
    simp [List.getD, List.getElem?_eq_getElem, h]
  · rw [List.getElem?_eq_none (by simpa using h), List.getElem?_eq_none (by simpa using h)]
    rfl
end
end Sw
set_option maxRecDepth 100000
set_option maxHeartbeats 4000000
namespace Sw
open PySem PySem.Spec PyProof.Rows L2
section
variable {P : Program} {w : World} {K : PySem.W.Frag} {mg : Str → Option Value} {base : Heap}
theorem q_of {Q : VK} {b c : Bool} {H : Hp} (e : b = c) (h : Q (.bl b) H) : Q (.bl c) H := e ▸ h
theorem int_two {n : Nat} : decide (V.int (n : Int) = V.int 2) = decide (n = 2) := by
  by_cases h : n = 2
  · subst h; simp
  · have : ¬ (V.int (n : Int) = V.int 2) := fun z => h (by injection z with z; omega)
    simp [h, this]
end
end Sw
set_option maxRecDepth 100000
set_option maxHeartbeats 4000000
namespace Sw
open PySem PySem.Spec PyProof.Rows L2
theorem cut_one (xs : List V) : cutV xs (some 1) none = xs.drop 1 := by
  unfold cutV
  rw [show HT.sIx xs.length 0 (some 1) = min 1 xs.length from HT.sIx_nat xs.length 0 1, HT.sIx_none]
  cases xs with
  | nil => rfl
  | cons x r =>
    have e : min 1 (x :: r).length = 1 := by rw [List.length_cons]; omega
    rw [e]
    show (List.take ((x :: r).length - 1) r) = r
    rw [List.length_cons, Nat.add_sub_cancel, List.take_length]
theorem obj_parts {K : PySem.W.Frag} {H : Hp} {v : V} {d : PyData} (h : Dp K H v d) (o : dObj d = true) : ∃ (p : Addr) (z : Str) (k : Int), v = .ref p ∧ SqT K H p [.str z, .int k] ∧ fstS d = z ∧ d = .tuple [.str z, .int k] := by
  unfold dObj at o
  split at o
  · rename_i a b
    rw [Bool.and_eq_true] at o
    cases a with
    | str z =>
      cases b with
      | int k =>
        cases h with
        | tup hs r =>
          cases r with
          | cons h0 r =>
            cases r with
            | cons h1 r =>
              cases r
              cases h0
              cases h1
              exact ⟨_, z, k, rfl, hs, rfl, rfl⟩
      | _ => simp [dPos] at o
    | _ => simp [dWord] at o
  · cases o
theorem rises_range : ∀ zs : List Str, ((List.range (zs.length - 1)).map fun i => decide ((zs.getD i Str.empty).cps.toList < (zs.getD (i + 1) Str.empty).cps.toList)).all id = rises zs
  | [] => rfl
  | [_] => rfl
  | a :: b :: r => by
    have ih := rises_range (b :: r)
    have e : (a :: b :: r).length - 1 = (b :: r).length - 1 + 1 := by simp
    rw [e, List.range_succ_eq_map, List.map_cons, List.map_map, List.all_cons]
    show (decide (a.cps.toList < b.cps.toList) && _) = (decide (a.cps.toList < b.cps.toList) && rises (b :: r))
    rw [← ih]
    rfl
section
variable {P : Program} {w : World} {K : PySem.W.Frag} {mg : Str → Option Value} {base : Heap}
def spRise (K : PySem.W.Frag) : Sp := fun vs H Q _ => ∃ (v : V) (ds : List PyData), vs = [v] ∧ Dp K H v (.tuple ds) ∧ ds.length ≤ 60 ∧ ds.all dObj = true ∧ ∀ H', Same H H' → Q (.bl (rises (ds.map fstS))) H'
end
end Sw
set_option maxRecDepth 100000
set_option maxHeartbeats 4000000
namespace Sw
open PySem PySem.Spec PyProof.Rows L2

/-! ### sets of texts -/
def Mem1 (w : World) (e : Int × Value) (x : Str) : Prop := ∃ t, e.2 = Value.str x t ∧ e.1 = hashStr w x
/-- the set at a holds the texts L, none twice -/
def TxtSet (w : World) (h : Heap) (a : Addr) (L : List Str) : Prop :=
  ∃ o es ep t, h.get? a = some o ∧ o.ExactSet ∧ o.data = .set es ep t ∧ Paired (Mem1 w) es.toList L ∧ L.Nodup ∧ es.size < scanBound ∧ t.fits es.size = true ∧ Ris t.place.toList ∧
    (w.params.followText "set-order" = true ∨ t.led = true)
theorem TxtSet.at {w : World} {h h' : Heap} {a : Addr} {L : List Str} (R : TxtSet w h a L) (k : ∀ o, h.get? a = some o → h'.get? a = some o) : TxtSet w h' a L := by
  obtain ⟨o, es, ep, t, ho, r⟩ := R
  exact ⟨o, es, ep, t, k o ho, r⟩
theorem paired_perm {α β : Type} {R : α → β → Prop} : ∀ {l l' : List α}, l'.Perm l → ∀ {L : List β}, Paired R l L → ∃ L', Paired R l' L' ∧ L'.Perm L := by
  intro l l' p
  induction p with
  | nil => intro L h; cases h; exact ⟨[], .nil, .nil⟩
  | cons x p ih =>
    intro L h
    cases h with
    | cons r t =>
      obtain ⟨L', h1, h2⟩ := ih t
      exact ⟨_ :: L', .cons r h1, h2.cons _⟩
  | swap x y l =>
    intro L h
    cases h with
    | cons r1 t =>
      cases t with
      | cons r2 t => exact ⟨_ :: _ :: _, .cons r2 (.cons r1 t), .swap _ _ _⟩
  | trans p q ih1 ih2 =>
    intro L h
    obtain ⟨L1, h1, h2⟩ := ih2 h
    obtain ⟨L2, h3, h4⟩ := ih1 h1
    exact ⟨L2, h3, h4.trans h2⟩
theorem mem_elems {P : Program} {w : World} : ∀ {l : List (Int × Value)} {L : List Str}, Paired (Mem1 w) l L → ElemsOf (strKind P w) l
  | _, _, .nil, _, he => by simp at he
  | _, _, .cons r t, e, he => by
    rcases List.mem_cons.mp he with rfl | he
    · obtain ⟨tk, h1, h2⟩ := r
      exact ⟨⟨_, by rw [h1]; exact strKind_is P w _ tk, h2⟩, by rw [h1]; rfl⟩
    · exact mem_elems t e he
theorem is_iff {P : Program} {w : World} {x y : Str} {t : Tok} : (strKind P w).is x (.str y t) = true ↔ y = x := by
  show Value.isStrOf x (.str y t) = true ↔ _
  simp [Value.isStrOf]
theorem found_mem {P : Program} {w : World} {x : Str} : ∀ {l : List (Int × Value)} {L : List Str}, Paired (Mem1 w) l L → ((∃ e ∈ l, (strKind P w).is x e.2 = true) ↔ x ∈ L)
  | _, _, .nil => by simp
  | _, _, .cons (a := e0) (b := y) r t => by
    have ih := found_mem (P := P) (w := w) (x := x) t
    obtain ⟨tk, h1, _⟩ := r
    constructor
    · rintro ⟨e, he, h⟩
      rcases List.mem_cons.mp he with rfl | he
      · rw [h1, is_iff] at h
        rw [h]
        exact List.mem_cons_self
      · exact List.mem_cons_of_mem _ (ih.mp ⟨e, he, h⟩)
    · intro h
      rcases List.mem_cons.mp h with rfl | h
      · exact ⟨e0, List.mem_cons_self, by rw [h1, is_iff]⟩
      · obtain ⟨e, he, h⟩ := ih.mpr h
        exact ⟨e, List.mem_cons_of_mem _ he, h⟩
section
variable {P : Program} {w : World} {A : Around} {E : Value → Shared → Prop} {s : Shared} {a : Addr} {L : List Str}
theorem txt_store {g : Bool → Sem Unit} (hg : ∀ (b : Bool) (s₁ : Shared) (Q' : Unit → Shared → Prop), Q' () s₁ → wpAny (model P w) A (g b) Q' E s₁)
    {o : Obj} {es es1 : Array (Int × Value)} {ep : Nat} {t t2 : SetTable} (ho : s.heap.get? a = some o) (hex : o.ExactSet) (hd : o.data = .set es ep t) (pr : Paired (Mem1 w) es1.toList L) (nd : L.Nodup)
    (hb : es1.size < scanBound) (hf : t2.fits es1.size = true) (hr : Ris t2.place.toList) (hl : w.params.followText "set-order" = true ∨ t2.led = true) {dm : Bool} {R : Option Bool → Shared → Prop}
    (hR : ∀ h' L', Heap.SameBut a s.heap h' → TxtSet w h' a L' → L'.Perm L → R (some true) { s with heap := h' }) :
    wpAny (model P w) A (do
        storeSet a es1 t2
        if (!dm && t2.tooFull) = true then do
            g (relayAll t2 es1 (SetTable.grown es1.size)).2.2
            storeSet a (relayAll t2 es1 (SetTable.grown es1.size)).1 (relayAll t2 es1 (SetTable.grown es1.size)).2.1
            pure (some true)
          else pure (some true)) R E s := by
  refine wpAny_bind (wpAny_storeSet_of ho hd ?_ (fits_of_scanBound hb))
  have o1 := store_at (es' := es1) (t' := t2) ho hd
  have sb := Heap.SameBut.update s.heap a (Obj.putSet es1 t2)
  split
  · have p1 := relayAll_perm t2 es1 (SetTable.grown es1.size)
    have p2 := relayAll_fits t2 es1 (SetTable.grown es1.size)
    have p3 := relayAll_ris t2 es1 (SetTable.grown es1.size)
    have p4 := relayAll_led t2 es1 (SetTable.grown es1.size)
    generalize relayAll t2 es1 (SetTable.grown es1.size) = Z at p1 p2 p3 p4 ⊢
    obtain ⟨es2, t3, gv⟩ := Z
    dsimp only at p1 p2 p3 p4 ⊢
    obtain ⟨L', q1, q2⟩ := paired_perm p1 pr
    have sz : es2.size = es1.size := by
      have := p1.length_eq
      simpa using this
    have hb2 : es2.size < scanBound := by omega
    refine wpAny_bind (hg gv _ _ ?_)
    refine wpAny_bind (wpAny_storeSet_of o1 rfl ?_ (fits_of_scanBound hb2))
    refine wpAny_pure (hR _ L' (sb.trans (Heap.SameBut.update _ a _)) ?_ q2)
    exact ⟨_, es2, _, t3, store_at (es' := es2) (t' := t3) o1 rfl, hex, rfl, q1, q2.nodup_iff.mpr nd, hb2, p2, p3, hl.imp id fun z => by rw [p4]; exact z⟩
  · exact wpAny_pure (hR _ L sb ⟨_, es1, _, t2, o1, hex, rfl, pr, nd, hb, hf, hr, hl⟩ (.refl _))
theorem txt_add {x : Str} {tk : Tok} {Q : Bool → Shared → Prop} (R : TxtSet w s.heap a L) (room : L.length + 1 < scanBound)
    (hQ : ∀ b h' L', Heap.SameBut a s.heap h' → TxtSet w h' a L' → (x ∈ L ∧ L' = L ∨ x ∉ L ∧ L'.Perm (x :: L)) → Q b { s with heap := h' }) :
    wpAny (model P w) A (setAddHashed a (.str x tk) ((strKind P w).hash x)) Q E s := by
  obtain ⟨o, es, ep, t, ho, hex, hd, pr, nd, hb, hf, hr, hl⟩ := R
  have el : ElemsOf (strKind P w) es.toList := mem_elems pr
  have sc : (Value.str x tk).scannable = true := rfl
  have key : (strKind P w).is x (.str x tk) = true := strKind_is P w x tk
  have hlen : es.size = L.length := by have := pr.length; simpa using this
  unfold setAddHashed setAddHashedIn
  refine wpAny_holding (wpAny_bind (wpAny_setState_of ho hd hf ?_))
  dsimp only
  rw [byScan_of sc hb el]
  simp only [↓reduceIte]
  unfold setAddByScan
  refine wpAny_bind (wpAny_bind (wpAny_rule (wpAny_bind (wpAny_setScan_of key ho hd hf el ?_))))
  cases hfi : List.findIdx? (fun e => (strKind P w).is x e.2) es.toList with
  | some j =>
    obtain ⟨hj, pj, _⟩ := List.findIdx?_eq_some_iff_getElem.mp hfi
    have hx : x ∈ L := (found_mem (P := P) pr).mp ⟨_, List.getElem_mem hj, pj⟩
    exact wpAny_pure (wpAny_pure (hQ _ s.heap L (Heap.SameBut.refl a s.heap) ⟨o, es, ep, t, ho, hex, hd, pr, nd, hb, hf, hr, hl⟩ (.inl ⟨hx, rfl⟩)))
  | none =>
    dsimp only
    have hx : x ∉ L := fun z => by
      obtain ⟨e, he, q⟩ := (found_mem (P := P) pr).mpr z
      have c := List.findIdx?_eq_none_iff.mp hfi e he
      rw [q] at c
      cases c
    have gw : ∀ (b : Bool) {s₁ : Shared} {Q' : Unit → Shared → Prop}, Q' () s₁ → wpAny (model P w) A (match b with | true => rule "set.scan.the-table-gave-way" | false => pure ()) Q' E s₁ := by
      intro b s₁ Q' q
      cases b
      · exact wpAny_pure q
      · exact wpAny_rule q
    have p1 := layNew_perm t es ((strKind P w).hash x) (.str x tk)
    have p2 := layNew_fits t es ((strKind P w).hash x) (.str x tk)
    have p3 := layNew_ris t es ((strKind P w).hash x) (.str x tk) hr
    have p4 := layNew_led t es ((strKind P w).hash x) (.str x tk)
    generalize layNew t es ((strKind P w).hash x) (.str x tk) = Z at p1 p2 p3 p4 ⊢
    obtain ⟨es1, t1, dm, gv⟩ := Z
    dsimp only at p1 p2 p3 p4 ⊢
    rw [Array.toList_push] at p1
    have pr1 : Paired (Mem1 w) (((strKind P w).hash x, Value.str x tk) :: es.toList) (x :: L) := .cons ⟨tk, rfl, rfl⟩ pr
    obtain ⟨L1, q1, q2⟩ := paired_perm (p1.trans (List.perm_append_singleton _ _)) pr1
    have nd1 : L1.Nodup := q2.nodup_iff.mpr (List.nodup_cons.mpr ⟨hx, nd⟩)
    have sz1 : es1.size = L.length + 1 := by
      have h1 := q1.length
      have h2 := q2.length_eq
      simp at h1 h2
      omega
    have hb1 : es1.size < scanBound := by omega
    have hl1 : w.params.followText "set-order" = true ∨ t1.led = true := hl.imp id fun z => by rw [p4]; exact z
    have fin : ∀ h' L', Heap.SameBut a s.heap h' → TxtSet w h' a L' → L'.Perm L1 → Q true { s with heap := h' } := fun h' L' sb r pm => hQ true h' L' sb r (.inr ⟨hx, pm.trans q2⟩)
    refine wpAny_bind (gw _ ?_)
    split
    · refine wpAny_bind ?_
      rw [hashByValue_scannable 8 sc]
      refine wpAny_pure ?_
      refine txt_store (L := L1) ?_ ho hex hd q1 nd1 hb1 ?_ ?_ ?_ ?_
      · intro b s₁ Q' q; cases b <;> first | exact wpAny_pure q | exact wpAny_rule q
      · first | (split <;> first | exact p2 | exact SetTable.fits_plain_off p2) | exact p2
      · first | (split <;> exact p3) | exact p3
      · first | (split <;> exact hl1) | exact hl1
      · intro h' L' sb r pm; dsimp only; exact wpAny_pure (fin h' L' sb r pm)
    · refine wpAny_bind (wpAny_pure ?_)
      simp only [↓reduceIte]
      refine txt_store (L := L1) ?_ ho hex hd q1 nd1 hb1 p2 p3 hl1 ?_
      · intro b s₁ Q' q; cases b <;> first | exact wpAny_pure q | exact wpAny_rule q
      · intro h' L' sb r pm; dsimp only; exact wpAny_pure (fin h' L' sb r pm)
end
end Sw
set_option maxRecDepth 100000
set_option maxHeartbeats 4000000
namespace Sw
open PySem PySem.Spec PyProof.Rows L2
/-- L: what is met in the first i of xs -/
def Met (xs : List Str) (i : Nat) (L : List Str) : Prop := L.length ≤ i ∧ ∀ x, x ∈ L ↔ x ∈ xs.take i
theorem Met.step {xs L L' : List Str} {i : Nat} {x : Str} (g : Met xs i L) (hx : xs[i]? = some x) (h : x ∈ L ∧ L' = L ∨ x ∉ L ∧ L'.Perm (x :: L)) : Met xs (i + 1) L' := by
  have et : xs.take (i + 1) = xs.take i ++ [x] := by rw [List.take_add_one, hx]; rfl
  rcases h with ⟨hm, rfl⟩ | ⟨hm, pm⟩
  · refine ⟨Nat.le_succ_of_le g.1, fun y => ?_⟩
    rw [et, List.mem_append, ← g.2 y]
    constructor
    · exact .inl
    · rintro (h | h)
      · exact h
      · rw [List.mem_singleton.mp h]; exact hm
  · refine ⟨by rw [pm.length_eq, List.length_cons]; exact Nat.succ_le_succ g.1, fun y => ?_⟩
    rw [pm.mem_iff, et, List.mem_append, ← g.2 y, List.mem_cons, List.mem_singleton]
    exact Or.comm
section
variable {P : Program} {w : World} {A : Around} {E : Value → Shared → Prop} {s : Shared}
theorem txt_update {I : Addr} {fp wr : List Addr} {G : Array GenState → Array GenState → Prop} {n : Nat} {Pv : Nat → Value → Prop} {St : Nat → Shared → Prop} {R : Result → Shared → Prop} (W : WalksS P w A.in1 I fp wr G n Pv St)
    (S : Addr) (hSf : S ∉ fp) (xs : List Str) (hn : n = xs.length) (few : n + 1 < scanBound) (hval : ∀ i v, Pv i v → ∃ x t, xs[i]? = some x ∧ v = .str x t) :
    ∀ (k i : Nat) (s : Shared), n - i = k → i ≤ n → St i s → (∃ L, TxtSet w s.heap S L ∧ Met xs i L) → (∀ s' L, Moved (S :: wr) G s s' → TxtSet w s'.heap S L → Met xs n L → R (.ok (.ret .none)) s') →
      codeAny (model P w) A (.builtin "set.update.loop" ⟨[.ref S, .ref I], []⟩) R s := by
  have nw : S ∉ wr := fun h => hSf (W.sub _ h)
  have up : ∀ b ∈ wr, b ∈ S :: wr := fun b hb => List.mem_cons_of_mem _ hb
  intro k
  induction k with
  | zero =>
    rintro i s hk hi st ⟨L, hS, g⟩ hR
    obtain rfl : i = n := by omega
    refine codeAny_builtin PyProof.Rows.F.entry_set_update_loop ?_; rw [Around.under_plainId PyProof.Rows.F.plain_set_update_loop _]
    show wpAny _ A.in1 (pyNext (.ref I) >>= _) _ _ s
    refine wpAny_bind (W.done s _ _ st ?_)
    intro s' hm
    show wpAny _ A.in1 (ret Value.none) _ _ s'
    exact wpAny_pure (hR s' L (hm.mono up) (hS.at fun o e => hm.heap S o nw e) g)
  | succ k ih =>
    rintro i s hk hi st ⟨L, hS, g⟩ hR
    have lt : i < n := by omega
    refine codeAny_builtin PyProof.Rows.F.entry_set_update_loop ?_; rw [Around.under_plainId PyProof.Rows.F.plain_set_update_loop _]
    show wpAny _ A.in1 (pyNext (.ref I) >>= _) _ _ s
    refine wpAny_bind (W.item i s _ _ lt st ?_)
    intro v s' hP st' hm
    obtain ⟨x, t, hx, rfl⟩ := hval i v hP
    have hS' : TxtSet w s'.heap S L := hS.at fun o e => hm.heap S o nw e
    show wpAny _ A.in1 (holding [Value.str x t] (setAdd S (.str x t)) >>= _) _ _ s'
    refine wpAny_bind (wpAny_holding ?_)
    unfold setAdd
    refine wpAny_holding (wpAny_bind ((strKind P w).pyHash (k := x) (strKind_is P w x t) ?_))
    refine txt_add (s := { s' with toks := s'.toks + 1 }) hS' (by have := g.1; omega) ?_
    intro b h' L' sb hS2 hL
    refine wpAny_pure ⟨plainId_quiet PyProof.Rows.F.plain_set_update_loop _, ih (i + 1) _ (by omega) lt (W.frame _ s' _ _ st' (Nat.le_succ _) ?_) ⟨L', hS2, g.step hx hL⟩ ?_⟩
    · intro c hc o e
      rw [sb.2 c (fun z : c = S => hSf (z ▸ hc))]
      exact e
    · intro s'' L2 hm2 hS3 g3
      refine hR s'' L2 (Moved.trans W.gtrans ((hm.mono up).then_heap (Nat.le_succ _) ?_) hm2) hS3 g3
      intro c o hc e
      rw [sb.2 c (fun z : c = S => hc (by rw [z]; exact List.mem_cons_self))]
      exact e
/-- the object that set.__new__ lays -/
abbrev newSetO (w : World) : Obj := { cls := .type "set", dict := none, data := .set #[] 0 (.fresh 0 0 (!w.params.followText "set-order")) }
theorem txt_fresh {h : Heap} {a : Addr} (e : h.get? a = some (newSetO w)) : TxtSet w h a [] := by
  refine ⟨_, #[], 0, _, e, ⟨rfl, rfl, rfl⟩, rfl, .nil, List.nodup_nil, by decide, by rfl, List.Pairwise.nil, ?_⟩
  show _ ∨ (!w.params.followText "set-order") = true
  cases w.params.followText "set-order"
  · exact .inr rfl
  · exact .inl rfl
theorem call_set_txts {l : Addr} {items : Array Value} (xs : List Str) {Q : Value → Shared → Prop} (hh : A.handled = none) (hl : s.heap.IsList l items) (hit : StrsAre items.toList xs) (few : xs.length + 1 < scanBound)
    (h : ∀ (h' : Heap) (tk : Nat) L, TxtSet w h' s.heap.objs.size L → Met xs xs.length L → (∀ b o, s.heap.get? b = some o → h'.get? b = some o) → Q (.ref s.heap.objs.size) { s with heap := h', toks := tk }) :
    wpAny (model P w) A (call (.type "set") [.ref l]) Q E s := by
  have isz : items.size = xs.length := by have := hit.length; simpa using this
  obtain ⟨c, tl, hmro⟩ := F.called_set.mro
  have hmade := F.called_set.made
  have hsub := F.called_set.sub
  refine wpAny_call (codeAny_of_tree ?_)
  show wpAny _ _ (callAny (.type "set") _) _ _ _
  refine wpAny_pure ⟨Code.quiet_builtin _ (by decide +kernel), codeAny_builtin F.entry_type_call ?_⟩
  rw [Around.under_plain (weight_type_call_type "set" [.ref l] []) rfl]
  have h1 := F.called_set.notType
  have h2 := F.called_set.canCreate
  have hct := F.typeCall_set_1 (.ref l)
  repeat (any_goals (first | assumption | wp_step))
  refine codeAny_mono (code_set_led1 (.ref l) (E := E) (Q₁ := fun obj s1 => obj = .ref s.heap.objs.size ∧ s1 = { s with heap := s.heap.push (newSetO w) }) ⟨rfl, rfl⟩) ?_
  intro r s1 hr
  cases r with
  | error e => exact hr
  | ok fl =>
    cases fl with
    | ret obj =>
      obtain ⟨rfl, rfl⟩ := hr
      have hS : (s.heap.push (newSetO w)).get? s.heap.objs.size = some (newSetO w) := Heap.get?_push_size _ rfl
      have hT : Shared.TypeIs { s with heap := s.heap.push (newSetO w) } (.ref s.heap.objs.size) "set" := ⟨_, hS, rfl⟩
      have hli := F.called_set.init.lookup
      have hbi := F.called_set.init.bind (.ref s.heap.objs.size)
      repeat (any_goals (first | assumption | wp_step))
      refine codeAny_mono (codeAny_call_builtin (R := wants (fun r s2 => r = .none ∧ ∃ h' tk L, s2 = { s with heap := h', toks := tk } ∧ TxtSet w h' s.heap.objs.size L ∧ Met xs xs.length L ∧
          (∀ b o, s.heap.get? b = some o → h'.get? b = some o)) E) F.called_set.init.plain F.entry_set_init (check_set_init_1 hT ?_)) ?_
      · obtain ⟨ol, hol, hcl, nl, hdl⟩ := hl
        obtain ⟨ocls, odict, odata, oslots⟩ := ol
        simp only at hcl hdl
        subst hcl
        subst hdl
        have hol' : (s.heap.push (newSetO w)).get? l = some { cls := .type "list", dict := odict, data := .seq items nl, slots := oslots } := Heap.get?_push_of_some _ hol
        have hsls := F.sub_list_set
        have hslf := F.sub_list_frozenset
        have hne : (Value.type "list" == Value.type "dict") = false := by decide
        have hl1 : (s.heap.push (newSetO w)).IsList l items := ⟨_, hol', rfl, nl, rfl⟩
        unfold Builtin.«set.__init__» noKeywords Builtin.Frozenset.updateFrom
        generalize hPI : pyIter = PI
        wp_walk
        subst hPI
        refine wpAny_pyIter_list hl1 (wpAny_bind (wpAny_runValue ?_))
        have hlS : l < s.heap.objs.size := Heap.lt_size hol
        have zp : (s.heap.push (newSetO w)).objs.size = s.heap.objs.size + 1 := Heap.size_push ..
        have neI : l ≠ (s.heap.push (newSetO w)).objs.size := by rw [zp]; exact Nat.ne_of_lt (Nat.lt_succ_of_lt hlS)
        have nS : s.heap.objs.size ∉ [(s.heap.push (newSetO w)).objs.size, l] := by
          rw [zp]
          simp only [List.mem_cons, List.not_mem_nil, or_false, not_or]
          exact ⟨Nat.ne_of_lt (Nat.lt_succ_self _), Nat.ne_of_gt hlS⟩
        have hval : ∀ (i : Nat) (v : Value), items[i]? = some v → ∃ x t, xs[i]? = some x ∧ v = .str x t := fun i v hv => by
          obtain ⟨y, t, e1, e2⟩ := hit.item i v (by rw [Array.getElem?_toList]; exact hv)
          exact ⟨y, t, e2, e1⟩
        refine txt_update ((Walks.list (by simp [hh]) _ l neI items).toS) s.heap.objs.size nS xs isz (by omega) hval (items.size - 0) 0 _ (by omega) (Nat.zero_le _)
          ⟨⟨_, Heap.get?_push_size _ rfl, rfl, rfl⟩, (hl1.push _)⟩ ⟨[], txt_fresh (Heap.get?_push_of_some _ hS), Nat.le_refl _, by simp⟩ ?_
        intro s' L hm hS' g'
        obtain ⟨h', g2, d', tk', os'⟩ := s'
        have eg : g2 = s.gens := hm.gens
        have ed : d' = s.drawn := hm.drawn
        have eo : os' = s.os := hm.os
        subst eg ed eo
        show wpAny _ _ _ _ _ _
        refine wpAny_pure ?_
        show wpAny _ _ (ret Value.none) _ _ _
        rw [isz] at g'
        refine wpAny_pure ⟨rfl, h', tk', L, rfl, hS', g', fun c o e => ?_⟩
        have lc : c < s.heap.objs.size := Heap.lt_size e
        refine hm.heap c o ?_ (Heap.get?_push_of_some _ (Heap.get?_push_of_some _ e))
        simp only [List.mem_cons, List.not_mem_nil, or_false, not_or]
        refine ⟨Nat.ne_of_lt lc, ?_⟩
        rw [zp]
        exact Nat.ne_of_lt (Nat.lt_succ_of_lt lc)
      · intro r2 s2 hr2
        cases r2 with
        | error e => exact hr2
        | ok fl2 =>
          cases fl2 with
          | ret r =>
            obtain ⟨rfl, h', tk, L, rfl, hS', g', hk'⟩ := hr2
            repeat (any_goals (first | assumption | wp_step))
            exact h _ _ _ hS' g' hk'
          | _ => exact hr2.elim
    | _ => exact hr.elim
end
end Sw
set_option maxRecDepth 100000
set_option maxHeartbeats 4000000
namespace Sw
open PySem PySem.Spec PyProof.Rows L2
theorem strs_of_mem {w : World} : ∀ {l : List (Int × Value)} {L : List Str}, Paired (Mem1 w) l L → Paired (fun v x => ∃ t, v = Value.str x t) (l.map (·.2)) L
  | _, _, .nil => .nil
  | _, _, .cons ⟨t, h, _⟩ r => .cons ⟨t, h⟩ (strs_of_mem r)
theorem strs_of_paired : ∀ {l : List Value} {L : List Str}, Paired (fun v x => ∃ t, v = Value.str x t) l L → StrsAre l L
  | _, _, .nil => .nil
  | _, _, .cons ⟨t, h⟩ r => by
    subst h
    exact .cons _ t (strs_of_paired r)
section
variable {P : Program} {w : World} {A : Around} {E : Value → Shared → Prop} {s : Shared}
theorem sorted_txts {a : Addr} {L : List Str} {Q : Value → Shared → Prop} (R : TxtSet w s.heap a L) (hh : A.handled = none) (h64 : L.length < 64)
    (hQ : ∀ s' p (out : Array Value) (c : Nat) (ys : List Str), (∀ b o, s.heap.get? b = some o → s'.heap.get? b = some o) → s'.gens = s.gens → s'.os = s.os → s.heap.objs.size ≤ p →
      s'.heap.get? p = some (seqObj "list" out c) → StrsAre out.toList ys → ys.Perm L → sortedS ys = true → Q (.ref p) s') : wpAny (model P w) A (call (.builtin "sorted") [.ref a]) Q E s := by
  obtain ⟨o, es, ep, t, ho, hex, hd, pr, nd, hb, hf, hr, hl⟩ := R
  refine Calls.call_function_entry kind_sorted plain_sorted entry_sorted (args_sorted1 _) ?_
  unfold Builtin.«sorted»
  refine wpAny_bind (m := checkCount "sorted" 1 1 _) (wpAny_pure ?_)
  refine wpAny_bind (collect_set (A := A.in1) hh ⟨o, ho, hex.1, hd⟩ hf hb hr hl ?_)
  intro s1 vs k1 hz g1 o1 pm
  obtain ⟨L1, q1, q2⟩ := paired_perm pm (strs_of_mem pr)
  have hS := strs_of_paired q1
  have hvl : vs.length = L.length := by rw [q1.length, q2.length_eq]
  refine wpAny_bind (wpAny_newList ?_ (by rw [hvl, sizeLine_eq]; omega))
  have hoL : (s1.heap.push (seqObj "list" vs.toArray 0)).get? s1.heap.objs.size = some (seqObj "list" vs.toArray 0) := Heap.get?_push_size _ rfl
  refine wpAny_bind (wpAny_holding (wpAny_call_entry slot_list_sort ⟨_, hoL, rfl⟩ entry_list_sort (list_sort_treeK PyProof.Rows.strKind_oneLt hoL hS.keysOf (fun v₁ v₂ rest e => keyKind_strs (by rw [← e]; exact hS)) (by rw [hvl]; exact h64) ?_) (args_list_sort _)))
  intro st' hp hs
  obtain ⟨ys, a1, a2, a3⟩ := sorted_out_str hS hp hs
  generalize (arrOf st').map (·.2) = out at a1
  refine ⟨_, rfl, ?_⟩
  obtain ⟨c, hc⟩ := sortedHeap_at (vs := vs) (out := out) hoL
  refine wpAny_pure ⟨_, rfl, hQ _ s1.heap.objs.size out c ys ?_ g1 o1 hz hc a1 (a2.trans q2) a3⟩
  intro b u e
  have q := k1 b u e
  have lt := Heap.lt_size q
  show (sortedHeap (s1.heap.push (seqObj "list" vs.toArray 0)) s1.heap.objs.size vs out).get? b = some u
  rw [sortedHeap_old (Nat.ne_of_lt lt) (by rw [size_push']; exact Nat.lt_succ_of_lt lt)]
  exact Heap.get?_push_of_some _ q
end
/-- a set of texts as a thing of the abstract heap -/
def SetSO (w : World) (a : Addr) (L : List Str) : HO := .ext fun h => TxtSet w h a L
theorem setSO_ok {P : Program} {w : World} {H : Hp} {h : Heap} {a : Addr} {L : List Str} (R : TxtSet w h a L) : ObjOk P w H h a (SetSO w a L) := by
  refine ⟨R, ?_, fun h1 h2 r k => r.at k⟩
  obtain ⟨o, _, _, _, ho, _⟩ := R
  exact ⟨o, ho⟩
section
variable {X : Cx}
def rSetS (K : PySem.W.Frag) (w : World) : List V → Hp → VK → Prop := fun vs H Q => ∃ (l : Addr) (xs : List Str), vs = [.ref l] ∧ SqL K H l (xs.map V.str) ∧ xs.length ≤ 1000 ∧
  ∀ a L, H a = none → L.length ≤ xs.length → (∀ x, x ∈ L ↔ x ∈ xs) → Q (.ref a) (upd H a (SetSO w a L))
theorem cr_setS (hc : X.calm = true) : CallR X (.type "set") (rSetS X.K X.w) := by
  intro pins s σ H vs us Q I r h
  obtain ⟨l, xs, rfl, hl, hn, q⟩ := h
  obtain ⟨its, rv, hp, _⟩ := I.list hl
  rw [Vals.ref1 r]
  refine call_set_txts xs (I.ok.hd hc) hp.isList (by simpa using rv.strs) (by unfold scanBound; omega) ?_
  intro h' tk L hS g k
  have hf : H s.heap.objs.size = none := I.hok.fresh (Nat.le_refl _)
  refine ⟨.ref s.heap.objs.size, _, I.laid (t' := tk) (o := SetSO X.w s.heap.objs.size L) k (Nat.le_refl _) (setSO_ok hS), rfl, q _ L hf g.1 ?_⟩
  intro x
  have := g.2 x
  rwa [List.take_length] at this
def rSortedSS (w : World) : List V → Hp → VK → Prop := fun vs H Q => ∃ (a : Addr) (L : List Str), vs = [.ref a] ∧ H a = some (SetSO w a L) ∧ L.length < 64 ∧
  ∀ (ys : List Str) (p : Addr), ys.Perm L → L.Nodup → sortedS ys = true → H p = none → Q (.ref p) (upd H p (.lst (ys.map V.str)))
theorem cr_sortedSS (hc : X.calm = true) : CallR X (.builtin "sorted") (rSortedSS X.w) := by
  intro pins s σ H vs us Q I r h
  obtain ⟨a, L, rfl, ha, h64, q⟩ := h
  have R : TxtSet X.w s.heap a L := (I.hok a _ ha).1
  have nd : L.Nodup := by
    obtain ⟨_, _, _, _, _, _, _, _, nd, _⟩ := R
    exact nd
  rw [Vals.ref1 r]
  refine sorted_txts R (I.ok.hd hc) h64 ?_
  intro s' p out c ys k g o hp hg hi pm hs
  have hlen : (ys.map V.str).length ≤ sizeLine := by rw [List.length_map, pm.length_eq, sizeLine_eq]; omega
  have hn : H p = none := I.hok.fresh hp
  have J : Inv X pins σ (upd H p (.lst (ys.map V.str))) { s with heap := s'.heap, gens := s'.gens, drawn := s'.drawn, toks := s'.toks } :=
    I.call (ch := []) (Un.laid k hp hn) (I.hok.laid k hp ⟨hlen, out.toList, c, vals_of_strs hi, hg⟩) (by rw [g]; exact I.bare) (fun _ z => nomatch z)
  have e : s' = { s with heap := s'.heap, gens := s'.gens, drawn := s'.drawn, toks := s'.toks } := by
    cases s'; cases s; cases o; rfl
  rw [e]
  exact ⟨.ref p, _, J, rfl, q ys p pm nd hs hn⟩
end
end Sw
set_option maxRecDepth 100000
set_option maxHeartbeats 4000000
namespace Sw
open PySem PySem.Spec PyProof.Rows L2
def LtS (a b : Str) : Prop := a.cps.toList < b.cps.toList
theorem LtS.trans {a b c : Str} (h1 : LtS a b) (h2 : LtS b c) : LtS a c := List.lt_trans h1 h2
theorem LtS.irr {a : Str} : ¬ LtS a a := List.lt_irrefl _
theorem LtS.tri {a b : Str} (h : ¬ LtS b a) (hne : a ≠ b) : LtS a b := by
  have h1 : a.cps.toList ≤ b.cps.toList := h
  rcases List.le_iff_lt_or_eq.mp h1 with h2 | h2
  · exact h2
  · exfalso
    apply hne
    cases a with
    | mk x =>
      cases b with
      | mk y =>
        have : x = y := by
          have := congrArg List.toArray h2
          simpa using this
        rw [this]
theorem rises_pw : ∀ zs : List Str, rises zs = true ↔ zs.Pairwise LtS
  | [] => by simp [rises]
  | [_] => by simp [rises]
  | a :: b :: r => by
    have ih := rises_pw (b :: r)
    rw [show rises (a :: b :: r) = (decide (a.cps.toList < b.cps.toList) && rises (b :: r)) from rfl, Bool.and_eq_true, decide_eq_true_eq, ih]
    constructor
    · rintro ⟨h1, h2⟩
      refine List.pairwise_cons.mpr ⟨fun x hx => ?_, h2⟩
      rcases List.mem_cons.mp hx with rfl | hx
      · exact h1
      · exact LtS.trans h1 ((List.pairwise_cons.mp h2).1 x hx)
    · intro h
      obtain ⟨h1, h2⟩ := List.pairwise_cons.mp h
      exact ⟨h1 b List.mem_cons_self, h2⟩
theorem sorted_pw : ∀ (p : Str) (r : List Str), risingS p r = true → (p :: r).Nodup → (p :: r).Pairwise LtS
  | p, [], _, _ => by simp
  | p, x :: r, h, nd => by
    have h' : (!ltCps x.cps.toList p.cps.toList && risingS x r) = true := h
    rw [Bool.and_eq_true, ltCps_eq] at h'
    obtain ⟨n1, n2⟩ := List.nodup_cons.mp nd
    have ih := sorted_pw x r h'.2 n2
    have hx : LtS p x := LtS.tri (fun z => by have z2 := h'.1; rw [decide_eq_true (show x.cps.toList < p.cps.toList from z)] at z2; cases z2) (fun e => n1 (by rw [e]; exact List.mem_cons_self))
    refine List.pairwise_cons.mpr ⟨fun y hy => ?_, ih⟩
    rcases List.mem_cons.mp hy with rfl | hy
    · exact hx
    · exact LtS.trans hx ((List.pairwise_cons.mp ih).1 y hy)
theorem pw_unique : ∀ {ys zs : List Str}, ys.Pairwise LtS → zs.Pairwise LtS → (∀ x, x ∈ ys ↔ x ∈ zs) → ys = zs
  | [], [], _, _, _ => rfl
  | [], z :: zs, _, _, h => absurd ((h z).mpr List.mem_cons_self) List.not_mem_nil
  | y :: ys, [], _, _, h => absurd ((h y).mp List.mem_cons_self) List.not_mem_nil
  | y :: ys, z :: zs, h1, h2, h => by
    obtain ⟨a1, a2⟩ := List.pairwise_cons.mp h1
    obtain ⟨b1, b2⟩ := List.pairwise_cons.mp h2
    have e : y = z := by
      rcases List.mem_cons.mp ((h y).mp List.mem_cons_self) with e | m1
      · exact e
      · rcases List.mem_cons.mp ((h z).mpr List.mem_cons_self) with e | m2
        · exact e.symm
        · exact absurd ((b1 y m1).trans (a1 z m2)) LtS.irr
    subst e
    rw [pw_unique a2 b2]
    intro x
    constructor
    · intro hx
      rcases List.mem_cons.mp ((h x).mp (List.mem_cons_of_mem _ hx)) with e | m
      · subst e
        exact absurd (a1 x hx) LtS.irr
      · exact m
    · intro hx
      rcases List.mem_cons.mp ((h x).mpr (List.mem_cons_of_mem _ hx)) with e | m
      · subst e
        exact absurd (b1 x hx) LtS.irr
      · exact m
theorem eqvAll_strs : ∀ ys zs : List Str, PyData.eqvAll (ys.map .str) (zs.map .str) = decide (ys = zs)
  | [], [] => by simp [PyData.eqvAll]
  | [], _ :: _ => by simp [PyData.eqvAll]
  | _ :: _, [] => by simp [PyData.eqvAll]
  | y :: ys, z :: zs => by
    simp only [List.map_cons, PyData.eqvAll, PyData.eqv, eqvAll_strs ys zs]
    by_cases h1 : y = z <;> by_cases h2 : ys = zs <;> simp [h1, h2]
theorem eqv_strs (ys zs : List Str) : PyData.eqv (.list (ys.map .str)) (.list (zs.map .str)) = decide (ys = zs) := by
  simp only [PyData.eqv, eqvAll_strs]
theorem sorted_set_is {ys L zs : List Str} (pm : ys.Perm L) (nd : L.Nodup) (hs : sortedS ys = true) (hm : ∀ x, x ∈ L ↔ x ∈ zs) : decide (ys = zs) = rises zs := by
  have ndy : ys.Nodup := pm.nodup_iff.mpr nd
  have py : ys.Pairwise LtS := by
    cases ys with
    | nil => exact .nil
    | cons p r => exact sorted_pw p r hs ndy
  by_cases h : rises zs = true
  · rw [h, decide_eq_true_eq]
    exact pw_unique py ((rises_pw zs).mp h) fun x => by rw [pm.mem_iff, hm]
  · have h' : rises zs = false := by simpa using h
    rw [h', decide_eq_false_iff_not]
    intro e
    subst e
    exact h ((rises_pw _).mpr py)
end Sw
set_option maxRecDepth 100000
set_option maxHeartbeats 4000000
namespace Sw
open PySem PySem.Spec PyProof.Rows L2
/-- x is not True, x is not False, x an int or a bool -/
def rNotB2 : R2 := fun x y H Q => ∃ b : Bool, y = .bl b ∧ ((∃ i, x = .int i ∧ Q (.bl true) H) ∨ ∃ a, x = .bl a ∧ Q (.bl (!decide (a = b))) H)
theorem op_notB2 {X : Cx} : OpR X (compareOp .IsNot) rNotB2 := by
  intro pins s σ H x y v u Q I rx ry h
  obtain ⟨b, rfl, h⟩ := h
  cases (show u = Value.bool b from ry)
  rcases h with ⟨i, rfl, q⟩ | ⟨a, rfl, q⟩
  · obtain ⟨t, rfl⟩ := rx
    exact wpAny_isNot_other rfl (fun z => by cases z) ⟨.bl true, H, I, rfl, q⟩
  · cases (show v = Value.bool a from rx)
    by_cases e : a = b
    · subst e
      exact wpAny_isNot_self rfl ⟨.bl false, H, I, rfl, by simpa using q⟩
    · exact wpAny_isNot_other rfl (fun z => e (Value.bool.inj z)) ⟨.bl true, H, I, rfl, by simpa [e] using q⟩
section
variable {P : Program} {w : World} {K : PySem.W.Frag} {mg : Str → Option Value} {base : Heap}
theorem sc_lnum : FnScope ["_law_thing"] ["_law_thing"] (defScope (topS 23)) := ⟨rfl, rfl, rfl, by decide +kernel, rfl, by decide +kernel, by decide +kernel⟩
theorem ok_lnum {f : Addr} {fd : FuncData} (D : Df K mg "_law_number" (topS 23) ["_law_thing"] f fd) (B : Bt mg) : FnOk P w K mg base CX0 1 f fd ["_law_thing"] (spLook K dNum) := by
  refine D.fn.ok sc_lnum (fun vs H Q E h => ?_) (fun cdv A outer s H vs Q E hr h => ?_)
  · obtain ⟨v, d, rfl, _⟩ := h
    rfl
  obtain ⟨v, d, rfl, hd, hf, q⟩ := h
  refine ⟨_, pss_one (ps_ret (pe_and (pe_callB call_isi (by rfl) B.isi (by decide +kernel) (pa_cons (pv 0) (pa_cons (pe_bltn (v := .ty "int") (by rfl) B.int (by decide +kernel) rfl) pa_nil)))
    (pe_and (pe_cmpR op_notB2 (pv 0) pe_bl (nomark _)) (pe_one (pe_cmpR op_notB2 (pv 0) pe_bl (nomark _)))))), ?_⟩
  obtain ⟨t1, ty1, k1⟩ := isa_int hd
  refine ⟨v, rfl, v, .ty "int", t1, _, _, rfl, .ty _, ty1, k1, _, rfl, ?_⟩
  have q0 := q H (Same.refl H)
  cases hd with
  | int i =>
    refine iteT ⟨_, rfl, true, rfl, .inl ⟨i, rfl, _, rfl, ?_⟩⟩
    exact iteT ⟨_, rfl, false, rfl, .inl ⟨i, rfl, q0⟩⟩
  | bl b =>
    refine iteT ⟨_, rfl, true, rfl, .inr ⟨b, rfl, _, rfl, ?_⟩⟩
    cases b with
    | true => exact iteF q0
    | false => exact iteT ⟨_, rfl, false, rfl, .inr ⟨false, rfl, q0⟩⟩
  | non => exact iteF q0
  | str z => exact iteF q0
  | lst h r => exact iteF q0
  | tup h r => exact iteF q0
/-- the signs that spoil a word -/
def bad (z : Str) : List Nat := z.cps.toList.filter fun c => !okSign c
theorem bad_nil (z : Str) : (bad z).isEmpty = z.cps.toList.all okSign := by
  unfold bad
  generalize z.cps.toList = l
  induction l with
  | nil => rfl
  | cons c l ih =>
    by_cases h : okSign c = true
    · simp [h, ← ih]
    · have h' : okSign c = false := by simpa using h
      simp [h']
theorem filter_signs {z : Str} : ((List.range z.cps.size).filter fun i => !okSign (z.cps.toList.getD i 0)).map (fun i => V.str ⟨#[z.cps.toList.getD i 0]⟩) = ((bad z).map fun c => (⟨#[c]⟩ : Str)).map V.str := by
  unfold bad
  have e : z.cps.toList = (List.range z.cps.size).map fun i => z.cps.toList.getD i 0 := by
    apply List.ext_getElem?
    intro i
    simp only [List.getElem?_map]
    by_cases h : i < z.cps.size
    · rw [List.getElem?_range h, List.getElem?_eq_getElem (by simpa using h)]
      simp [List.getD, List.getElem?_eq_getElem, h]
    · rw [List.getElem?_eq_none (by simpa using h), List.getElem?_eq_none (by simpa using h)]
      rfl
  conv => rhs; rw [e]
  rw [List.filter_map, List.map_map, List.map_map]
  rfl
theorem eqv_nil_list (xs : List PyData) : PyData.eqv (.list xs) (.list []) = xs.isEmpty := by
  cases xs <;> simp [PyData.eqv, PyData.eqvAll]
theorem eqv_nil_tup (xs : List PyData) : PyData.eqv (.tuple xs) (.tuple []) = xs.isEmpty := by
  cases xs <;> simp [PyData.eqv, PyData.eqvAll]
theorem strs_shaped {zs : List Str} (h : ∀ z ∈ zs, ∀ c ∈ z.cps.toList, c < 128) : SeqAt.shaped (.list (zs.map PyData.str)) = true := by
  have hf : leaf 0 (.list (zs.map PyData.str)) = true := by
    simp only [leaf]
    refine leafAll_iff.mpr fun x hx => ?_
    obtain ⟨z, hz, rfl⟩ := List.mem_map.mp hx
    exact leaf_str.mpr (h z hz)
  unfold SeqAt.shaped
  rw [leaf_canLay _ hf, Bool.true_and, decide_eq_true_eq]
  have : (PyData.list (zs.map PyData.str)).depth ≤ 0 + 1 := depth_list.mpr fun x hx => by
    obtain ⟨z, _, rfl⟩ := List.mem_map.mp hx
    simp [PyData.depth]
  omega
theorem nil_shaped : SeqAt.shaped (.list []) = true := by decide +kernel
theorem nilT_shaped : SeqAt.shaped (.tuple []) = true := by decide +kernel
theorem bad_sign (c : Nat) : (decide ((c : Int) < 97) || decide ((c : Int) > 122)) = !okSign c := by
  unfold okSign
  by_cases h1 : 97 ≤ c <;> by_cases h2 : c ≤ 122 <;> simp [h1, h2] <;> omega
end
end Sw
set_option maxRecDepth 100000
set_option maxHeartbeats 4000000
namespace Sw
open PySem PySem.Spec PyProof.Rows L2
section
variable {P : Program} {w : World} {K : PySem.W.Frag} {mg : Str → Option Value} {base : Heap}
/-- pairs whose first things are words -/
def dWp : PyData → Bool
  | .tuple [a, _] => dWord a
  | _ => false
def dPairs : PyData → Bool
  | .tuple ds => !ds.isEmpty && ds.all dWp && rises (ds.map fstS)
  | _ => false
theorem wp_parts {K : PySem.W.Frag} {H : Hp} {v : V} {d : PyData} (h : Dp K H v d) (o : dWp d = true) : ∃ (p : Addr) (z : Str) (v1 : V) (e : PyData), v = .ref p ∧ SqT K H p [.str z, v1] ∧ Dp K H v1 e ∧ fstS d = z ∧ d = .tuple [.str z, e] := by
  unfold dWp at o
  split at o
  · rename_i a b
    cases a with
    | str z =>
      cases h with
      | tup hs r =>
        cases r with
        | cons h0 r =>
          cases r with
          | cons h1 r =>
            cases r
            cases h0
            exact ⟨_, z, _, _, rfl, hs, h1, rfl, rfl⟩
    | _ => simp [dWord] at o
  · cases o
theorem isEmpty_len {α β : Type} {l : List α} {m : List β} (h : l.length = m.length) : l.isEmpty = m.isEmpty := by
  cases l <;> cases m <;> simp at h ⊢
theorem filter_none {α : Type} (l : List α) (p : α → Bool) : (l.filter fun x => !p x).isEmpty = l.all p := by
  induction l with
  | nil => rfl
  | cons c l ih =>
    by_cases h : p c = true
    · simp [h, ← ih]
    · have h' : p c = false := by simpa using h
      simp [h']
theorem range_filter_all {ds : List PyData} (p : PyData → Bool) : ((List.range ds.length).filter fun i => !p (ds.getD i .none)).isEmpty = ds.all p := by
  rw [filter_none]
  have e : ds = (List.range ds.length).map fun i => ds.getD i .none := by
    apply List.ext_getElem?
    intro i
    simp only [List.getElem?_map]
    by_cases h : i < ds.length
    · rw [List.getElem?_range h, List.getElem?_eq_getElem h]
      simp [List.getD, h]
    · rw [List.getElem?_eq_none (by omega), List.getElem?_eq_none (by simp; omega)]
      rfl
  conv => rhs; rw [e]
  rw [List.all_map]
  rfl
theorem fit_shaped {M l n B : Nat} {ds : List PyData} (h : ∀ d ∈ ds, Fit M l n B d) (hn : n ≤ 63) : SeqAt.shaped (.list ds) = true := by
  have hf : leaf M (.list ds) = true := by simp only [leaf]; exact leafAll_iff.mpr fun x hx => (h x hx).lf
  unfold SeqAt.shaped
  rw [leaf_canLay _ hf, Bool.true_and, decide_eq_true_eq]
  have : (PyData.list ds).depth ≤ n + 1 := depth_list.mpr fun x hx => (h x hx).dp
  omega
theorem obj_all : ∀ (ds : List PyData), ds.all dObj = true → ds.all dWp = true := by
  intro ds h
  refine List.all_eq_true.mpr fun d hd => ?_
  have o := List.all_eq_true.mp h d hd
  unfold dObj at o
  split at o
  · rw [Bool.and_eq_true] at o
    exact o.1
  · cases o
end
end Sw
set_option maxRecDepth 100000
set_option maxHeartbeats 4000000
namespace Sw
open PySem PySem.Spec PyProof.Rows L2
/-! ### a heap without one place -/
def del (H : Hp) (p : Addr) : Hp := fun c => if c = p then none else H c
theorem del_some {H : Hp} {p c : Addr} {o : HO} (h : H c = some o) (hc : c ≠ p) : del H p c = some o := by unfold del; rw [if_neg hc]; exact h
theorem of_del {H : Hp} {p c : Addr} {o : HO} (h : del H p c = some o) : H c = some o ∧ c ≠ p := by
  unfold del at h
  by_cases hc : c = p
  · rw [if_pos hc] at h; cases h
  · rw [if_neg hc] at h; exact ⟨h, hc⟩
theorem del_same (H : Hp) (p : Addr) : Same (del H p) H := fun c o h => (of_del h).1
theorem same_del {H H' : Hp} {p : Addr} (h : Same H H') : Same (del H p) (del H' p) := fun c o e => del_some (h _ _ (of_del e).1) (of_del e).2
theorem del_upd {H : Hp} {p : Addr} {o : HO} : Same (del H p) (del (upd H p o) p) := fun c u e => del_some (by rw [upd_ne (of_del e).2]; exact (of_del e).1) (of_del e).2
theorem del_new {H : Hp} {p a : Addr} {o : HO} (ha : H a = none) : Same (del H p) (del (upd H a o) p) := same_del (same_new ha)
theorem new_del {H : Hp} {p a : Addr} {o u : HO} (hp : H p = some u) (ha : H a = none) : del (upd H a o) p a = some o := del_some upd_same (fun e => by rw [e, hp] at ha; cases ha)
/-! ### what the draws stand on -/
structure FeedAt (H : Hp) (p fq : Addr) (b : Nat) : Prop where
  ex : ∃ (ns : List Int) (i j k : Int), H p = some (.lst [.ref fq, .int i, .int j, .int k]) ∧ H fq = some (.lst (ns.map V.int)) ∧ p ≠ fq ∧ 0 ≤ i ∧ 0 ≤ j ∧ 0 ≤ k ∧ k ≤ (b : Int) ∧ ns.length ≤ 63
theorem FeedAt.there {H : Hp} {p fq : Addr} {b : Nat} (h : FeedAt H p fq b) : ∃ u, H p = some u := by
  obtain ⟨ns, i, j, k, hp, _⟩ := h.ex
  exact ⟨_, hp⟩
theorem FeedAt.mono {H : Hp} {p fq : Addr} {b c : Nat} (h : FeedAt H p fq b) (hb : b ≤ c) : FeedAt H p fq c := by
  obtain ⟨ns, i, j, k, h1, h2, h3, h4, h5, h6, h7, h8⟩ := h.ex
  exact ⟨ns, i, j, k, h1, h2, h3, h4, h5, h6, by omega, h8⟩
theorem FeedAt.same {H H' : Hp} {p fq : Addr} {b : Nat} (h : FeedAt H p fq b) (s : Same H H') : FeedAt H' p fq b := by
  obtain ⟨ns, i, j, k, h1, h2, h3⟩ := h.ex
  exact ⟨ns, i, j, k, s _ _ h1, s _ _ h2, h3⟩
/-- another list changes -/
theorem FeedAt.upd {H : Hp} {p fq a : Addr} {b : Nat} {o : HO} (h : FeedAt H p fq b) (h1 : a ≠ p) (h2 : a ≠ fq) : FeedAt (upd H a o) p fq b := by
  obtain ⟨ns, i, j, k, g1, g2, g3⟩ := h.ex
  exact ⟨ns, i, j, k, by rw [upd_ne (Ne.symm h1)]; exact g1, by rw [upd_ne (Ne.symm h2)]; exact g2, g3⟩
theorem FeedAt.ne {H : Hp} {p fq a : Addr} {b : Nat} (h : FeedAt H p fq b) (ha : H a = none) : a ≠ p ∧ a ≠ fq := by
  obtain ⟨ns, i, j, k, g1, g2, g3⟩ := h.ex
  exact ⟨Ne.symm (ne_of_none g1 ha), Ne.symm (ne_of_none g2 ha)⟩
/-- xs[i], for xs[i] += e -/
theorem get_list {X : Cx} : PGet X (fun o i H Q => ∃ p xs k v, o = .ref p ∧ i = .int k ∧ 0 ≤ k ∧ SqL X.K H p xs ∧ xs[k.toNat]? = some v ∧ Q v H) := by
  intro pins s σ H o i ov iv Q I ro ri h
  obtain ⟨p, xs, k, v, rfl, rfl, h0, hq, he, q⟩ := h
  cases ro
  obtain ⟨t, rfl⟩ := ri
  obtain ⟨its, r, pl, hz⟩ := I.list hq
  obtain ⟨u, eu, ru⟩ := r.get he
  have hl := (List.getElem?_eq_some_iff.mp he).1
  have hn := line63
  exact wpAny_getItem_list pl.isList h0 (by omega) (by simpa using eu) ⟨v, H, I, ru, q⟩
theorem ints_shaped (ns : List Int) : SeqAt.shaped (.list (ns.map PyData.int)) = true := by
  have hf : PyData.canLayAll0 (ns.map PyData.int) = true := by
    induction ns with
    | nil => simp [PyData.canLayAll0]
    | cons n ns ih => simp [PyData.canLayAll0, PyData.canLay0, ih]
  unfold SeqAt.shaped
  rw [show (PyData.list (ns.map PyData.int)).canLay0 = true by simpa [PyData.canLay0] using hf, Bool.true_and, decide_eq_true_eq]
  have : (PyData.list (ns.map PyData.int)).depth ≤ 0 + 1 := depth_list.mpr fun x hx => by
    obtain ⟨z, _, rfl⟩ := List.mem_map.mp hx
    simp [PyData.depth]
  omega
theorem DpAll_ints {K : PySem.W.Frag} {H : Hp} : ∀ ns : List Int, DpAll K H (ns.map V.int) (ns.map PyData.int)
  | [] => .nil
  | n :: ns => .cons (.int n) (DpAll_ints ns)
theorem md {x A : Int} (h : 0 < A) (hA : A ≤ 4294967296) : -(2 ^ 64) < x % A ∧ x % A < 2 ^ 64 := by
  have h1 := Int.emod_nonneg x (by omega : A ≠ 0)
  have h2 := Int.emod_lt_of_pos x h
  constructor <;> omega
section
variable {P : Program} {w : World} {K : PySem.W.Frag} {mg : Str → Option Value} {base : Heap}
def spDraw : Sp := fun vs H Q _ => ∃ (p fq : Addr) (m : Int) (b : Nat), vs = [.ref p, .int m] ∧ FeedAt H p fq b ∧ b ≤ 1000000000 ∧ 1 ≤ m ∧ m ≤ 1000000 ∧
  ∀ (r : Int) (H' : Hp), 0 ≤ r → r < m → Same (del H p) (del H' p) → FeedAt H' p fq (b + 1) → Q (.int r) H'
theorem sc_draw : FnScope ["_law_feed_here", "_law_many", "_law_told", "_law_cell", "_law_turn", "_law_mixed"] ["_law_feed_here", "_law_many"] (defScope (topS 20)) := ⟨rfl, rfl, rfl, by decide +kernel, rfl, by decide +kernel, by decide +kernel⟩
theorem ok_draw {f : Addr} {fd : FuncData} (D : Df K mg "_law_draw" (topS 20) ["_law_feed_here", "_law_many"] f fd) (B : Bt mg) : FnOk P w K mg base CX0 1 f fd ["_law_feed_here", "_law_many"] spDraw := by
  refine D.fn.ok sc_draw (fun vs H Q E h => ?_) (fun cdv A outer s H vs Q E hr h => ?_)
  · obtain ⟨p, qa, m, b, rfl, _⟩ := h
    rfl
  obtain ⟨p, qa, m, b, rfl, hF, hb, hm1, hm2, q⟩ := h
  obtain ⟨ns, i, j, k, hp, hq, hne, hi, hj, hk, hkb, hn⟩ := hF.ex
  have hu := hr.units
  have nd := sc_draw.nd
  refine ⟨_, pss_cons (ps_augS (pv 0) pe_int get_list pe_int ip_add set_list)
    (pss_cons (ps_if (pt_cmpR op_gt (pe_ix ix_list (pv 0) pe_int (fun _ _ => rfl)) pe_int (nomark _))
      (pss_cons (ps_set (i := 2) nd rfl (Or.inl rfl) (pe_op op_mod (pe_ix ix_list (pv 0) pe_int (fun _ _ => rfl)) (pv 1)))
      (pss_cons (ps_asg (pe_op op_fdiv (pe_ix ix_list (pv 0) pe_int (fun _ _ => rfl)) (pv 1)) (pg_sub (pv 0) pe_int set_list))
      (pss_one (ps_ret (pv 2))))) pss_nil)
    (pss_cons (ps_set (i := 3) nd rfl (Or.inl rfl) (pe_ifExp (pt_cmpR (op_eqD hu) (pe_ix ix_list (pv 0) pe_int (fun _ _ => rfl)) (pe_lst pa_nil) (nomark _)) pe_int
      (pe_ix ix_list (pe_ix ix_list (pv 0) pe_int (fun _ _ => rfl)) (pe_op op_mod (pe_ix ix_list (pv 0) pe_int (fun _ _ => rfl)) (pe_callB call_len_seq (by rfl) B.len PySem.boot_len (pa_cons (pe_ix ix_list (pv 0) pe_int (fun _ _ => rfl)) pa_nil))) (fun _ _ => rfl))))
    (pss_cons (ps_augS (pv 0) pe_int get_list pe_int ip_add set_list)
    (pss_cons (ps_if (PW.pt (pw_and (pt_cmpR op_ge (pv 3) (pe_op op_pow pe_int pe_int) (nomark _)) (pw_and1 (pt_cmpR op_le (pe_ix ix_list (pv 0) pe_int (fun _ _ => rfl)) (pe_callB call_len_seq (by rfl) B.len PySem.boot_len (pa_cons (pe_ix ix_list (pv 0) pe_int (fun _ _ => rfl)) pa_nil)) (nomark _)))))
      (pss_cons (ps_asg (pe_op op_fdiv (pv 3) (pv 1)) (pg_sub (pv 0) pe_int set_list))
      (pss_one (ps_ret (pe_op op_mod (pv 3) (pv 1))))) pss_nil)
    (pss_cons (ps_set (i := 4) nd rfl (Or.inl rfl) (pe_ix ix_list (pv 0) pe_int (fun _ _ => rfl)))
    (pss_cons (ps_set (i := 5) nd rfl (Or.inl rfl) (pe_op op_mod (pe_op op_add (pe_op op_add (pe_op op_mod (pv 3) pe_int) (pe_op op_mul (pe_op op_mul pe_int (pv 4)) (pv 4))) (pe_op op_mul pe_int (pv 4))) pe_int))
    (pss_cons (ps_set (i := 5) nd rfl (Or.inl rfl) (pe_op op_mod (pe_op op_add (pe_op op_mul (pv 5) (pv 5)) (pe_op op_mul pe_int (pv 4))) pe_int))
    (pss_cons (ps_set (i := 5) nd rfl (Or.inl rfl) (pe_op op_mod (pe_op op_add (pe_op op_mul (pv 5) (pv 5)) (pe_op op_mul pe_int (pv 4))) pe_int))
    (pss_one (ps_ret (pe_op op_mod (pe_op op_fdiv (pe_op op_mod (pe_op op_add (pe_op op_mul (pv 5) (pv 5)) (pv 4)) pe_int) pe_int) (pv 1)))))))))))), ?_⟩
  -- feed[3] += 1
  refine ⟨_, rfl, p, _, 3, _, rfl, rfl, by decide, SqL.of hp, rfl, k, 1, rfl, rfl, p, _, 3, 3, rfl, rfl, hp, rfl, ?_⟩
  generalize hH1 : upd H p (HO.lst ([V.ref qa, V.int i, V.int j, V.int k].set 3 (V.int ((fun i j => i + j) k 1)))) = H1
  have hp1 : H1 p = some (.lst [.ref qa, .int i, .int j, .int (k + 1)]) := by rw [← hH1]; exact upd_same
  have hq1 : H1 qa = some (.lst (ns.map V.int)) := by rw [← hH1, upd_ne (Ne.symm hne)]; exact hq
  have d1 : Same (del H p) (del H1 p) := by rw [← hH1]; exact del_upd
  clear hH1
  -- if feed[2] > 0
  refine ⟨_, rfl, p, _, 2, _, rfl, rfl, SqL.of hp1, atI_nat (j := 2) rfl, j, 0, rfl, rfl, _, rfl, ?_⟩
  refine ite2 (fun c => ?_) (fun c => ?_)
  · refine ⟨_, rfl, p, _, 2, _, rfl, rfl, SqL.of hp1, atI_nat (j := 2) rfl, _, rfl, j, m, rfl, rfl, (by show (0 : Int) < m; omega), ?_⟩
    refine ⟨_, rfl, p, _, 2, _, rfl, rfl, SqL.of hp1, atI_nat (j := 2) rfl, _, rfl, j, m, rfl, rfl, ⟨by omega, by omega⟩, _, rfl, p, _, 2, 2, rfl, rfl, hp1, rfl, ?_⟩
    refine ⟨_, rfl, q _ _ (Int.emod_nonneg _ (by omega)) (Int.emod_lt_of_pos _ (by omega)) (d1.trans del_upd) ⟨ns, i, j / m, k + 1, upd_same, ?_, hne, hi, Int.ediv_nonneg hj (by omega), by omega, by omega, hn⟩⟩
    rw [upd_ne (Ne.symm hne)]
    exact hq1
  -- the cell
  refine ⟨_, rfl, p, _, 0, _, rfl, rfl, SqL.of hp1, atI_nat (j := 0) rfl, Nat.zero_le _, fun N hN => ?_⟩
  have sN : Same H1 (upd H1 N (.lst [])) := same_new hN
  refine ⟨.list (ns.map PyData.int), .list [], .lst (SqL.of (sN _ _ hq1)) (DpAll_ints _), .lst (SqL.of upd_same) .nil, ints_shaped _, nil_shaped, _, rfl, ?_⟩
  have d2 : Same (del H p) (del (upd H1 N (.lst [])) p) := d1.trans (same_del sN)
  have hp2 := sN _ _ hp1
  have hq2 := sN _ _ hq1
  generalize upd H1 N (.lst []) = H2 at d2 hp2 hq2
  rw [eqv_nil_list]
  refine ite2 (fun c2 => ?_) (fun c2 => ?_)
  rotate_left
  · have hne0 : ns.length ≠ 0 := fun e => c2 (by rw [List.eq_nil_of_length_eq_zero e]; rfl)
    have hml : (ns.map V.int).length = ns.length := List.length_map _
    have e1 : 0 ≤ i % ((ns.map V.int).length : Int) := Int.emod_nonneg _ (by rw [hml]; omega)
    have e2 : i % ((ns.map V.int).length : Int) < ((ns.map V.int).length : Int) := Int.emod_lt_of_pos _ (by rw [hml]; omega)
    obtain ⟨t, ht⟩ : ∃ t : Nat, i % ((ns.map V.int).length : Int) = (t : Int) := ⟨_, (Int.toNat_of_nonneg e1).symm⟩
    have ht2 : t < ns.length := by rw [ht, hml] at e2; omega
    have hat : atI (ns.map V.int) (i % ((ns.map V.int).length : Int)) = some (V.int ns[t]) := by
      rw [ht]
      exact atI_nat (by rw [List.getElem?_map, List.getElem?_eq_getElem ht2]; rfl)
    refine ⟨_, rfl, p, _, 0, _, rfl, rfl, SqL.of hp2, atI_nat (j := 0) rfl, _, rfl, p, _, 1, _, rfl, rfl, SqL.of hp2, atI_nat (j := 1) rfl, _, rfl, p, _, 0, _, rfl, rfl, SqL.of hp2, atI_nat (j := 0) rfl, qa, _, rfl, .inl (SqL.of hq2), i, _, rfl, rfl, (by show (0 : Int) < _; rw [hml]; omega), qa, _, _, _, rfl, rfl, SqL.of hq2, hat, ?_⟩
    generalize ns[t] = cell
    refine ⟨_, rfl, p, _, 1, _, rfl, rfl, by decide, SqL.of hp2, rfl, i, 1, rfl, rfl, p, _, 1, 1, rfl, rfl, hp2, rfl, ?_⟩
    generalize hH3 : upd H2 p (HO.lst ([V.ref qa, V.int i, V.int j, V.int (k + 1)].set 1 (V.int ((fun i j => i + j) i 1)))) = H3
    have hp3 : H3 p = some (.lst [.ref qa, .int (i + 1), .int j, .int (k + 1)]) := by rw [← hH3]; exact upd_same
    have hq3 : H3 qa = some (.lst (ns.map V.int)) := by rw [← hH3, upd_ne (Ne.symm hne)]; exact hq2
    have d3 : Same (del H p) (del H3 p) := by rw [← hH3]; exact d2.trans del_upd
    clear hH3
    refine ⟨_, rfl, 10, 18, rfl, rfl, ⟨by decide, by decide, by decide⟩, _, _, rfl, rfl, _, rfl, ?_⟩
    refine ite2 (fun c3 => ?_) (fun c3 => ?_)
    · have c4 := of_decide_eq_true c3
      refine ⟨_, rfl, p, _, 1, _, rfl, rfl, SqL.of hp3, atI_nat (j := 1) rfl, _, rfl, p, _, 0, _, rfl, rfl, SqL.of hp3, atI_nat (j := 0) rfl, qa, _, rfl, .inl (SqL.of hq3), _, _, rfl, rfl, _, rfl, ?_⟩
      refine ite2 (fun c5 => ?_) (fun c5 => ?_)
      · refine ⟨_, rfl, _, rfl, _, m, rfl, rfl, ⟨by omega, by omega⟩, _, rfl, p, _, 2, 2, rfl, rfl, hp3, rfl, ?_⟩
        refine ⟨_, rfl, _, rfl, _, m, rfl, rfl, (by show (0 : Int) < m; omega), ?_⟩
        refine q _ _ (Int.emod_nonneg _ (by omega)) (Int.emod_lt_of_pos _ (by omega)) (d3.trans del_upd) ⟨ns, i + 1, _, k + 1, upd_same, ?_, hne, by omega, Int.ediv_nonneg (Int.le_trans (by decide) c4) (by omega), by omega, by omega, hn⟩
        rw [upd_ne (Ne.symm hne)]
        exact hq3
      · refine ⟨_, rfl, p, _, 3, _, rfl, rfl, SqL.of hp3, atI_nat (j := 3) rfl, ?_⟩
        refine ⟨_, rfl, _, 2147483629, rfl, rfl, (by show (0 : Int) < 2147483629; decide), _, rfl, 69621, k + 1, rfl, rfl, .inl ⟨by decide, by decide⟩, _, rfl, _, k + 1, rfl, rfl, .inr ⟨by omega, by omega⟩, _, _, rfl, rfl, _, rfl, 7, k + 1, rfl, rfl, .inl ⟨by decide, by decide⟩, _, _, rfl, rfl, _, 2147483629, rfl, rfl, (by show (0 : Int) < 2147483629; decide), ?_⟩
        refine ⟨_, rfl, _, rfl, _, _, rfl, rfl, .inl (md (by decide) (by decide)), _, rfl, 48271, k + 1, rfl, rfl, .inl ⟨by decide, by decide⟩, _, _, rfl, rfl, _, 2147483647, rfl, rfl, (by show (0 : Int) < 2147483647; decide), ?_⟩
        refine ⟨_, rfl, _, rfl, _, _, rfl, rfl, .inl (md (by decide) (by decide)), _, rfl, 16807, k + 1, rfl, rfl, .inl ⟨by decide, by decide⟩, _, _, rfl, rfl, _, 2147483587, rfl, rfl, (by show (0 : Int) < 2147483587; decide), ?_⟩
        refine ⟨_, rfl, _, rfl, _, _, rfl, rfl, .inl (md (by decide) (by decide)), _, rfl, _, k + 1, rfl, rfl, _, 2147483629, rfl, rfl, (by show (0 : Int) < 2147483629; decide), _, 131, rfl, rfl, ⟨by decide, by decide⟩, _, rfl, _, m, rfl, rfl, by show (0 : Int) < m; omega, ?_⟩
        exact q _ _ (Int.emod_nonneg _ (by omega)) (Int.emod_lt_of_pos _ (by omega)) d3 ⟨ns, i + 1, j, k + 1, hp3, hq3, hne, by omega, hj, by omega, by omega, hn⟩
    · refine iteF ?_
      refine ⟨_, rfl, p, _, 3, _, rfl, rfl, SqL.of hp3, atI_nat (j := 3) rfl, ?_⟩
      refine ⟨_, rfl, _, 2147483629, rfl, rfl, (by show (0 : Int) < 2147483629; decide), _, rfl, 69621, k + 1, rfl, rfl, .inl ⟨by decide, by decide⟩, _, rfl, _, k + 1, rfl, rfl, .inr ⟨by omega, by omega⟩, _, _, rfl, rfl, _, rfl, 7, k + 1, rfl, rfl, .inl ⟨by decide, by decide⟩, _, _, rfl, rfl, _, 2147483629, rfl, rfl, (by show (0 : Int) < 2147483629; decide), ?_⟩
      refine ⟨_, rfl, _, rfl, _, _, rfl, rfl, .inl (md (by decide) (by decide)), _, rfl, 48271, k + 1, rfl, rfl, .inl ⟨by decide, by decide⟩, _, _, rfl, rfl, _, 2147483647, rfl, rfl, (by show (0 : Int) < 2147483647; decide), ?_⟩
      refine ⟨_, rfl, _, rfl, _, _, rfl, rfl, .inl (md (by decide) (by decide)), _, rfl, 16807, k + 1, rfl, rfl, .inl ⟨by decide, by decide⟩, _, _, rfl, rfl, _, 2147483587, rfl, rfl, (by show (0 : Int) < 2147483587; decide), ?_⟩
      refine ⟨_, rfl, _, rfl, _, _, rfl, rfl, .inl (md (by decide) (by decide)), _, rfl, _, k + 1, rfl, rfl, _, 2147483629, rfl, rfl, (by show (0 : Int) < 2147483629; decide), _, 131, rfl, rfl, ⟨by decide, by decide⟩, _, rfl, _, m, rfl, rfl, by show (0 : Int) < m; omega, ?_⟩
      exact q _ _ (Int.emod_nonneg _ (by omega)) (Int.emod_lt_of_pos _ (by omega)) d3 ⟨ns, i + 1, j, k + 1, hp3, hq3, hne, by omega, hj, by omega, by omega, hn⟩
  · refine ⟨_, rfl, p, _, 1, _, rfl, rfl, by decide, SqL.of hp2, rfl, i, 1, rfl, rfl, p, _, 1, 1, rfl, rfl, hp2, rfl, ?_⟩
    generalize hH3 : upd H2 p (HO.lst ([V.ref qa, V.int i, V.int j, V.int (k + 1)].set 1 (V.int ((fun i j => i + j) i 1)))) = H3
    have hp3 : H3 p = some (.lst [.ref qa, .int (i + 1), .int j, .int (k + 1)]) := by rw [← hH3]; exact upd_same
    have hq3 : H3 qa = some (.lst (ns.map V.int)) := by rw [← hH3, upd_ne (Ne.symm hne)]; exact hq2
    have d3 : Same (del H p) (del H3 p) := by rw [← hH3]; exact d2.trans del_upd
    clear hH3
    refine ⟨_, rfl, 10, 18, rfl, rfl, ⟨by decide, by decide, by decide⟩, _, _, rfl, rfl, _, rfl, ?_⟩
    refine ite2 (fun c3 => ?_) (fun c3 => ?_)
    · have c4 := of_decide_eq_true c3
      refine ⟨_, rfl, p, _, 1, _, rfl, rfl, SqL.of hp3, atI_nat (j := 1) rfl, _, rfl, p, _, 0, _, rfl, rfl, SqL.of hp3, atI_nat (j := 0) rfl, qa, _, rfl, .inl (SqL.of hq3), _, _, rfl, rfl, _, rfl, ?_⟩
      refine ite2 (fun c5 => ?_) (fun c5 => ?_)
      · refine ⟨_, rfl, _, rfl, _, m, rfl, rfl, ⟨by omega, by omega⟩, _, rfl, p, _, 2, 2, rfl, rfl, hp3, rfl, ?_⟩
        refine ⟨_, rfl, _, rfl, _, m, rfl, rfl, (by show (0 : Int) < m; omega), ?_⟩
        refine q _ _ (Int.emod_nonneg _ (by omega)) (Int.emod_lt_of_pos _ (by omega)) (d3.trans del_upd) ⟨ns, i + 1, _, k + 1, upd_same, ?_, hne, by omega, Int.ediv_nonneg (Int.le_trans (by decide) c4) (by omega), by omega, by omega, hn⟩
        rw [upd_ne (Ne.symm hne)]
        exact hq3
      · refine ⟨_, rfl, p, _, 3, _, rfl, rfl, SqL.of hp3, atI_nat (j := 3) rfl, ?_⟩
        refine ⟨_, rfl, _, 2147483629, rfl, rfl, (by show (0 : Int) < 2147483629; decide), _, rfl, 69621, k + 1, rfl, rfl, .inl ⟨by decide, by decide⟩, _, rfl, _, k + 1, rfl, rfl, .inr ⟨by omega, by omega⟩, _, _, rfl, rfl, _, rfl, 7, k + 1, rfl, rfl, .inl ⟨by decide, by decide⟩, _, _, rfl, rfl, _, 2147483629, rfl, rfl, (by show (0 : Int) < 2147483629; decide), ?_⟩
        refine ⟨_, rfl, _, rfl, _, _, rfl, rfl, .inl (md (by decide) (by decide)), _, rfl, 48271, k + 1, rfl, rfl, .inl ⟨by decide, by decide⟩, _, _, rfl, rfl, _, 2147483647, rfl, rfl, (by show (0 : Int) < 2147483647; decide), ?_⟩
        refine ⟨_, rfl, _, rfl, _, _, rfl, rfl, .inl (md (by decide) (by decide)), _, rfl, 16807, k + 1, rfl, rfl, .inl ⟨by decide, by decide⟩, _, _, rfl, rfl, _, 2147483587, rfl, rfl, (by show (0 : Int) < 2147483587; decide), ?_⟩
        refine ⟨_, rfl, _, rfl, _, _, rfl, rfl, .inl (md (by decide) (by decide)), _, rfl, _, k + 1, rfl, rfl, _, 2147483629, rfl, rfl, (by show (0 : Int) < 2147483629; decide), _, 131, rfl, rfl, ⟨by decide, by decide⟩, _, rfl, _, m, rfl, rfl, by show (0 : Int) < m; omega, ?_⟩
        exact q _ _ (Int.emod_nonneg _ (by omega)) (Int.emod_lt_of_pos _ (by omega)) d3 ⟨ns, i + 1, j, k + 1, hp3, hq3, hne, by omega, hj, by omega, by omega, hn⟩
    · refine iteF ?_
      refine ⟨_, rfl, p, _, 3, _, rfl, rfl, SqL.of hp3, atI_nat (j := 3) rfl, ?_⟩
      refine ⟨_, rfl, _, 2147483629, rfl, rfl, (by show (0 : Int) < 2147483629; decide), _, rfl, 69621, k + 1, rfl, rfl, .inl ⟨by decide, by decide⟩, _, rfl, _, k + 1, rfl, rfl, .inr ⟨by omega, by omega⟩, _, _, rfl, rfl, _, rfl, 7, k + 1, rfl, rfl, .inl ⟨by decide, by decide⟩, _, _, rfl, rfl, _, 2147483629, rfl, rfl, (by show (0 : Int) < 2147483629; decide), ?_⟩
      refine ⟨_, rfl, _, rfl, _, _, rfl, rfl, .inl (md (by decide) (by decide)), _, rfl, 48271, k + 1, rfl, rfl, .inl ⟨by decide, by decide⟩, _, _, rfl, rfl, _, 2147483647, rfl, rfl, (by show (0 : Int) < 2147483647; decide), ?_⟩
      refine ⟨_, rfl, _, rfl, _, _, rfl, rfl, .inl (md (by decide) (by decide)), _, rfl, 16807, k + 1, rfl, rfl, .inl ⟨by decide, by decide⟩, _, _, rfl, rfl, _, 2147483587, rfl, rfl, (by show (0 : Int) < 2147483587; decide), ?_⟩
      refine ⟨_, rfl, _, rfl, _, _, rfl, rfl, .inl (md (by decide) (by decide)), _, rfl, _, k + 1, rfl, rfl, _, 2147483629, rfl, rfl, (by show (0 : Int) < 2147483629; decide), _, 131, rfl, rfl, ⟨by decide, by decide⟩, _, rfl, _, m, rfl, rfl, by show (0 : Int) < m; omega, ?_⟩
      exact q _ _ (Int.emod_nonneg _ (by omega)) (Int.emod_lt_of_pos _ (by omega)) d3 ⟨ns, i + 1, j, k + 1, hp3, hq3, hne, by omega, hj, by omega, by omega, hn⟩
end
end Sw
set_option maxRecDepth 100000
set_option maxHeartbeats 4000000
namespace Sw
open PySem PySem.Spec PyProof.Rows L2
abbrev abc : Str := "abcdefghijklmnopqrstuvwxyz"
theorem abc_list : abc.cps.toList = (List.range 26).map (97 + ·) := by decide +kernel
theorem abc_len : abc.length ≤ sizeLine := by decide +kernel
theorem abc_at {r : Int} (h0 : 0 ≤ r) (h1 : r < 26) : ∃ c, atI abc.cps.toList r = some c ∧ okSign c = true := by
  obtain ⟨n, rfl⟩ : ∃ n : Nat, r = (n : Int) := ⟨r.toNat, (Int.toNat_of_nonneg h0).symm⟩
  have hn : n < 26 := by omega
  refine ⟨97 + n, atI_nat (by rw [abc_list, List.getElem?_map, List.getElem?_range hn]; rfl), ?_⟩
  unfold okSign
  simp
  omega
theorem abc_index : ((List.range 26).all fun k => (Txt.index0 abc ⟨#[97 + k]⟩).isSome) = true := by decide +kernel
theorem abc_found {c : Nat} (h : okSign c = true) : Txt.index0 abc ⟨#[c]⟩ ≠ none := by
  unfold okSign at h
  rw [Bool.and_eq_true, decide_eq_true_eq, decide_eq_true_eq] at h
  have := List.all_eq_true.mp abc_index (c - 97) (List.mem_range.mpr (by omega))
  rw [show 97 + (c - 97) = c by omega] at this
  intro z
  rw [z] at this
  cases this
structure IsWord (z : Str) : Prop where
  lo : 1 ≤ z.length
  hi : z.length ≤ 8
  ok : ∀ c ∈ z.cps.toList, okSign c = true
theorem len_list (z : Str) : z.length = z.cps.toList.length := by simp [Str.length]
theorem app_list (x y : Str) : (x ++ y).cps.toList = x.cps.toList ++ y.cps.toList := by
  show (x.cps ++ y.cps).toList = _
  simp
theorem app_len (x y : Str) : (x ++ y).length = x.length + y.length := by
  rw [len_list, len_list, len_list, app_list, List.length_append]
theorem IsWord.small {z : Str} (h : IsWord z) : z.length ≤ sizeLine := by have := h.hi; rw [sizeLine_eq]; omega
theorem IsWord.ascii {z : Str} (h : IsWord z) : ∀ c ∈ z.cps.toList, c < 128 := fun c hc => by
  have := h.ok c hc
  unfold okSign at this
  rw [Bool.and_eq_true, decide_eq_true_eq, decide_eq_true_eq] at this
  omega
theorem one_sign {c : Nat} (h : okSign c = true) : IsWord ⟨#[c]⟩ := ⟨by show 1 ≤ 1; omega, by show 1 ≤ 8; omega, fun d hd => by
  have : d = c := by simpa using hd
  rw [this]; exact h⟩
theorem IsWord.app {x y : Str} (hx : IsWord x) (hy : ∀ c ∈ y.cps.toList, okSign c = true) (hl : x.length + y.length ≤ 8) : IsWord (x ++ y) := by
  refine ⟨by rw [app_len]; have := hx.lo; omega, by rw [app_len]; exact hl, fun c hc => ?_⟩
  rw [app_list, List.mem_append] at hc
  exact hc.elim (hx.ok c) (hy c)
theorem cutS_list (z : Str) {n : Nat} (hn : n ≤ z.length) : (cutS z none (some (n : Int))).cps.toList = z.cps.toList.take n := by
  unfold cutS
  simp only [HT.sIx_nat, HT.sIx_none]
  rw [Nat.min_eq_left hn]
  simp
theorem cutS_any (z : Str) (n : Nat) : (cutS z none (some (n : Int))).cps.toList = z.cps.toList.take (min n z.length) := by
  unfold cutS
  simp only [HT.sIx_nat, HT.sIx_none]
  simp
theorem mul_a : ∀ n : Nat, n ≤ 7 → MulOk "a" (n : Int) ∧ (Txt.mul "a" (n : Int)).cps.toList = List.replicate n 97
  | 0, _ => ⟨by unfold MulOk; decide +kernel, by decide +kernel⟩
  | 1, _ => ⟨by unfold MulOk; decide +kernel, by decide +kernel⟩
  | 2, _ => ⟨by unfold MulOk; decide +kernel, by decide +kernel⟩
  | 3, _ => ⟨by unfold MulOk; decide +kernel, by decide +kernel⟩
  | 4, _ => ⟨by unfold MulOk; decide +kernel, by decide +kernel⟩
  | 5, _ => ⟨by unfold MulOk; decide +kernel, by decide +kernel⟩
  | 6, _ => ⟨by unfold MulOk; decide +kernel, by decide +kernel⟩
  | 7, _ => ⟨by unfold MulOk; decide +kernel, by decide +kernel⟩
  | n + 8, h => by omega
theorem op_mulS {X : Cx} : OpR X (binaryOp .Mult) (fun x y H Q => ∃ z n, x = .str z ∧ y = .int n ∧ MulOk z n ∧ Q (.str (Txt.mul z n)) H) := by
  intro pins s σ H x y v u Q I rx ry h
  obtain ⟨z, n, rfl, rfl, ok, q⟩ := h
  obtain ⟨t, rfl⟩ := rx
  obtain ⟨t', rfl⟩ := ry
  exact SB.mul ok fun t2 k => ⟨.str _, H, I.tok k, ⟨_, rfl⟩, q⟩
theorem takesNo {X : Cx} : Takes X (fun _ _ _ _ => False) := fun u s' ⟨a, B, sI, pins, σ, H, cls, d, e, I, nb, up, sky, na, os, ag, w⟩ => w.elim
section
variable {P : Program} {w : World} {K : PySem.W.Frag} {mg : Str → Option Value} {base : Heap}
def spAfter : Sp := fun vs H Q _ => ∃ z : Str, vs = [.str z] ∧ IsWord z ∧ ∀ z', IsWord z' → Q (.str z') H
end
end Sw
set_option maxRecDepth 100000
set_option maxHeartbeats 4000000
namespace Sw
open PySem PySem.Spec PyProof.Rows L2
theorem flat_strs (zs : List Str) : (zs.map V.str).all flatV = true := by
  rw [List.all_map]
  exact List.all_eq_true.mpr fun _ _ => rfl
section
variable {P : Program} {w : World} {K : PySem.W.Frag} {mg : Str → Option Value} {base : Heap}
def spWord : Sp := fun vs H Q _ => ∃ (p fq l : Addr) (b : Nat) (zs : List Str), vs = [.ref p, .ref l] ∧ FeedAt H p fq b ∧ b + 20 ≤ 1000000000 ∧ del H p l = some (.lst (zs.map V.str)) ∧ zs.length ≤ 1000 ∧ (∀ z ∈ zs, IsWord z) ∧
  ∀ (z : Str) (H' : Hp), IsWord z → Same (del H p) (del H' p) → FeedAt H' p fq (b + 12) → Q (.str z) H'
end
end Sw
set_option maxRecDepth 100000
set_option maxHeartbeats 4000000
namespace Sw
open PySem PySem.Spec PyProof.Rows L2
section
variable {P : Program} {w : World} {K : PySem.W.Frag} {mg : Str → Option Value} {base : Heap}
def spGreat : Sp := fun vs H Q _ => ∃ (p fq : Addr) (b : Nat), vs = [.ref p] ∧ FeedAt H p fq b ∧ b + 60 ≤ 1000000000 ∧
  ∀ (i : Int) (H' : Hp), i.natAbs ≤ 10 ^ 199 → Same (del H p) (del H' p) → FeedAt H' p fq (b + 40) → Q (.int i) H'
theorem great_bd {t n : Nat} (h : t < 100 * 1000000 ^ n) (hn : n ≤ 32) : t ≤ 10 ^ 199 := by
  have h1 : (1000000 : Nat) ^ n ≤ 1000000 ^ 32 := Nat.pow_le_pow_right (by decide) hn
  have h2 : 100 * (1000000 : Nat) ^ 32 ≤ 10 ^ 199 := by decide +kernel
  have h3 := Nat.mul_le_mul_left 100 h1
  omega
theorem cutS_sub (z : Str) (lo hi : Option Int) : (∀ c ∈ (cutS z lo hi).cps.toList, c ∈ z.cps.toList) ∧ (cutS z lo hi).length ≤ z.length := by
  unfold cutS
  constructor
  · intro c hc
    exact List.mem_of_mem_drop (List.mem_of_mem_take (by simpa using hc))
  · rw [len_list, len_list]
    simp
    omega
def spSpoilt : Sp := fun vs H Q _ => ∃ (p fq : Addr) (z : Str) (b : Nat), vs = [.ref p, .str z] ∧ FeedAt H p fq b ∧ b + 20 ≤ 1000000000 ∧ IsWord z ∧
  ∀ (x : Str) (H' : Hp), (∀ c ∈ x.cps.toList, c < 128) → x.length ≤ 20 → Same (del H p) (del H' p) → FeedAt H' p fq (b + 3) → Q (.str x) H'
abbrev signsT : Str := " !\"#$&'()*+,-./0123456789:;<=>?@ABCDEFGHIJKLMNOPQRSTUVWXYZ[\\]^_`abcdefghijklmnopqrstuvwxyz{|}~"
theorem signs_ok : signsT.cps.toList.all (fun c => decide (c < 128)) = true ∧ signsT.length = 94 := by decide +kernel
end
end Sw
set_option maxRecDepth 100000
set_option maxHeartbeats 4000000
namespace Sw
open PySem PySem.Spec PyProof.Rows L2
section
variable {P : Program} {w : World} {K : PySem.W.Frag} {mg : Str → Option Value} {base : Heap}
def spFeed (K : PySem.W.Frag) : Sp := fun vs H Q _ => ∃ (a : Addr) (ns : List Int), vs = [.ref a] ∧ SqL K H a (ns.map V.int) ∧ ns.length ≤ 63 ∧
  ∀ (p fq : Addr) (H' : Hp), Same H H' → H p = none → FeedAt H' p fq 0 → Q (.ref p) H'
theorem sc_feed : FnScope ["_law_script"] ["_law_script"] (defScope (topS 19)) := ⟨rfl, rfl, rfl, by decide +kernel, rfl, by decide +kernel, by decide +kernel⟩
theorem cut_ints (ns : List Int) (lo hi : Option Int) : ∃ ms : List Int, cutV (ns.map V.int) lo hi = ms.map V.int ∧ ms.length ≤ ns.length := by
  refine ⟨(ns.drop (HT.sIx ns.length 0 lo)).take (HT.sIx ns.length ns.length hi - HT.sIx ns.length 0 lo), ?_, ?_⟩
  · unfold cutV
    rw [List.length_map, List.map_take, List.map_drop]
  · rw [List.length_take, List.length_drop]
    omega
theorem ok_feed {f : Addr} {fd : FuncData} (D : Df K mg "_law_feed" (topS 19) ["_law_script"] f fd) : FnOk P w K mg base CX0 1 f fd ["_law_script"] (spFeed K) := by
  refine D.fn.ok sc_feed (fun vs H Q E h => ?_) (fun cdv A outer s H vs Q E hr h => ?_)
  · obtain ⟨a, ns, rfl, _⟩ := h
    rfl
  obtain ⟨a, ns, rfl, hS, hn, q⟩ := h
  refine ⟨_, pss_one (ps_ret (pe_lst (pa_cons (pe_slice sl_list (pv 0) po_none (po_some pe_int)) (pa_cons pe_int (pa_cons pe_int (pa_cons pe_int pa_nil)))))), ?_⟩
  obtain ⟨ms, e, hm⟩ := cut_ints ns none (some 63)
  refine ⟨_, rfl, 63, rfl, a, _, rfl, hS, fun c hc => ⟨by show 4 ≤ sizeLine; decide, fun p hp => ?_⟩⟩
  have s1 := same_new (o := .lst (cutV (ns.map V.int) none (some 63))) hc
  have s2 := same_new (o := .lst [.ref c, .int 0, .int 0, .int 0]) hp
  have hcp : c ≠ p := fun z => by rw [z] at hp; rw [upd_same] at hp; cases hp
  refine q p c _ (s1.trans s2) ?_ ⟨ms, 0, 0, 0, upd_same, ?_, Ne.symm hcp, by decide, by decide, by decide, by decide, by omega⟩
  · rw [upd_ne (Ne.symm hcp)] at hp
    exact hp
  · rw [upd_ne hcp, upd_same, e]
/-- one of OBJECTS, drawn -/
def ObjD (d : PyData) : Prop := ∃ (z : Str) (k : Int), d = .tuple [.str z, .int k] ∧ IsWord z ∧ 1 ≤ k ∧ k ≤ 4
theorem objD_fit {d : PyData} (h : ObjD d) : Fit 4 4 1 344 d := by
  obtain ⟨z, k, rfl, hz, h1, h4⟩ := h
  have := hz.hi
  refine Fit.tup (n := 0) (by show 2 ≤ 4; omega) ?_ (by simp only [wtAll, wt]; omega)
  intro x hx
  rcases List.mem_cons.mp hx with rfl | hx
  · exact ⟨leaf_str.mpr hz.ascii, rfl, by simp [PyData.depth]⟩
  · have : x = .int k := by simpa using hx
    subst this
    exact ⟨by simp only [leaf, decide_eq_true_eq]; omega, rfl, by simp [PyData.depth]⟩
theorem objs_fit {ds : List PyData} (hl : ds.length ≤ 4) (h : ∀ d ∈ ds, ObjD d) : Fit 4 4 2 1400 (.tuple ds) := by
  refine Fit.tup (n := 1) hl (fun x hx => ⟨(objD_fit (h x hx)).lf, (objD_fit (h x hx)).ln, (objD_fit (h x hx)).dp⟩) ?_
  have : ∀ l : List PyData, (∀ d ∈ l, ObjD d) → wtAll l ≤ 346 * l.length := by
    intro l
    induction l with
    | nil => intro _; simp [wtAll]
    | cons x l ih =>
      intro hx
      have h1 := (objD_fit (hx x List.mem_cons_self)).wg
      have h2 := ih fun d hd => hx d (List.mem_cons_of_mem _ hd)
      simp only [wtAll, List.length_cons]
      omega
  have := this ds h
  omega
def spObjs (K : PySem.W.Frag) : Sp := fun vs H Q _ => ∃ (p fq : Addr) (b : Nat), vs = [.ref p] ∧ FeedAt H p fq b ∧ b + 100 ≤ 1000000000 ∧
  ∀ (v : V) (ds : List PyData) (H' : Hp), Dp K (del H' p) v (.tuple ds) → ds.length ≤ 4 → 1 ≤ ds.length → (∀ d ∈ ds, ObjD d) → Same (del H p) (del H' p) → FeedAt H' p fq (b + 60) → Q v H'
end
end Sw
set_option maxRecDepth 100000
set_option maxHeartbeats 4000000
namespace Sw
open PySem PySem.Spec PyProof.Rows L2
/-- what is new in H' -/
def fr (H H' : Hp) : Hp := fun c => match H c with
  | none => H' c
  | some _ => none
theorem fr_some {H H' : Hp} {c : Addr} {o : HO} (h : H c = none) (h' : H' c = some o) : fr H H' c = some o := by unfold fr; rw [h]; exact h'
theorem of_fr {H H' : Hp} {c : Addr} {o : HO} (h : fr H H' c = some o) : H c = none ∧ H' c = some o := by
  unfold fr at h
  cases e : H c with
  | none => rw [e] at h; exact ⟨rfl, h⟩
  | some u => rw [e] at h; cases h
theorem fr_same (H H' : Hp) : Same (fr H H') H' := fun c o e => (of_fr e).2
theorem fr_next {H H1 H2 : Hp} (s : Same H1 H2) : Same (fr H H1) (fr H H2) := fun c o e => fr_some (of_fr e).1 (s _ _ (of_fr e).2)
theorem fr_prev {H H1 H2 : Hp} (s : Same H H1) : Same (fr H1 H2) (fr H H2) := fun c o e => fr_some (s.free (of_fr e).1) (of_fr e).2
theorem fr_del {H H' : Hp} {p : Addr} {u : HO} (hp : H p = some u) : Same (fr H H') (del H' p) := fun c o e => del_some (of_fr e).2 fun z => by
  have := (of_fr e).1
  rw [z, hp] at this
  cases this
/-- displays of constants; a name may stand for one int -/
abbrev Nm := Option (Str × Nat × Int)
def cstL (f : Expr → Option PyData) : List Expr → Option (List PyData)
  | [] => some []
  | e :: es => match f e, cstL f es with
    | some d, some ds => some (d :: ds)
    | _, _ => none
def cst (g : Nm) : Nat → Expr → Option PyData
  | 0, _ => none
  | n + 1, e => match e with
    | .Constant (.int i) _ _ => some (.int i)
    | .Constant (.str x) _ _ => some (.str x)
    | .Constant (.bool b) _ _ => some (.bool b)
    | .Constant .none _ _ => some .none
    | .Tuple es _ _ => if es.length ≤ 1000 then (cstL (cst g n) es).map .tuple else none
    | .List es _ => if es.length ≤ 1000 then (cstL (cst g n) es).map .list else none
    | .UnaryOp .USub a _ => match cst g n a with
      | some (.int i) => some (.int (-i))
      | _ => none
    | .BinOp a .Pow b _ => match cst g n a, cst g n b with
      | some (.int i), some (.int j) => if 0 ≤ j ∧ j ≤ 1000000 ∧ i.natAbs < 2 ^ 64 then some (.int (i ^ j.toNat)) else none
      | _, _ => none
    | .BinOp a .Mult b _ => match cst g n a, cst g n b with
      | some (.int i), some (.int j) => if i.natAbs < 2 ^ 5000 ∧ j.natAbs < 2 ^ 5000 then some (.int (i * j)) else none
      | _, _ => none
    | .Name x _ => match g with
      | some (y, _, v) => if x = y then some (.int v) else none
      | none => none
    | _ => none
def nmAt (g : Nm) (σ : L2.St) : Prop := match g with
  | none => True
  | some (_, i, v) => σ[i]? = some (some (.int v))
def nmOk (g : Nm) (X : Cx) : Prop := match g with
  | none => True
  | some (x, i, _) => X.N[i]? = some x ∧ Vis X.env.scope x ∧ (x == ("__debug__" : Str)) = false ∧ (x == ("__classdict__" : Str)) = false
def tDat (K : PySem.W.Frag) (g : Nm) (d : PyData) : TE := fun σ H Q => nmAt g σ ∧ ∀ v H', Same H H' → Dp K (fr H H') v d → Q v H'
def tDats (K : PySem.W.Frag) (g : Nm) (ds : List PyData) : TA := fun σ H Q => nmAt g σ ∧ ∀ vs H', Same H H' → DpAll K (fr H H') vs ds → Q vs H'
theorem pe_imp {X : Cx} {e : Expr} {t t' : TE} (h : PE X e t) (hi : ∀ σ H Q, t' σ H Q → t σ H Q) : PE X e t' := ⟨fun pins s σ H Q I q => h.run pins s σ H Q I (hi σ H Q q)⟩
theorem pa_imp {X : Cx} {es : List Expr} {t t' : TA} (h : PA X es t) (hi : ∀ σ H Q, t' σ H Q → t σ H Q) : PA X es t' := ⟨fun pos pins s σ H Q I q => h.run pos pins s σ H Q I (hi σ H Q q)⟩
theorem cst_star {g : Nm} {n : Nat} {e : Expr} {es : List Expr} {d : PyData} {env : Env} (h : cst g n e = some d) : starEach (e :: es) env = (false, eval e env) :: starEach es env := by
  cases n with
  | zero => simp [cst] at h
  | succ n => cases e <;> first | rfl | simp [cst] at h
theorem cstL_length {f : Expr → Option PyData} : ∀ {es : List Expr} {ds : List PyData}, cstL f es = some ds → ds.length = es.length
  | [], ds, h => by
    simp [cstL] at h
    subst h
    rfl
  | e :: es, ds, h => by
    simp only [cstL] at h
    cases h1 : f e with
    | none => rw [h1] at h; cases h
    | some d =>
      cases h2 : cstL f es with
      | none => rw [h1, h2] at h; cases h
      | some ds' =>
        rw [h1, h2] at h
        cases h
        rw [List.length_cons, List.length_cons, cstL_length h2]
section
variable {X : Cx} {g : Nm}
theorem pa_cst {f : Expr → Option PyData} (hf : ∀ e d, f e = some d → PE X e (tDat X.K g d)) (hs : ∀ e d es env, f e = some d → starEach (e :: es) env = (false, eval e env) :: starEach es env) :
    ∀ (es : List Expr) (ds : List PyData), cstL f es = some ds → PA X es (tDats X.K g ds)
  | [], ds, h => by
    simp [cstL] at h
    subst h
    exact pa_imp pa_nil fun σ H Q q => q.2 [] H (Same.refl H) .nil
  | e :: es, ds, h => by
    simp only [cstL] at h
    cases h1 : f e with
    | none => rw [h1] at h; cases h
    | some d =>
      cases h2 : cstL f es with
      | none => rw [h1, h2] at h; cases h
      | some ds' =>
        rw [h1, h2] at h
        cases h
        refine pa_imp (pa_cons (hf e d h1) (pa_cst hf hs es ds' h2) (hs e d es X.env h1)) fun σ H Q q => ?_
        refine ⟨q.1, fun v H1 s1 d1 => ⟨q.1, fun vs H2 s2 d2 => ?_⟩⟩
        exact q.2 _ H2 (s1.trans s2) (.cons (Dp_same (fr_next s2) d1) (DpAll_same (fr_prev s1) d2))
theorem pe_cst (ok : nmOk g X) : ∀ (n : Nat) (e : Expr) (d : PyData), cst g n e = some d → PE X e (tDat X.K g d)
  | 0, e, d, h => by simp [cst] at h
  | n + 1, e, d, h => by
    have ih := pe_cst ok n
    cases e with
    | Constant c k p =>
      cases c with
      | int i =>
        simp [cst] at h
        subst h
        exact pe_imp pe_int fun σ H Q q => q.2 _ H (Same.refl H) (.int i)
      | str x =>
        simp [cst] at h
        subst h
        exact pe_imp pe_str fun σ H Q q => q.2 _ H (Same.refl H) (.str x)
      | bool b =>
        simp [cst] at h
        subst h
        exact pe_imp pe_bl fun σ H Q q => q.2 _ H (Same.refl H) (.bl b)
      | none =>
        simp [cst] at h
        subst h
        exact pe_imp pe_non fun σ H Q q => q.2 _ H (Same.refl H) .non
      | _ => simp [cst] at h
    | Tuple es k p =>
      simp only [cst] at h
      split at h
      · rename_i hlen
        cases h2 : cstL (cst g n) es with
        | none => rw [h2] at h; cases h
        | some ds =>
          rw [h2] at h
          cases h
          refine pe_imp (pe_tup (pa_cst ih (fun e d es env h => cst_star h) es ds h2)) fun σ H Q q => ⟨q.1, fun vs H1 s1 d1 => ?_⟩
          have hl := DpAll_len d1
          have hl2 := cstL_length h2
          refine ⟨Nat.le_of_lt (small1000 (by omega)), fun a ha => ?_⟩
          have s2 := same_new (o := .tup vs) ha
          exact q.2 _ _ (s1.trans s2) (.tup (SqT.of (fr_some (s1.free ha) upd_same)) (DpAll_same (fr_next s2) d1))
      · cases h
    | List es p =>
      simp only [cst] at h
      split at h
      · rename_i hlen
        cases h2 : cstL (cst g n) es with
        | none => rw [h2] at h; cases h
        | some ds =>
          rw [h2] at h
          cases h
          refine pe_imp (pe_lst (pa_cst ih (fun e d es env h => cst_star h) es ds h2)) fun σ H Q q => ⟨q.1, fun vs H1 s1 d1 => ?_⟩
          have hl := DpAll_len d1
          have hl2 := cstL_length h2
          refine ⟨Nat.le_of_lt (small1000 (by omega)), fun a ha => ?_⟩
          have s2 := same_new (o := .lst vs) ha
          exact q.2 _ _ (s1.trans s2) (.lst (SqL.of (fr_some (s1.free ha) upd_same)) (DpAll_same (fr_next s2) d1))
      · cases h
    | UnaryOp op a p =>
      cases op with
      | USub =>
        simp only [cst] at h
        split at h
        · rename_i i h1
          cases h
          refine pe_imp (pe_un un_neg (ih a _ h1)) fun σ H Q q => ⟨q.1, fun v H1 s1 d1 => ?_⟩
          cases d1
          exact ⟨i, rfl, q.2 _ H1 s1 (.int _)⟩
        · cases h
      | _ => simp [cst] at h
    | BinOp a op b p =>
      cases op with
      | Pow =>
        simp only [cst] at h
        split at h
        · rename_i i j h1 h2
          split at h
          · rename_i hc
            cases h
            refine pe_imp (pe_op op_pow (ih a _ h1) (ih b _ h2)) fun σ H Q q => ⟨q.1, fun v H1 s1 d1 => ⟨q.1, fun u H2 s2 d2 => ?_⟩⟩
            cases d1
            cases d2
            exact ⟨i, j, rfl, rfl, hc, q.2 _ H2 (s1.trans s2) (.int _)⟩
          · cases h
        · cases h
      | Mult =>
        simp only [cst] at h
        split at h
        · rename_i i j h1 h2
          split at h
          · rename_i hc
            cases h
            refine pe_imp (pe_op op_mulW (ih a _ h1) (ih b _ h2)) fun σ H Q q => ⟨q.1, fun v H1 s1 d1 => ⟨q.1, fun u H2 s2 d2 => ?_⟩⟩
            cases d1
            cases d2
            exact ⟨i, j, rfl, rfl, wide_mul hc.1 hc.2 (by decide) (by decide) (by decide), q.2 _ H2 (s1.trans s2) (.int _)⟩
          · cases h
        · cases h
      | _ => simp [cst] at h
    | Name x p =>
      simp only [cst] at h
      split at h
      · rename_i y i v
        split at h
        · rename_i e
          cases h
          subst e
          obtain ⟨h1, h2, h3, h4⟩ := ok
          refine pe_imp (pe_var (i := i) h1 h2 h3 h4) fun σ H Q q => ⟨_, q.1, q.2 _ H (Same.refl H) (.int v)⟩
        · cases h
      · cases h
    | _ => simp [cst] at h
end
end Sw
set_option maxRecDepth 100000
set_option maxHeartbeats 4000000
namespace Sw
open PySem PySem.Spec PyProof.Rows L2
/-! ### the text's own expressions, by their places -/
def xNo : Expr := .Constant .none 0 ⟨0, 0, 0, 0⟩
def asgOf : Stmt → Expr
  | .Assign _ v _ => v
  | _ => xNo
def retOf : Stmt → Expr
  | .Return (some e) _ => e
  | _ => xNo
def exprOf : Stmt → Expr
  | .Expr e _ => e
  | _ => xNo
def binR : Expr → Expr
  | .BinOp _ _ r _ => r
  | _ => xNo
def arg0 : Expr → Expr
  | .Call _ (a :: _) _ _ => a
  | _ => xNo
def eltsOf : Expr → List Expr
  | .List es _ => es
  | .Tuple es _ _ => es
  | _ => []
def stAt (i j : Nat) : Stmt := (defBody (topS i)).getD j (.Pass ⟨0, 0, 0, 0⟩)
theorem some_of {α : Type} {x : Option α} {d : α} (h : x.isSome = true) : x = some (x.getD d) := by
  cases x with
  | none => cases h
  | some a => rfl
def tupL : PyData → List PyData
  | .tuple ds => ds
  | _ => []
theorem tup_of {d : PyData} (h : isaTup d = true) : d = .tuple (tupL d) := by cases d <;> first | rfl | cases h
def fitB (M l n B : Nat) (d : PyData) : Bool := leaf M d && lens l d && decide (d.depth ≤ n) && decide (wt d ≤ B)
theorem fitB_fit {M l n B : Nat} {d : PyData} (h : fitB M l n B d = true) : Fit M l n B d := by
  unfold fitB at h
  simp only [Bool.and_eq_true, decide_eq_true_eq] at h
  exact ⟨h.1.1.1, h.1.1.2, h.1.2, h.2⟩
theorem allFit {M l n B : Nat} {ds : List PyData} (h : ds.all (fitB M l n B) = true) : ∀ d ∈ ds, Fit M l n B d := fun d hd => fitB_fit (List.all_eq_true.mp h d hd)
/-! ### odd things -/
def oddD1 : PyData := (cst none 12 (asgOf (stAt 22 0))).getD .none
def oddD2 : PyData := (cst none 12 (binR (retOf (stAt 22 1)))).getD .none
theorem odd1 : cst none 12 (asgOf (stAt 22 0)) = some oddD1 := some_of (by decide +kernel)
theorem odd2 : cst none 12 (binR (retOf (stAt 22 1))) = some oddD2 := some_of (by decide +kernel)
theorem odd1t : oddD1 = .tuple (tupL oddD1) := tup_of (by decide +kernel)
theorem odd2t : oddD2 = .tuple (tupL oddD2) := tup_of (by decide +kernel)
theorem odd1f : (tupL oddD1).all (fitB (10 ^ 199) 2 2 520) = true := by decide +kernel
theorem odd2f : (tupL oddD2).all (fitB (10 ^ 199) 2 2 520) = true := by decide +kernel
theorem odd1n : (tupL oddD1).length = 16 := by decide +kernel
theorem odd2n : (tupL oddD2).length = 6 := by decide +kernel
section
variable {P : Program} {w : World} {K : PySem.W.Frag} {mg : Str → Option Value} {base : Heap}
def spOdd (K : PySem.W.Frag) : Sp := fun vs H Q _ => vs = [] ∧ ∀ (v : V) (ds : List PyData) (H' : Hp), Same H H' → Dp K (fr H H') v (.tuple ds) → ds.length = 22 → (∀ d ∈ ds, Fit (10 ^ 199) 2 2 520 d) → Q v H'
theorem sc_odd : FnScope ["_law_small"] [] (defScope (topS 22)) := ⟨rfl, rfl, rfl, by decide +kernel, rfl, by decide +kernel, by decide +kernel⟩
theorem ok_odd {f : Addr} {fd : FuncData} (D : Df K mg "_law_odd" (topS 22) [] f fd) : FnOk P w K mg base CX0 1 f fd [] (spOdd K) := by
  refine D.fn.ok sc_odd (fun vs H Q E h => ?_) (fun cdv A outer s H vs Q E hr h => ?_)
  · obtain ⟨rfl, _⟩ := h
    rfl
  obtain ⟨rfl, q⟩ := h
  refine ⟨_, pss_cons (ps_set (i := 0) sc_odd.nd rfl (Or.inl rfl) (pe_cst (g := none) trivial 12 (asgOf (stAt 22 0)) oddD1 odd1)) (pss_one (ps_ret (pe_op op_catA (pv 0) (pe_cst (g := none) trivial 12 (binR (retOf (stAt 22 1))) oddD2 odd2)))), ?_⟩
  refine ⟨trivial, fun v1 H1 s1 d1 => ?_⟩
  refine ⟨v1, rfl, trivial, fun v2 H2 s2 d2 => ?_⟩
  rw [odd1t] at d1
  rw [odd2t] at d2
  have n1 := odd1n
  have n2 := odd2n
  have f1 := allFit odd1f
  have f2 := allFit odd2f
  generalize tupL oddD1 = ds1 at d1 n1 f1
  generalize tupL oddD2 = ds2 at d2 n2 f2
  cases d1 with
  | @tup a1 xs1 _ h1 r1 =>
    cases d2 with
    | @tup a2 xs2 _ h2 r2 =>
      have l1 := DpAll_len r1
      have l2 := DpAll_len r2
      have e1 := sameT (fr_same _ _) (sameT (fr_next s2) h1)
      have e2 := sameT (fr_same _ _) h2
      refine ⟨a1, a2, xs1, xs2, rfl, rfl, e1, e2, Nat.le_of_lt (small1000 (by omega)), fun z => ?_, fun _ z => ?_, fun _ _ p hp => ?_⟩
      · rw [z] at l1; simp at l1; omega
      · rw [z] at l2; simp at l2; omega
      · have s3 := same_new (o := .tup (xs1 ++ xs2)) hp
        refine q _ (ds1 ++ ds2) _ (s1.trans (s2.trans s3)) (.tup (SqT.of (fr_some (s1.free (s2.free hp)) upd_same)) (DpAll_append (DpAll_same (fr_next (s2.trans s3)) r1) (DpAll_same ((fr_prev s1).trans (fr_next s3)) r2))) (by rw [List.length_append]; omega) fun d hd => ?_
        exact (List.mem_append.mp hd).elim (f1 d) (f2 d)
end
end Sw
set_option maxRecDepth 100000
set_option maxHeartbeats 4000000
namespace Sw
open PySem PySem.Spec PyProof.Rows L2
/-! ### ints and bools reckoned with -/
def asInt : PyData → Int
  | .int i => i
  | .bool b => if b = true then 1 else 0
  | _ => 0
section
variable {X : Cx}
def rNum (f : Int → Int → Int) : R2 := fun x y H Q => ∃ j, y = .int j ∧ ((∃ i, x = .int i ∧ Q (.int (f i j)) H) ∨ ∃ b : Bool, x = .bl b ∧ Q (.int (f (if b = true then 1 else 0) j)) H)
theorem op_addB : OpR X (binaryOp .Add) (rNum fun i j => i + j) := by
  intro pins s σ H x y v u Q I rx ry h
  obtain ⟨j, rfl, h⟩ := h
  obtain ⟨t', rfl⟩ := ry
  rcases h with ⟨i, rfl, q⟩ | ⟨b, rfl, q⟩
  · obtain ⟨t, rfl⟩ := rx
    exact add_int ⟨.int _, H, I.tok _, ⟨_, rfl⟩, q⟩
  · cases (show v = Value.bool b from rx)
    exact PySem.IntBool.add_bool_int ⟨.int _, H, I.tok _, ⟨_, rfl⟩, q⟩
theorem op_subB : OpR X (binaryOp .Sub) (rNum fun i j => i - j) := by
  intro pins s σ H x y v u Q I rx ry h
  obtain ⟨j, rfl, h⟩ := h
  obtain ⟨t', rfl⟩ := ry
  rcases h with ⟨i, rfl, q⟩ | ⟨b, rfl, q⟩
  · obtain ⟨t, rfl⟩ := rx
    exact sub_int ⟨.int _, H, I.tok _, ⟨_, rfl⟩, q⟩
  · cases (show v = Value.bool b from rx)
    exact PySem.IntBool.sub_bool_int ⟨.int _, H, I.tok _, ⟨_, rfl⟩, q⟩
theorem gives_neg_bool (b : Bool) : Gives (Builtin.«int.__neg__» ⟨[.bool b], []⟩) (.int (-(if b = true then 1 else 0))) := by
  cases b <;> exact .of_eq rfl
theorem un_negB : UnR X (unaryOp .USub) (fun x H Q => (∃ i, x = .int i ∧ Q (.int (-i)) H) ∨ ∃ b : Bool, x = .bl b ∧ Q (.int (-(if b = true then 1 else 0))) H) := by
  intro pins s σ H x v Q I rx h
  rcases h with ⟨i, rfl, q⟩ | ⟨b, rfl, q⟩
  · obtain ⟨t, rfl⟩ := rx
    exact PyProof.Rows.neg_int ⟨.int _, H, I.tok _, ⟨_, rfl⟩, q⟩
  · cases (show v = Value.bool b from rx)
    exact unaryOp_gives (op := .USub) (T := "bool") rfl rfl PySem.F.slot_bool_neg PySem.F.entry_int_neg (PySem.F.args_int_neg_1 _) (gives_neg_bool b) ⟨.int _, H, I.tok _, ⟨_, rfl⟩, q⟩
end
/-! ### tuples of data: cut and put together -/
def cutD (ds : List PyData) (lo hi : Option Int) : List PyData := (ds.drop (HT.sIx ds.length 0 lo)).take (HT.sIx ds.length ds.length hi - HT.sIx ds.length 0 lo)
theorem DpAll_take {K : PySem.W.Frag} {H : Hp} : ∀ {vs : List V} {ds : List PyData} (n : Nat), DpAll K H vs ds → DpAll K H (vs.take n) (ds.take n)
  | _, _, 0, _ => by simp; exact .nil
  | _, _, _ + 1, .nil => by simp; exact .nil
  | _, _, n + 1, .cons h r => .cons h (DpAll_take n r)
theorem DpAll_drop {K : PySem.W.Frag} {H : Hp} : ∀ {vs : List V} {ds : List PyData} (n : Nat), DpAll K H vs ds → DpAll K H (vs.drop n) (ds.drop n)
  | _, _, 0, h => h
  | _, _, _ + 1, .nil => by simp; exact .nil
  | _, _, n + 1, .cons h r => DpAll_drop n r
theorem cut_dat {K : PySem.W.Frag} {H : Hp} {p a : Addr} {ds : List PyData} {lo hi : Option Int} {Q : VK} (hp : ∃ u, H p = some u) (h : Dp K (del H p) (.ref a) (.tuple ds)) (q : ∀ v H', Same H H' → Dp K (del H' p) v (.tuple (cutD ds lo hi)) → Q v H') : rSlA K (.ref a) lo hi H Q := by
  obtain ⟨u, hp⟩ := hp
  cases h with
  | @tup _ xs _ hx hr =>
    have hl := DpAll_len hr
    refine ⟨a, xs, rfl, sameT (del_same _ _) hx, fun hw => ?_, fun hw t ht => ?_⟩
    · rw [hl] at hw
      have e : cutD ds lo hi = ds := by
        unfold cutD
        rw [hw.1, hw.2]
        simp
      exact q _ H (Same.refl H) (by rw [e]; exact .tup hx hr)
    · have s := same_new (o := .tup (cutV xs lo hi)) ht
      refine q _ _ s (.tup (SqT.of (new_del hp ht)) ?_)
      have r2 := DpAll_same (same_del (p := p) s) hr
      generalize upd H t (.tup (cutV xs lo hi)) = H2 at r2
      unfold cutV cutD
      rw [hl]
      exact DpAll_take _ (DpAll_drop _ r2)
theorem cat_dat {K : PySem.W.Frag} {H : Hp} {p a b : Addr} {ds es : List PyData} {Q : VK} (hp : ∃ u, H p = some u) (ha : Dp K (del H p) (.ref a) (.tuple ds)) (hb : Dp K (del H p) (.ref b) (.tuple es)) (hl : ds.length + es.length ≤ 1000)
    (q : ∀ v H', Same H H' → Dp K (del H' p) v (.tuple (ds ++ es)) → Q v H') : rCatA K (.ref a) (.ref b) H Q := by
  obtain ⟨u, hp⟩ := hp
  cases ha with
  | @tup _ xs _ hx hrx =>
    cases hb with
    | @tup _ ys _ hy hry =>
      have l1 := DpAll_len hrx
      have l2 := DpAll_len hry
      refine ⟨a, b, xs, ys, rfl, rfl, sameT (del_same _ _) hx, sameT (del_same _ _) hy, Nat.le_of_lt (small1000 (by omega)), fun z => ?_, fun _ z => ?_, fun _ _ t ht => ?_⟩
      · have e : ds = [] := List.eq_nil_of_length_eq_zero (by rw [← l1, z]; rfl)
        subst e
        exact q _ H (Same.refl H) (.tup hy hry)
      · have e : es = [] := List.eq_nil_of_length_eq_zero (by rw [← l2, z]; rfl)
        subst e
        rw [List.append_nil] at q
        exact q _ H (Same.refl H) (.tup hx hrx)
      · have s := same_new (o := .tup (xs ++ ys)) ht
        exact q _ _ s (.tup (SqT.of (new_del hp ht)) (DpAll_append (DpAll_same (same_del s) hrx) (DpAll_same (same_del s) hry)))
theorem sIx_at (n d k : Nat) (h : k ≤ n) : HT.sIx n d (some (k : Int)) = k := by rw [HT.sIx_nat]; omega
theorem cutD_to (ds : List PyData) {k : Nat} (h : k ≤ ds.length) : cutD ds none (some (k : Int)) = ds.take k := by
  unfold cutD
  rw [sIx_at _ _ _ h, HT.sIx_none]
  simp
theorem cutD_from (ds : List PyData) {k : Nat} (h : k ≤ ds.length) : cutD ds (some (k : Int)) none = ds.drop k := by
  unfold cutD
  rw [sIx_at _ _ _ h, HT.sIx_none]
  exact List.take_of_length_le (by rw [List.length_drop]; omega)
/-! ### how large what is put together is -/
theorem wtAll_cut (ds : List PyData) {k : Nat} {x : PyData} (h : ds[k]? = some x) : wtAll (ds.take k) + (wt x + 2) + wtAll (ds.drop (k + 1)) = wtAll ds := by
  obtain ⟨hk, e⟩ := List.getElem?_eq_some_iff.mp h
  have e2 : ds = ds.take k ++ x :: ds.drop (k + 1) := by
    rw [← e, List.getElem_cons_drop]
    exact (List.take_append_drop k ds).symm
  conv => rhs; rw [e2]
  rw [wtAll_append]
  simp only [wtAll]
  omega
theorem fit_any {M l n B M' l' n' B' : Nat} {ds es : List PyData} (h : Fit M l (n + 1) B (.tuple ds)) (hM : M ≤ M') (hl : l ≤ l') (hn : n ≤ n') (hm : ∀ x ∈ es, x ∈ ds ∨ (leaf M' x = true ∧ lens l' x = true ∧ x.depth ≤ n')) (hel : es.length ≤ l') (hw : wtAll es + 5 ≤ B') : Fit M' l' (n' + 1) B' (.tuple es) := by
  obtain ⟨h1, h2, h3, h4⟩ := h.inTup
  refine Fit.tup hel (fun x hx => ?_) hw
  rcases hm x hx with hx | hx
  · have := (h4 x hx).mono hM hl (show n + 1 - 1 ≤ n' by omega) (Nat.le_refl _)
    exact ⟨this.lf, this.ln, this.dp⟩
  · exact hx
end Sw
set_option maxRecDepth 100000
set_option maxHeartbeats 4000000
namespace Sw
open PySem PySem.Spec PyProof.Rows L2
section
variable {P : Program} {w : World} {K : PySem.W.Frag} {mg : Str → Option Value} {base : Heap}
/-- n is more than the thing is deep -/
def spBend (K : PySem.W.Frag) (n : Nat) : Sp := fun vs H Q _ => ∃ (p fq : Addr) (v vo : V) (b m M l B : Nat) (d : PyData) (os : List PyData), vs = [.ref p, v, vo] ∧ n = m + 1 ∧ n ≤ 30 ∧ FeedAt H p fq b ∧ b + 10 * n + 10 ≤ 1000000000 ∧
  Dp K (del H p) v d ∧ Dp K (del H p) vo (.tuple os) ∧ os.length = 22 ∧ (∀ o ∈ os, Fit (10 ^ 199) 2 2 520 o) ∧ Fit M l m B d ∧ 10 ^ 199 ≤ M ∧ l ≤ 100 ∧ B ≤ 100000 ∧
  ∀ (v' : V) (d' : PyData) (H' : Hp), Dp K (del H' p) v' d' → Fit (M + 1) (2 * l + 2) (m + 2) (2 * B + 1100) d' → Same (del H p) (del H' p) → FeedAt H' p fq (b + 10 * n) → Q v' H'
theorem cutD_sub (ds : List PyData) (lo hi : Option Int) : (∀ x ∈ cutD ds lo hi, x ∈ ds) ∧ (cutD ds lo hi).length ≤ ds.length ∧ wtAll (cutD ds lo hi) ≤ wtAll ds := by
  unfold cutD
  refine ⟨fun x hx => List.mem_of_mem_drop (List.mem_of_mem_take hx), by rw [List.length_take, List.length_drop]; omega, ?_⟩
  exact Nat.le_trans (wtAll_take _ _) (wtAll_drop _ _)
theorem tup_at {a b : V} {xs : List V} {i : Int} (h0 : 0 ≤ i) {n : Nat} (e : i = (n : Int)) (h : xs[n]? = some a) : atI xs i = some a := by rw [e]; exact atI_nat h
theorem sc_bend : FnScope ["_law_feed_here", "_law_thing", "_law_odd_here", "_law_at", "_law_way"] ["_law_feed_here", "_law_thing", "_law_odd_here"] (defScope (topS 21)) := ⟨rfl, rfl, rfl, by decide +kernel, rfl, by decide +kernel, by decide +kernel⟩
theorem ok_bend1 {n : Nat} {f f1 : Addr} {fd fd1 : FuncData} (D : Df K mg "_law_bend" (topS 21) ["_law_feed_here", "_law_thing", "_law_odd_here"] f fd) (DD : Df K mg "_law_draw" (topS 20) ["_law_feed_here", "_law_many"] f1 fd1) (B : Bt mg)
    (GD : FnOk P w K mg base CX0 1 f1 fd1 ["_law_feed_here", "_law_many"] spDraw) (G : FnOk P w K mg base CX0 (n + 1) f fd ["_law_feed_here", "_law_thing", "_law_odd_here"] (spBend K n)) :
    FnOk P w K mg base CX0 (n + 2) f fd ["_law_feed_here", "_law_thing", "_law_odd_here"] (spBend K (n + 1)) := by
  refine D.fn.ok sc_bend (fun vs H Q E h => ?_) (fun cdv A outer s H vs Q E hr h => ?_)
  · obtain ⟨p, fq, v, vo, b, m, M, l, B, d, os, rfl, _⟩ := h
    rfl
  obtain ⟨p, fq, v, vo, b, m, M, l, Bw, d, os, rfl, hnm, hn30, hF, hb, hd, ho, hol, hof, hfit, hM, hl, hB, q⟩ := h
  obtain rfl : n = m := by omega
  have nd := sc_bend.nd
  have hu := hr.units
  have hr1 : Room 1 _ := hr.mono (by omega)
  refine ⟨_, C8.pss_cut (ps_if (PW.pt (pw_and (pt_val (pe_callB call_isi (by rfl) B.isi (by decide +kernel) (pa_cons (pv 1) (pa_cons (pe_bltn (v := .ty "tuple") (by rfl) B.tuple (by decide +kernel) rfl) pa_nil))))
        (pw_and (pt_cmpR (op_neD hu) (pv 1) (pe_tup pa_nil) (nomark _)) (pw_and1 (pt_cmpR op_gt (pe_call GD hr1 (by rfl) DD.gl DD.fn.kp DD.bd .nil pass0 (pa_cons (pv 0) (pa_cons pe_int pa_nil))) pe_int (nomark _))))))
      (pss_cons (ps_set (i := 3) nd rfl (Or.inl rfl) (pe_call GD hr1 (by rfl) DD.gl DD.fn.kp DD.bd .nil pass0 (pa_cons (pv 0) (pa_cons (pe_callB call_len_seq (by rfl) B.len PySem.boot_len (pa_cons (pv 1) pa_nil)) pa_nil))))
      (pss_one (ps_ret (pe_op op_catA (pe_op op_catA (pe_slice sl_tupA (pv 1) po_none (po_some (pv 3)))
        (pe_tup (pa_cons (pe_call G hr (by rfl) D.gl D.fn.kp D.bd .nil pass0 (pa_cons (pv 0) (pa_cons (pe_ix ix_tup (pv 1) (pv 3) (fun _ _ => rfl)) (pa_cons (pv 2) pa_nil)))) pa_nil)))
        (pe_slice sl_tupA (pv 1) (po_some (pe_op op_add (pv 3) pe_int)) po_none))))) pss_nil)
    (pss_cons (ps_set (i := 4) nd rfl (Or.inl rfl) (pe_call GD hr1 (by rfl) DD.gl DD.fn.kp DD.bd .nil pass0 (pa_cons (pv 0) (pa_cons pe_int pa_nil))))
    (C8.pss_cut (ps_if (PW.pt (pw_and (pt_val (pe_callB call_isi (by rfl) B.isi (by decide +kernel) (pa_cons (pv 1) (pa_cons (pe_bltn (v := .ty "tuple") (by rfl) B.tuple (by decide +kernel) rfl) pa_nil)))) (pw_and1 (pt_cmpR op_lt (pv 4) pe_int (nomark _)))))
      (pss_cons (ps_set (i := 3) nd rfl (Or.inl rfl) (pe_call GD hr1 (by rfl) DD.gl DD.fn.kp DD.bd .nil pass0 (pa_cons (pv 0) (pa_cons (pe_op op_add (pe_callB call_len_seq (by rfl) B.len PySem.boot_len (pa_cons (pv 1) pa_nil)) pe_int) pa_nil))))
      (pss_cons (ps_if (pt_cmpR op_eq (pv 4) pe_int (nomark _))
        (pss_one (ps_ret (pe_op op_catA (pe_op op_catA (pe_slice sl_tupA (pv 1) po_none (po_some (pv 3)))
          (pe_tup (pa_cons (pe_ix ix_tup (pv 2) (pe_call GD hr1 (by rfl) DD.gl DD.fn.kp DD.bd .nil pass0 (pa_cons (pv 0) (pa_cons (pe_callB call_len_seq (by rfl) B.len PySem.boot_len (pa_cons (pv 2) pa_nil)) pa_nil))) (fun _ _ => rfl)) pa_nil)))
          (pe_slice sl_tupA (pv 1) (po_some (pv 3)) po_none)))) pss_nil)
      (pss_one (ps_ret (pe_ifExp (pt_cmpR op_eq (pv 4) pe_int (nomark _)) (pe_op op_catA (pe_slice sl_tupA (pv 1) po_none (po_some (pv 3))) (pe_slice sl_tupA (pv 1) (po_some (pe_op op_add (pv 3) pe_int)) po_none))
        (pe_ifExp (pt_cmpR op_eq (pv 4) pe_int (nomark _)) (pe_callTy call_list_of (by rfl) B.list (by decide +kernel) (pa_cons (pv 1) pa_nil)) (pe_op op_catA (pv 1) (pe_slice sl_tupA (pv 1) po_none (po_some (pv 3))))))))))  pss_nil)
    (C8.pss_cut (ps_if (PW.pt (pw_and (pt_val (pe_callB call_isi (by rfl) B.isi (by decide +kernel) (pa_cons (pv 1) (pa_cons (pe_bltn (v := .ty "int") (by rfl) B.int (by decide +kernel) rfl) pa_nil)))) (pw_and1 (pt_cmpR op_lt (pv 4) pe_int (nomark _)))))
      (pss_one (ps_ret (pe_ix ix_tup (pe_tup (pa_cons (pe_op op_addB (pv 1) pe_int) (pa_cons (pe_op op_subB (pv 1) pe_int) (pa_cons (pe_un un_negB (pv 1)) (pa_cons (pe_tup (pa_cons (pv 1) pa_nil)) pa_nil))))) (pv 4) (fun _ _ => rfl)))) pss_nil)
    (C8.pss_cut (ps_if (PW.pt (pw_and (pt_val (pe_callB call_isi (by rfl) B.isi (by decide +kernel) (pa_cons (pv 1) (pa_cons (pe_bltn (v := .ty "str") (by rfl) B.str (by decide +kernel) rfl) pa_nil)))) (pw_and1 (pt_cmpR op_lt (pv 4) pe_int (nomark _)))))
      (pss_one (ps_ret (pe_ix ix_tup (pe_tup (pa_cons (pe_op op_add_str (pv 1) pe_str) (pa_cons (pe_slice sl_str (pv 1) (po_some pe_int) po_none) (pa_cons (pe_lst (pa_cons (pv 1) pa_nil)) pa_nil)))) (pv 4) (fun _ _ => rfl)))) pss_nil)
    (pss_one (ps_ret (pe_ix ix_tup (pv 2) (pe_call GD hr1 (by rfl) DD.gl DD.fn.kp DD.bd .nil pass0 (pa_cons (pv 0) (pa_cons (pe_callB call_len_seq (by rfl) B.len PySem.boot_len (pa_cons (pv 2) pa_nil)) pa_nil))) (fun _ _ => rfl)))))))), ?_⟩
  have hdH := Dp_same (del_same _ _) hd
  refine ⟨fun σ H' => ∃ b' : Nat, σ = [some (.ref p), some v, some vo, none, none] ∧ b' ≤ b + 1 ∧ Same (del H p) (del H' p) ∧ FeedAt H' p fq b', ?_, ?_⟩
  · obtain ⟨t1, ty1, k1⟩ := isa_tup hdH
    refine ⟨v, rfl, v, .ty "tuple", t1, _, _, rfl, .ty _, ty1, k1, _, rfl, ?_⟩
    cases d with
    | tuple ds =>
      obtain ⟨hdl, hn1, hdw, hdin⟩ := hfit.inTup
      cases id hd with
      | @tup a xs _ hx hrx =>
      have hxl := DpAll_len hrx
      refine iteT ⟨_, rfl, Nat.zero_le _, fun N hN => ?_⟩
      have sN := same_new (o := .tup []) hN
      refine ⟨.tuple ds, .tuple [], Dp_same sN hdH, .tup (SqT.of upd_same) .nil, (hfit.mono (Nat.le_refl _) (Nat.le_refl _) (Nat.le_refl _) (Nat.le_refl _)).shaped (by omega), nilT_shaped, _, rfl, ?_⟩
      have F0 := hF.same sN
      have S0 := same_del (p := p) sN
      generalize upd H N (.tup []) = H0 at sN F0 S0
      rw [eqv_nil_tup]
      refine ite2 (fun c => ?_) (fun c => ?_)
      rotate_left
      · exact iteF ⟨b, rfl, by omega, S0, F0⟩
      have hne : 1 ≤ ds.length := by
        cases ds with
        | nil => cases c
        | cons x r => simp
      refine ⟨_, rfl, p, fq, 4, b, rfl, F0, by omega, by decide, by decide, fun r H1 r0 r1 s1 F1 => ⟨r, 0, rfl, rfl, _, rfl, ?_⟩⟩
      have S1 := S0.trans s1
      refine ite2 (fun _ => ?_) (fun _ => ?_)
      rotate_left
      · exact ⟨b + 1, rfl, by omega, S1, F1⟩
      -- one of its things is bent
      refine ⟨_, rfl, _, rfl, a, xs, rfl, .inr (sameT (del_same _ _) (sameT S1 hx)), p, fq, _, b + 1, rfl, F1, by omega, by omega, by omega, fun at0 H2 a0 a1 s2 F2 => ?_⟩
      obtain ⟨k, rfl⟩ : ∃ k : Nat, at0 = (k : Int) := ⟨at0.toNat, (Int.toNat_of_nonneg a0).symm⟩
      have hk : k < ds.length := by omega
      have S2 := S1.trans s2
      refine ⟨_, rfl, _, rfl, (k : Int), rfl, ?_⟩
      refine cut_dat F2.there (Dp_same S2 hd) (fun v1 H3 s3 d3 => ?_)
      have S3 := S2.trans (same_del s3)
      have F3 := F2.same s3
      have hkx : k < xs.length := by omega
      obtain ⟨dx, hdx, hdpx⟩ := DpAll_get (DpAll_same S3 hrx) (List.getElem?_eq_getElem hkx)
      have fx := hdin dx (List.mem_of_getElem? hdx)
      refine ⟨_, rfl, _, rfl, _, rfl, a, xs, _, _, rfl, rfl, sameT (del_same _ _) (sameT S3 hx), atI_nat (List.getElem?_eq_getElem hkx), _, rfl, p, fq, _, vo, b + 2, n - 1, M, l, wt dx, dx, os, rfl, by omega, by omega, F3, by omega, hdpx, Dp_same S3 ho, hol, hof, ⟨fx.lf, fx.ln, fx.dp, Nat.le_refl _⟩, hM, hl, by have := fx.wg; omega, fun v' d' H4 dd f4 s4 F4 => ?_⟩
      refine ⟨by show 1 ≤ sizeLine; decide, fun T hT => ?_⟩
      obtain ⟨u4, hp4⟩ := F4.there
      have s5 := same_new (o := .tup [v']) hT
      have dT : Dp K (del (upd H4 T (.tup [v'])) p) (.ref T) (.tuple [d']) := .tup (SqT.of (new_del hp4 hT)) (.cons (Dp_same (same_del s5) dd) .nil)
      have F5 := F4.same s5
      have S5 := (S3.trans s4).trans (same_del (p := p) s5)
      have d5 := Dp_same (s4.trans (same_del (p := p) s5)) d3
      generalize upd H4 T (.tup [v']) = H5 at s5 dT F5 S5 d5
      rw [cutD_to ds (by omega)] at d5
      cases id d5 with
      | @tup a1 _ _ _ _ =>
      refine cat_dat F5.there d5 dT (by rw [List.length_take]; show _ + 1 ≤ 1000; omega) (fun v2 H6 s6 d6 => ?_)
      have S6 := S5.trans (same_del (p := p) s6)
      have F6 := F5.same s6
      refine ⟨_, rfl, _, rfl, _, _, rfl, rfl, (k : Int) + 1, rfl, ?_⟩
      dsimp only [tNoPart]
      refine cut_dat F6.there (Dp_same S6 hd) (fun v3 H7 s7 d7 => ?_)
      have S7 := S6.trans (same_del (p := p) s7)
      have F7 := F6.same s7
      have d67 := Dp_same (same_del (p := p) s7) d6
      rw [show (k : Int) + 1 = ((k + 1 : Nat) : Int) by omega, cutD_from ds (by omega)] at d7
      cases id d67 with
      | @tup a2 _ _ _ _ =>
      cases id d7 with
      | @tup a3 _ _ _ _ =>
      refine cat_dat F7.there d67 d7 (by rw [List.length_append, List.length_take, List.length_drop]; show _ + 1 + _ ≤ 1000; omega) (fun v4 H8 s8 d8 => ?_)
      refine q v4 _ H8 d8 ?_ (S7.trans (same_del (p := p) s8)) ((F7.same s8).mono (by omega))
      have hwc := wtAll_cut ds hdx
      have hwx := wt_mem (List.mem_of_getElem? hdx)
      have hw4 := f4.wg
      obtain ⟨n', rfl⟩ : ∃ n', n = n' + 1 := ⟨n - 1, by omega⟩
      refine fit_any (n' := n' + 2) hfit (by omega) (by omega) (by omega) (fun x hx' => ?_) ?_ ?_
      · rcases List.mem_append.mp hx' with hx' | hx'
        · rcases List.mem_append.mp hx' with hx' | hx'
          · exact .inl (List.mem_of_mem_take hx')
          · rw [List.mem_singleton.mp hx']
            exact .inr ⟨f4.lf, f4.ln, f4.dp⟩
        · exact .inl (List.mem_of_mem_drop hx')
      · rw [List.length_append, List.length_append, List.length_take, List.length_drop]
        show _ + 1 + _ ≤ _
        omega
      · rw [wtAll_append, wtAll_append]
        simp only [wtAll]
        omega
    | none => exact iteF (iteF ⟨b, rfl, by omega, Same.refl _, hF⟩)
    | bool _ => exact iteF (iteF ⟨b, rfl, by omega, Same.refl _, hF⟩)
    | int _ => exact iteF (iteF ⟨b, rfl, by omega, Same.refl _, hF⟩)
    | str _ => exact iteF (iteF ⟨b, rfl, by omega, Same.refl _, hF⟩)
    | list _ => exact iteF (iteF ⟨b, rfl, by omega, Same.refl _, hF⟩)
    | dict _ => exact iteF (iteF ⟨b, rfl, by omega, Same.refl _, hF⟩)
  rintro σ H1 ⟨b1, rfl, hb1, S1, F1⟩
  refine ⟨_, rfl, p, fq, 6, b1, rfl, F1, by omega, by decide, by decide, fun way H2 y0 y1 s2 F2 => ?_⟩
  have S2 := S1.trans s2
  have hd2 := Dp_same S2 hd
  have hd2H := Dp_same (del_same _ _) hd2
  have ho2 := Dp_same S2 ho
  -- an odd thing, at any later state
  have fodd : ∀ o ∈ os, Fit (M + 1) (2 * l + 2) (n + 2) (2 * Bw + 1100) o := fun o h => (hof o h).mono (by omega) (by omega) (by omega) (by omega)
  cases id ho2 with
  | @tup ao xo _ hxo hro =>
  have hxol := DpAll_len hro
  refine ⟨fun σ H' => σ = [some (.ref p), some v, some (.ref ao), none, some (.int way)] ∧ H' = H2, ?_, ?_⟩
  · obtain ⟨t1, ty1, k1⟩ := isa_tup hd2H
    refine ⟨v, rfl, v, .ty "tuple", t1, _, _, rfl, .ty _, ty1, k1, _, rfl, ?_⟩
    cases d with
    | tuple ds =>
      obtain ⟨hdl, hn1, hdw, hdin⟩ := hfit.inTup
      cases id hd2 with
      | @tup a xs _ hx hrx =>
      have hxl := DpAll_len hrx
      obtain ⟨n', rfl⟩ : ∃ n', n = n' + 1 := ⟨n - 1, by omega⟩
      refine iteT ⟨_, rfl, _, _, rfl, rfl, _, rfl, ?_⟩
      refine ite2 (fun c => ?_) (fun c => ⟨rfl, rfl⟩)
      refine ⟨_, rfl, _, rfl, a, xs, rfl, .inr (sameT (del_same _ _) hx), _, _, rfl, rfl, p, fq, _, b1 + 1, rfl, F2, by omega, by omega, by omega, fun at0 H3 a0 a1 s3 F3 => ?_⟩
      have hd3 := Dp_same s3 hd2
      have S3 := S2.trans s3
      refine ⟨_, rfl, rfl, _, rfl, ?_⟩
      refine ite2 (fun c0 => ?_) (fun c0 => ?_)
      · -- one more thing
        refine ⟨_, rfl, _, rfl, at0, rfl, ?_⟩
        refine cut_dat F3.there hd3 (fun v1 H4 s4 d4 => ?_)
        have F4 := F3.same s4
        have S4 := S3.trans (same_del (p := p) s4)
        have e4 := sameT (del_same _ _) (sameT (s3.trans (same_del (p := p) s4)) hxo)
        refine ⟨_, rfl, _, rfl, _, rfl, ao, xo, rfl, .inr e4, p, fq, _, b1 + 2, rfl, F4, by omega, by omega, by omega, fun r5 H5 u0 u1 s5 F5 => ?_⟩
        obtain ⟨k5, rfl⟩ : ∃ k : Nat, r5 = (k : Int) := ⟨r5.toNat, (Int.toNat_of_nonneg u0).symm⟩
        have hk5 : k5 < xo.length := by omega
        have sAll := s3.trans ((same_del (p := p) s4).trans s5)
        obtain ⟨dx, hdx, hdpx⟩ := DpAll_get (DpAll_same sAll hro) (List.getElem?_eq_getElem hk5)
        have fx := hof dx (List.mem_of_getElem? hdx)
        refine ⟨ao, xo, _, _, rfl, rfl, sameT (del_same _ _) (sameT sAll hxo), atI_nat (List.getElem?_eq_getElem hk5), by show 1 ≤ sizeLine; decide, fun T hT => ?_⟩
        generalize xo[k5] = vx at hdpx
        obtain ⟨u5, hp5⟩ := F5.there
        have s6 := same_new (o := .tup [vx]) hT
        have dT : Dp K (del (upd H5 T (.tup [vx])) p) (.ref T) (.tuple [dx]) := .tup (SqT.of (new_del hp5 hT)) (.cons (Dp_same (same_del s6) hdpx) .nil)
        have F6 := F5.same s6
        have S6 := (S4.trans s5).trans (same_del (p := p) s6)
        have d6 := Dp_same (s5.trans (same_del (p := p) s6)) d4
        generalize upd H5 T (.tup [vx]) = H6 at s6 dT F6 S6 d6
        obtain ⟨m1, l1, w1⟩ := cutD_sub ds none (some at0)
        generalize cutD ds none (some at0) = es1 at d6 m1 l1 w1
        cases id d6 with
        | @tup a1 _ _ _ _ =>
        refine cat_dat F6.there d6 dT (by show _ + 1 ≤ 1000; omega) (fun v2 H7 s7 d7 => ?_)
        have S7 := S6.trans (same_del (p := p) s7)
        have F7 := F6.same s7
        refine ⟨_, rfl, _, rfl, at0, rfl, ?_⟩
        dsimp only [tNoPart]
        refine cut_dat F7.there (Dp_same S7 hd) (fun v3 H8 s8 d8 => ?_)
        have S8 := S7.trans (same_del (p := p) s8)
        have F8 := F7.same s8
        have d78 := Dp_same (same_del (p := p) s8) d7
        obtain ⟨m2, l2, w2⟩ := cutD_sub ds (some at0) none
        generalize cutD ds (some at0) none = es2 at d8 m2 l2 w2
        cases id d78 with
        | @tup a2 _ _ _ _ =>
        cases id d8 with
        | @tup a3 _ _ _ _ =>
        refine cat_dat F8.there d78 d8 (by rw [List.length_append]; show _ + 1 + _ ≤ 1000; omega) (fun v4 H9 s9 d9 => ?_)
        refine q v4 _ H9 d9 ?_ (S8.trans (same_del (p := p) s9)) ((F8.same s9).mono (by omega))
        have fw := fx.wg
        refine fit_any (n' := n' + 2) hfit (by omega) (by omega) (by omega) (fun x hx' => ?_) ?_ ?_
        · rcases List.mem_append.mp hx' with hx' | hx'
          · rcases List.mem_append.mp hx' with hx' | hx'
            · exact .inl (m1 x hx')
            · rw [List.mem_singleton.mp hx']
              exact .inr ⟨leaf_mono (by omega) _ fx.lf, lens_mono (by omega) _ fx.ln, by have := fx.dp; omega⟩
          · exact .inl (m2 x hx')
        · rw [List.length_append, List.length_append]
          show _ + 1 + _ ≤ _
          omega
        · rw [wtAll_append, wtAll_append]
          simp only [wtAll]
          omega
      · refine ⟨_, rfl, rfl, _, rfl, ?_⟩
        refine ite2 (fun c1 => ?_) (fun c1 => ?_)
        · -- one less
          refine ⟨_, rfl, _, rfl, at0, rfl, ?_⟩
          refine cut_dat F3.there hd3 (fun v1 H4 s4 d4 => ?_)
          have F4 := F3.same s4
          have S4 := S3.trans (same_del (p := p) s4)
          refine ⟨_, rfl, _, rfl, _, _, rfl, rfl, at0 + 1, rfl, ?_⟩
          dsimp only [tNoPart]
          refine cut_dat F4.there (Dp_same S4 hd) (fun v3 H5 s5 d5 => ?_)
          have S5 := S4.trans (same_del (p := p) s5)
          have F5 := F4.same s5
          have d45 := Dp_same (same_del (p := p) s5) d4
          obtain ⟨m1, l1, w1⟩ := cutD_sub ds none (some at0)
          obtain ⟨m2, l2, w2⟩ := cutD_sub ds (some (at0 + 1)) none
          generalize cutD ds none (some at0) = es1 at d45 m1 l1 w1
          generalize cutD ds (some (at0 + 1)) none = es2 at d5 m2 l2 w2
          cases id d45 with
          | @tup a2 _ _ _ _ =>
          cases id d5 with
          | @tup a3 _ _ _ _ =>
          refine cat_dat F5.there d45 d5 (by omega) (fun v4 H6 s6 d6 => ?_)
          refine q v4 _ H6 d6 ?_ (S5.trans (same_del (p := p) s6)) ((F5.same s6).mono (by omega))
          refine fit_any (n' := n' + 2) hfit (by omega) (by omega) (by omega) (fun x hx' => .inl ((List.mem_append.mp hx').elim (m1 x) (m2 x))) ?_ ?_
          · rw [List.length_append]
            omega
          · rw [wtAll_append]
            omega
        · refine ⟨_, rfl, rfl, _, rfl, ?_⟩
          refine ite2 (fun c2 => ?_) (fun c2 => ?_)
          · -- a list
            refine ⟨_, rfl, a, xs, rfl, .inr (sameT (del_same _ _) (sameT s3 hx)), fun L hL => ?_⟩
            obtain ⟨u3, hp3⟩ := F3.there
            have s4 := same_new (o := .lst xs) hL
            refine q _ (.list ds) _ (.lst (SqL.of (new_del hp3 hL)) (DpAll_same (s3.trans (same_del s4)) hrx)) ?_ (S3.trans (same_del s4)) ((F3.same s4).mono (by omega))
            refine Fit.lst (n := n' + 2) (by omega) (fun x hx' => ?_) (by omega)
            have := (hdin x hx').mono (show M ≤ M + 1 by omega) (show l ≤ 2 * l + 2 by omega) (show n' + 1 - 1 ≤ n' + 2 by omega) (Nat.le_refl _)
            exact ⟨this.lf, this.ln, this.dp⟩
          · -- itself, and its beginning again
            refine ⟨_, rfl, _, rfl, _, rfl, at0, rfl, ?_⟩
            refine cut_dat F3.there hd3 (fun v1 H4 s4 d4 => ?_)
            have F4 := F3.same s4
            have S4 := S3.trans (same_del (p := p) s4)
            obtain ⟨m1, l1, w1⟩ := cutD_sub ds none (some at0)
            generalize cutD ds none (some at0) = es1 at d4 m1 l1 w1
            cases id d4 with
            | @tup a2 _ _ _ _ =>
            refine cat_dat F4.there (Dp_same S4 hd) d4 (by omega) (fun v4 H6 s6 d6 => ?_)
            refine q v4 _ H6 d6 ?_ (S4.trans (same_del (p := p) s6)) ((F4.same s6).mono (by omega))
            refine fit_any (n' := n' + 2) hfit (by omega) (by omega) (by omega) (fun x hx' => .inl ((List.mem_append.mp hx').elim id (m1 x))) ?_ ?_
            · rw [List.length_append]
              omega
            · rw [wtAll_append]
              omega
    | none => exact iteF (iteF ⟨rfl, rfl⟩)
    | bool _ => exact iteF (iteF ⟨rfl, rfl⟩)
    | int _ => exact iteF (iteF ⟨rfl, rfl⟩)
    | str _ => exact iteF (iteF ⟨rfl, rfl⟩)
    | list _ => exact iteF (iteF ⟨rfl, rfl⟩)
    | dict _ => exact iteF (iteF ⟨rfl, rfl⟩)
  rintro σ H3 ⟨rfl, e3⟩
  subst e3
  obtain ⟨u3, hp3⟩ := F2.there
  have hdF : ∀ {H' : Hp}, Same H3 H' → ∀ {z : V} {y : PyData}, Dp K (del H' p) z y → Fit (M + 1) (2 * l + 2) (n + 2) (2 * Bw + 1100) y → Q z H' := fun s _ _ h f => q _ _ _ h f (S2.trans (same_del s)) ((F2.same s).mono (by omega))
  refine ⟨fun σ H' => σ = [some (.ref p), some v, some (.ref ao), none, some (.int way)] ∧ H' = H3, ?_, ?_⟩
  · obtain ⟨t1, ty1, k1⟩ := isa_int hd2H
    refine ⟨v, rfl, v, .ty "int", t1, _, _, rfl, .ty _, ty1, k1, _, rfl, ?_⟩
    -- the four numbers and the tuple: i is what the thing is as a number
    have pick : ∀ (i : Int) (T1 T2 : Addr) (h1 : H3 T1 = none) (h2 : upd H3 T1 (.tup [v]) T2 = none), i.natAbs ≤ M → 0 ≤ way → way < 4 → leaf M d = true → lens l d = true → d.depth ≤ 0 → wt d ≤ 250 →
        ∃ p' xs' i' v', V.ref T2 = .ref p' ∧ V.int way = .int i' ∧ SqT K (upd (upd H3 T1 (.tup [v])) T2 (.tup [.int (i + 1), .int (i - 1), .int (-i), .ref T1])) p' xs' ∧ atI xs' i' = some v' ∧ Q v' (upd (upd H3 T1 (.tup [v])) T2 (.tup [.int (i + 1), .int (i - 1), .int (-i), .ref T1])) := by
      intro i T1 T2 h1 h2 hi w0 w4 f1 f2 f3 f4
      have s1 := same_new (o := .tup [v]) h1
      have s2 := same_new (o := .tup [.int (i + 1), .int (i - 1), .int (-i), .ref T1]) h2
      have dT : Dp K (del (upd (upd H3 T1 (.tup [v])) T2 (.tup [.int (i + 1), .int (i - 1), .int (-i), .ref T1])) p) (.ref T1) (.tuple [d]) := Dp_same (same_del s2) (.tup (SqT.of (new_del hp3 h1)) (.cons (Dp_same (same_del s1) hd2) .nil))
      have hT : upd (upd H3 T1 (.tup [v])) T2 (.tup [.int (i + 1), .int (i - 1), .int (-i), .ref T1]) T2 = some (.tup [.int (i + 1), .int (i - 1), .int (-i), .ref T1]) := upd_same
      generalize upd (upd H3 T1 (.tup [v])) T2 (.tup [.int (i + 1), .int (i - 1), .int (-i), .ref T1]) = H5 at s2 dT hT
      have s5 := s1.trans s2
      have hw : way = 0 ∨ way = 1 ∨ way = 2 ∨ way = 3 := by omega
      rcases hw with rfl | rfl | rfl | rfl
      · exact ⟨T2, _, 0, _, rfl, rfl, SqT.of hT, atI_nat (j := 0) rfl, hdF s5 (.int _) (Fit.int (by omega) (by omega))⟩
      · exact ⟨T2, _, 1, _, rfl, rfl, SqT.of hT, atI_nat (j := 1) rfl, hdF s5 (.int _) (Fit.int (by omega) (by omega))⟩
      · exact ⟨T2, _, 2, _, rfl, rfl, SqT.of hT, atI_nat (j := 2) rfl, hdF s5 (.int _) (Fit.int (by omega) (by omega))⟩
      · refine ⟨T2, _, 3, _, rfl, rfl, SqT.of hT, atI_nat (j := 3) rfl, hdF s5 dT (Fit.tup (n := n + 1) (by show 1 ≤ _; omega) (fun x hx => ?_) (by simp only [wtAll]; omega))⟩
        rw [List.mem_singleton.mp hx]
        exact ⟨leaf_mono (by omega) _ f1, lens_mono (by omega) _ f2, by omega⟩
    cases d with
    | int i =>
      cases hd2
      have hi : i.natAbs ≤ M := by have := hfit.lf; simpa [leaf] using this
      refine iteT ⟨_, rfl, _, _, rfl, rfl, _, rfl, ?_⟩
      refine ite2 (fun c => ?_) (fun c => ⟨rfl, rfl⟩)
      have c4 : way < 4 := of_decide_eq_true c
      refine ⟨_, rfl, 1, rfl, .inl ⟨i, rfl, _, rfl, 1, rfl, .inl ⟨i, rfl, _, rfl, .inl ⟨i, rfl, _, rfl, by show 1 ≤ sizeLine; decide, fun T1 h1 => ⟨by show 4 ≤ sizeLine; decide, fun T2 h2 => ⟨_, rfl, ?_⟩⟩⟩⟩⟩⟩
      exact pick i T1 T2 h1 h2 hi y0 c4 hfit.lf hfit.ln (by simp [PyData.depth]) (by simp [wt])
    | bool b0 =>
      cases hd2
      refine iteT ⟨_, rfl, _, _, rfl, rfl, _, rfl, ?_⟩
      refine ite2 (fun c => ?_) (fun c => ⟨rfl, rfl⟩)
      have c4 : way < 4 := of_decide_eq_true c
      refine ⟨_, rfl, 1, rfl, .inr ⟨b0, rfl, _, rfl, 1, rfl, .inr ⟨b0, rfl, _, rfl, .inr ⟨b0, rfl, _, rfl, by show 1 ≤ sizeLine; decide, fun T1 h1 => ⟨by show 4 ≤ sizeLine; decide, fun T2 h2 => ⟨_, rfl, ?_⟩⟩⟩⟩⟩⟩
      exact pick (if b0 = true then 1 else 0) T1 T2 h1 h2 (by cases b0 <;> simp <;> omega) y0 c4 hfit.lf hfit.ln (by simp [PyData.depth]) (by simp [wt])
    | none => exact iteF (iteF ⟨rfl, rfl⟩)
    | tuple _ => exact iteF (iteF ⟨rfl, rfl⟩)
    | str _ => exact iteF (iteF ⟨rfl, rfl⟩)
    | list _ => exact iteF (iteF ⟨rfl, rfl⟩)
    | dict _ => exact iteF (iteF ⟨rfl, rfl⟩)
  rintro σ H4 ⟨rfl, e4⟩
  subst e4
  refine ⟨fun σ H' => σ = [some (.ref p), some v, some (.ref ao), none, some (.int way)] ∧ H' = H4, ?_, ?_⟩
  · obtain ⟨t1, ty1, k1⟩ := isa_str hd2H
    refine ⟨v, rfl, v, .ty "str", t1, _, _, rfl, .ty _, ty1, k1, _, rfl, ?_⟩
    cases d with
    | str z =>
      cases id hd2
      refine iteT ⟨_, rfl, _, _, rfl, rfl, _, rfl, ?_⟩
      refine ite2 (fun c => ?_) (fun c => ⟨rfl, rfl⟩)
      have c3 : way < 3 := of_decide_eq_true c
      have hz : 10 * z.length + 5 ≤ Bw := by have := hfit.wg; simpa [wt] using this
      have la : (Str.ofString "a").length = 1 := rfl
      have hzs : z.length ≤ sizeLine := by rw [sizeLine_eq]; omega
      have hasc := leaf_str.mp hfit.lf
      refine ⟨_, rfl, _, _, rfl, rfl, by rw [la, sizeLine_eq]; omega, _, rfl, 1, rfl, z, rfl, hzs, _, rfl, by show 1 ≤ sizeLine; decide, fun T1 h1 => ⟨by show 3 ≤ sizeLine; decide, fun T2 h2 => ⟨_, rfl, ?_⟩⟩⟩
      have s1 := same_new (o := .lst [.str z]) h1
      have hL1 : upd H4 T1 (.lst [.str z]) T1 = some (.lst [.str z]) := upd_same
      have s2 := same_new (o := .tup [.str (z ++ Str.ofString "a"), .str (cutS z (some 1) none), .ref T1]) h2
      have dT : Dp K (del (upd (upd H4 T1 (.lst [.str z])) T2 (.tup [.str (z ++ Str.ofString "a"), .str (cutS z (some 1) none), .ref T1])) p) (.ref T1) (.list [.str z]) := Dp_same (same_del s2) (.lst (SqL.of (new_del hp3 h1)) (.cons (.str z) .nil))
      have hT : upd (upd H4 T1 (.lst [.str z])) T2 (.tup [.str (z ++ Str.ofString "a"), .str (cutS z (some 1) none), .ref T1]) T2 = some (.tup [.str (z ++ Str.ofString "a"), .str (cutS z (some 1) none), .ref T1]) := upd_same
      have s5 := s1.trans s2
      have hw : way = 0 ∨ way = 1 ∨ way = 2 := by omega
      obtain ⟨mc, lc⟩ := cutS_sub z (some 1) none
      rcases hw with rfl | rfl | rfl
      · refine ⟨T2, _, 0, _, rfl, rfl, SqT.of hT, atI_nat (j := 0) rfl, hdF s5 (.str _) (Fit.str (fun c hc => ?_) (by rw [app_len, la]; omega))⟩
        rw [app_list] at hc
        rcases List.mem_append.mp hc with hc | hc
        · exact hasc c hc
        · have : c = 97 := by simpa using (show c ∈ [97] from hc)
          omega
      · exact ⟨T2, _, 1, _, rfl, rfl, SqT.of hT, atI_nat (j := 1) rfl, hdF s5 (.str _) (Fit.str (fun c hc => hasc c (mc c hc)) (by omega))⟩
      · refine ⟨T2, _, 2, _, rfl, rfl, SqT.of hT, atI_nat (j := 2) rfl, hdF s5 dT (Fit.lst (n := n + 1) (by show 1 ≤ _; omega) (fun x hx => ?_) (by simp only [wtAll, wt]; omega))⟩
        rw [List.mem_singleton.mp hx]
        exact ⟨leaf_str.mpr hasc, rfl, by simp [PyData.depth]⟩
    | none => exact iteF (iteF ⟨rfl, rfl⟩)
    | tuple _ => exact iteF (iteF ⟨rfl, rfl⟩)
    | bool _ => exact iteF (iteF ⟨rfl, rfl⟩)
    | int _ => exact iteF (iteF ⟨rfl, rfl⟩)
    | list _ => exact iteF (iteF ⟨rfl, rfl⟩)
    | dict _ => exact iteF (iteF ⟨rfl, rfl⟩)
  rintro σ H5 ⟨rfl, e5⟩
  subst e5
  -- an odd thing
  refine ⟨_, rfl, _, rfl, _, rfl, ao, xo, rfl, .inr (sameT (del_same _ _) hxo), p, fq, _, b1 + 1, rfl, F2, by omega, by omega, by omega, fun r6 H6 u0 u1 s6 F6 => ?_⟩
  obtain ⟨k6, rfl⟩ : ∃ k : Nat, r6 = (k : Int) := ⟨r6.toNat, (Int.toNat_of_nonneg u0).symm⟩
  have hk6 : k6 < xo.length := by omega
  obtain ⟨dx, hdx, hdpx⟩ := DpAll_get (DpAll_same s6 hro) (List.getElem?_eq_getElem hk6)
  exact ⟨ao, xo, _, _, rfl, rfl, sameT (del_same _ _) (sameT s6 hxo), atI_nat (List.getElem?_eq_getElem hk6), q _ dx _ hdpx (fodd dx (List.mem_of_getElem? hdx)) (S2.trans s6) (F6.mono (by omega))⟩
theorem ok_bend {f f1 : Addr} {fd fd1 : FuncData} (D : Df K mg "_law_bend" (topS 21) ["_law_feed_here", "_law_thing", "_law_odd_here"] f fd) (DD : Df K mg "_law_draw" (topS 20) ["_law_feed_here", "_law_many"] f1 fd1) (B : Bt mg)
    (GD : FnOk P w K mg base CX0 1 f1 fd1 ["_law_feed_here", "_law_many"] spDraw) : ∀ n : Nat, FnOk P w K mg base CX0 (n + 1) f fd ["_law_feed_here", "_law_thing", "_law_odd_here"] (spBend K n)
  | 0 => by
    have no : ∀ vs H Q E, ¬ spBend K 0 vs H Q E := fun vs H Q E h => by
      obtain ⟨p, fq, v, vo, b, m, M, l, B, d, os, _, hnm, _⟩ := h
      omega
    exact ⟨fun vs H Q E h => absurd h (no vs H Q E), fun A outer s H args us vs Q E _ _ _ _ h => absurd h (no vs H Q E)⟩
  | n + 1 => ok_bend1 D DD B GD (ok_bend D DD B GD n)
end
end Sw
set_option maxRecDepth 100000
set_option maxHeartbeats 4000000
namespace Sw
open PySem PySem.Spec PyProof.Rows L2
/-- what is new since H0, but for L -/
def nw (H0 : Hp) (L : Addr) (H : Hp) : Hp := del (fr H0 H) L
theorem nw_next {H0 H H' : Hp} {L : Addr} (s : Same H H') : Same (nw H0 L H) (nw H0 L H') := same_del (fr_next s)
theorem nw_sub {H0 H : Hp} {L : Addr} : Same (nw H0 L H) H := fun c o e => fr_same _ _ _ _ (del_same _ _ _ _ e)
theorem nw_new {H0 H : Hp} {L a : Addr} {o u : HO} (s : Same H0 H) (hL : H L = some u) (ha : H a = none) : nw H0 L (upd H a o) a = some o :=
  del_some (fr_some (s.free ha) upd_same) (fun e => by rw [e, hL] at ha; cases ha)
theorem nw_fr {H0 H H' : Hp} {L : Addr} {u : HO} (s : Same H0 H) (hL : H L = some u) : Same (fr H H') (nw H0 L H') := fun c o e =>
  del_some (fr_some (s.free (of_fr e).1) (of_fr e).2) (fun z => by rw [z] at e; rw [(of_fr e).1] at hL; cases hL)
theorem nw_upd {H0 H : Hp} {L : Addr} {o : HO} : Same (nw H0 L H) (nw H0 L (upd H L o)) := fun c x e => by
  obtain ⟨e1, e2⟩ := of_del e
  obtain ⟨e3, e4⟩ := of_fr e1
  exact del_some (fr_some e3 (by rw [upd_ne e2]; exact e4)) e2
theorem cut_nw {K : PySem.W.Frag} {H0 H : Hp} {L a : Addr} {ds : List PyData} {lo hi : Option Int} {Q : VK} {u : HO} (s0 : Same H0 H) (hL : H L = some u) (h : Dp K (nw H0 L H) (.ref a) (.tuple ds)) (q : ∀ v H', Same H H' → Dp K (nw H0 L H') v (.tuple (cutD ds lo hi)) → Q v H') : rSlA K (.ref a) lo hi H Q := by
  cases h with
  | @tup _ xs _ hx hr =>
    have hl := DpAll_len hr
    refine ⟨a, xs, rfl, sameT nw_sub hx, fun hw => ?_, fun hw t ht => ?_⟩
    · rw [hl] at hw
      have e : cutD ds lo hi = ds := by
        unfold cutD
        rw [hw.1, hw.2]
        simp
      exact q _ H (Same.refl H) (by rw [e]; exact .tup hx hr)
    · have s := same_new (o := .tup (cutV xs lo hi)) ht
      refine q _ _ s (.tup (SqT.of (nw_new s0 hL ht)) ?_)
      have r2 := DpAll_same (nw_next (H0 := H0) (L := L) s) hr
      generalize upd H t (.tup (cutV xs lo hi)) = H2 at r2
      unfold cutV cutD
      rw [hl]
      exact DpAll_take _ (DpAll_drop _ r2)
theorem cat_nw {K : PySem.W.Frag} {H0 H : Hp} {L a b : Addr} {ds es : List PyData} {Q : VK} {u : HO} (s0 : Same H0 H) (hL : H L = some u) (ha : Dp K (nw H0 L H) (.ref a) (.tuple ds)) (hb : Dp K (nw H0 L H) (.ref b) (.tuple es)) (hl : ds.length + es.length ≤ 1000)
    (q : ∀ v H', Same H H' → Dp K (nw H0 L H') v (.tuple (ds ++ es)) → Q v H') : rCatA K (.ref a) (.ref b) H Q := by
  cases ha with
  | @tup _ xs _ hx hrx =>
    cases hb with
    | @tup _ ys _ hy hry =>
      have l1 := DpAll_len hrx
      have l2 := DpAll_len hry
      refine ⟨a, b, xs, ys, rfl, rfl, sameT nw_sub hx, sameT nw_sub hy, Nat.le_of_lt (small1000 (by omega)), fun z => ?_, fun _ z => ?_, fun _ _ t ht => ?_⟩
      · have e : ds = [] := List.eq_nil_of_length_eq_zero (by rw [← l1, z]; rfl)
        subst e
        exact q _ H (Same.refl H) (.tup hy hry)
      · have e : es = [] := List.eq_nil_of_length_eq_zero (by rw [← l2, z]; rfl)
        subst e
        rw [List.append_nil] at q
        exact q _ H (Same.refl H) (.tup hx hrx)
      · have s := same_new (o := .tup (xs ++ ys)) ht
        exact q _ _ s (.tup (SqT.of (nw_new s0 hL ht)) (DpAll_append (DpAll_same (nw_next s) hrx) (DpAll_same (nw_next s) hry)))
/-- the list found at L: all of it new since H0 -/
structure FoundAt (K : PySem.W.Frag) (H0 : Hp) (L : Addr) (H : Hp) (vs : List V) (ds : List PyData) : Prop where
  s0 : Same H0 H
  n0 : H0 L = none
  at_ : H L = some (.lst vs)
  dat : DpAll K (nw H0 L H) vs ds
theorem FoundAt.next {K : PySem.W.Frag} {H0 H H' : Hp} {L : Addr} {vs : List V} {ds : List PyData} (F : FoundAt K H0 L H vs ds) (s : Same H H') : FoundAt K H0 L H' vs ds := ⟨F.s0.trans s, F.n0, s _ _ F.at_, DpAll_same (nw_next s) F.dat⟩
theorem FoundAt.more {K : PySem.W.Frag} {H0 H H1 : Hp} {L : Addr} {vs us : List V} {ds es : List PyData} (F : FoundAt K H0 L H vs ds) (s : Same H H1) (h : DpAll K (nw H0 L H1) us es) : FoundAt K H0 L (upd H1 L (.lst (vs ++ us))) (vs ++ us) (ds ++ es) := by
  refine ⟨fun c o e => ?_, F.n0, upd_same, DpAll_append (DpAll_same ((nw_next s).trans nw_upd) F.dat) (DpAll_same nw_upd h)⟩
  rw [upd_ne (ne_of_none e F.n0)]
  exact s _ _ (F.s0 _ _ e)
/-! ### the fixed things, as data -/
abbrev gN : Nm := some ("_law_great_here", 0, 10 ^ 60)
end Sw
set_option maxRecDepth 100000
set_option maxHeartbeats 4000000
namespace Sw
open PySem PySem.Spec PyProof.Rows L2
section
variable {prog : Program} {w : World} {A : Around} {E : Value → Shared → Prop} {s : Shared}
theorem rev_places (n : Nat) : Builtin.Slice.slicePlaces ((n : Int) - 1) (-1) (-1) = n := by
  unfold Builtin.Slice.slicePlaces
  simp
  omega
theorem applied_rev {sl : Addr} {vl vu vs : Value} {n : Nat} {Q : Int × Int × Nat → Shared → Prop} (hs : s.heap.IsSliceOf sl vl vu vs) (pl : IsPart vl none) (pu : IsPart vu none) (ps : IsPart vs (some (-1)))
    (h : Q ((n : Int) - 1, -1, n) s) : wpAny (model prog w) A (Builtin.Slice.sliceApplied (.ref sl) (pure (n : Int))) Q E s := by
  obtain ⟨os, hos, hcs, hds⟩ := id hs
  unfold Builtin.Slice.sliceApplied Builtin.Slice.sliceFields
  refine wpAny_bind (wpAny_bind (wpAny_field hos hds (x := vl) rfl (wpAny_bind (wpAny_field hos hds (x := vu) rfl (wpAny_bind (wpAny_field hos hds (x := vs) rfl (wpAny_pure ?_)))))))
  refine wpAny_bind (HT.slicePart_ ps ?_)
  show wpAny _ _ (if ((-1 : Int) == 0) = true then _ else _) _ _ s
  rw [if_neg (by decide)]
  refine wpAny_bind (HT.slicePart_ pl (wpAny_bind (HT.slicePart_ pu (wpAny_bind (wpAny_pure ?_)))))
  have e : Builtin.Slice.sliceAdjust none none (-1) (n : Int) = ((n : Int) - 1, -1) := by
    unfold Builtin.Slice.sliceAdjust
    simp
  show wpAny _ _ (match Builtin.Slice.sliceAdjust none none (-1) (n : Int) with | (lo, hi) => pure (lo, (-1 : Int), Builtin.Slice.slicePlaces lo hi (-1))) _ _ s
  rw [e]
  show wpAny _ _ (pure ((n : Int) - 1, (-1 : Int), Builtin.Slice.slicePlaces ((n : Int) - 1) (-1) (-1))) _ _ s
  rw [rev_places]
  exact wpAny_pure h
theorem fm_map {α β : Type} (f : α → Option β) (g : α → β) : ∀ l : List α, (∀ k ∈ l, f k = some (g k)) → l.filterMap f = l.map g
  | [], _ => rfl
  | k :: l, h => by
    rw [List.filterMap_cons, h k List.mem_cons_self, List.map_cons]
    dsimp only
    rw [fm_map f g l fun j hj => h j (List.mem_cons_of_mem _ hj)]
theorem rev_pick (xs : Array Value) : ((List.range xs.size).filterMap fun (k : Nat) => xs[(((xs.size : Int) - 1) + (k : Int) * (-1)).toNat]?) = xs.toList.reverse := by
  have e : ((List.range xs.size).filterMap fun (k : Nat) => xs[(((xs.size : Int) - 1) + (k : Int) * (-1)).toNat]?) = (List.range xs.size).map fun k => xs.toList.reverse.getD k .none := by
    refine fm_map _ _ _ fun k hk => ?_
    have hk' : k < xs.size := List.mem_range.mp hk
    have e1 : (((xs.size : Int) - 1) + (k : Int) * (-1)).toNat = xs.size - 1 - k := by omega
    have e2 : xs.size - 1 - k < xs.size := by omega
    rw [e1, Array.getElem?_eq_getElem e2]
    simp [List.getD, List.getElem?_reverse, hk']
  rw [e]
  apply List.ext_getElem?
  intro i
  rw [List.getElem?_map]
  by_cases h : i < xs.size
  · rw [List.getElem?_range h]
    have : i < xs.toList.reverse.length := by simpa using h
    rw [List.getElem?_eq_getElem this]
    simp [List.getD, List.getElem?_eq_getElem this]
  · rw [List.getElem?_eq_none (by simpa using h), List.getElem?_eq_none (by simpa using h)]
    rfl
theorem tuple_rev {t sl : Addr} {items : Array Value} {vl vu vs : Value} {Q : Value → Shared → Prop} (ht : IsTup s.heap t items) (hs : s.heap.IsSliceOf sl vl vu vs) (pl : IsPart vl none) (pu : IsPart vu none) (ps : IsPart vs (some (-1)))
    (h : Q (.ref s.heap.objs.size) { s with heap := s.heap.push { cls := .type "tuple", data := .seq items.toList.reverse.toArray } }) (hsz : items.size ≤ sizeLine) : wpAny (model prog w) A (getItem (.ref t) (.ref sl)) Q E s := by
  obtain ⟨os, hos, hcs, hds⟩ := id hs
  have hTs : s.TypeIs (.ref sl) "slice" := ⟨os, hos, hcs⟩
  have htake : sizeOk (.seq items.toList.reverse.toArray) := by
    show items.toList.reverse.toArray.size ≤ sizeLine
    simpa using hsz
  unfold getItem
  try with_reducible refine wpAny_holding ?_
  first | refine wpAny_bind (wpAny_pure ?_) | skip
  refine wpAny_bind (wpAny_sequenceKey ht.typeIs (by decide) ?_)
  refine wpAny_bind (wpAny_callSpecial?_slot (name := Str.ofString "__getitem__") ht.typeIs PyProof.Rows.slot_tuple_getitem (wpAny_call_entry PyProof.Rows.slot_tuple_getitem ht.typeIs entry_tuple_getitem ?_ (args_tuple_getitem _ _)))
  show wpAny _ _ (Builtin.Tuple.tupleItemsOf (.ref t) >>= _) _ _ s
  refine wpAny_bind (tupleItemsOf_ ht (wpAny_bind (wpAny_typeOf hTs ?_)))
  rw [if_pos (by decide)]
  refine wpAny_bind (applied_rev hs pl pu ps ?_)
  show wpAny _ _ (if ((((items.size : Int) - 1) == 0 && (-1 : Int) == 1 && items.size == items.size) = true) then _ else _) _ _ s
  rw [if_neg (by simp), rev_pick]
  first
    | exact wpAny_bind (m := Builtin.Tuple.tupleExact _) (wpAny_newObj_type (wpAny_pure ⟨_, rfl, wpAny_pure h⟩) htake)
    | exact wpAny_bind (m := Builtin.Tuple.tupleExact _) (wpAny_newObj_type (wpAny_bind (wpAny_pure (wpAny_pure ⟨_, rfl, wpAny_pure h⟩))) htake)
    | exact wpAny_bind (wpAny_bind (m := Builtin.Tuple.tupleExact _) (wpAny_newObj_type (wpAny_pure (wpAny_pure ⟨_, rfl, wpAny_pure h⟩)) htake))
    | exact wpAny_bind (wpAny_bind (m := Builtin.Tuple.tupleExact _) (wpAny_newObj_type (wpAny_pure ⟨_, rfl, wpAny_pure h⟩) htake))
end
section
variable {X : Cx}
/-- t[::-1] -/
def tRevT (K : PySem.W.Frag) (te : TE) : TE := fun σ H Q => te σ H fun x H1 => ∃ a xs, x = .ref a ∧ SqT K H1 a xs ∧ ∀ p, H1 p = none → Q (.ref p) (upd H1 p (.tup xs.reverse))
theorem pe_revT {e : Expr} {te : TE} {k : Nat} {p1 p2 p3 pos : Pos} (he : PE X e te) : PE X (.Subscript e (.Slice none none (some (.UnaryOp .USub (.Constant (.int 1) k p1) p2)) p3) pos) (tRevT X.K te) := by
  refine ⟨fun pins s σ H Q I h => Subscript_ (thn (he.run pins s σ H _ I h) fun v s1 ⟨x, H1, I1, r1, q1⟩ => ?_)⟩
  obtain ⟨a, xs, ex, hx, q⟩ := q1
  subst ex
  cases r1
  have hst : PO X (some (.UnaryOp .USub (.Constant (.int 1) k p1) p2)) (tPart (tUn (rU fun i => .int (-i)) (tC (.int 1)))) := po_some (pe_un un_neg pe_int)
  refine wpAny_Slice (thn (po_none.run pins s1 σ H1 (fun o G => o = none ∧ G = H1) I1 ⟨rfl, rfl⟩) fun vl s2 hl2 => ?_)
  obtain ⟨_, _, I2, pl, rfl, rfl⟩ := hl2
  refine thn (po_none.run pins s2 σ _ (fun o G => o = none ∧ G = _) I2 ⟨rfl, rfl⟩) fun vu s3 hl3 => ?_
  obtain ⟨_, _, I3, pu, rfl, rfl⟩ := hl3
  refine thn (hst.run pins s3 σ _ (fun o G => o = some (-1) ∧ G = _) I3 ⟨1, rfl, -1, rfl, rfl, rfl⟩) fun vs s4 hl4 => ?_
  obtain ⟨_, H4, I4, ps, rfl, rfl⟩ := hl4
  have I5 : Inv X pins σ H4 { s4 with heap := s4.heap.push { cls := .type "slice", data := .fields #[vl, vu, vs] } } := I4.kept (t' := s4.toks) fun b ob q => Heap.get?_push_of_some _ q
  obtain ⟨its, r, ht, hz⟩ := I5.tuple hx
  have hlen := r.length
  show wpAny (model X.prog X.w) X.A (subscriptTail e (.Slice none none (some (.UnaryOp .USub (.Constant (.int 1) k p1) p2)) p3) (.ref a) (.ref s4.heap.objs.size)) (EP X pins σ Q) X.xe { s4 with heap := s4.heap.push { cls := .type "slice", data := .fields #[vl, vu, vs] } }
  refine tail_any (ops := [.ref a, .ref s4.heap.objs.size]) ht.typeIs (PyProof.Rows.slot_tuple_getitem.lookup) ?_ (by with_unfolding_all rfl)
  refine tuple_rev ht (Heap.IsSliceOf.new _ vl vu vs) pl pu ps ?_ (by rw [List.size_toArray]; omega)
  have e : its.toArray.toList.reverse = its.reverse := by simp
  rw [e]
  refine ⟨.ref _, _, I5.laid (t' := s4.toks) (o := .tup xs.reverse) (fun b ob q => Heap.get?_push_of_some _ q) (Nat.le_refl _) ?_, rfl, q _ (I5.hok.fresh (Nat.le_refl _))⟩
  exact ⟨by rw [List.length_reverse]; exact hz, its.reverse, r.reverse, ⟨_, Heap.get?_push_size _ rfl, rfl, _, rfl⟩⟩
end
end Sw
set_option maxRecDepth 100000
set_option maxHeartbeats 4000000
namespace Sw
open PySem PySem.Spec PyProof.Rows L2
mutual
/-- a long list is no part of data whose lists are short -/
theorem Dp_off {K : PySem.W.Frag} {G : Hp} {T : Addr} {us : List V} {l : Nat} (hT : G T = some (.lst us)) (hl : l < us.length) : ∀ {v : V} {d : PyData}, Dp K G v d → lens l d = true → Dp K (del G T) v d
  | _, _, .non, _ => .non
  | _, _, .bl b, _ => .bl b
  | _, _, .int i, _ => .int i
  | _, _, .str x, _ => .str x
  | _, _, .lst (a := a) (xs := xs) (ds := ds) h r, hf => by
    have hf' : ds.length ≤ l ∧ lensAll l ds = true := by simpa [lens] using hf
    have hlen := DpAll_len r
    refine .lst ?_ (DpAll_off hT hl r hf'.2)
    rcases h with (h | ⟨o, h⟩) | h
    · refine .inl (.inl (del_some h fun e => ?_))
      rw [e, hT] at h
      cases h
      omega
    · refine .inl (.inr ⟨o, del_some h fun e => ?_⟩)
      rw [e, hT] at h
      cases h
    · exact .inr h
  | _, _, .tup (a := a) (xs := xs) (ds := ds) h r, hf => by
    have hf' : ds.length ≤ l ∧ lensAll l ds = true := by simpa [lens] using hf
    refine .tup ?_ (DpAll_off hT hl r hf'.2)
    rcases h with (h | ⟨o, h⟩) | h
    · refine .inl (.inl (del_some h fun e => ?_))
      rw [e, hT] at h
      cases h
    · refine .inl (.inr ⟨o, del_some h fun e => ?_⟩)
      rw [e, hT] at h
      cases h
    · exact .inr h
theorem DpAll_off {K : PySem.W.Frag} {G : Hp} {T : Addr} {us : List V} {l : Nat} (hT : G T = some (.lst us)) (hl : l < us.length) : ∀ {vs : List V} {ds : List PyData}, DpAll K G vs ds → lensAll l ds = true → DpAll K (del G T) vs ds
  | _, _, .nil, _ => .nil
  | _, _, .cons (d := d) (ds := ds) h r, hf => by
    have hf' : lens l d = true ∧ lensAll l ds = true := by simpa [lensAll] using hf
    exact .cons (Dp_off hT hl h hf'.1) (DpAll_off hT hl r hf'.2)
end
/-- what repr asks of data -/
theorem repr_of {M l n B : Nat} {d : PyData} (h : Fit M l n B d) (hM : M ≤ 10 ^ 200) (hn : n ≤ 60) (hB : B ≤ 16777216) : d.showable = true ∧ d.hasDict = false ∧ d.depth ≤ 60 ∧ d.shown.length ≤ sizeLine := by
  have e1 : M < 2 ^ 1920 := Nat.lt_of_le_of_lt hM (by decide +kernel)
  have e2 : M < 10 ^ 240 := Nat.lt_of_le_of_lt hM (by decide +kernel)
  refine ⟨leaf_shows e1 d h.lf, leaf_noDict d h.lf, Nat.le_trans h.dp hn, ?_⟩
  have h1 := shown_wt e2 d h.lf
  have h2 := h.wg
  rw [sizeLine_eq]
  omega
/-- things as they are told to the looks -/
abbrev FitT (d : PyData) : Prop := Fit (10 ^ 199 + 2) 60 50 20000 d
theorem list_fit {ds : List PyData} (h : ∀ d ∈ ds, FitT d) (hl : ds.length ≤ 400) : Fit (10 ^ 199 + 2) 400 51 16000000 (.list ds) := by
  have hw : ∀ l : List PyData, (∀ d ∈ l, FitT d) → wtAll l ≤ 20002 * l.length := by
    intro l
    induction l with
    | nil => intro _; simp [wtAll]
    | cons x l ih =>
      intro hx
      have h1 := (hx x List.mem_cons_self).wg
      have h2 := ih fun d hd => hx d (List.mem_cons_of_mem _ hd)
      simp only [wtAll, List.length_cons]
      omega
  have := hw ds h
  refine Fit.lst (n := 50) hl (fun x hx => ?_) (by omega)
  have := (h x hx).mono (Nat.le_refl _) (show 60 ≤ 400 by omega) (Nat.le_refl _) (Nat.le_refl _)
  exact ⟨this.lf, this.ln, this.dp⟩
end Sw
set_option maxRecDepth 100000
set_option maxHeartbeats 4000000
namespace Sw
open PySem PySem.Spec PyProof.Rows L2
/-- the things while they grow: T holds them, p and fq are the feed's -/
structure LI (K : PySem.W.Frag) (p fq T : Addr) (vo : V) (os : List PyData) (b : Nat) (H : Hp) (us : List V) (ds : List PyData) : Prop where
  feed : FeedAt H p fq b
  at_ : H T = some (.lst us)
  np : T ≠ p
  nq : T ≠ fq
  dat : DpAll K (del (del H p) T) us ds
  odd : Dp K (del (del H p) T) vo (.tuple os)
  long : 56 ≤ us.length
  fit : ∀ d ∈ ds, FitT d
section
variable {K : PySem.W.Frag} {p fq T : Addr} {vo : V} {os : List PyData} {b : Nat} {H H' : Hp} {us : List V} {ds : List PyData}
theorem LI.next {b' : Nat} (I : LI K p fq T vo os b H us ds) (s : Same (del H p) (del H' p)) (F : FeedAt H' p fq b') : LI K p fq T vo os b' H' us ds :=
  ⟨F, (of_del (s _ _ (del_some I.at_ I.np))).1, I.np, I.nq, DpAll_same (same_del s) I.dat, Dp_same (same_del s) I.odd, I.long, I.fit⟩
theorem LI.lay (I : LI K p fq T vo os b H us ds) (s : Same H H') : LI K p fq T vo os b H' us ds := I.next (same_del s) (I.feed.same s)
theorem LI.mono {c : Nat} (I : LI K p fq T vo os b H us ds) (h : b ≤ c) : LI K p fq T vo os c H us ds := ⟨I.feed.mono h, I.at_, I.np, I.nq, I.dat, I.odd, I.long, I.fit⟩
theorem LI.off (I : LI K p fq T vo os b H us ds) {v : V} {d : PyData} (h : Dp K (del H p) v d) {M l n B : Nat} (hf : Fit M l n B d) (hl : l < 56) : Dp K (del (del H p) T) v d :=
  Dp_off (l := l) (del_some I.at_ I.np) (Nat.lt_of_lt_of_le hl I.long) h hf.ln
theorem LI.new (I : LI K p fq T vo os b H us ds) {a : Addr} {o : HO} (ha : H a = none) : del (del (upd H a o) p) T a = some o :=
  del_some (del_some upd_same (I.feed.ne ha).1) (Ne.symm (ne_of_none I.at_ ha))
theorem LI.more (I : LI K p fq T vo os b H us ds) {ws : List V} {es : List PyData} (h : DpAll K (del (del H p) T) ws es) (hf : ∀ d ∈ es, FitT d) : LI K p fq T vo os b (upd H T (.lst (us ++ ws))) (us ++ ws) (ds ++ es) := by
  have s : Same (del (del H p) T) (del (del (upd H T (.lst (us ++ ws))) p) T) := fun c o e => by
    obtain ⟨e1, e2⟩ := of_del e
    obtain ⟨e3, e4⟩ := of_del e1
    exact del_some (del_some (by rw [upd_ne e2]; exact e3) e4) e2
  refine ⟨I.feed.upd I.np I.nq, upd_same, I.np, I.nq, DpAll_same s (DpAll_append I.dat h), Dp_same s I.odd, ?_, fun d hd => (List.mem_append.mp hd).elim (I.fit d) (hf d)⟩
  have := I.long
  rw [List.length_append]
  omega
end
/-- objects, few -/
theorem objs_wt : ∀ l : List PyData, (∀ d ∈ l, ObjD d) → wtAll l ≤ 346 * l.length
  | [], _ => by simp [wtAll]
  | x :: l, h => by
    have h1 := (objD_fit (h x List.mem_cons_self)).wg
    have h2 := objs_wt l fun d hd => h d (List.mem_cons_of_mem _ hd)
    simp only [wtAll, List.length_cons]
    omega
theorem objs_any {ds : List PyData} (hl : ds.length ≤ 8) (h : ∀ d ∈ ds, ObjD d) : FitT (.tuple ds) ∧ FitT (.list ds) := by
  have hw := objs_wt ds h
  have hx : ∀ x ∈ ds, leaf (10 ^ 199 + 2) x = true ∧ lens 60 x = true ∧ x.depth ≤ 49 := fun x hx => by
    have := (objD_fit (h x hx)).mono (M' := 10 ^ 199 + 2) (l' := 60) (n' := 49) (B' := 344) (show 4 ≤ 10 ^ 199 + 2 by decide +kernel) (by omega) (by omega) (Nat.le_refl _)
    exact ⟨this.lf, this.ln, this.dp⟩
  exact ⟨Fit.tup (n := 49) (by omega) hx (by omega), Fit.lst (n := 49) (by omega) hx (by omega)⟩
theorem DpAll_reverse {K : PySem.W.Frag} {H : Hp} : ∀ {vs : List V} {ds : List PyData}, DpAll K H vs ds → DpAll K H vs.reverse ds.reverse
  | _, _, .nil => .nil
  | _, _, .cons h r => by
    rw [List.reverse_cons, List.reverse_cons]
    exact DpAll_append (DpAll_reverse r) (.cons h .nil)
abbrev eight : Str := "abcdefgh"
theorem eight_len : eight.length = 8 := by decide +kernel
theorem eight_ok : ∀ c ∈ eight.cps.toList, c < 128 := by
  have : eight.cps.toList.all (fun c => decide (c < 128)) = true := by decide +kernel
  exact fun c hc => by simpa using List.all_eq_true.mp this c hc
theorem app_ok {x y : Str} (hx : ∀ c ∈ x.cps.toList, c < 128) (hy : ∀ c ∈ y.cps.toList, c < 128) : ∀ c ∈ (x ++ y).cps.toList, c < 128 := fun c hc => by
  rw [app_list] at hc
  exact (List.mem_append.mp hc).elim (hx c) (hy c)
theorem a_ok : ∀ c ∈ (Str.ofString "a").cps.toList, c < 128 := fun c hc => by
  have : c = 97 := by simpa using (show c ∈ [97] from hc)
  omega
/-- four answers, as data -/
theorem four_fit (a b c d : Bool) : Fit 0 4 1 100 (.tuple [.bool a, .bool b, .bool c, .bool d]) := by
  refine Fit.tup (n := 0) (by show 4 ≤ 4; omega) (fun x hx => ?_) (by simp only [wtAll, wt]; omega)
  simp only [List.mem_cons, List.not_mem_nil, or_false] at hx
  rcases hx with rfl | rfl | rfl | rfl <;> exact ⟨rfl, rfl, by simp [PyData.depth]⟩
end Sw
set_option maxRecDepth 100000
set_option maxHeartbeats 4000000
namespace Sw
open PySem PySem.Spec PyProof.Rows L2
/-! ### graphs as data -/
inductive Ge where
  | go (a : Int)
  | iff (a b : Int)
  | back
def endD : Ge → PyData
  | .go a => .tuple [.str "go", .int a]
  | .iff a b => .tuple [.str "if", .str "i", .int a, .int b]
  | .back => .tuple [.str "back"]
def allG : Ge → List Int
  | .go a => [a]
  | .iff a b => [a, b]
  | .back => []
def goalsI : Ge → List Int
  | .go a => [a]
  | .iff a b => if a < b then [a, b] else if b < a then [b, a] else [a]
  | .back => []
theorem mem_goalsI {e : Ge} {x : Int} : x ∈ goalsI e ↔ x ∈ allG e := by
  cases e with
  | go a => rfl
  | back => rfl
  | iff a b =>
    show x ∈ (if a < b then [a, b] else if b < a then [b, a] else [a]) ↔ x ∈ [a, b]
    by_cases h1 : a < b
    · rw [if_pos h1]
    · rw [if_neg h1]
      by_cases h2 : b < a
      · rw [if_pos h2]; simp only [List.mem_cons, List.not_mem_nil, or_false]; exact or_comm
      · rw [if_neg h2]
        have : a = b := by omega
        subst this
        simp
theorem goalsI_sorted (e : Ge) : (goalsI e).Pairwise (· < ·) := by
  cases e with
  | go a => exact List.pairwise_singleton _ _
  | back => exact List.Pairwise.nil
  | iff a b =>
    show (if a < b then [a, b] else if b < a then [b, a] else [a]).Pairwise (· < ·)
    by_cases h1 : a < b
    · rw [if_pos h1]; simp [h1]
    · rw [if_neg h1]
      by_cases h2 : b < a
      · rw [if_pos h2]; simp [h2]
      · rw [if_neg h2]; exact List.pairwise_singleton _ _
theorem goalsI_len (e : Ge) : (goalsI e).length ≤ 2 := by
  cases e with
  | go a => exact Nat.le_succ 1
  | back => exact Nat.zero_le _
  | iff a b =>
    show (if a < b then [a, b] else if b < a then [b, a] else [a]).length ≤ 2
    split
    · exact Nat.le_refl _
    · split
      · exact Nat.le_refl _
      · exact Nat.le_succ 1
/-- two rising lists of the same numbers are the same -/
theorem rising_eq : ∀ {xs ys : List Int}, xs.Pairwise (· < ·) → ys.Pairwise (· < ·) → (∀ k, k ∈ xs ↔ k ∈ ys) → xs = ys
  | [], [], _, _, _ => rfl
  | [], y :: ys, _, _, h => by have := (h y).mpr List.mem_cons_self; cases this
  | x :: xs, [], _, _, h => by have := (h x).mp List.mem_cons_self; cases this
  | x :: xs, y :: ys, px, py, h => by
    rw [List.pairwise_cons] at px py
    have e : x = y := by
      rcases List.mem_cons.mp ((h x).mp List.mem_cons_self) with e | e
      · exact e
      · rcases List.mem_cons.mp ((h y).mpr List.mem_cons_self) with e2 | e2
        · exact e2.symm
        · have := py.1 x e; have := px.1 y e2; omega
    subst e
    congr 1
    refine rising_eq px.2 py.2 fun k => ⟨fun hk => ?_, fun hk => ?_⟩
    · rcases List.mem_cons.mp ((h k).mp (List.mem_cons_of_mem _ hk)) with e2 | e2
      · have := px.1 k hk; omega
      · exact e2
    · rcases List.mem_cons.mp ((h k).mpr (List.mem_cons_of_mem _ hk)) with e2 | e2
      · have := py.1 k hk; omega
      · exact e2
def blkD (e : Ge) : PyData := .tuple [.tuple [], endD e]
def rtD (r : Str × List Ge) : PyData := .tuple [.str r.1, .tuple (r.2.map blkD)]
def objD : PyData := .tuple [.tuple [.str "a", .int 1]]
def codeD (rs : List (Str × List Ge)) : PyData := .tuple [objD, .tuple (rs.map rtD)]
def lk (nm : Str) : List (Str × List Ge) → Option (List Ge)
  | [] => none
  | r :: rs => if r.1 = nm then some r.2 else lk nm rs
/-- where a block goes -/
def arr (es : List Ge) (b : Int) : List Int := match es[b.toNat]? with
  | some e => allG e
  | none => []
structure Gok (es : List Ge) : Prop where
  pos : 1 ≤ es.length
  few : es.length ≤ 60
  rng : ∀ e ∈ es, ∀ g ∈ allG e, 0 ≤ g ∧ g < (es.length : Int)
theorem arr_rng {es : List Ge} (h : Gok es) {a b : Int} (hb : b ∈ arr es a) : 0 ≤ b ∧ b < (es.length : Int) := by
  unfold arr at hb
  split at hb
  · rename_i e he
    exact h.rng e (List.mem_of_getElem? he) b hb
  · cases hb
/-- to which blocks one comes without ov -/
inductive Rch (es : List Ge) (ov : Option Int) : Int → Prop
  | zero : ov ≠ some 0 → Rch es ov 0
  | step {a b : Int} : Rch es ov a → b ∈ arr es a → ov ≠ some b → Rch es ov b
theorem Rch.rng {es : List Ge} {ov : Option Int} (h : Gok es) {a : Int} (r : Rch es ov a) : 0 ≤ a ∧ a < (es.length : Int) := by
  cases r with
  | zero => have := h.pos; omega
  | step _ hb _ => exact arr_rng h hb
theorem Rch.ne {es : List Ge} {ov : Option Int} {a : Int} (r : Rch es ov a) : ov ≠ some a := by
  cases r with
  | zero h => exact h
  | step _ _ h => exact h
/-- what is known while one goes on -/
inductive Led (es : List Ge) (ov : Option Int) : List (Int × Option Int) → Prop
  | one : ov ≠ some 0 → Led es ov [(0, none)]
  | snoc {L : List (Int × Option Int)} {b g : Int} : Led es ov L → b ∈ L.map (·.1) → g ∈ arr es b → g ∉ L.map (·.1) → ov ≠ some g → Led es ov (L ++ [(g, some b)])
theorem Led.rch {es : List Ge} {ov : Option Int} {L : List (Int × Option Int)} (h : Led es ov L) : ∀ k ∈ L.map (·.1), Rch es ov k := by
  induction h with
  | one h => intro k hk; have : k = 0 := by simpa using hk
             rw [this]; exact .zero h
  | @snoc L b g _ hb hg hn ho ih =>
    intro k hk
    rw [List.map_append, List.mem_append] at hk
    rcases hk with hk | hk
    · exact ih k hk
    · have : k = g := by simpa using hk
      rw [this]
      exact .step (ih _ hb) hg ho
theorem Led.nodup {es : List Ge} {ov : Option Int} {L : List (Int × Option Int)} (h : Led es ov L) : (L.map (·.1)).Nodup := by
  induction h with
  | one h => simp
  | @snoc L b g _ hb hg hn ho ih =>
    rw [List.map_append]
    refine List.nodup_append.mpr ⟨ih, by simp, fun a ha b' hb2 => ?_⟩
    have : b' = g := by simpa using hb2
    rw [this]
    exact fun e => hn (e ▸ ha)
theorem Led.zero {es : List Ge} {ov : Option Int} {L : List (Int × Option Int)} (h : Led es ov L) : (0 : Int) ∈ L.map (·.1) := by
  induction h with
  | one h => simp
  | snoc _ _ _ _ _ ih => rw [List.map_append]; exact List.mem_append_left _ ih
theorem Led.no {es : List Ge} {ov : Option Int} {L : List (Int × Option Int)} (h : Led es ov L) : ov ≠ some 0 := by
  induction h with
  | one h => exact h
  | snoc _ _ _ _ _ ih => exact ih
/-- none twice and all below n: at most n -/
theorem few_ints : ∀ (n : Nat) {L : List Int}, L.Nodup → (∀ x ∈ L, 0 ≤ x ∧ x < (n : Int)) → L.length ≤ n
  | 0, [], _, _ => Nat.le_refl _
  | 0, x :: _, _, h => by have := h x List.mem_cons_self; omega
  | n + 1, L, nd, h => by
    have h1 : (L.erase (n : Int)).length ≤ n := few_ints n (nd.erase _) fun x hx => by
      have h2 := h x (List.mem_of_mem_erase hx)
      have h3 : x ≠ (n : Int) := fun e => by
        rw [e] at hx
        exact (List.Nodup.not_mem_erase nd) hx
      omega
    by_cases hm : (n : Int) ∈ L
    · rw [List.length_erase_of_mem hm] at h1
      omega
    · rw [List.erase_of_not_mem hm] at h1
      omega
theorem Led.few {es : List Ge} {ov : Option Int} (hg : Gok es) {L : List (Int × Option Int)} (h : Led es ov L) : L.length ≤ es.length := by
  have := few_ints es.length h.nodup fun x hx => (h.rch x hx).rng hg
  rwa [List.length_map] at this
theorem closed_all {es : List Ge} {ov : Option Int} {ks : List Int} (h0 : ov ≠ some 0 → (0 : Int) ∈ ks) (hc : ∀ b ∈ ks, ∀ g ∈ arr es b, ov ≠ some g → g ∈ ks) {k : Int} (r : Rch es ov k) : k ∈ ks := by
  induction r with
  | zero h => exact h0 h
  | step _ hb ho ih => exact hc _ ih _ hb ho
structure LedOk (es : List Ge) (ov : Option Int) (L : List (Int × Option Int)) : Prop where
  led : (L = [] ∧ ov = some 0) ∨ Led es ov L
  iff : ∀ k, k ∈ L.map (·.1) ↔ Rch es ov k
  nd : (L.map (·.1)).Nodup
  few : L.length ≤ es.length
/-! ### the dict of it -/
def optV : Option Int → V
  | none => .non
  | some i => .int i
def dkv (L : List (Int × Option Int)) : List (Key × V) := L.map fun p => (Sum.inl p.1, optV p.2)
theorem dkv_has (L : List (Int × Option Int)) (k : Int) : (valV (dkv L) (Sum.inl k)).isSome = decide (k ∈ L.map (·.1)) := by
  induction L with
  | nil => rfl
  | cons p L ih =>
    have e : dkv (p :: L) = (Sum.inl p.1, optV p.2) :: dkv L := rfl
    rw [e]
    by_cases h : p.1 = k
    · rw [valV_pos (show ((Sum.inl p.1, optV p.2) : Key × V).1 = Sum.inl k by rw [h])]
      simp [h]
    · rw [valV_neg (show ¬ ((Sum.inl p.1, optV p.2) : Key × V).1 = Sum.inl k from fun z => h (by injection z)), ih]
      have h' : ¬ k = p.1 := fun z => h z.symm
      simp [h']
theorem dkv_put {L : List (Int × Option Int)} {g b : Int} (h : g ∉ L.map (·.1)) : putK (dkv L) (Sum.inl g) (.int b) = dkv (L ++ [(g, some b)]) := by
  unfold putK
  have : ((dkv L).any fun kv => decide (kv.1 = Sum.inl g)) = false := by
    rw [valV_any, dkv_has]
    simpa using h
  rw [this, if_neg (by simp)]
  unfold dkv
  rw [List.map_append]
  rfl
theorem dkv_keys (L : List (Int × Option Int)) : (dkv L).map (·.1) = (L.map (·.1)).map Sum.inl := by
  unfold dkv
  rw [List.map_map, List.map_map]
  rfl
end Sw
set_option maxRecDepth 100000
set_option maxHeartbeats 4000000
namespace Sw
open PySem PySem.Spec PyProof.Rows L2
theorem pss_never {X : Cx} {st : List Stmt} : PSs X st (fun _ _ _ => False) := ⟨fun pins s σ H D I h => h.elim⟩
section
variable {X : Cx}
/-- set(t) of a tuple of numbers -/
def rSetIT (K : PySem.W.Frag) (w : World) : List V → Hp → VK → Prop := fun vs H Q => ∃ (l : Addr) (ns : List Int), vs = [.ref l] ∧ SqT K H l (ns.map V.int) ∧ ns.length ≤ 60 ∧
  ∀ a c, H a = none → c ≤ ns.length → Q (.ref a) (upd H a (SetO w a (fun j => decide (j ∈ ns)) c))
theorem cr_setIT (hc : X.calm = true) : CallR X (.type "set") (rSetIT X.K X.w) := by
  intro pins s σ H vs us Q I r h
  obtain ⟨l, ns, rfl, hl, hn, q⟩ := h
  obtain ⟨its, rv, hp, _⟩ := I.tuple hl
  rw [Vals.ref1 r]
  refine call_set_tupI ns (I.ok.hd hc) hp (by simpa using rv.ints) (by unfold scanBound; omega) ?_
  intro h' tk c hS hcl k
  exact ⟨.ref s.heap.objs.size, _, I.laid (t' := tk) (o := SetO X.w s.heap.objs.size (fun j => decide (j ∈ ns)) c) k (Nat.le_refl _) (setO_new hS), rfl, q _ c (I.hok.fresh (Nat.le_refl _)) hcl⟩
end
theorem Dp_tup {K : PySem.W.Frag} {H : Hp} {v : V} {ds : List PyData} (h : Dp K H v (.tuple ds)) : ∃ a vs, v = .ref a ∧ SqT K H a vs ∧ DpAll K H vs ds := by
  cases h with
  | tup h r => exact ⟨_, _, rfl, h, r⟩
theorem Dp_str {K : PySem.W.Frag} {H : Hp} {v : V} {z : Str} (h : Dp K H v (.str z)) : v = .str z := by cases h; rfl
theorem Dp_int {K : PySem.W.Frag} {H : Hp} {v : V} {i : Int} (h : Dp K H v (.int i)) : v = .int i := by cases h; rfl
theorem DpAll_two {K : PySem.W.Frag} {H : Hp} {vs : List V} {a b : PyData} (h : DpAll K H vs [a, b]) : ∃ x y, vs = [x, y] ∧ Dp K H x a ∧ Dp K H y b := by
  cases h with
  | cons h1 r => cases r with
    | cons h2 r => cases r; exact ⟨_, _, rfl, h1, h2⟩
theorem code_two {K : PySem.W.Frag} {H : Hp} {v : V} {rs : List (Str × List Ge)} (h : Dp K H v (codeD rs)) : ∃ a vo vr, v = .ref a ∧ SqT K H a [vo, vr] ∧ Dp K H vo objD ∧ Dp K H vr (.tuple (rs.map rtD)) := by
  obtain ⟨a, vs, rfl, h1, h2⟩ := Dp_tup h
  obtain ⟨x, y, rfl, h3, h4⟩ := DpAll_two h2
  exact ⟨a, x, y, rfl, h1, h3, h4⟩
section
variable {P : Program} {w : World} {K : PySem.W.Frag} {mg : Str → Option Value} {base : Heap}
def spBlocks (K : PySem.W.Frag) : Sp := fun vs H Q _ => ∃ (vc : V) (nm : Str) (rs : List (Str × List Ge)) (es : List Ge), vs = [vc, .str nm] ∧ Dp K H vc (codeD rs) ∧ lk nm rs = some es ∧ ∀ v, Dp K H v (.tuple (es.map blkD)) → Q v H
theorem sc_blocks : FnScope ["code", "name", "word", "blocks"] ["code", "name"] (defScope (topS 10)) := ⟨rfl, rfl, rfl, by decide +kernel, rfl, by decide +kernel, by decide +kernel⟩
theorem ok_blocks {f : Addr} {fd : FuncData} (D : Df K mg "blocks_of" (topS 10) ["code", "name"] f fd) (B : Bt mg) : FnOk P w K mg base CX0 1 f fd ["code", "name"] (spBlocks K) := by
  refine D.fn.ok sc_blocks (fun vs H Q E h => ?_) (fun cdv A outer s H vs Q E hr h => ?_)
  · obtain ⟨vc, nm, rs, es, rfl, _⟩ := h
    rfl
  obtain ⟨vc, nm, rs, es, rfl, hc, hl, q⟩ := h
  have nd := sc_blocks.nd
  refine ⟨_, pss_cons (ps_for PassesOwn.never rfl (pi_tup (pe_ix ix_tup (pv 0) pe_int (fun _ _ => rfl))) (pg_tup rfl (pgs_cons (pg_name (i := 2) nd rfl (Or.inl rfl)) (pgs_cons (pg_name (i := 3) nd rfl (Or.inl rfl)) pgs_nil)))
      (pss_one (ps_if (pt_cmpR op_eq (pv 2) (pv 1) (nomark _)) (pss_one (ps_ret (pv 3))) pss_nil))) pss_never, ?_⟩
  obtain ⟨a, vo, vr, rfl, ha, ho, hr2⟩ := code_two hc
  obtain ⟨ar, xs, rfl, hx, hd⟩ := Dp_tup hr2
  have hlen : xs.length = rs.length := by rw [DpAll_len hd, List.length_map]
  refine ⟨_, rfl, a, _, 1, _, rfl, rfl, ha, atI_nat (j := 1) rfl, ar, rfl, ⟨_, hx⟩, for_it (walk_tup (xs := xs)) (fun n σ H' => ∃ (x2 x3 : Option V), σ = [some (.ref a), some (.str nm), x2, x3] ∧ H' = H ∧ lk nm (rs.drop n) = some es)
    ⟨_, _, rfl, rfl, hl⟩ (fun n σ H' _ h => by obtain ⟨_, _, _, rfl, _⟩ := h; exact hx) ?_ ?_⟩
  · rintro n x σ H4 H5 hn ⟨x2, x3, rfl, rfl, hk⟩ ⟨rfl, hxn⟩
    obtain ⟨d, hd1, hd2⟩ := DpAll_get hd hxn
    have hn' : n < rs.length := by omega
    rw [List.getElem?_map, List.getElem?_eq_getElem hn'] at hd1
    cases hd1
    rw [List.drop_eq_getElem_cons hn'] at hk
    generalize rs[n] = r at hd2 hk
    obtain ⟨z, eb⟩ := r
    obtain ⟨at_, ys, rfl, hy, hy2⟩ := Dp_tup hd2
    obtain ⟨u1, u2, rfl, k1, k2⟩ := DpAll_two hy2
    cases Dp_str k1
    refine ⟨at_, _, rfl, hy, rfl, _, _, rfl, _, _, rfl, rfl, ?_⟩
    refine ⟨_, rfl, _, rfl, rfl, _, rfl, ?_⟩
    refine ite2 (fun c => ?_) (fun c => ?_)
    · have c' : z = nm := by simpa using c
      have e : lk nm ((z, eb) :: rs.drop (n + 1)) = some eb := by show (if z = nm then _ else _) = _; rw [if_pos c']
      rw [e] at hk
      cases hk
      exact ⟨_, rfl, q _ k2⟩
    · have c' : ¬ z = nm := by simpa using c
      have e : lk nm ((z, eb) :: rs.drop (n + 1)) = lk nm (rs.drop (n + 1)) := by show (if z = nm then _ else _) = _; rw [if_neg c']
      rw [e] at hk
      exact ⟨_, _, rfl, rfl, hk⟩
  · rintro σ H4 ⟨x2, x3, rfl, rfl, hk⟩
    rw [hlen, List.drop_length] at hk
    cases hk
def spGoals (K : PySem.W.Frag) : Sp := fun vs H Q _ => ∃ (v : V) (e : Ge), vs = [v] ∧ Dp K H v (endD e) ∧ ∀ t H', Same H H' → H' t = some (.tup ((goalsI e).map V.int)) → Q (.ref t) H'
theorem sc_goals : FnScope ["end"] ["end"] (defScope (topS 12)) := ⟨rfl, rfl, rfl, by decide +kernel, rfl, by decide +kernel, by decide +kernel⟩
theorem ok_goals {f : Addr} {fd : FuncData} (D : Df K mg "goals" (topS 12) ["end"] f fd) (B : Bt mg) : FnOk P w K mg base CX0 1 f fd ["end"] (spGoals K) := by
  refine D.fn.ok sc_goals (fun vs H Q E h => ?_) (fun cdv A outer s H vs Q E hr h => ?_)
  · obtain ⟨v, e, rfl, _⟩ := h
    rfl
  obtain ⟨v, e, rfl, hd, q⟩ := h
  refine ⟨_, pss_cons (ps_if (pt_cmpR op_eq (pe_ix ix_tup (pv 0) pe_int (fun _ _ => rfl)) pe_str (nomark _)) (pss_one (ps_ret (pe_tup (pa_cons (pe_ix ix_tup (pv 0) pe_int (fun _ _ => rfl)) pa_nil)))) pss_nil)
    (pss_cons (ps_if (pt_cmpR op_eq (pe_ix ix_tup (pv 0) pe_int (fun _ _ => rfl)) pe_str (nomark _))
      (pss_one (ps_ret (pe_callTy call_tuple_of (by rfl) B.tuple (by decide +kernel) (pa_cons (pe_callB (cr_sortedSet rfl) (by rfl) B.sorted (by decide +kernel) (pa_cons (pe_callTy (cr_setIT rfl) (by rfl) B.set (by decide +kernel) (pa_cons (pe_slice sl_tup (pv 0) (po_some pe_int) po_none) pa_nil)) pa_nil)) pa_nil)))) pss_nil)
    (pss_one (ps_ret (pe_tup pa_nil)))), ?_⟩
  cases e with
  | go a =>
    obtain ⟨p, xs, rfl, hp, hx⟩ := Dp_tup hd
    obtain ⟨x, y, rfl, h1, h2⟩ := DpAll_two hx
    cases Dp_str h1
    cases Dp_int h2
    refine ⟨_, rfl, p, _, 0, _, rfl, rfl, hp, atI_nat (j := 0) rfl, rfl, _, rfl, iteT ?_⟩
    exact ⟨_, rfl, p, _, 1, _, rfl, rfl, hp, atI_nat (j := 1) rfl, by show 1 ≤ sizeLine; decide, fun t ht => q t _ (same_new ht) upd_same⟩
  | back =>
    obtain ⟨p, xs, rfl, hp, hx⟩ := Dp_tup hd
    cases hx with
    | cons h1 r =>
      cases r
      cases Dp_str h1
      refine ⟨_, rfl, p, _, 0, _, rfl, rfl, hp, atI_nat (j := 0) rfl, rfl, _, rfl, iteF ?_⟩
      refine ⟨_, rfl, p, _, 0, _, rfl, rfl, hp, atI_nat (j := 0) rfl, rfl, _, rfl, iteF ?_⟩
      exact ⟨Nat.zero_le _, fun t ht => q t _ (same_new ht) upd_same⟩
  | iff a b =>
    obtain ⟨p, xs, rfl, hp, hx⟩ := Dp_tup hd
    cases hx with
    | cons h1 r => cases r with
      | cons h2 r => cases r with
        | cons h3 r => cases r with
          | cons h4 r =>
            cases r
            cases Dp_str h1
            cases Dp_int h3
            cases Dp_int h4
            refine ⟨_, rfl, p, _, 0, _, rfl, rfl, hp, atI_nat (j := 0) rfl, rfl, _, rfl, iteF ?_⟩
            refine ⟨_, rfl, p, _, 0, _, rfl, rfl, hp, atI_nat (j := 0) rfl, rfl, _, rfl, iteT ?_⟩
            refine ⟨_, rfl, 2, rfl, p, _, rfl, hp, (fun z => absurd z.1 (by show ¬ (2 : Nat) = 0; decide)), fun t1 ht1 => ?_⟩
            refine ⟨t1, [a, b], rfl, SqT.of upd_same, by show 2 ≤ 60; decide, fun t2 c ht2 hc2 => ?_⟩
            refine ⟨t2, _, c, rfl, upd_same, by have : c ≤ 2 := hc2; omega, fun ns t3 hs hm hl ht3 => ?_⟩
            refine ⟨t3, _, rfl, .inl ⟨SqL.of upd_same, fun t4 ht4 => ?_⟩⟩
            have en : ns = goalsI (.iff a b) := rising_eq hs (goalsI_sorted _) fun k => by rw [hm, mem_goalsI]; simp [allG]
            subst en
            exact q t4 _ ((((same_new ht1).trans (same_new ht2)).trans (same_new ht3)).trans (same_new ht4)) upd_same
end
end Sw
set_option maxRecDepth 100000
set_option maxHeartbeats 4000000
namespace Sw
open PySem PySem.Spec PyProof.Rows L2
/-- CODE at a value, with the routine of a name -/
structure CodeOf (K : PySem.W.Frag) (H : Hp) (v : V) (nm : Str) (es : List Ge) : Prop where
  ex : ∃ rs, Dp K H v (codeD rs) ∧ lk nm rs = some es
  ok : Gok es
theorem CodeOf.same {K : PySem.W.Frag} {H H' : Hp} {v : V} {nm : Str} {es : List Ge} (h : CodeOf K H v nm es) (s : Same H H') : CodeOf K H' v nm es := by
  obtain ⟨rs, h1, h2⟩ := h.ex
  exact ⟨⟨rs, Dp_same s h1, h2⟩, h.ok⟩
def tTru (K : PySem.W.Frag) (t : TE) : TT := fun σ H Q => t σ H fun x H' => ∃ k, TruV K x H' k ∧ Q k H'
theorem pt_tru {X : Cx} {a : Expr} {ta : TE} (ha : PE X a ta) (he : ∀ whole, isTrue a X.env whole = (do let v ← whole; standAt a.pos; holding [v] (truthy v)) := by intro _; rfl) : PT X a (tTru X.K ta) := pt_truth ha he
def goalsAt (es : List Ge) (b : Int) : List Int := match es[b.toNat]? with
  | some e => goalsI e
  | none => []
theorem mem_goalsAt {es : List Ge} {b x : Int} : x ∈ goalsAt es b ↔ x ∈ arr es b := by
  unfold goalsAt arr
  cases es[b.toNat]? with
  | some e => exact mem_goalsI
  | none => exact Iff.rfl
theorem no_rch0 {es : List Ge} {k : Int} (h : Rch es (some 0) k) : False := by
  induction h with
  | zero h => exact h rfl
  | step _ _ _ ih => exact ih
theorem goalsAt_len (es : List Ge) (b : Int) : (goalsAt es b).length ≤ 2 := by
  unfold goalsAt
  split
  · exact goalsI_len _
  · exact Nat.zero_le _
section
variable {P : Program} {w : World} {K : PySem.W.Frag} {mg : Str → Option Value} {base : Heap}
def spNexts (K : PySem.W.Frag) : Sp := fun vs H Q _ => ∃ (vc : V) (nm : Str) (b : Int) (es : List Ge), vs = [vc, .str nm, .int b] ∧ CodeOf K H vc nm es ∧ 0 ≤ b ∧ b < (es.length : Int) ∧ ∀ t H', Same H H' → H' t = some (.tup ((goalsAt es b).map V.int)) → Q (.ref t) H'
theorem sc_nexts : FnScope ["code", "name", "block", "rows", "end"] ["code", "name", "block"] (defScope (topS 13)) := ⟨rfl, rfl, rfl, by decide +kernel, rfl, by decide +kernel, by decide +kernel⟩
theorem ok_nexts {f f1 f2 : Addr} {fd fd1 fd2 : FuncData} (D : Df K mg "nexts" (topS 13) ["code", "name", "block"] f fd) (D1 : Df K mg "blocks_of" (topS 10) ["code", "name"] f1 fd1) (D2 : Df K mg "goals" (topS 12) ["end"] f2 fd2) (B : Bt mg)
    (G1 : FnOk P w K mg base CX0 1 f1 fd1 ["code", "name"] (spBlocks K)) (G2 : FnOk P w K mg base CX0 1 f2 fd2 ["end"] (spGoals K)) : FnOk P w K mg base CX0 2 f fd ["code", "name", "block"] (spNexts K) := by
  refine D.fn.ok sc_nexts (fun vs H Q E h => ?_) (fun cdv A outer s H vs Q E hr h => ?_)
  · obtain ⟨vc, nm, b, es, rfl, _⟩ := h
    rfl
  obtain ⟨vc, nm, b, es, rfl, hc, hb0, hb1, q⟩ := h
  have nd := sc_nexts.nd
  refine ⟨_, pss_cons (ps_asg (pe_ix ix_tup (pe_call G1 hr (by rfl) D1.gl D1.fn.kp D1.bd .nil pass0 (pa_cons (pv 0) (pa_cons (pv 1) pa_nil))) (pv 2) (fun _ _ => rfl)) (pg_tup rfl (pgs_cons (pg_name (i := 3) nd rfl (Or.inl rfl)) (pgs_cons (pg_name (i := 4) nd rfl (Or.inl rfl)) pgs_nil))))
    (pss_one (ps_ret (pe_call G2 hr (by rfl) D2.gl D2.fn.kp D2.bd .nil pass0 (pa_cons (pv 4) pa_nil)))), ?_⟩
  obtain ⟨rs, h1, h2⟩ := hc.ex
  refine ⟨_, rfl, _, rfl, vc, nm, rs, es, rfl, h1, h2, fun v hv => ?_⟩
  obtain ⟨a, xs, rfl, ha, hx⟩ := Dp_tup hv
  obtain ⟨n, rfl⟩ : ∃ n : Nat, b = (n : Int) := ⟨b.toNat, (Int.toNat_of_nonneg hb0).symm⟩
  have hn : n < es.length := by omega
  obtain ⟨u, hu, hd⟩ := DpAll_get' (i := n) hx (by rw [List.getElem?_map, List.getElem?_eq_getElem hn]; rfl)
  have eg : goalsAt es (n : Int) = goalsI es[n] := by
    unfold goalsAt
    rw [Int.toNat_natCast, List.getElem?_eq_getElem hn]
  rw [eg] at q
  generalize es[n] = e at hd q
  obtain ⟨p, ys, rfl, hp, hy⟩ := Dp_tup hd
  obtain ⟨x, y, rfl, _, k2⟩ := DpAll_two hy
  refine ⟨_, rfl, a, _, _, _, rfl, rfl, ha, atI_nat hu, p, _, rfl, hp, rfl, _, _, rfl, _, _, rfl, rfl, ?_⟩
  exact ⟨_, rfl, y, e, rfl, k2, q⟩
/-- over as it is handed in -/
def spLed (K : PySem.W.Frag) : Sp := fun vs H Q _ => ∃ (vc : V) (nm : Str) (ov : Option Int) (es : List Ge), vs = [vc, .str nm, optV ov] ∧ CodeOf K H vc nm es ∧ ∀ d H' L, Same H H' → H d = none → H' d = some (.dK (dkv L)) → LedOk es ov L → Q (.ref d) H'
theorem Dp_opt {K : PySem.W.Frag} {H : Hp} (ov : Option Int) : Dp K H (optV ov) (match ov with | none => .none | some i => .int i) := by
  cases ov with
  | none => exact .non
  | some i => exact .int i
theorem opt_shaped (ov : Option Int) : SeqAt.shaped (match ov with | none => .none | some i => .int i) = true := by
  cases ov <;> rfl
theorem opt_eqv (ov : Option Int) (k : Int) : PyData.eqv (match ov with | none => .none | some i => .int i) (.int k) = decide (ov = some k) := by
  cases ov with
  | none => rfl
  | some i =>
    show (i == k) = _
    by_cases h : i = k
    · simp [h]
    · simp [h]
theorem opt_eqv' (ov : Option Int) (k : Int) : PyData.eqv (.int k) (match ov with | none => .none | some i => .int i) = decide (ov = some k) := by
  cases ov with
  | none => rfl
  | some i =>
    show (k == i) = _
    by_cases h : i = k
    · simp [h]
    · have : ¬ k = i := fun z => h z.symm
      simp [h, this]
/-- while one goes on: what is known, what is to be done yet -/
structure LedAt (es : List Ge) (ov : Option Int) (L : List (Int × Option Int)) (T : List Int) : Prop where
  led : Led es ov L
  sub : ∀ t ∈ T, t ∈ L.map (·.1)
  cls : ∀ b ∈ L.map (·.1), b ∉ T → ∀ g ∈ arr es b, ov ≠ some g → g ∈ L.map (·.1)
  few : T.length ≤ L.length
end
end Sw
set_option maxRecDepth 100000
set_option maxHeartbeats 4000000
namespace Sw
open PySem PySem.Spec PyProof.Rows L2
/-- range's items as a list -/
def ivs (n : Nat) : List V := (List.range n).map fun k : Nat => V.int (k : Int)
theorem ivs_at {n i : Nat} {x : V} (h : (ivs n)[i]? = some x) : x = .int (i : Int) ∧ i < n := by
  unfold ivs at h
  rw [List.getElem?_map] at h
  by_cases hi : i < n
  · rw [List.getElem?_range hi] at h
    exact ⟨(Option.some.inj h).symm, hi⟩
  · rw [List.getElem?_eq_none (by rw [List.length_range]; omega)] at h
    cases h
theorem walk_rangeA {n : Nat} : Walk (Itr 0 n) n (fun _ => True) (YAt (ivs n)) := by
  refine ⟨walk_range.goes, walk_range.stops, fun i H x H' hi hg y => ?_⟩
  obtain ⟨rfl, rfl⟩ := walk_range.yields i H x H' hi hg y
  refine ⟨rfl, ?_⟩
  unfold ivs
  rw [List.getElem?_map, List.getElem?_range hi]
  show some (V.int _) = some (V.int _)
  rw [Int.zero_add]
noncomputable def domB (es : List Ge) (o u : Int) : Bool := @decide (¬ Rch es (some o) u) (Classical.propDecidable _)
theorem domB_iff {es : List Ge} {o u : Int} : domB es o u = true ↔ ¬ Rch es (some o) u := by
  unfold domB
  exact @decide_eq_true_iff _ (Classical.propDecidable _)
theorem domB_of {es : List Ge} {o u : Int} {b : Bool} (h : b = true ↔ ¬ Rch es (some o) u) : b = domB es o u := by
  cases hb : b with
  | true => exact (domB_iff.mpr (h.mp hb)).symm
  | false =>
    cases hd : domB es o u with
    | false => rfl
    | true => exact absurd (h.mpr (domB_iff.mp hd)) (by rw [hb]; decide)
noncomputable def domsI (es : List Ge) (u : Int) : List Int := ((List.range es.length).filter fun i : Nat => domB es (i : Int) u).map fun i : Nat => (i : Int)
section
variable {P : Program} {w : World} {K : PySem.W.Frag} {mg : Str → Option Value} {base : Heap}
def spDom (K : PySem.W.Frag) : Sp := fun vs H Q _ => ∃ (vc : V) (nm : Str) (o u : Int) (es : List Ge), vs = [vc, .str nm, .int o, .int u] ∧ CodeOf K H vc nm es ∧ ∀ H', Same H H' → Q (.bl (domB es o u)) H'
def spDoms (K : PySem.W.Frag) : Sp := fun vs H Q _ => ∃ (vc : V) (nm : Str) (u : Int) (es : List Ge), vs = [vc, .str nm, .int u] ∧ CodeOf K H vc nm es ∧ ∀ t H', Same H H' → H' t = some (.tup ((domsI es u).map V.int)) → Q (.ref t) H'
end
end Sw
set_option maxRecDepth 100000
set_option maxHeartbeats 4000000
namespace Sw
open PySem PySem.Spec PyProof.Rows L2
/-! ### data without lists stand in the tuples of the heap -/
mutual
def noL : PyData → Bool
  | .list _ => false
  | .dict _ => false
  | .tuple xs => noLAll xs
  | _ => true
def noLAll : List PyData → Bool
  | [] => true
  | x :: xs => noL x && noLAll xs
end
theorem noLAll_iff : ∀ {xs : List PyData}, noLAll xs = true ↔ ∀ x ∈ xs, noL x = true
  | [] => by simp [noLAll]
  | x :: xs => by simp [noLAll, noLAll_iff (xs := xs)]
/-- the heap's tuples, and what is locked -/
def tps (H : Hp) : Hp := fun c => match H c with
  | some (.tup xs) => some (.tup xs)
  | some (.frz o u) => some (.frz o u)
  | _ => none
theorem tps_sub {H : Hp} : Same (tps H) H := fun c o e => by
  unfold tps at e
  split at e
  · rename_i xs h; cases e; exact h
  · rename_i o' u h; cases e; exact h
  · cases e
theorem tps_tup {H : Hp} {c : Addr} {xs : List V} (h : H c = some (.tup xs)) : tps H c = some (.tup xs) := by unfold tps; rw [h]
theorem tps_frz {H : Hp} {c : Addr} {o : Obj} {u : HO} (h : H c = some (.frz o u)) : tps H c = some (.frz o u) := by unfold tps; rw [h]
theorem tps_same {H H' : Hp} (s : Same H H') : Same (tps H) (tps H') := fun c o e => by
  have h := tps_sub _ _ e
  have h' := s _ _ h
  unfold tps at e ⊢
  rw [h] at e
  rw [h']
  exact e
/-- a list changes: the tuples stay -/
theorem tps_lst {H : Hp} {F : Addr} {xs ys : List V} (hF : H F = some (.lst xs)) : Same (tps H) (tps (upd H F (.lst ys))) := fun c o e => by
  have h := tps_sub _ _ e
  have nc : c ≠ F := fun z => by
    rw [z] at e
    unfold tps at e
    rw [hF] at e
    cases e
  have h' : upd H F (.lst ys) c = some o := by rw [upd_ne nc]; exact h
  unfold tps at e ⊢
  rw [h] at e
  rw [h']
  exact e
theorem tps_del {H : Hp} {p : Addr} : Same (tps (del H p)) (del (tps H) p) := fun c o e => by
  obtain ⟨h1, h2⟩ := of_del (tps_sub _ _ e)
  refine del_some ?_ h2
  unfold tps at e ⊢
  rw [show del H p c = some o from del_some h1 h2] at e
  rw [h1]
  exact e
theorem sqt_tps {K : PySem.W.Frag} {H : Hp} {a : Addr} {xs : List V} (h : SqT K H a xs) : SqT K (tps H) a xs := by
  rcases h with (h | ⟨o, h⟩) | h
  · exact .inl (.inl (tps_tup h))
  · exact .inl (.inr ⟨o, tps_frz h⟩)
  · exact .inr h
mutual
theorem Dp_tps {K : PySem.W.Frag} {H : Hp} : ∀ {v : V} {d : PyData}, Dp K H v d → noL d = true → Dp K (tps H) v d
  | _, _, .non, _ => .non
  | _, _, .bl b, _ => .bl b
  | _, _, .int i, _ => .int i
  | _, _, .str x, _ => .str x
  | _, _, .lst h r, e => by simp [noL] at e
  | _, _, .tup h r, e => .tup (sqt_tps h) (DpAll_tps r (by simpa [noL] using e))
theorem DpAll_tps {K : PySem.W.Frag} {H : Hp} : ∀ {vs : List V} {ds : List PyData}, DpAll K H vs ds → noLAll ds = true → DpAll K (tps H) vs ds
  | _, _, .nil, _ => .nil
  | _, _, .cons (d := d) (ds := ds) h r, e => by
    have e' : noL d = true ∧ noLAll ds = true := by simpa [noLAll] using e
    exact .cons (Dp_tps h e'.1) (DpAll_tps r e'.2)
end
/-! ### lists that grow, of data without lists -/
structure GL (K : PySem.W.Frag) (p fq L : Addr) (H : Hp) (vs : List V) (ds : List PyData) : Prop where
  at_ : H L = some (.lst vs)
  dat : DpAll K (tps (del H p)) vs ds
  np : L ≠ p
  nq : L ≠ fq
section
variable {K : PySem.W.Frag} {p fq L : Addr} {H H' : Hp} {vs : List V} {ds : List PyData}
theorem GL.next (h : GL K p fq L H vs ds) (s : Same (del H p) (del H' p)) : GL K p fq L H' vs ds := ⟨(of_del (s _ _ (del_some h.at_ h.np))).1, DpAll_same (tps_same s) h.dat, h.np, h.nq⟩
theorem GL.lay (h : GL K p fq L H vs ds) (s : Same H H') : GL K p fq L H' vs ds := h.next (same_del s)
theorem del_lst {L' : Addr} {xs ys : List V} (hL : H L' = some (.lst xs)) (np : L' ≠ p) : Same (tps (del H p)) (tps (del (upd H L' (.lst ys)) p)) := by
  have e : del (upd H L' (.lst ys)) p = upd (del H p) L' (.lst ys) := by
    funext c
    show (if c = p then none else (if c = L' then some (.lst ys) else H c)) = if c = L' then some (.lst ys) else (if c = p then none else H c)
    by_cases h1 : c = p
    · rw [if_pos h1, if_neg (fun z => np (z.symm.trans h1)), if_pos h1]
    · rw [if_neg h1, if_neg h1]
  rw [e]
  exact tps_lst (del_some hL np)
theorem GL.other {L' : Addr} {xs ys : List V} (h : GL K p fq L H vs ds) (hL : H L' = some (.lst xs)) (np : L' ≠ p) (ne : L ≠ L') : GL K p fq L (upd H L' (.lst ys)) vs ds :=
  ⟨by rw [upd_ne ne]; exact h.at_, DpAll_same (del_lst hL np) h.dat, h.np, h.nq⟩
theorem GL.push {v : V} {d : PyData} (h : GL K p fq L H vs ds) (hd : Dp K (del H p) v d) (hn : noL d = true) : GL K p fq L (upd H L (.lst (vs ++ [v]))) (vs ++ [v]) (ds ++ [d]) :=
  ⟨upd_same, DpAll_same (del_lst h.at_ h.np) (DpAll_append h.dat (.cons (Dp_tps hd hn) .nil)), h.np, h.nq⟩
end
end Sw
set_option maxRecDepth 100000
set_option maxHeartbeats 4000000
namespace Sw
open PySem PySem.Spec PyProof.Rows L2
theorem endD_noL (e : Ge) : noL (endD e) = true := by cases e <;> rfl
theorem blkD_noL (e : Ge) : noL (blkD e) = true := by
  show (noL (.tuple []) && (noL (endD e) && true)) = true
  rw [endD_noL]
  rfl
/-- the ends to be drawn from -/
def endsOf (a b c : Int) : List Ge := [.go a, .go c, .iff a b, .iff c a, .back]
theorem five_of {α : Type} {x0 x1 x2 x3 x4 : α} {r : Int} (h0 : 0 ≤ r) (h1 : r < 5) : ∃ j : Nat, r = (j : Int) ∧ j < 5 := ⟨r.toNat, (Int.toNat_of_nonneg h0).symm, by omega⟩
/-- while a graph is drawn -/
structure GS (K : PySem.W.Frag) (p fq L : Addr) (H0 : Hp) (b : Nat) (H : Hp) (us : List V) (es : List Ge) : Prop where
  sm : Same (del H0 p) (del H p)
  fd : FeedAt H p fq b
  gl : GL K p fq L H us (es.map blkD)
section
variable {K : PySem.W.Frag} {p fq L : Addr} {H0 H H' : Hp} {b b' : Nat} {us : List V} {es : List Ge}
theorem GS.next (h : GS K p fq L H0 b H us es) (s : Same (del H p) (del H' p)) (F : FeedAt H' p fq b') : GS K p fq L H0 b' H' us es := ⟨h.sm.trans s, F, h.gl.next s⟩
theorem GS.lay (h : GS K p fq L H0 b H us es) (s : Same H H') : GS K p fq L H0 b H' us es := h.next (same_del s) (h.fd.same s)
end
abbrev N15 : List Str := ["_law_feed_here", "_law_most", "_law_many", "_law_blocks", "_law_block", "_law_first", "_law_second", "_law_near", "_law_ends"]
section
variable {P : Program} {w : World} {K : PySem.W.Frag} {mg : Str → Option Value} {base : Heap}
def spGraph (K : PySem.W.Frag) : Sp := fun vs H Q _ => ∃ (p fq : Addr) (m : Int) (b : Nat), vs = [.ref p, .int m] ∧ FeedAt H p fq b ∧ b + 100 ≤ 100000000 ∧ 1 ≤ m ∧ m ≤ 6 ∧
  ∀ (v : V) (H' : Hp) (es : List Ge), Same (del H p) (del H' p) → FeedAt H' p fq (b + 100) → Gok es → es.length ≤ 6 → Dp K (del H' p) v (codeD [("main", es)]) → Q v H'
theorem sc_graph : FnScope N15 ["_law_feed_here", "_law_most"] (defScope (topS 24)) := ⟨rfl, rfl, rfl, by decide +kernel, rfl, by decide +kernel, by decide +kernel⟩
theorem ok_graph {f f1 : Addr} {fd fd1 : FuncData} (D : Df K mg "_law_graph" (topS 24) ["_law_feed_here", "_law_most"] f fd) (DD : Df K mg "_law_draw" (topS 20) ["_law_feed_here", "_law_many"] f1 fd1) (B : Bt mg)
    (GD : FnOk P w K mg base CX0 1 f1 fd1 ["_law_feed_here", "_law_many"] spDraw) : FnOk P w K mg base CX0 2 f fd ["_law_feed_here", "_law_most"] (spGraph K) := by
  refine D.fn.ok sc_graph (fun vs H Q E h => ?_) (fun cdv A outer s H vs Q E hr h => ?_)
  · obtain ⟨p, fq, m, b, rfl, _⟩ := h
    rfl
  obtain ⟨p, fq, m, b, rfl, hF, hb, hm1, hm6, q⟩ := h
  have nd := sc_graph.nd
  refine ⟨_, pss_cons (ps_set (i := 2) nd rfl (Or.inl rfl) (pe_op op_add pe_int (pe_call GD hr (by rfl) DD.gl DD.fn.kp DD.bd .nil pass0 (pa_cons (pv 0) (pa_cons (pv 1) pa_nil)))))
    (pss_cons (ps_set (i := 3) nd rfl (Or.inl rfl) (pe_lst pa_nil))
    (pss_cons (ps_for PassesOwn.never rfl (pi_range1 (by rfl) B.range (pa_cons (pv 2) pa_nil)) (pg_name (i := 4) nd rfl (Or.inl rfl))
      (pss_cons (ps_par3 (i := 5) (j := 6) (l := 7) rfl nd rfl rfl rfl (by decide) (by decide) (by decide) rfl rfl rfl (pa_cons (pe_call GD hr (by rfl) DD.gl DD.fn.kp DD.bd .nil pass0 (pa_cons (pv 0) (pa_cons (pv 2) pa_nil))) (pa_cons (pe_call GD hr (by rfl) DD.gl DD.fn.kp DD.bd .nil pass0 (pa_cons (pv 0) (pa_cons (pv 2) pa_nil))) (pa_cons (pe_op op_mod (pe_op op_add (pv 4) pe_int) (pv 2)) pa_nil))) (by rfl))
      (pss_cons (ps_set (i := 8) nd rfl (Or.inl rfl) (pe_lst (pa_cons (pe_tup (pa_cons pe_str (pa_cons (pv 5) pa_nil))) (pa_cons (pe_tup (pa_cons pe_str (pa_cons (pv 7) pa_nil))) (pa_cons (pe_tup (pa_cons pe_str (pa_cons pe_str (pa_cons (pv 5) (pa_cons (pv 6) pa_nil))))) (pa_cons (pe_tup (pa_cons pe_str (pa_cons pe_str (pa_cons (pv 7) (pa_cons (pv 5) pa_nil))))) (pa_cons (pe_tup (pa_cons pe_str pa_nil)) pa_nil)))))))
      (pss_one (ps_expr (pe_bm PySem.F.plainAttrs_list PySem.F.slot_list_append PySem.F.type_list_append mt_append (pv 3) (pa_cons (pe_tup (pa_cons (pe_tup pa_nil) (pa_cons (pe_ix ix_list (pv 8) (pe_call GD hr (by rfl) DD.gl DD.fn.kp DD.bd .nil pass0 (pa_cons (pv 0) (pa_cons pe_int pa_nil))) (fun _ _ => rfl)) pa_nil))) pa_nil)))))))
    (pss_one (ps_ret (pe_tup (pa_cons (pe_tup (pa_cons (pe_tup (pa_cons pe_str (pa_cons pe_int pa_nil))) pa_nil)) (pa_cons (pe_tup (pa_cons (pe_tup (pa_cons pe_str (pa_cons (pe_callTy call_tuple_of (by rfl) B.tuple (by decide +kernel) (pa_cons (pv 3) pa_nil)) pa_nil))) pa_nil)) pa_nil))))))), ?_⟩
  refine ⟨_, rfl, _, rfl, p, fq, m, b, rfl, hF, by omega, hm1, by omega, fun r H1 r0 r1 s1 F1 => ?_⟩
  refine ⟨_, _, rfl, rfl, Nat.zero_le _, fun L hL => ?_⟩
  obtain ⟨n, hn⟩ : ∃ n : Nat, (1 : Int) + r = (n : Int) := ⟨(1 + r).toNat, (Int.toNat_of_nonneg (by omega)).symm⟩
  have hn1 : 1 ≤ n := by omega
  have hn6 : n ≤ 6 := by omega
  obtain ⟨nLp, nLq⟩ := F1.ne hL
  have s2 := s1.trans (del_new (p := p) (o := .lst []) hL)
  have F2 := F1.same (same_new (o := .lst []) hL)
  have g2 : GL K p fq L (upd H1 L (.lst [])) [] [] := ⟨upd_same, .nil, nLp, nLq⟩
  have hLd : del H p L = none := by
    cases hx : del H p L with
    | none => rfl
    | some o => have := (of_del (s1 _ _ hx)).1; rw [this] at hL; cases hL
  generalize upd H1 L (.lst []) = H2 at s2 F2 g2
  refine ⟨_, rfl, (n : Int), congrArg (fun x => [V.int x]) hn, by omega, by omega, ?_⟩
  rw [Int.toNat_natCast]
  refine for_it walk_range (fun k σ H' => ∃ (us : List V) (es : List Ge) (x4 x5 x6 x7 x8 : Option V), σ = [some (.ref p), some (.int m), some (.int (n : Int)), some (.ref L), x4, x5, x6, x7, x8] ∧ GS K p fq L H (b + 1 + 3 * k) H' us es ∧ es.length = k ∧ ∀ e ∈ es, ∀ g ∈ allG e, 0 ≤ g ∧ g < (n : Int))
    ⟨[], [], none, none, none, none, none, congrArg (fun x => [some (V.ref p), some (.int m), some (V.int x), some (.ref L), none, none, none, none, none]) hn, ⟨s2, F2, g2⟩, rfl, fun e h => by cases h⟩ (fun _ _ _ _ _ => trivial) ?_ ?_
  · rintro k x σ H3 H4 hk ⟨us, es, x4, x5, x6, x7, x8, rfl, g3, hl3, hr3⟩ ⟨rfl, rfl⟩
    dsimp only
    rw [Int.zero_add]
    have lus : us.length = es.length := by rw [DpAll_len g3.gl.dat, List.length_map]
    refine ⟨_, rfl, _, rfl, p, fq, (n : Int), _, rfl, g3.fd, by omega, by omega, by omega, fun a H5 a0 a1 s5 F5 => ?_⟩
    refine ⟨_, rfl, _, rfl, p, fq, (n : Int), _, rfl, F5, by omega, by omega, by omega, fun c H6 c0 c1 s6 F6 => ?_⟩
    have g6 := (g3.next s5 F5).next s6 F6
    clear F5 s5 F6 s6 g3
    have n0 : (0 : Int) < (n : Int) := by omega
    refine ⟨_, rfl, _, _, rfl, rfl, _, rfl, _, _, rfl, rfl, n0, _, _, _, rfl, ?_⟩
    obtain ⟨d, hd, d0, d1⟩ : ∃ d : Int, (fun (i j : Int) => V.int (i % j)) ((k : Int) + 1) (n : Int) = V.int d ∧ 0 ≤ d ∧ d < (n : Int) := ⟨_, rfl, Int.emod_nonneg _ (by omega), Int.emod_lt_of_pos _ n0⟩
    rw [hd]
    clear hd
    refine ⟨_, rfl, by show 2 ≤ sizeLine; decide, fun t1 h1 => ?_⟩
    have st1 := same_new (o := .tup [V.str "go", .int a]) h1
    have e1 : upd H6 t1 (.tup [V.str "go", .int a]) t1 = some (.tup [V.str "go", .int a]) := upd_same
    generalize upd H6 t1 (.tup [V.str "go", .int a]) = H7 at st1 e1
    have g7 := g6.lay st1
    refine ⟨_, rfl, by show 2 ≤ sizeLine; decide, fun t2 h2 => ?_⟩
    have st2 := same_new (o := .tup [V.str "go", .int d]) h2
    have e2 : upd H7 t2 (.tup [V.str "go", .int d]) t2 = some (.tup [V.str "go", .int d]) := upd_same
    generalize upd H7 t2 (.tup [V.str "go", .int d]) = H8 at st2 e2
    have g8 := g7.lay st2
    refine ⟨_, rfl, _, rfl, by show 4 ≤ sizeLine; decide, fun t3 h3 => ?_⟩
    have st3 := same_new (o := .tup [V.str "if", .str "i", .int a, .int c]) h3
    have e3 : upd H8 t3 (.tup [V.str "if", .str "i", .int a, .int c]) t3 = some (.tup [V.str "if", .str "i", .int a, .int c]) := upd_same
    generalize upd H8 t3 (.tup [V.str "if", .str "i", .int a, .int c]) = H9 at st3 e3
    have g9 := g8.lay st3
    refine ⟨_, rfl, _, rfl, by show 4 ≤ sizeLine; decide, fun t4 h4 => ?_⟩
    have st4 := same_new (o := .tup [V.str "if", .str "i", .int d, .int a]) h4
    have e4 : upd H9 t4 (.tup [V.str "if", .str "i", .int d, .int a]) t4 = some (.tup [V.str "if", .str "i", .int d, .int a]) := upd_same
    generalize upd H9 t4 (.tup [V.str "if", .str "i", .int d, .int a]) = H10 at st4 e4
    have g10 := g9.lay st4
    refine ⟨by show 1 ≤ sizeLine; decide, fun t5 h5 => ?_⟩
    have st5 := same_new (o := .tup [V.str "back"]) h5
    have e5 : upd H10 t5 (.tup [V.str "back"]) t5 = some (.tup [V.str "back"]) := upd_same
    generalize upd H10 t5 (.tup [V.str "back"]) = H11 at st5 e5
    have g11 := g10.lay st5
    refine ⟨by show 5 ≤ sizeLine; decide, fun E5 h6 => ?_⟩
    have st6 := same_new (o := .lst [V.ref t1, .ref t2, .ref t3, .ref t4, .ref t5]) h6
    have e6 : upd H11 E5 (.lst [V.ref t1, .ref t2, .ref t3, .ref t4, .ref t5]) E5 = some (.lst [V.ref t1, .ref t2, .ref t3, .ref t4, .ref t5]) := upd_same
    generalize upd H11 E5 (.lst [V.ref t1, .ref t2, .ref t3, .ref t4, .ref t5]) = H12 at st6 e6
    have g12 := g11.lay st6
    have np6 : E5 ≠ p := (g11.fd.ne h6).1
    have ends : DpAll K (tps (del H12 p)) [V.ref t1, .ref t2, .ref t3, .ref t4, .ref t5] ((endsOf a c d).map endD) := by
      have np : ∀ {t : Addr} {xs : List V}, H12 t = some (.tup xs) → tps (del H12 p) t = some (.tup xs) := fun h => tps_tup (del_some h (fun e => by
        obtain ⟨ns, i, j, k, hp, _⟩ := g12.fd.ex
        rw [e, hp] at h
        cases h))
      have k1 := np (st6 _ _ (st5 _ _ (st4 _ _ (st3 _ _ (st2 _ _ e1)))))
      have k2 := np (st6 _ _ (st5 _ _ (st4 _ _ (st3 _ _ e2))))
      have k3 := np (st6 _ _ (st5 _ _ (st4 _ _ e3)))
      have k4 := np (st6 _ _ (st5 _ _ e4))
      have k5 := np (st6 _ _ e5)
      exact .cons (.tup (SqT.of k1) (.cons (.str _) (.cons (.int _) .nil))) (.cons (.tup (SqT.of k2) (.cons (.str _) (.cons (.int _) .nil))) (.cons (.tup (SqT.of k3) (.cons (.str _) (.cons (.str _) (.cons (.int _) (.cons (.int _) .nil))))) (.cons (.tup (SqT.of k4) (.cons (.str _) (.cons (.str _) (.cons (.int _) (.cons (.int _) .nil))))) (.cons (.tup (SqT.of k5) (.cons (.str _) .nil)) .nil))))
    have rngs : ∀ e ∈ endsOf a c d, ∀ g ∈ allG e, 0 ≤ g ∧ g < (n : Int) := by
      intro e he g hg
      unfold endsOf at he
      simp only [List.mem_cons, List.not_mem_nil, or_false] at he
      rcases he with rfl | rfl | rfl | rfl | rfl <;> simp only [allG, List.mem_cons, List.not_mem_nil, or_false] at hg
      · omega
      · omega
      · omega
      · omega
    clear e1 e2 e3 e4 e5 st1 st2 st3 st4 st5 st6 g6 g7 g8 g9 g10 g11 h1 h2 h3 h4 h5 h6
    refine ⟨_, rfl, .inl ⟨rfl, _, SqL.of g12.gl.at_⟩, Nat.zero_le _, fun t6 h6 => ?_⟩
    have st7 := same_new (o := .tup []) h6
    have g13 := g12.lay st7
    have e7 : tps (del (upd H12 t6 (.tup [])) p) t6 = some (.tup []) := tps_tup (del_some upd_same (g12.fd.ne h6).1)
    have ends13 := DpAll_same (tps_same (same_del (p := p) st7)) ends
    have e13 := st7 _ _ e6
    generalize upd H12 t6 (.tup []) = H13 at st7 g13 e7 ends13 e13
    refine ⟨_, rfl, _, rfl, p, fq, 5, _, rfl, g13.fd, by omega, by omega, by omega, fun j H14 j0 j1 s14 F14 => ?_⟩
    obtain ⟨j, rfl, hj⟩ := five_of (α := Nat) (x0 := 0) (x1 := 0) (x2 := 0) (x3 := 0) (x4 := 0) j0 j1
    have g14 := g13.next s14 F14
    have e14 := (of_del (s14 _ _ (del_some e13 np6))).1
    have ends14 := DpAll_same (tps_same s14) ends13
    have e72 := (tps_same s14) _ _ e7
    have hj5 : j < [V.ref t1, .ref t2, .ref t3, .ref t4, .ref t5].length := hj
    have hje : j < (endsOf a c d).length := hj
    refine ⟨E5, _, (j : Int), _, rfl, rfl, SqL.of e14, atI_nat (List.getElem?_eq_getElem hj5), ?_⟩
    obtain ⟨dd, hdd, hdp⟩ := DpAll_get ends14 (List.getElem?_eq_getElem hj5)
    rw [List.getElem?_map, List.getElem?_eq_getElem hje] at hdd
    cases hdd
    have hre := rngs _ (List.getElem_mem hje)
    generalize (endsOf a c d)[j] = e at hdp hre
    generalize [V.ref t1, V.ref t2, V.ref t3, V.ref t4, V.ref t5][j] = ve at hdp
    refine ⟨by show 2 ≤ sizeLine; decide, fun t7 h7 => ?_⟩
    have st8 := same_new (o := .tup [V.ref t6, ve]) h7
    have g15 := g14.lay st8
    have e8 : del (upd H14 t7 (.tup [V.ref t6, ve])) p t7 = some (.tup [V.ref t6, ve]) := del_some upd_same (g14.fd.ne h7).1
    have dp8 : Dp K (del (upd H14 t7 (.tup [V.ref t6, ve])) p) (.ref t7) (blkD e) := .tup (SqT.of e8) (.cons (.tup (SqT.of ((same_del st8) _ _ (tps_sub _ _ e72))) .nil) (.cons (Dp_same (tps_sub.trans (same_del st8)) hdp) .nil))
    generalize upd H14 t7 (.tup [V.ref t6, ve]) = H15 at g15 dp8
    refine ⟨L, _, _, rfl, rfl, g15.gl.at_, by rw [sizeLine_eq]; omega, ?_⟩
    refine ⟨us ++ [.ref t7], es ++ [e], _, _, _, _, _, rfl, ⟨fun cc o ee => ?_, ?_, ?_⟩, by rw [List.length_append, hl3]; rfl, ?_⟩
    · obtain ⟨ee1, ee2⟩ := of_del ee
      exact del_some (by rw [upd_ne (ne_of_none ee hLd)]; exact (of_del (g15.sm _ _ ee)).1) ee2
    · exact (g15.fd.upd nLp nLq).mono (by omega)
    · rw [List.map_append]
      exact g15.gl.push dp8 (blkD_noL e)
    · intro e' he' g hg
      rcases List.mem_append.mp he' with h | h
      · exact hr3 e' h g hg
      · have : e' = e := by simpa using h
        rw [this] at hg
        exact hre g hg
  · rintro σ H3 ⟨us, es, x4, x5, x6, x7, x8, rfl, g3, hl3, hr3⟩
    have hgok : Gok es := ⟨by omega, by omega, by rw [hl3]; exact hr3⟩
    have lus : us.length = es.length := by rw [DpAll_len g3.gl.dat, List.length_map]
    have nw : ∀ {H' : Hp} {t : Addr} {o : HO} {b' : Nat}, GS K p fq L H b' H' us es → H' t = none → del (upd H' t o) p t = some o := fun g h => del_some upd_same (g.fd.ne h).1
    refine ⟨by show 2 ≤ sizeLine; decide, fun t1 h1 => ?_⟩
    have st1 := same_new (o := .tup [V.str "a", .int 1]) h1
    have g4 := g3.lay st1
    have e1 := nw (o := .tup [V.str "a", .int 1]) g3 h1
    generalize upd H3 t1 (.tup [V.str "a", .int 1]) = H4 at st1 g4 e1
    refine ⟨by show 1 ≤ sizeLine; decide, fun t2 h2 => ?_⟩
    have st2 := same_new (o := .tup [V.ref t1]) h2
    have g5 := g4.lay st2
    have e2 := nw (o := .tup [V.ref t1]) g4 h2
    have e12 := (same_del (p := p) st2) _ _ e1
    generalize upd H4 t2 (.tup [V.ref t1]) = H5 at st2 g5 e2 e12
    have dO : Dp K (del H5 p) (.ref t2) objD := .tup (SqT.of e2) (.cons (.tup (SqT.of e12) (.cons (.str _) (.cons (.int _) .nil))) .nil)
    refine ⟨_, rfl, L, _, rfl, .inl ⟨SqL.of g5.gl.at_, fun t3 h3 => ?_⟩⟩
    have st3 := same_new (o := .tup us) h3
    have g6 := g5.lay st3
    have e3 := nw (o := .tup us) g5 h3
    have dO6 := Dp_same (same_del (p := p) st3) dO
    generalize upd H5 t3 (.tup us) = H6 at st3 g6 e3 dO6
    have dB : Dp K (del H6 p) (.ref t3) (.tuple (es.map blkD)) := .tup (SqT.of e3) (DpAll_same tps_sub g6.gl.dat)
    refine ⟨by show 2 ≤ sizeLine; decide, fun t4 h4 => ?_⟩
    have st4 := same_new (o := .tup [V.str "main", .ref t3]) h4
    have g7 := g6.lay st4
    have e4 := nw (o := .tup [V.str "main", .ref t3]) g6 h4
    have dO7 := Dp_same (same_del (p := p) st4) dO6
    have dB7 := Dp_same (same_del (p := p) st4) dB
    generalize upd H6 t4 (.tup [V.str "main", .ref t3]) = H7 at st4 g7 e4 dO7 dB7
    have dR : Dp K (del H7 p) (.ref t4) (rtD ("main", es)) := .tup (SqT.of e4) (.cons (.str _) (.cons dB7 .nil))
    refine ⟨by show 1 ≤ sizeLine; decide, fun t5 h5 => ?_⟩
    have st5 := same_new (o := .tup [V.ref t4]) h5
    have g8 := g7.lay st5
    have e5 := nw (o := .tup [V.ref t4]) g7 h5
    have dO8 := Dp_same (same_del (p := p) st5) dO7
    have dR8 := Dp_same (same_del (p := p) st5) dR
    generalize upd H7 t5 (.tup [V.ref t4]) = H8 at st5 g8 e5 dO8 dR8
    refine ⟨by show 2 ≤ sizeLine; decide, fun t6 h6 => ?_⟩
    have st6 := same_new (o := .tup [V.ref t2, .ref t5]) h6
    have g9 := g8.lay st6
    have e6 := nw (o := .tup [V.ref t2, .ref t5]) g8 h6
    have dO9 := Dp_same (same_del (p := p) st6) dO8
    have dR9 := Dp_same (same_del (p := p) st6) dR8
    have e59 := (same_del (p := p) st6) _ _ e5
    exact q _ _ es g9.sm (g9.fd.mono (by omega)) hgok (by omega) (.tup (SqT.of e6) (.cons dO9 (.cons (.tup (SqT.of e59) (.cons dR9 .nil)) .nil)))
end
end Sw
set_option maxRecDepth 100000
set_option maxHeartbeats 4000000
namespace Sw
open PySem PySem.Spec PyProof.Rows L2
/-! ### for k, x in enumerate(t), t a tuple -/
/-- the making of it -/
theorem enum_new {v : Value} {o : Obj} {H : Heap → Prop} (Bg : Begins v o H) :
    Meets (Builtin.«enumerate.__new__» ⟨[.type "enumerate", v], []⟩) (fun _ R s => H s.heap ∧ R (.ok (.ret (.ref (s.heap.push o).objs.size)))
      { s with heap := (s.heap.push o).push { cls := .type "enumerate", data := .fields #[.none, .bool false, .ref s.heap.objs.size, rawInt 0, .none, .none] } }) :=
  .of_wp fun pr w A R s hh => by
    obtain ⟨hp, g, d, tk, os⟩ := s
    obtain ⟨hb, h⟩ := hh
    have sbe := sub_enumerate
    have itr : ∀ {A' : Around} {Er : Value → Shared → Prop} {Q : Value → Shared → Prop}, Q (.ref hp.objs.size) ⟨hp.push o, g, d, tk, os⟩ → wpAny (model pr w) A' (pyIter v) Q Er ⟨hp, g, d, tk, os⟩ := fun q => Bg.iter pr w _ _ ⟨hp, g, d, tk, os⟩ _ hb q
    wp_walk using itr
    refine wpAny_stack_any fun stk => wpAny_pure ?_
    split
    · rename_i cl _ _ _ _ _
      cases (cl == Value.type "enumerate")
      all_goals (wp_walk using itr; exact ⟨_, rfl, h⟩)
    · wp_walk using itr
      exact ⟨_, rfl, h⟩
section
variable {P : Program} {w : World} {A : Around} {Er : Value → Shared → Prop} {s : Shared}
theorem call_enumT {v : Value} {o : Obj} {H : Heap → Prop} {Q : Value → Shared → Prop} (Bg : Begins v o H) (hb : H s.heap)
    (h : ∀ hx, IsEnum hx (s.heap.objs.size + 1) s.heap.objs.size 0 .none → hx.get? s.heap.objs.size = some o → (∀ b u, s.heap.get? b = some u → hx.get? b = some u) → Q (.ref (s.heap.objs.size + 1)) { s with heap := hx }) :
    wpAny (model P w) A (call (.type "enumerate") [v]) Q Er s := by
  refine callType_new F.called_enumerate (by decide) (F.typeCall_enumerate_1 v) (F.newCall_enumerate_1 v) (fun ob => F.args_object_init_2 ob v) F.entry_enumerate_new (enum_new Bg) ⟨hb, ?_⟩
  have sz : (s.heap.push o).objs.size = s.heap.objs.size + 1 := Heap.size_push ..
  have top := Heap.get?_push_size (s.heap.push o) (o := { cls := .type "enumerate", data := .fields #[.none, .bool false, .ref s.heap.objs.size, rawInt 0, .none, .none] }) rfl
  show _ ∧ _
  rw [sz] at top ⊢
  exact ⟨⟨_, top, rfl⟩, h _ top (Heap.get?_push_of_some _ (Heap.get?_push_size _ Bg.free)) fun b u x => Heap.get?_push_of_some _ (Heap.get?_push_of_some _ x)⟩
end
/-- the pairs of it, each a new tuple -/
def ItT (K : PySem.W.Frag) (a : Addr) : It :=
  ⟨fun i H => ∃ (xs : List V) (x : V), SqT K H a xs ∧ xs[i]? = some x,
    fun i H v H' => ∃ T x, v = .ref T ∧ H T = none ∧ H' = upd H T (.tup [.int (i : Nat), x]) ∧ ∀ xs, SqT K H a xs → xs[i]? = some x,
    fun i H => ∃ xs : List V, SqT K H a xs ∧ xs.length = i⟩
theorem not_it {h : Heap} {t it : Addr} {items : Array Value} {i : Nat} (h1 : h.IsTuple t items) (h2 : h.IsTupleIter it t i) : t ≠ it := fun z => by
  obtain ⟨o, ho, hc, _⟩ := h1
  obtain ⟨u, hu, hd, _⟩ := h2
  rw [z, hu] at ho
  cases ho
  rw [hd] at hc
  exact absurd hc (by decide)
theorem not_en {h : Heap} {t e it : Addr} {items : Array Value} {i : Int} {old : Value} (h1 : h.IsTuple t items) (h2 : IsEnum h e it i old) : t ≠ e := fun z => by
  obtain ⟨o, ho, hc, _⟩ := h1
  rw [z, h2] at ho
  cases ho
  exact absurd (show Value.type "enumerate" = Value.type "tuple" from hc) (by decide)
theorem turn_enT {P : Program} {w : World} {K : PySem.W.Frag} {elts : List Expr} {kk : Nat} {tpos : Pos} (a e it : Addr) :
    Turn P w K (.Tuple elts kk tpos) (ItT K a) [e, it] e (fun i h => (∃ old, IsEnum h e it (i : Nat) old) ∧ h.IsTupleIter it a i ∧ e ≠ it) where
  mem := List.mem_cons_self
  obj := by
    rintro i h ⟨⟨old, hE⟩, ⟨o, ho, _, hdt⟩, _⟩ b hb
    simp only [List.mem_cons, List.not_mem_nil, or_false] at hb
    rcases hb with rfl | rfl
    · exact ⟨_, hE, fun v z => nomatch z⟩
    · exact ⟨o, ho, fun v z => by rw [hdt] at z; cases z⟩
  keep := by
    rintro i h h2 ⟨⟨old, hE⟩, hI, hn⟩ kp
    exact ⟨⟨old, kp e (by simp) _ hE⟩, hI.at fun o z => kp it (by simp) o z, hn⟩
  item := by
    intro X hP hw hK hc i pins s σ H Er I fps ⟨⟨old, hE⟩, hI, hn⟩ ⟨xs, x, hq, hx⟩
    subst hP hw hK
    obtain ⟨its, rv, tp, _⟩ := I.tuple hq
    obtain ⟨u, hu, ru⟩ := rv.get hx
    have nt := not_it tp hI
    have ne := not_en tp hE
    have Dr := Draws.tuple (prog := X.prog) (w := X.w) (A := X.A.in1) (by simp [I.ok.hd hc]) it a nt its.toArray
    have lte : e < s.heap.objs.size := Heap.lt_size hE
    have lti : it < s.heap.objs.size := by obtain ⟨_, z, _⟩ := hI; exact Heap.lt_size z
    have hsz : i < its.toArray.size := by
      have := (List.getElem?_eq_some_iff.mp hu).1
      simpa using this
    refine wpAny_pyNext_enum_itemC (i := i) (c := (i : Nat)) Dr hE ⟨hI, tp⟩ hsz hn (by simp only [List.mem_cons, List.not_mem_nil, or_false, not_or]; exact ⟨hn, Ne.symm ne⟩) fun y hx1 tk hy ho hst hT sz kp => ?_
    have eyu : y = u := by
      have h1 : its[i]? = some y := by simpa using hy
      rw [hu] at h1
      exact (Option.some.inj h1).symm
    subst eyu
    refine ⟨_, rfl, wpAny_letOwnedTupleGo_enum (s := { s with heap := hx1, toks := tk + 1 }) ho fun hx2 hE2 sb => ?_⟩
    have nT : s.heap.objs.size ≠ e := Nat.ne_of_gt lte
    have hT2 := (sb.2 _ nT).trans hT
    have kp2 : ∀ b ob, b ∉ [e, it] → s.heap.get? b = some ob → hx2.get? b = some ob := fun b ob hb z => by
      simp only [List.mem_cons, List.not_mem_nil, or_false, not_or] at hb
      exact (sb.2 b hb.1).trans (kp b ob hb.1 hb.2 z)
    have new : ObjOk X.prog X.w (upd H s.heap.objs.size (.tup [.int (i : Nat), x])) hx2 s.heap.objs.size (.tup [.int (i : Nat), x]) := ⟨by show 2 ≤ sizeLine; decide, [.int (i : Nat) tk, y], .cons ⟨_, rfl⟩ (.cons ru .nil), ⟨_, hT2, rfl, _, rfl⟩⟩
    have I1 := I.turnedNew (ch := [e, it]) (h' := hx2) (t' := tk + 1) kp2 fps (Nat.le_refl _) new
    refine ⟨.ref s.heap.objs.size, _, I1, rfl, ⟨_, x, rfl, I.hok.fresh (Nat.le_refl _), rfl, fun zs hz => ?_⟩, ⟨⟨y, ?_⟩, hst.1.at fun o z => (sb.2 it (Ne.symm hn)).trans z, hn⟩, fun b hb => ?_⟩
    · rw [I.tuple_inj hz hq]
      exact hx
    · rw [show ((i + 1 : Nat) : Int) = ((i : Nat) : Int) + 1 by omega]
      exact hE2
    · have lb : b ≠ s.heap.objs.size := by
        simp only [List.mem_cons, List.not_mem_nil, or_false] at hb
        rcases hb with rfl | rfl
        · exact Nat.ne_of_lt lte
        · exact Nat.ne_of_lt lti
      rw [upd_ne lb]
      exact (fps b hb).1
  done := by
    intro X hP hw hK hc i pins s σ H Er I fps ⟨⟨old, hE⟩, hI, hn⟩ ⟨xs, hq, hx⟩
    subst hP hw hK
    obtain ⟨its, rv, tp, _⟩ := I.tuple hq
    have lr := rv.length
    have nt := not_it tp hI
    have Dr := Draws.tuple (prog := X.prog) (w := X.w) (A := X.A.in1) (by simp [I.ok.hd hc]) it a nt its.toArray
    have es : its.toArray.size = i := by simp; omega
    rw [es] at Dr
    obtain ⟨f0, f1, f2, f3, f4, f5⟩ := fps it (by simp)
    exact wpAny_pyNext_enum_endD Dr hE ⟨hI, tp⟩ fun hx1 eb => ⟨rfl, I.turned (t' := s.toks) (fun b o hb z => eb b o hb z) f0 f1 f3 f4 f5⟩
  self := by
    rintro A i s Q Er ⟨⟨old, hE⟩, _⟩ h
    exact wpAny_pyIter_enum hE h
def iEnT (K : PySem.W.Frag) (ta : TA) : TI := fun σ H R => ta σ H fun vs H1 => ∃ a xs, vs = [.ref a] ∧ SqT K H1 a xs ∧ R (ItT K a) H1
theorem pi_enT {X : Cx} {e : Expr} {ta : TA} {p pos tpos : Pos} {elts : List Expr} {kk : Nat} (hg : Gl X "enumerate") (hm : X.mg "enumerate" = none) (ha : PA X [e] ta) (hs : starEach [e] X.env = [(false, eval e X.env)] := by rfl) :
    PI X (.Tuple elts kk tpos) (.Call (.Name "enumerate" p) [e] [] pos) (iEnT X.K ta) := by
  refine ⟨fun pins s σ H R I h => ?_⟩
  refine Call_ (ld_blt I hg hm boot_enumerate (PyProof.Rows.callWith_type1 (thn (ha.run pos pins s σ H _ I h) fun us s1 ⟨vs, H1, I1, rs, q1⟩ => ?_) hs rfl))
  obtain ⟨a, xs, rfl, hq, q⟩ := q1
  obtain ⟨its, rv, tp, _⟩ := I1.tuple hq
  rw [Vals.ref1 rs]
  refine call_enumT (begins_tuple a its.toArray) tp fun hx hE hi kp => wpAny_pyIter_enum hE ?_
  have I2 : Inv X pins σ H1 { s1 with heap := hx } := I1.kept (t' := s1.toks) kp
  refine ⟨s1.heap.objs.size + 1, [s1.heap.objs.size + 1, s1.heap.objs.size], _, _, H1, rfl, I2, turn_enT a (s1.heap.objs.size + 1) s1.heap.objs.size, ⟨⟨.none, hE⟩, ⟨_, hi, rfl, rfl⟩, Nat.succ_ne_self _⟩, fun b hb => ?_, q⟩
  have le : s1.heap.objs.size ≤ b := by
    simp only [List.mem_cons, List.not_mem_nil, or_false] at hb
    rcases hb with z | z
    · rw [z]; exact Nat.le_add_right _ _
    · rw [z]; exact Nat.le_refl _
  exact I1.fpOk le (I1.hok.fresh le)
/-- its walk: each turn has a new pair -/
theorem walk_enT {K : PySem.W.Frag} {a : Addr} {xs : List V} : Walk (ItT K a) xs.length (fun H => SqT K H a xs) (fun i H v H' => ∃ T x, v = .ref T ∧ H T = none ∧ H' = upd H T (.tup [.int (i : Nat), x]) ∧ xs[i]? = some x) :=
  ⟨fun i _ hi q => ⟨xs, xs[i], q, List.getElem?_eq_getElem hi⟩, fun _ q => ⟨xs, q, rfl⟩, fun i H x H' _ q ⟨T, y, e1, e2, e3, e4⟩ => ⟨T, y, e1, e2, e3, e4 xs q⟩⟩
end Sw
set_option maxRecDepth 100000
set_option maxHeartbeats 4000000
namespace Sw
open PySem PySem.Spec PyProof.Rows L2
theorem inV_ints {z : Int} {zs : List Int} : inV (.int z) (zs.map V.int) = decide (z ∈ zs) := by
  unfold inV
  induction zs with
  | nil => rfl
  | cons y zs ih =>
    rw [List.map_cons, List.any_cons, ih]
    show (y == z || _) = _
    by_cases h : y = z
    · simp [h]
    · have h' : ¬ z = y := fun e => h e.symm
      simp [h, h']
theorem flat_ints (zs : List Int) : (zs.map V.int).all flatV = true := by
  rw [List.all_map]
  simp [flatV]
/-- the arrows of a graph, as the law lays them -/
structure ArrAt (H : Hp) (F : Addr) (es : List Ge) : Prop where
  ex : ∃ as : List Addr, H F = some (.lst (as.map V.ref)) ∧ Paired (fun a e => H a = some (.lst ((allG e).map V.int))) as es
theorem paired_imp {α β : Type} {R S : α → β → Prop} (h : ∀ a b, R a b → S a b) : ∀ {xs : List α} {ys : List β}, Paired R xs ys → Paired S xs ys
  | _, _, .nil => .nil
  | _, _, .cons r t => .cons (h _ _ r) (paired_imp h t)
theorem paired_snoc {α β : Type} {R : α → β → Prop} {a : α} {b : β} (r : R a b) : ∀ {xs : List α} {ys : List β}, Paired R xs ys → Paired R (xs ++ [a]) (ys ++ [b])
  | _, _, .nil => .cons r .nil
  | _, _, .cons q t => .cons q (paired_snoc r t)
theorem paired_at {α β : Type} {R : α → β → Prop} : ∀ {xs : List α} {ys : List β} {i : Nat} {y : β}, Paired R xs ys → ys[i]? = some y → ∃ x, xs[i]? = some x ∧ R x y
  | _, _, _, _, .nil, e => by simp at e
  | _, _, 0, _, .cons r _, e => by simp at e; subst e; exact ⟨_, rfl, r⟩
  | _, _, i + 1, y, .cons _ t, e => by
    obtain ⟨x, h1, h2⟩ := paired_at (i := i) (y := y) t (by simpa using e)
    exact ⟨x, by simpa using h1, h2⟩
theorem ArrAt.same {H H' : Hp} {F : Addr} {es : List Ge} (h : ArrAt H F es) (s : Same H H') : ArrAt H' F es := by
  obtain ⟨as, h1, h2⟩ := h.ex
  exact ⟨as, s _ _ h1, paired_imp (fun _ _ r => s _ _ r) h2⟩
theorem ArrAt.at {H : Hp} {F : Addr} {es : List Ge} (h : ArrAt H F es) {b : Int} (h0 : 0 ≤ b) (h1 : b < (es.length : Int)) : ∃ (as : List Addr) (a : Addr), H F = some (.lst (as.map V.ref)) ∧ atI (as.map V.ref) b = some (.ref a) ∧ H a = some (.lst ((arr es b).map V.int)) ∧ as.length = es.length := by
  obtain ⟨as, e1, e2⟩ := h.ex
  obtain ⟨n, rfl⟩ : ∃ n : Nat, b = (n : Int) := ⟨b.toNat, (Int.toNat_of_nonneg h0).symm⟩
  have hn : n < es.length := by omega
  obtain ⟨a, ha, hr⟩ := paired_at e2 (List.getElem?_eq_getElem hn)
  refine ⟨as, a, e1, atI_nat (by rw [List.getElem?_map, ha]; rfl), ?_, e2.length⟩
  unfold arr
  rw [Int.toNat_natCast, List.getElem?_eq_getElem hn]
  exact hr
section
variable {P : Program} {w : World} {K : PySem.W.Frag} {mg : Str → Option Value} {base : Heap}
def spArrows (K : PySem.W.Frag) : Sp := fun vs H Q _ => ∃ (vc : V) (nm : Str) (es : List Ge) (rs : List (Str × List Ge)), vs = [vc] ∧ Dp K H vc (codeD ((nm, es) :: rs)) ∧ es.length ≤ 60 ∧ ∀ F H', Same H H' → ArrAt H' F es → Q (.ref F) H'
theorem sc_arrows : FnScope ["_law_code", "_law_found", "_law_rows", "_law_end", "_law_block"] ["_law_code"] (defScope (topS 25)) := ⟨rfl, rfl, rfl, by decide +kernel, rfl, by decide +kernel, by decide +kernel⟩
theorem ok_arrows {f : Addr} {fd : FuncData} (D : Df K mg "_law_arrows" (topS 25) ["_law_code"] f fd) (B : Bt mg) : FnOk P w K mg base CX0 1 f fd ["_law_code"] (spArrows K) := by
  refine D.fn.ok sc_arrows (fun vs H Q E h => ?_) (fun cdv A outer s H vs Q E hr h => ?_)
  · obtain ⟨vc, nm, es, rs, rfl, _⟩ := h
    rfl
  obtain ⟨vc, nm, es, rs, rfl, hc, few, q⟩ := h
  have nd := sc_arrows.nd
  refine ⟨_, pss_cons (ps_set (i := 1) nd rfl (Or.inl rfl) (pe_lst pa_nil))
    (pss_cons (ps_for PassesOwn.never rfl (pi_tup (pe_ix ix_tup (pe_ix ix_tup (pe_ix ix_tup (pv 0) pe_int (fun _ _ => rfl)) pe_int (fun _ _ => rfl)) pe_int (fun _ _ => rfl))) (pg_tup rfl (pgs_cons (pg_name (i := 2) nd rfl (Or.inl rfl)) (pgs_cons (pg_name (i := 3) nd rfl (Or.inl rfl)) pgs_nil)))
      (pss_one (ps_expr (pe_bm PySem.F.plainAttrs_list PySem.F.slot_list_append PySem.F.type_list_append mt_append (pv 1) (pa_cons (pe_lc (own := [("_law_block", 4)]) (g := gName 4) rfl nd (pi_tup (pv 3))
        (blkOk_by (N := ["_law_code", "_law_found", "_law_rows", "_law_end", "_law_block"]) (sc := defScope (topS 25)) (by decide +kernel)) (fun _ _ _ _ _ => pg_name (i := 4) nd rfl (Or.inl rfl))
        (fun _ _ _ _ _ => pts_one (pt_val (pe_callB (r := rIsi K) call_isi (by rfl) B.isi (by decide +kernel) (pa_cons (pv 4) (pa_cons (pe_bltn (v := .ty "int") (by rfl) B.int (by decide +kernel) rfl) pa_nil)))))
        (fun _ _ _ _ _ => pv 4)) pa_nil)))))
    (pss_one (ps_ret (pv 1)))), ?_⟩
  obtain ⟨a, vo, vr, rfl, ha, ho, hr2⟩ := code_two hc
  obtain ⟨ar, xs, rfl, hx, hd⟩ := Dp_tup hr2
  cases hd with
  | @cons v0 _ vs0 _ hd0 hds =>
    obtain ⟨a0, ys, rfl, hy, hyd⟩ := Dp_tup hd0
    obtain ⟨u1, u2, rfl, k1, k2⟩ := DpAll_two hyd
    obtain ⟨ab, bs, rfl, hb, hbd⟩ := Dp_tup k2
    have lb : bs.length = es.length := by rw [DpAll_len hbd, List.length_map]
    refine ⟨Nat.zero_le _, fun F hF => ?_⟩
    have sF := same_new (o := .lst []) hF
    have eF : upd H F (.lst []) F = some (.lst (([] : List Addr).map V.ref)) := upd_same
    generalize upd H F (.lst []) = H1 at sF eF
    refine ⟨_, rfl, a, _, 1, _, rfl, rfl, sameT sF ha, atI_nat (j := 1) rfl, ar, _, 0, _, rfl, rfl, sameT sF hx, atI_nat (j := 0) rfl, a0, _, 1, _, rfl, rfl, sameT sF hy, atI_nat (j := 1) rfl, ab, rfl, ⟨_, sameT sF hb⟩,
      for_it (walk_tup (xs := bs)) (fun n σ H' => ∃ (as : List Addr) (x2 x3 : Option V), σ = [some (.ref a), some (.ref F), x2, x3, none] ∧ Same H H' ∧ H' F = some (.lst (as.map V.ref)) ∧ Paired (fun a e => H' a = some (.lst ((allG e).map V.int)) ∧ a ≠ F) as (es.take n))
      ⟨[], none, none, rfl, sF, eF, .nil⟩ (fun n σ H' _ h => by obtain ⟨as, x2, x3, _, s', _⟩ := h; exact sameT s' hb) ?_ ?_⟩
    · rintro n x σ H3 H4 hn ⟨as, x2, x3, rfl, s3, e3, p3⟩ ⟨rfl, hxn⟩
      have hn' : n < es.length := by omega
      obtain ⟨d, hd1, hd2⟩ := DpAll_get hbd hxn
      rw [List.getElem?_map, List.getElem?_eq_getElem hn'] at hd1
      cases hd1
      have etk : es.take (n + 1) = es.take n ++ [es[n]] := by rw [List.take_succ, List.getElem?_eq_getElem hn']; rfl
      generalize es[n] = e at hd2 etk
      obtain ⟨at_, zs, rfl, hz, hzd⟩ := Dp_tup hd2
      obtain ⟨w1, w2, rfl, m1, m2⟩ := DpAll_two hzd
      obtain ⟨ae, vs, rfl, he, hed⟩ : ∃ ae vs, w2 = .ref ae ∧ SqT K H ae vs ∧ ∃ ds, endD e = .tuple ds ∧ DpAll K H vs ds := by
        cases e <;> (obtain ⟨p, v, h1, h2, h3⟩ := Dp_tup m2; exact ⟨p, v, h1, h2, _, rfl, h3⟩)
      obtain ⟨ds, hds, hed⟩ := hed
      have hlen := DpAll_len hed
      have dl : ds.length ≤ 4 := by cases e <;> (cases hds; simp)
      have las : as.length = n := by have := p3.length; rw [List.length_take] at this; omega
      refine ⟨at_, _, rfl, sameT s3 hz, rfl, _, _, rfl, _, _, rfl, rfl, ?_⟩
      refine ⟨_, rfl, .inl ⟨rfl, _, SqL.of e3⟩, _, rfl, ae, rfl, ⟨_, sameT s3 he⟩, fun D2 hD2 => lc_pure (walk_tup (xs := vs)) (fun i => isaInt (ds.getD i .none)) (fun i => vs.getD i .non) hD2 (fun _ h => sameT (s3.trans h) he) (big_size (by omega)) ?_ ?_ ?_⟩
      · intro i x H5 Q5 hi hx5 s5 q5
        obtain ⟨d5, hd5, hp5⟩ := DpAll_get hed hx5
        obtain ⟨t5, ty5, k5⟩ := isa_int (Dp_same (s3.trans s5) hp5)
        rw [show ds.getD i .none = d5 by rw [List.getD_eq_getElem?_getD, hd5]; rfl] at q5
        exact ⟨_, rfl, x, .ty "int", t5, _, _, rfl, .ty _, ty5, k5, _, rfl, q5 H5 (Same.refl _)⟩
      · intro i x H5 Q5 hi hx5 _ s5 q5
        rw [show vs.getD i .non = x by rw [List.getD_eq_getElem?_getD, hx5]; rfl] at q5
        exact ⟨_, rfl, q5 H5 (Same.refl _)⟩
      · intro H5 s5 hD5
        have ev : ((List.range vs.length).filter fun i => isaInt (ds.getD i .none)).map (fun i => vs.getD i .non) = (allG e).map V.int := by
          cases e with
          | go a => cases hds; cases hed with | cons r1 r => cases r with | cons r2 r => cases r; cases Dp_str r1; cases Dp_int r2; rfl
          | back => cases hds; cases hed with | cons r1 r => cases r; cases Dp_str r1; rfl
          | iff a b => cases hds; cases hed with | cons r1 r => cases r with | cons r2 r => cases r with | cons r3 r => cases r with | cons r4 r => cases r; cases Dp_str r1; cases Dp_str r2; cases Dp_int r3; cases Dp_int r4; rfl
        rw [ev] at hD5
        have nFD : D2 ≠ F := fun z => by rw [z, e3] at hD2; cases hD2
        refine ⟨F, _, _, rfl, rfl, s5 _ _ e3, by rw [List.length_map, sizeLine_eq]; omega, ?_⟩
        refine ⟨as ++ [D2], _, _, rfl, fun c o ee => by rw [upd_ne (ne_of_none ee hF)]; exact s5 _ _ (s3 _ _ ee), by rw [upd_same, List.map_append]; rfl, ?_⟩
        rw [etk]
        exact paired_snoc ⟨by rw [upd_ne nFD]; exact hD5, nFD⟩ (paired_imp (fun c o r => ⟨by rw [upd_ne r.2]; exact s5 _ _ r.1, r.2⟩) p3)
    · rintro σ H3 ⟨as, x2, x3, rfl, s3, e3, p3⟩
      rw [lb, List.take_length] at p3
      exact ⟨_, rfl, q F H3 s3 ⟨as, e3, paired_imp (fun _ _ r => r.1) p3⟩⟩
end
end Sw
set_option maxRecDepth 100000
set_option maxHeartbeats 4000000
namespace Sw
open PySem PySem.Spec PyProof.Rows L2
abbrev N17 : List Str := ["_law_arrows_here", "_law_over_here", "_law_found", "_law_turn", "_law_block", "_law_one"]
/-- what the law has found so far -/
structure CI (es : List Ge) (o : Int) (fs : List Int) : Prop where
  nd : fs.Nodup
  rc : ∀ k ∈ fs, Rch es (some o) k
  z : o ≠ 0 → (0 : Int) ∈ fs
def Clo (es : List Ge) (o : Int) (fs : List Int) : Prop := ∀ b ∈ fs, ∀ g ∈ arr es b, o ≠ g → g ∈ fs
theorem CI.few {es : List Ge} {o : Int} {fs : List Int} (h : CI es o fs) (g : Gok es) : fs.length ≤ es.length := few_ints es.length h.nd fun x hx => (h.rc x hx).rng g
theorem CI.push {es : List Ge} {o k b : Int} {fs : List Int} (h : CI es o fs) (hb : b ∈ fs) (hk : k ∈ arr es b) (ho : k ≠ o) (hn : k ∉ fs) : CI es o (fs ++ [k]) :=
  ⟨List.nodup_append.mpr ⟨h.nd, by simp, fun a ha c hc => by
    have : c = k := by simpa using hc
    rw [this]; exact fun e => hn (e ▸ ha)⟩, fun x hx => by
    rcases List.mem_append.mp hx with hx | hx
    · exact h.rc x hx
    · have : x = k := by simpa using hx
      rw [this]; exact .step (h.rc b hb) hk (fun e => ho (Option.some.inj e).symm), fun hz => List.mem_append_left _ (h.z hz)⟩
theorem CI.all {es : List Ge} {o : Int} {fs : List Int} (h : CI es o fs) (c : Clo es o fs) (k : Int) : k ∈ fs ↔ Rch es (some o) k :=
  ⟨h.rc k, closed_all (fun z => h.z fun e => z (by rw [e])) fun b hb g hg ho => c b hb g hg fun e => ho (by rw [e])⟩
/-- a round of it: from fs0 on, the blocks below j asked -/
structure Rnd (es : List Ge) (o : Int) (fs0 fs : List Int) (j : Nat) : Prop where
  ci : CI es o fs
  inc : ∀ k ∈ fs0, k ∈ fs
  gr : fs = fs0 ∨ fs0.length < fs.length
  cl : Clo es o fs0 → fs = fs0
  got : ∀ k : Int, 0 ≤ k → k < (j : Int) → k ≠ o → (∃ b ∈ fs0, k ∈ arr es b) → k ∈ fs
theorem Rnd.skip {es : List Ge} {o : Int} {fs0 fs : List Int} {j : Nat} (h : Rnd es o fs0 fs j) (hs : (j : Int) ≠ o → (∃ b ∈ fs, (j : Int) ∈ arr es b) → (j : Int) ∈ fs) : Rnd es o fs0 fs (j + 1) :=
  ⟨h.ci, h.inc, h.gr, h.cl, fun k k0 k1 ko kb => by
    by_cases e : k = (j : Int)
    · subst e
      obtain ⟨b, hb, hk⟩ := kb
      exact hs ko ⟨b, h.inc b hb, hk⟩
    · exact h.got k k0 (by omega) ko kb⟩
theorem Rnd.push {es : List Ge} {o : Int} {fs0 fs : List Int} {j : Nat} (h : Rnd es o fs0 fs j) (ho : (j : Int) ≠ o) (hn : (j : Int) ∉ fs) (hb : ∃ b ∈ fs, (j : Int) ∈ arr es b) : Rnd es o fs0 (fs ++ [(j : Int)]) (j + 1) := by
  obtain ⟨b, hb1, hb2⟩ := hb
  refine ⟨h.ci.push hb1 hb2 ho hn, fun k hk => List.mem_append_left _ (h.inc k hk), .inr ?_, fun c => ?_, fun k k0 k1 ko kb => ?_⟩
  · rw [List.length_append, List.length_singleton]
    rcases h.gr with e | e
    · rw [e]; omega
    · omega
  · have e := h.cl c
    rw [e] at hb1 hn
    exact absurd (c b hb1 _ hb2 (Ne.symm ho)) hn
  · by_cases e : k = (j : Int)
    · rw [e]; exact List.mem_append_right _ (by simp)
    · exact List.mem_append_left _ (h.got k k0 (by omega) ko kb)
theorem Rnd.clo {es : List Ge} {o : Int} {fs0 : List Int} (g : Gok es) (h : Rnd es o fs0 fs0 es.length) : Clo es o fs0 := fun b hb x hx ho => by
  obtain ⟨h0, h1⟩ := arr_rng g hx
  exact h.got x h0 h1 (Ne.symm ho) ⟨b, hb, hx⟩
theorem ints_list {K : PySem.W.Frag} {H : Hp} {D : Addr} {ns : List Int} (h : H D = some (.lst (ns.map V.int))) : Dp K H (.ref D) (.list (ns.map PyData.int)) := .lst (SqL.of h) (DpAll_ints ns)
section
variable {P : Program} {w : World} {K : PySem.W.Frag} {mg : Str → Option Value} {base : Heap}
def spComes (K : PySem.W.Frag) : Sp := fun vs H Q _ => ∃ (F : Addr) (o : Int) (es : List Ge), vs = [.ref F, .int o] ∧ ArrAt H F es ∧ Gok es ∧ ∀ (t : Addr) (H' : Hp) (ns : List Int), Same H H' → H' t = some (.lst (ns.map V.int)) → (∀ k, k ∈ ns ↔ Rch es (some o) k) → Q (.ref t) H'
def spOver (K : PySem.W.Frag) : Sp := fun vs H Q _ => ∃ (F : Addr) (o u : Int) (es : List Ge), vs = [.ref F, .int o, .int u] ∧ ArrAt H F es ∧ Gok es ∧ ∀ H', Same H H' → Q (.bl (domB es o u)) H'
end
end Sw
set_option maxRecDepth 100000
set_option maxHeartbeats 4000000
namespace Sw
open PySem PySem.Spec PyProof.Rows L2
theorem repr_ok {M l n B : Nat} {d : PyData} (h : Fit M l n B d) (hM : M ≤ 1000) (hn : n ≤ 60) (hB : B ≤ 16777216) : d.showable = true ∧ d.hasDict = false ∧ d.depth ≤ 60 ∧ d.shown.length ≤ sizeLine := by
  have e1 : M < 2 ^ 1920 := Nat.lt_of_le_of_lt hM (by decide +kernel)
  have e2 : M < 10 ^ 240 := Nat.lt_of_le_of_lt hM (by decide +kernel)
  refine ⟨leaf_shows e1 d h.lf, leaf_noDict d h.lf, Nat.le_trans h.dp hn, ?_⟩
  have h1 := shown_wt e2 d h.lf
  have h2 := h.wg
  rw [sizeLine_eq]
  omega
theorem wtAll_le {B : Nat} : ∀ {ds : List PyData}, (∀ d ∈ ds, wt d ≤ B) → wtAll ds ≤ (B + 2) * ds.length
  | [], _ => by simp [wtAll]
  | d :: ds, h => by
    have h1 := h d List.mem_cons_self
    have h2 := wtAll_le (ds := ds) fun x hx => h x (List.mem_cons_of_mem _ hx)
    simp only [wtAll, List.length_cons, Nat.mul_add, Nat.mul_one]
    omega
/-- a tuple of things that fit -/
theorem Fit.all {M l n B k : Nat} {ds : List PyData} (h : ∀ d ∈ ds, Fit M l n B d) (hk : ds.length ≤ k) (hl : k ≤ l) : Fit M l (n + 1) ((B + 2) * k + 5) (.tuple ds) := by
  have hw := wtAll_le fun d hd => (h d hd).wg
  have hm := Nat.mul_le_mul_left (B + 2) hk
  refine ⟨?_, ?_, ?_, ?_⟩
  · simp only [leaf]
    exact leafAll_iff.mpr fun d hd => (h d hd).lf
  · simp only [lens, Bool.and_eq_true, decide_eq_true_eq]
    exact ⟨by omega, lensAll_iff.mpr fun d hd => (h d hd).ln⟩
  · exact depth_tuple.mpr fun d hd => (h d hd).dp
  · simp only [wt]
    omega
theorem fit_int {i : Int} (h0 : 0 ≤ i) (h1 : i < 100) : Fit 100 60 0 250 (.int i) := ⟨by simp only [leaf, decide_eq_true_eq]; omega, rfl, by simp [PyData.depth], Nat.le_refl _⟩
theorem ints_fit {ns : List Int} (hl : ns.length ≤ 60) (h : ∀ k ∈ ns, 0 ≤ k ∧ k < 100) : Fit 100 60 1 20000 (.tuple (ns.map PyData.int)) :=
  (Fit.all (n := 0) (B := 250) (k := 60) (fun d hd => by
    obtain ⟨k, hk, rfl⟩ := List.mem_map.mp hd
    exact fit_int (h k hk).1 (h k hk).2) (by rw [List.length_map]; exact hl) (Nat.le_refl _)).mono (Nat.le_refl _) (Nat.le_refl _) (Nat.le_refl _) (by decide)
theorem domsI_rng {es : List Ge} {u k : Int} (h : k ∈ domsI es u) : 0 ≤ k ∧ k < (es.length : Int) := by
  unfold domsI at h
  obtain ⟨i, hi, rfl⟩ := List.mem_map.mp h
  have := List.mem_range.mp (List.mem_filter.mp hi).1
  exact ⟨by omega, by omega⟩
theorem domsI_len (es : List Ge) (u : Int) : (domsI es u).length ≤ es.length := by
  unfold domsI
  rw [List.length_map]
  exact Nat.le_trans (List.length_filter_le _ _) (by rw [List.length_range]; exact Nat.le_refl _)
theorem domsI_fit {es : List Ge} (g : es.length ≤ 60) (u : Int) : Fit 100 60 1 20000 (.tuple ((domsI es u).map PyData.int)) := ints_fit (Nat.le_trans (domsI_len es u) g) fun k hk => ⟨(domsI_rng hk).1, by have := (domsI_rng hk).2; omega⟩
theorem mem_domsI {es : List Ge} {u o : Int} (h0 : 0 ≤ o) (h1 : o < (es.length : Int)) : o ∈ domsI es u ↔ domB es o u = true := by
  unfold domsI
  rw [List.mem_map]
  constructor
  · rintro ⟨i, hi, rfl⟩
    exact (List.mem_filter.mp hi).2
  · intro h
    refine ⟨o.toNat, List.mem_filter.mpr ⟨List.mem_range.mpr (by omega), ?_⟩, Int.toNat_of_nonneg h0⟩
    rw [Int.toNat_of_nonneg h0]
    exact h
theorem ints_tup {K : PySem.W.Frag} {H : Hp} {D : Addr} {ns : List Int} (h : H D = some (.tup (ns.map V.int))) : Dp K H (.ref D) (.tuple (ns.map PyData.int)) := .tup (SqT.of h) (DpAll_ints ns)
/-- repr of a bool -/
theorem call_reprBl {X : Cx} : CallR X (.builtin "repr") (fun xs H Q => ∃ b : Bool, xs = [.bl b] ∧ Q (.str (if b then "True" else "False")) H) := by
  intro pins s σ H xs us Q I r h
  obtain ⟨b, rfl, q⟩ := h
  cases r with
  | cons r0 r1 =>
    cases r1
    cases r0
    exact PySem.P.repr_of_bool ⟨.str _, H, I.tok _, ⟨_, rfl⟩, q⟩
section
variable {P : Program} {w : World} {K : PySem.W.Frag} {mg : Str → Option Value} {base : Heap}
def spRightD (K : PySem.W.Frag) : Sp := fun vs H Q _ => ∃ (vc : V) (es : List Ge) (rs : List (Str × List Ge)), vs = [vc] ∧ Dp K H vc (codeD (("main", es) :: rs)) ∧ Gok es ∧ ∀ H', Same H H' → Q (.bl true) H'
abbrev N19 : List Str := ["_law_code", "_law_arrows_here", "_law_many", "_law_under", "_law_due", "_law_over_here"]
end
end Sw
set_option maxRecDepth 100000
set_option maxHeartbeats 4000000
namespace Sw
open PySem PySem.Spec PyProof.Rows L2
/-! ### displays with names in them -/
theorem pe_impG {X : Cx} {e : Expr} {t t' : TE} (h : PE X e t) (hi : ∀ σ H Q, t' σ H Q → t σ H Q) : PE X e t' := ⟨fun pins s σ H Q I q => h.run pins s σ H Q I (hi σ H Q q)⟩
theorem pa_impG {X : Cx} {es : List Expr} {t t' : TA} (h : PA X es t) (hi : ∀ σ H Q, t' σ H Q → t σ H Q) : PA X es t' := ⟨fun pos pins s σ H Q I q => h.run pos pins s σ H Q I (hi σ H Q q)⟩
def tE (K : PySem.W.Frag) (G : L2.St → Hp → Prop) (d : PyData) : TE := fun σ H Q => G σ H ∧ ∀ v H', Same H H' → Dp K H' v d → Q v H'
def tEs (K : PySem.W.Frag) (G : L2.St → Hp → Prop) (ds : List PyData) : TA := fun σ H Q => G σ H ∧ ∀ vs H', Same H H' → DpAll K H' vs ds → Q vs H'
structure Kp (G : L2.St → Hp → Prop) : Prop where
  go : ∀ {σ : L2.St} {H H' : Hp}, G σ H → Same H H' → G σ H'
section
variable {X : Cx} {K : PySem.W.Frag} {G : L2.St → Hp → Prop}
theorem px_var {e : Expr} {i : Nat} {d : PyData} (he : PE X e (tVar i)) (h : ∀ σ H, G σ H → ∃ v, σ[i]? = some (some v) ∧ Dp K H v d) : PE X e (tE K G d) :=
  pe_impG he fun σ H Q q => by
    obtain ⟨v, h1, h2⟩ := h σ H q.1
    exact ⟨v, h1, q.2 v H (Same.refl H) h2⟩
theorem px_int {i : Int} {k : Nat} {pos : Pos} : PE X (.Constant (.int i) k pos) (tE K G (.int i)) := pe_impG pe_int fun σ H Q q => q.2 _ H (Same.refl H) (.int i)
theorem px_str {z : Str} {k : Nat} {pos : Pos} : PE X (.Constant (.str z) k pos) (tE K G (.str z)) := pe_impG pe_str fun σ H Q q => q.2 _ H (Same.refl H) (.str z)
theorem pxs_nil : PA X [] (tEs K G []) := pa_impG pa_nil fun σ H Q q => q.2 [] H (Same.refl H) .nil
theorem pxs_cons (C : Kp G) {e : Expr} {es : List Expr} {d : PyData} {ds : List PyData} (he : PE X e (tE K G d)) (hes : PA X es (tEs K G ds)) (hs : starEach (e :: es) X.env = (false, eval e X.env) :: starEach es X.env := by rfl) : PA X (e :: es) (tEs K G (d :: ds)) :=
  pa_impG (pa_cons he hes hs) fun σ H Q q => ⟨q.1, fun v H1 s1 d1 => ⟨C.go q.1 s1, fun vs H2 s2 d2 => q.2 _ H2 (s1.trans s2) (.cons (Dp_same s2 d1) d2)⟩⟩
theorem px_tup {es : List Expr} {ds : List PyData} {k : Nat} {pos : Pos} (h : PA X es (tEs K G ds)) (hl : Nat.ble ds.length 1000 = true := by rfl) : PE X (.Tuple es k pos) (tE K G (.tuple ds)) :=
  pe_impG (pe_tup h) fun σ H Q q => ⟨q.1, fun vs H1 s1 d1 => ⟨by have := DpAll_len d1; have := Nat.le_of_ble_eq_true hl; exact Nat.le_of_lt (big_size (by omega)), fun a ha => by
    have s2 := same_new (o := .tup vs) ha
    exact q.2 _ _ (s1.trans s2) (.tup (SqT.of upd_same) (DpAll_same s2 d1))⟩⟩
/-- a list: its place is new, and its items stand -/
theorem px_lst {es : List Expr} {ds : List PyData} {pos : Pos} (h : PA X es (tEs K G ds)) (hl : Nat.ble ds.length 1000 = true := by rfl) : PE X (.List es pos) (fun σ H Q => G σ H ∧ ∀ L vs H', Same H H' → H L = none → H' L = some (.lst vs) → DpAll K H' vs ds → Q (.ref L) H') :=
  pe_impG (pe_lst h) fun σ H Q q => ⟨q.1, fun vs H1 s1 d1 => ⟨by have := DpAll_len d1; have := Nat.le_of_ble_eq_true hl; exact Nat.le_of_lt (big_size (by omega)), fun a ha => by
    have s2 := same_new (o := .lst vs) ha
    exact q.2 a vs _ (s1.trans s2) (s1.free ha) upd_same (DpAll_same s2 d1)⟩⟩
end
/-! ### deciding on graphs written down -/
def stepC (es : List Ge) (o : Int) (fs : List Int) : List Int := fs ++ (fs.flatMap (arr es)).filter fun g => !(g == o) && !(fs.contains g)
def cloC (es : List Ge) (o : Int) : Nat → List Int
  | 0 => if o = 0 then [] else [0]
  | n + 1 => stepC es o (cloC es o n)
theorem cloC_rch {es : List Ge} {o : Int} : ∀ (n : Nat) (k : Int), k ∈ cloC es o n → Rch es (some o) k
  | 0, k, h => by
    unfold cloC at h
    by_cases e : o = 0
    · rw [if_pos e] at h; cases h
    · rw [if_neg e] at h
      have : k = 0 := by simpa using h
      rw [this]
      exact .zero fun z => e (Option.some.inj z)
  | n + 1, k, h => by
    unfold cloC stepC at h
    rcases List.mem_append.mp h with h | h
    · exact cloC_rch n k h
    · obtain ⟨h1, h2⟩ := List.mem_filter.mp h
      obtain ⟨b, hb, hk⟩ := List.mem_flatMap.mp h1
      refine .step (cloC_rch n b hb) hk fun z => ?_
      have e : o = k := Option.some.inj z
      simp [e] at h2
def okC (es : List Ge) (o : Int) : Bool := ((o == 0) || (cloC es o es.length).contains 0) && ((cloC es o es.length).flatMap (arr es)).all fun g => (g == o) || (cloC es o es.length).contains g
theorem cloC_iff {es : List Ge} {o : Int} (h : okC es o = true) (k : Int) : k ∈ cloC es o es.length ↔ Rch es (some o) k := by
  unfold okC at h
  rw [Bool.and_eq_true] at h
  refine ⟨cloC_rch _ k, closed_all (fun z => ?_) fun b hb g hg ho => ?_⟩
  · rcases Bool.or_eq_true _ _ ▸ h.1 with e | e
    · exact absurd (by simpa using e : o = 0) fun e' => z (by rw [e'])
    · simpa using e
  · have := List.all_eq_true.mp h.2 g (List.mem_flatMap.mpr ⟨b, hb, hg⟩)
    rcases Bool.or_eq_true _ _ ▸ this with e | e
    · exact absurd (by simpa using e : g = o) fun e' => ho (by rw [e'])
    · simpa using e
def domsC (es : List Ge) (u : Int) : List Int := ((List.range es.length).filter fun i : Nat => !((cloC es (i : Int) es.length).contains u)).map fun i : Nat => (i : Int)
theorem domsC_eq {es : List Ge} {u : Int} (h : ((List.range es.length).all fun i : Nat => okC es (i : Int)) = true) : domsI es u = domsC es u := by
  unfold domsI domsC
  congr 1
  refine List.filter_congr fun i hi => ?_
  have ok := List.all_eq_true.mp h i hi
  have := cloC_iff ok u
  refine (domB_of ?_).symm
  rw [← this]
  simp
abbrev Case := List Ge × Int × List Int
def caseD (c : Case) : PyData := .tuple [.tuple (c.1.map endD), .int c.2.1, .tuple (c.2.2.map PyData.int)]
def gRow : List Ge := [.go 1, .go 2, .back]
def gMeet : List Ge := [.iff 1 2, .go 3, .go 3, .go 4, .back]
def gRing : List Ge := [.iff 1 2, .go 2, .go 1, .back]
def cases1 : List Case := [(gRow, 2, [0, 1, 2]), (gMeet, 4, [0, 3, 4]), (gMeet, 3, [0, 3]), (gRing, 1, [0, 1]), (gRing, 2, [0, 2])]
def cases2 : List Case := [(gRing, 3, [0, 1, 2, 3]), (gMeet, 0, [0]), ([.go 0], 0, [0])]
def gokB (es : List Ge) : Bool := decide (1 ≤ es.length) && decide (es.length ≤ 60) && es.all fun e => (allG e).all fun g => decide (0 ≤ g) && decide (g < (es.length : Int))
theorem gokB_ok {es : List Ge} (h : gokB es = true) : Gok es := by
  unfold gokB at h
  rw [Bool.and_eq_true, Bool.and_eq_true] at h
  refine ⟨of_decide_eq_true h.1.1, of_decide_eq_true h.1.2, fun e he g hg => ?_⟩
  have := List.all_eq_true.mp (List.all_eq_true.mp h.2 e he) g hg
  rw [Bool.and_eq_true] at this
  exact ⟨of_decide_eq_true this.1, of_decide_eq_true this.2⟩
def caseB (c : Case) : Bool := gokB c.1 && decide (c.1.length ≤ 6) && ((List.range c.1.length).all fun i : Nat => okC c.1 (i : Int)) && decide (domsC c.1 c.2.1 = c.2.2)
theorem cases_ok : ((cases1 ++ cases2).all caseB) = true := by decide +kernel
structure CaseOk (c : Case) : Prop where
  ok : Gok c.1
  few : c.1.length ≤ 6
  due : domsI c.1 c.2.1 = c.2.2
theorem case_ok {c : Case} (h : c ∈ cases1 ++ cases2) : CaseOk c := by
  have := List.all_eq_true.mp cases_ok c h
  unfold caseB at this
  rw [Bool.and_eq_true, Bool.and_eq_true, Bool.and_eq_true] at this
  exact ⟨gokB_ok this.1.1.1, of_decide_eq_true this.1.1.2, (domsC_eq this.1.2).trans (of_decide_eq_true this.2)⟩
/-- graphs as data fit -/
theorem endD_fit {es : List Ge} (g : Gok es) {e : Ge} (he : e ∈ es) : Fit 100 60 1 1013 (endD e) := by
  have r := g.rng e he
  have few := g.few
  have fs : ∀ z : Str, z ∈ [("go" : Str), "if", "i", "back"] → Fit 100 60 0 250 (.str z) := fun z hz => by
    simp only [List.mem_cons, List.not_mem_nil, or_false] at hz
    rcases hz with rfl | rfl | rfl | rfl <;> exact ⟨by decide +kernel, rfl, by simp [PyData.depth], by decide +kernel⟩
  cases e with
  | go a =>
    have ra := r a (by simp [allG])
    exact (Fit.all (ds := [.str "go", .int a]) (l := 60) (k := 4) (fun d hd => by
      simp only [List.mem_cons, List.not_mem_nil, or_false] at hd
      rcases hd with rfl | rfl
      · exact fs _ (by simp)
      · exact fit_int ra.1 (by omega)) (by show 2 ≤ 4; decide) (by decide))
  | iff a b =>
    have ra := r a (by simp [allG])
    have rb := r b (by simp [allG])
    exact (Fit.all (ds := [.str "if", .str "i", .int a, .int b]) (l := 60) (k := 4) (fun d hd => by
      simp only [List.mem_cons, List.not_mem_nil, or_false] at hd
      rcases hd with rfl | rfl | rfl | rfl
      · exact fs _ (by simp)
      · exact fs _ (by simp)
      · exact fit_int ra.1 (by omega)
      · exact fit_int rb.1 (by omega)) (by show 4 ≤ 4; decide) (by decide))
  | back =>
    exact (Fit.all (ds := [.str "back"]) (l := 60) (k := 4) (fun d hd => by
      simp only [List.mem_cons, List.not_mem_nil, or_false] at hd
      rcases hd with rfl
      exact fs _ (by simp)) (by show 1 ≤ 4; decide) (by decide))
theorem blkD_fit {es : List Ge} (g : Gok es) {e : Ge} (he : e ∈ es) : Fit 100 60 2 2035 (blkD e) :=
  Fit.all (ds := [.tuple [], endD e]) (l := 60) (n := 1) (B := 1013) (k := 2) (fun d hd => by
    simp only [List.mem_cons, List.not_mem_nil, or_false] at hd
    rcases hd with rfl | rfl
    · exact (Fit.all (ds := []) (n := 0) (B := 250) (k := 0) (fun _ h => by cases h) (Nat.le_refl _) (by decide)).mono (Nat.le_refl _) (Nat.le_refl _) (by decide) (by decide)
    · exact endD_fit g he) (by show 2 ≤ 2; decide) (by decide)
theorem codeD_fit {es : List Ge} (g : Gok es) : Fit 100 60 6 488941 (codeD [("main", es)]) := by
  have h1 : Fit 100 60 3 122225 (.tuple (es.map blkD)) := Fit.all (k := 60) (fun d hd => by
    obtain ⟨e, he, rfl⟩ := List.mem_map.mp hd
    exact blkD_fit g he) (by rw [List.length_map]; exact g.few) (Nat.le_refl _)
  have fs : ∀ z : Str, z ∈ [("main" : Str), "a"] → Fit 100 60 0 250 (.str z) := fun z hz => by
    simp only [List.mem_cons, List.not_mem_nil, or_false] at hz
    rcases hz with rfl | rfl <;> exact ⟨by decide +kernel, rfl, by simp [PyData.depth], by decide +kernel⟩
  have h2 : Fit 100 60 4 (122227 * 2 + 5) (rtD ("main", es)) := Fit.all (ds := [.str "main", .tuple (es.map blkD)]) (l := 60) (k := 2) (fun d hd => by
    simp only [List.mem_cons, List.not_mem_nil, or_false] at hd
    rcases hd with rfl | rfl
    · exact (fs _ (by simp)).mono (Nat.le_refl _) (Nat.le_refl _) (by decide) (by decide)
    · exact h1) (by show 2 ≤ 2; decide) (by decide)
  have h3 : Fit 100 60 5 244466 (.tuple [rtD ("main", es)]) := Fit.all (ds := [rtD ("main", es)]) (l := 60) (k := 1) (fun d hd => by
    simp only [List.mem_cons, List.not_mem_nil, or_false] at hd
    rcases hd with rfl
    exact h2) (by show 1 ≤ 1; decide) (by decide)
  have h5 : Fit 100 60 1 509 (.tuple [.str "a", .int 1]) := Fit.all (ds := [.str "a", .int 1]) (l := 60) (n := 0) (B := 250) (k := 2) (fun d hd => by
      simp only [List.mem_cons, List.not_mem_nil, or_false] at hd
      rcases hd with rfl | rfl
      · exact fs _ (by simp)
      · exact fit_int (by decide) (by decide)) (by show 2 ≤ 2; decide) (by decide)
  have h4 : Fit 100 60 2 516 objD := Fit.all (ds := [.tuple [.str "a", .int 1]]) (l := 60) (k := 1) (fun d hd => by
    simp only [List.mem_cons, List.not_mem_nil, or_false] at hd
    rcases hd with rfl
    exact h5) (by show 1 ≤ 1; decide) (by decide)
  exact Fit.all (ds := [objD, .tuple [rtD ("main", es)]]) (l := 60) (n := 5) (B := 244466) (k := 2) (fun d hd => by
    simp only [List.mem_cons, List.not_mem_nil, or_false] at hd
    rcases hd with rfl | rfl
    · exact h4.mono (Nat.le_refl _) (Nat.le_refl _) (by decide) (by decide)
    · exact h3) (by show 2 ≤ 2; decide) (by decide)
end Sw
set_option maxRecDepth 100000
set_option maxHeartbeats 4000000
namespace Sw
open PySem PySem.Spec PyProof.Rows L2
/-- f(e), f's promise kept where no repr is under way -/
theorem pe_callG {X : Cx} {k : Nat} {f : Addr} {fd : FuncData} {ps : List Str} {sp : Sp} {x : Str} {p pos : Pos} {e : Expr} {es : List Expr} {t : TA} {E : XK} (hG : X.A.guards = some []) (F : FnG X.prog X.w X.K X.mg X.base k f fd ps sp) (hr : Room k X.A) (hg : Gl X x) (hm : X.mg x = some (.ref f)) (hk : PySem.W.keepIn X.K (.ref f) = true) (hb : Binds X.K fd ps []) (hx : Passes CX0 X E)
    (ha : PA X (e :: es) t) (hdb : (x == ("__debug__" : Str)) = false := by decide) (he : starEach (e :: es) X.env = (false, eval e X.env) :: starEach es X.env := by rfl) (hpl : (backTo pos (starEach es X.env)).any (·.1) = false := by rfl) :
    PE X (.Call (.Name x p) (e :: es) [] pos) (tCall sp [] E t) := by
  refine ⟨fun pins s σ H Q I h => ?_⟩
  refine wpAny_Call_Name_kw (ld_glob I hg hm ?_ hdb)
  refine PySem.W.callWith_K (h₀ := X.base) I.ok.mod.kin hk (thn (ha.run pos pins s σ H _ I h) fun us s1 ⟨vs, H1, I1, r, q⟩ => ⟨I1.kIn, ?_⟩) he hpl
  have r2 : Vals (vs ++ []) (us ++ []) := r.append .nil
  have hl : (us ++ []).length = ps.length := by rw [← r2.length]; exact F.size _ _ _ _ q
  refine wpAny_call (codeAny_mono (F.goes X.A X.stack s1 H1 ⟨us, []⟩ (us ++ []) (vs ++ []) Q E hG hr I1.env0 (hb s1 us I1.kIn hl) r2 q) fun r s' hq => ?_)
  cases r with
  | error e => exact hx pins σ H1 s1 e s' I1 hq
  | ok fl =>
    cases fl with
    | ret u => exact I1.after hq
    | next => exact False.elim hq
    | brk => exact False.elim hq
    | cont => exact False.elim hq
theorem eqv_same {d : PyData} (h : SeqAt.shaped d = true) : PyData.eqv d d = true := by
  unfold SeqAt.shaped at h
  rw [Bool.and_eq_true] at h
  exact SeqAt.eqv_refl d h.1
theorem DpAll_bls {K : PySem.W.Frag} {H : Hp} : ∀ bs : List Bool, DpAll K H (bs.map V.bl) (bs.map PyData.bool)
  | [] => .nil
  | b :: bs => .cons (.bl b) (DpAll_bls bs)
theorem bools_repr {bs : List Bool} (hl : bs.length ≤ 60) : (PyData.list (bs.map PyData.bool)).showable = true ∧ (PyData.list (bs.map PyData.bool)).hasDict = false ∧ (PyData.list (bs.map PyData.bool)).depth ≤ 60 ∧ (PyData.list (bs.map PyData.bool)).shown.length ≤ sizeLine := by
  refine repr_ok (M := 0) (l := 60) (n := 1) (B := 1000) ⟨?_, ?_, ?_, ?_⟩ (by decide) (by decide) (by decide)
  · simp only [leaf]
    exact leafAll_iff.mpr fun d hd => by obtain ⟨b, _, rfl⟩ := List.mem_map.mp hd; rfl
  · simp only [lens, Bool.and_eq_true, decide_eq_true_eq]
    exact ⟨by rw [List.length_map]; exact hl, lensAll_iff.mpr fun d hd => by obtain ⟨b, _, rfl⟩ := List.mem_map.mp hd; rfl⟩
  · exact depth_list.mpr fun d hd => by obtain ⟨b, _, rfl⟩ := List.mem_map.mp hd; simp [PyData.depth]
  · have := wtAll_le (B := 5) (ds := bs.map PyData.bool) fun d hd => by obtain ⟨b, _, rfl⟩ := List.mem_map.mp hd; exact Nat.le_refl _
    rw [List.length_map] at this
    simp only [wt]
    omega
section
variable {P : Program} {w : World} {K : PySem.W.Frag} {mg : Str → Option Value} {base : Heap}
def spBeside (K : PySem.W.Frag) : Sp := fun vs H Q _ => ∃ (vc : V) (nm : Str) (es : List Ge) (rs : List (Str × List Ge)), vs = [vc] ∧ Dp K H vc (codeD ((nm, es) :: rs)) ∧ ∀ v H', Same H H' → Dp K H' v (codeD [("main", [.back]), ("sub", es)]) → Q v H'
abbrev N21 : List Str := ["_law_row", "_law_meet", "_law_ring", "_law_cases", "_law_ends", "_law_block", "_law_due", "_law_code", "_law_end", "_law_other", "_law_under", "_law_told", "_law_over_here"]
def spHand : Sp := fun vs H Q _ => vs = [] ∧ ∀ H', Same H H' → Q (.bl true) H'
end
end Sw
set_option maxRecDepth 100000
set_option maxHeartbeats 4000000
namespace Sw
open PySem PySem.Spec PyProof.Rows L2
/-- f(), f's promise kept where no repr is under way -/
theorem pe_callG0 {X : Cx} {k : Nat} {f : Addr} {fd : FuncData} {sp : Sp} {x : Str} {p pos : Pos} {E : XK} (hG : X.A.guards = some []) (F : FnG X.prog X.w X.K X.mg X.base k f fd [] sp) (hr : Room k X.A) (hg : Gl X x) (hm : X.mg x = some (.ref f)) (hk : PySem.W.keepIn X.K (.ref f) = true) (hb : Binds X.K fd [] []) (hx : Passes CX0 X E)
    (hdb : (x == ("__debug__" : Str)) = false := by decide) : PE X (.Call (.Name x p) [] [] pos) (tCall sp [] E tNil) := by
  refine ⟨fun pins s σ H Q I h => ?_⟩
  refine wpAny_Call_Name_kw (ld_glob I hg hm ?_ hdb)
  refine PySem.W.callWith_K0 I.kIn hk (wpAny_call (codeAny_mono (F.goes X.A X.stack s H ⟨[], []⟩ [] [] Q E hG hr I.env0 (hb s [] I.kIn rfl) .nil h) fun r s' hq => ?_))
  cases r with
  | error e => exact hx pins σ H s e s' I hq
  | ok fl =>
    cases fl with
    | ret u => exact I.after hq
    | next => exact False.elim hq
    | brk => exact False.elim hq
    | cont => exact False.elim hq
section
variable {P : Program} {w : World} {K : PySem.W.Frag} {mg : Str → Option Value} {base : Heap}
def spFeedG (K : PySem.W.Frag) : Sp := fun vs H Q _ => ∃ (a : Addr) (ns : List Int), vs = [.ref a] ∧ SqL K H a (ns.map V.int) ∧ ns.length ≤ 63 ∧
  ∀ (p fq : Addr) (H' : Hp), Same H H' → H p = none → FeedAt H' p fq 0 → Q (.ref p) H'
theorem sc_feedG : FnScope ["_law_script"] ["_law_script"] (defScope (topS 19)) := ⟨rfl, rfl, rfl, by decide +kernel, rfl, by decide +kernel, by decide +kernel⟩
theorem cut_intsG (ns : List Int) (lo hi : Option Int) : ∃ ms : List Int, cutV (ns.map V.int) lo hi = ms.map V.int ∧ ms.length ≤ ns.length := by
  refine ⟨(ns.drop (HT.sIx ns.length 0 lo)).take (HT.sIx ns.length ns.length hi - HT.sIx ns.length 0 lo), ?_, ?_⟩
  · unfold cutV
    rw [List.length_map, List.map_take, List.map_drop]
  · rw [List.length_take, List.length_drop]
    omega
theorem ok_feedG {f : Addr} {fd : FuncData} (D : Df K mg "_law_feed" (topS 19) ["_law_script"] f fd) : FnOk P w K mg base CX0 1 f fd ["_law_script"] (spFeedG K) := by
  refine D.fn.ok sc_feedG (fun vs H Q E h => ?_) (fun cdv A outer s H vs Q E hr h => ?_)
  · obtain ⟨a, ns, rfl, _⟩ := h
    rfl
  obtain ⟨a, ns, rfl, hS, hn, q⟩ := h
  refine ⟨_, pss_one (ps_ret (pe_lst (pa_cons (pe_slice sl_list (pv 0) po_none (po_some pe_int)) (pa_cons pe_int (pa_cons pe_int (pa_cons pe_int pa_nil)))))), ?_⟩
  obtain ⟨ms, e, hm⟩ := cut_intsG ns none (some 63)
  refine ⟨_, rfl, 63, rfl, a, _, rfl, hS, fun c hc => ⟨by show 4 ≤ sizeLine; decide, fun p hp => ?_⟩⟩
  have s1 := same_new (o := .lst (cutV (ns.map V.int) none (some 63))) hc
  have s2 := same_new (o := .lst [.ref c, .int 0, .int 0, .int 0]) hp
  have hcp : c ≠ p := fun z => by rw [z] at hp; rw [upd_same] at hp; cases hp
  refine q p c _ (s1.trans s2) ?_ ⟨ms, 0, 0, 0, upd_same, ?_, Ne.symm hcp, by decide, by decide, by decide, by decide, by omega⟩
  · rw [upd_ne (Ne.symm hcp)] at hp
    exact hp
  · rw [upd_ne hcp, upd_same, e]
abbrev N22 : List Str := ["_law_script", "_law_feed_here", "_law_turn", "_law_code", "_law_kept"]
def spLaw (K : PySem.W.Frag) : Sp := fun vs H Q _ => ∃ (a : Addr) (ns : List Int), vs = [.ref a] ∧ SqL K H a (ns.map V.int) ∧ ns.length ≤ 63 ∧ ∀ H', Q (.bl true) H'
end
end Sw
set_option maxRecDepth 100000
set_option maxHeartbeats 4000000
namespace Sw
open PySem PySem.Spec PyProof.Rows L2
/-- ways without o, the last one first -/
inductive PW (es : List Ge) (o : Int) : List Int → Prop
  | one : o ≠ 0 → PW es o [0]
  | cons {g b : Int} {w : List Int} : PW es o (b :: w) → g ∈ arr es b → g ≠ o → PW es o (g :: b :: w)
theorem PW.rng {es : List Ge} (hg : Gok es) {o : Int} {r : List Int} (h : PW es o r) : ∀ k ∈ r, 0 ≤ k ∧ k < (es.length : Int) := by
  induction h with
  | one _ =>
    intro k hk
    have : k = 0 := by simpa using hk
    have := hg.pos
    omega
  | cons _ ha _ ih =>
    intro k hk
    rcases List.mem_cons.mp hk with rfl | hk
    · exact arr_rng hg ha
    · exact ih k hk
theorem PW.ne {es : List Ge} {o : Int} {r : List Int} (h : PW es o r) : ∀ k ∈ r, k ≠ o := by
  induction h with
  | one h0 =>
    intro k hk
    have : k = 0 := by simpa using hk
    rw [this]; exact fun z => h0 z.symm
  | cons _ _ hn ih =>
    intro k hk
    rcases List.mem_cons.mp hk with rfl | hk
    · exact hn
    · exact ih k hk
/-- the same from the first on -/
structure FW (es : List Ge) (o u : Int) (ns : List Int) : Prop where
  z : ns[0]? = some 0
  st : ∀ (i : Nat) a b, ns[i]? = some a → ns[i + 1]? = some b → b ∈ arr es a
  ne : ∀ k ∈ ns, k ≠ o
  rg : ∀ k ∈ ns, 0 ≤ k ∧ k < (es.length : Int)
  la : ∃ xs, ns = xs ++ [u]
  few : ns.length ≤ 60
theorem PW.fw {es : List Ge} (hg : Gok es) {o u : Int} {r : List Int} (h : PW es o r) (hu : r.head? = some u) (hl : r.length ≤ 60) : FW es o u r.reverse := by
  have key : ∀ {r : List Int}, PW es o r → r.reverse[0]? = some 0 ∧ ∀ (i : Nat) a b, r.reverse[i]? = some a → r.reverse[i + 1]? = some b → b ∈ arr es a := by
    intro r h
    induction h with
    | one _ => exact ⟨rfl, fun i a b _ h2 => by simp at h2⟩
    | @cons g b w h1 ha hn ih =>
      have e : (g :: b :: w).reverse = (b :: w).reverse ++ [g] := List.reverse_cons
      rw [e]
      have hp : 0 < (b :: w).reverse.length := by simp
      refine ⟨by rw [List.getElem?_append_left hp]; exact ih.1, fun i x y h2 h3 => ?_⟩
      by_cases hi : i + 1 < (b :: w).reverse.length
      · rw [List.getElem?_append_left (by omega)] at h2
        rw [List.getElem?_append_left hi] at h3
        exact ih.2 i x y h2 h3
      · have hl := (List.getElem?_eq_some_iff.mp h3).1
        rw [List.length_append, List.length_singleton] at hl
        have ei : i + 1 = (b :: w).reverse.length := by omega
        rw [List.getElem?_append_right (by omega), show i + 1 - (b :: w).reverse.length = 0 by omega] at h3
        have ey : g = y := by simpa using h3
        rw [List.getElem?_append_left (by omega), List.reverse_cons, List.getElem?_append_right (by rw [List.length_reverse] at *; simp at ei; omega)] at h2
        have ex : b = x := by
          rw [show i - w.reverse.length = 0 by simp at ei ⊢; omega] at h2
          simpa using h2
        subst ex ey
        exact ha
  obtain ⟨k1, k2⟩ := key h
  refine ⟨k1, k2, fun k hk => h.ne k (by simpa using hk), fun k hk => h.rng hg k (by simpa using hk), ?_, by rw [List.length_reverse]; exact hl⟩
  cases r with
  | nil => cases hu
  | cons b w =>
    have : b = u := by simpa using hu
    subst this
    exact ⟨w.reverse, List.reverse_cons⟩
/-! ### what led_around tells of the block ahead -/
theorem Led.at {es : List Ge} {ov : Option Int} {L : List (Int × Option Int)} (h : Led es ov L) : ∀ (i : Nat) k p, L[i]? = some (k, p) → (k = 0 ∧ p = none) ∨ ∃ b j, p = some b ∧ j < i ∧ (∃ q, L[j]? = some (b, q)) ∧ k ∈ arr es b := by
  induction h with
  | one _ =>
    intro i k p e
    cases i with
    | zero => simp at e; exact .inl ⟨e.1.symm, e.2.symm⟩
    | succ i => simp at e
  | @snoc L b g hL hb hg hn ho ih =>
    intro i k p e
    by_cases hi : i < L.length
    · rw [List.getElem?_append_left hi] at e
      rcases ih i k p e with h1 | ⟨b', j, h1, h2, ⟨q, h3⟩, h4⟩
      · exact .inl h1
      · exact .inr ⟨b', j, h1, h2, ⟨q, by rw [List.getElem?_append_left (by omega)]; exact h3⟩, h4⟩
    · have hl := (List.getElem?_eq_some_iff.mp e).1
      rw [List.length_append, List.length_singleton] at hl
      have ei : i = L.length := by omega
      rw [List.getElem?_append_right (by omega), show i - L.length = 0 by omega] at e
      have e' : (g, some b) = (k, p) := by simpa using e
      cases e'
      obtain ⟨x, hx, hxb⟩ := List.mem_map.mp hb
      obtain ⟨j, hj, hxj⟩ := List.getElem_of_mem hx
      refine .inr ⟨b, j, rfl, by omega, ⟨x.2, ?_⟩, hg⟩
      rw [List.getElem?_append_left hj, List.getElem?_eq_getElem hj, hxj, ← hxb]
theorem dkv_get : ∀ {L : List (Int × Option Int)} {i : Nat} {k : Int} {p : Option Int}, (L.map (·.1)).Nodup → L[i]? = some (k, p) → valV (dkv L) (Sum.inl k) = some (optV p)
  | [], _, _, _, _, e => by simp at e
  | x :: L, 0, k, p, _, e => by
    have : x = (k, p) := by simpa using e
    subst this
    exact valV_pos (p := (Sum.inl k, optV p)) rfl
  | x :: L, i + 1, k, p, nd, e => by
    rw [List.map_cons, List.nodup_cons] at nd
    have e' : L[i]? = some (k, p) := by simpa using e
    have hk : k ∈ L.map (·.1) := List.mem_map.mpr ⟨(k, p), List.mem_of_getElem? e', rfl⟩
    show valV ((Sum.inl x.1, optV x.2) :: dkv L) (Sum.inl k) = _
    rw [valV_neg (fun z => nd.1 (by injection z with z; rw [z]; exact hk))]
    exact dkv_get nd.2 e'
section
variable {P : Program} {w : World} {K : PySem.W.Frag} {mg : Str → Option Value} {base : Heap}
def spAround (K : PySem.W.Frag) : Sp := fun vs H Q _ => ∃ (vc : V) (nm : Str) (o u : Int) (es : List Ge), vs = [vc, .str nm, .int o, .int u] ∧ CodeOf K H vc nm es ∧ (¬ Rch es (some o) u → ∀ H', Same H H' → Q .non H') ∧
  (Rch es (some o) u → ∀ (t : Addr) (H' : Hp) (ns : List Int), Same H H' → H' t = some (.tup (ns.map V.int)) → FW es o u ns → Q (.ref t) H')
/-- all to which one comes without o, rising -/
structure FN (es : List Ge) (o : Int) (ns : List Int) : Prop where
  ris : ns.Pairwise (· < ·)
  mem : ∀ k, k ∈ ns ↔ Rch es (some o) k
theorem rising_of {ns : List Int} (h1 : ns.Pairwise (· ≤ ·)) (h2 : ns.Nodup) : ns.Pairwise (· < ·) := by
  have := h1.and h2
  exact this.imp fun h => by have := h.1; have := h.2; omega
def spFence (K : PySem.W.Frag) : Sp := fun vs H Q _ => ∃ (vc : V) (nm : Str) (o u : Int) (es : List Ge), vs = [vc, .str nm, .int o, .int u] ∧ CodeOf K H vc nm es ∧ (Rch es (some o) u → ∀ H', Same H H' → Q .non H') ∧
  (¬ Rch es (some o) u → ∀ (t : Addr) (H' : Hp) (ns : List Int), Same H H' → H' t = some (.tup (ns.map V.int)) → FN es o ns → Q (.ref t) H')
/-- a tuple of numbers -/
def spNums (K : PySem.W.Frag) : Sp := fun vs H Q _ => ∃ (t : Addr) (ns : List Int), vs = [.ref t] ∧ SqT K H t (ns.map V.int) ∧ ns.length ≤ 60 ∧ ∀ H', Same H H' → Q (.bl true) H'
theorem sc_nums : FnScope ["thing", "part"] ["thing"] (defScope (topS 15)) := ⟨rfl, rfl, rfl, by decide +kernel, rfl, by decide +kernel, by decide +kernel⟩
theorem ok_nums {f f1 : Addr} {fd fd1 : FuncData} (D : Df K mg "is_numbers" (topS 15) ["thing"] f fd) (D1 : Df K mg "is_number" (topS 8) ["thing"] f1 fd1) (B : Bt mg)
    (G1 : FnOk P w K mg base CX0 1 f1 fd1 ["thing"] (spLook K dNum)) : FnOk P w K mg base CX0 2 f fd ["thing"] (spNums K) := by
  refine D.fn.ok sc_nums (fun vs H Q E h => ?_) (fun cdv A outer s H vs Q E hr h => ?_)
  · obtain ⟨t, ns, rfl, _⟩ := h
    rfl
  obtain ⟨t, ns, rfl, ht, hl, q⟩ := h
  have nd := sc_nums.nd
  refine ⟨_, (pss_one (ps_ret (pe_and (pe_callB (r := rIsi K) call_isi (by rfl) B.isi (by decide +kernel) (pa_cons (pv 0) (pa_cons (pe_bltn (v := .ty "tuple") (by rfl) B.tuple (by decide +kernel) rfl) pa_nil))) (pe_one (pe_callB (cr_all rfl) (by rfl) B.all (by decide +kernel) (pa_cons (pe_lc (own := [("part", 1)]) (g := gName 1) (tt := tYes) (te := tCall (spLook K dNum) [] E0 (tCons (tVar 1) tNil)) rfl nd (pi_tup (pv 0)) (blkOk_by (N := ["thing", "part"]) (sc := defScope (topS 15)) (by decide +kernel)) (fun _ _ _ _ _ => pg_name (i := 1) nd rfl (Or.inl rfl)) (fun _ _ _ _ _ => pts_nil) (fun _ _ _ _ _ => (pe_call G1 hr (by rfl) D1.gl D1.fn.kp D1.bd .nil pass0 (pa_cons (pv 1) pa_nil)))) pa_nil)))))), ?_⟩
  have hd : Dp K H (.ref t) (.tuple (ns.map PyData.int)) := .tup ht (DpAll_ints ns)
  obtain ⟨t1, ty1, k1⟩ := isa_tup hd
  refine ⟨_, rfl, .ref t, .ty "tuple", t1, _, _, rfl, .ty _, ty1, k1, _, rfl, iteT ?_⟩
  refine ⟨_, rfl, t, rfl, ⟨_, ht⟩, fun L hL => ?_⟩
  refine lc_map (walk_tup (xs := ns.map V.int)) (fun i => V.bl true) hL (fun _ h => sameT h ht) (big_size (by rw [List.length_map]; omega)) ?_ ?_
  · intro i x H1 Q1 hi hx s1 q1'
    rw [List.length_map] at hi
    rw [List.getElem?_map, List.getElem?_eq_getElem hi] at hx
    have hx' : V.int ns[i] = x := Option.some.inj hx
    subst hx'
    exact ⟨_, rfl, _, .int ns[i], rfl, .int _, ⟨ns[i].natAbs, by simp only [leaf, decide_eq_true_eq]; exact Nat.le_refl _, rfl, by simp [PyData.depth], by simp [wt]⟩, fun H2 s2 => q1' H2 s2⟩
  · intro H1 s1 hL1
    refine ⟨L, (List.range (ns.map V.int).length).map (fun _ => true), rfl, SqL.of (by rw [hL1, List.map_map]; rfl), ?_⟩
    rw [show ((List.range (ns.map V.int).length).map (fun _ => true)).all id = true by simp]
    exact q H1 s1
end
end Sw
set_option maxRecDepth 100000
set_option maxHeartbeats 4000000
namespace Sw
open PySem PySem.Spec PyProof.Rows L2
theorem walk_zipT {K : PySem.W.Frag} {a b : Addr} {xs ys : List V} (hl : ys.length ≤ xs.length) : Walk (RZ.ItzT K a b) ys.length (fun H => SqT K H a xs ∧ SqT K H b ys) (fun i H v H' => ∃ T x y, v = .ref T ∧ H T = none ∧ H' = upd H T (.tup [x, y]) ∧ xs[i]? = some x ∧ ys[i]? = some y) :=
  ⟨fun i _ hi q => ⟨xs, ys, xs[i], ys[i], q.1, q.2, List.getElem?_eq_getElem (by omega), List.getElem?_eq_getElem hi⟩, fun _ q => ⟨xs, ys, q.1, q.2, .inr (Nat.le_refl _)⟩,
    fun i H v H' _ q ⟨T, x, y, e1, e2, e3, e4, e5⟩ => ⟨T, x, y, e1, e2, e3, e4 xs q.1, e5 ys q.2⟩⟩
theorem last_ix {xs : List Int} {u : Int} : atI ((xs ++ [u]).map V.int) (-1) = some (V.int u) := by
  rw [List.map_append]
  exact atI_last _ _
section
variable {P : Program} {w : World} {K : PySem.W.Frag} {mg : Str → Option Value} {base : Heap}
def spLetsA (K : PySem.W.Frag) : Sp := fun vs H Q _ => ∃ (vc : V) (nm : Str) (o u : Int) (t : Addr) (es : List Ge) (ns : List Int), vs = [vc, .str nm, .int o, .int u, .ref t] ∧ CodeOf K H vc nm es ∧ SqT K H t (ns.map V.int) ∧ FW es o u ns ∧ ∀ H', Same H H' → Q (.bl true) H'
abbrev NRB : List Str := ["code", "name", "thing", "one", "other"]
def spRisB (K : PySem.W.Frag) : Sp := fun vs H Q _ => ∃ (vc : V) (nm : Str) (t : Addr) (es : List Ge) (ns : List Int), vs = [vc, .str nm, .ref t] ∧ CodeOf K H vc nm es ∧ SqT K H t (ns.map V.int) ∧ ns.Pairwise (· < ·) ∧ (∀ k ∈ ns, 0 ≤ k ∧ k < (es.length : Int)) ∧ ∀ H', Same H H' → Q (.bl true) H'
theorem sc_risB : FnScope NRB ["code", "name", "thing"] (defScope (topS 16)) := ⟨rfl, rfl, rfl, by decide +kernel, rfl, by decide +kernel, by decide +kernel⟩
theorem ok_risB {f f1 f2 : Addr} {fd fd1 fd2 : FuncData} (D : Df K mg "is_rising_blocks" (topS 16) ["code", "name", "thing"] f fd) (D1 : Df K mg "is_numbers" (topS 15) ["thing"] f1 fd1) (D2 : Df K mg "blocks_of" (topS 10) ["code", "name"] f2 fd2) (B : Bt mg)
    (G1 : FnOk P w K mg base CX0 2 f1 fd1 ["thing"] (spNums K)) (G2 : FnOk P w K mg base CX0 1 f2 fd2 ["code", "name"] (spBlocks K)) : FnOk P w K mg base CX0 3 f fd ["code", "name", "thing"] (spRisB K) := by
  refine D.fn.ok sc_risB (fun vs H Q E h => ?_) (fun cdv A outer s H vs Q E hr h => ?_)
  · obtain ⟨vc, nm, t, es, ns, rfl, _⟩ := h
    rfl
  obtain ⟨vc, nm, t, es, ns, rfl, hc, ht, ris, rg, q⟩ := h
  have nd := sc_risB.nd
  refine ⟨_, (pss_cons (ps_if (PW.pt (pw_or (pt_not (pt_val (pe_call G1 (hr.mono (by decide)) (by rfl) D1.gl D1.fn.kp D1.bd .nil pass0 (pa_cons (pv 2) pa_nil)))) (pw_or1 (pt_not (pt_val (pe_callB (cr_all rfl) (by rfl) B.all (by decide +kernel) (pa_cons (pe_lc (own := [("one", 3), ("other", 4)]) (g := gTup K 2 (gCons (gName 3) (gCons (gName 4) gNil))) (tt := tYes) rfl nd (RZ.pi_zipA (by rfl) B.zip (pa_cons (pv 2) (pa_cons (pe_slice sl_tupA (pv 2) (po_some pe_int) po_none) pa_nil))) (blkOk_by (N := NRB) (sc := defScope (topS 16)) (by decide +kernel)) (fun _ _ _ _ _ => pg_tup rfl (pgs_cons (pg_name (i := 3) nd rfl (Or.inl rfl)) (pgs_cons (pg_name (i := 4) nd rfl (Or.inl rfl)) pgs_nil))) (fun _ _ _ _ _ => pts_nil) (fun _ _ _ _ _ => pe_cmpR op_lt (pv 3) (pv 4) (nomark _))) pa_nil))))))) pss_never pss_nil)
    (pss_one (ps_ret (pe_or (pe_notT (pv 2)) (pe_one (pe_and (pe_cmpR op_ge (pe_ix (r := rIxT K) ix_tup (pv 2) pe_int (fun _ _ => rfl)) pe_int (nomark _)) (pe_one (pe_cmpR op_lt (pe_ix (r := rIxT K) ix_tup (pv 2) (pe_un un_neg pe_int) (fun _ _ => rfl)) (pe_callB call_len_seq (by rfl) B.len PySem.boot_len (pa_cons (pe_call G2 (hr.mono (by decide)) (by rfl) D2.gl D2.fn.kp D2.bd .nil pass0 (pa_cons (pv 0) (pa_cons (pv 1) pa_nil))) pa_nil)) (nomark _))))))))), ?_⟩
  have few := hc.ok.few
  have nl : ns.length ≤ 60 := Nat.le_trans (few_ints es.length (ris.imp fun h => by omega) rg) few
  refine ⟨_, rfl, t, ns, rfl, ht, nl, fun H1 s1 => ⟨_, rfl, ?_⟩⟩
  refine iteF ?_
  have ht1 := sameT s1 ht
  have key : ∀ (b : Addr) (H2 : Hp) (Qz : VK), Same H1 H2 → SqT K H2 b (ns.tail.map V.int) → (∀ H', Same H1 H' → ∀ L bs, H' L = some (.lst bs) → bs = List.replicate ns.tail.length (V.bl true) → Qz (.ref L) H') → True := fun _ _ _ _ _ _ => trivial
  clear key
  have tl : ns.tail.length ≤ ns.length := by rw [List.length_tail]; omega
  have lts : ∀ (i : Nat) x y, ns[i]? = some x → ns.tail[i]? = some y → x < y := fun i x y h1 h2 => by
    obtain ⟨hi, e1⟩ := List.getElem?_eq_some_iff.mp h1
    rw [List.getElem?_tail] at h2
    obtain ⟨hj, e2⟩ := List.getElem?_eq_some_iff.mp h2
    have := List.pairwise_iff_getElem.mp ris i (i + 1) hi hj (by omega)
    rw [e1, e2] at this
    exact this
  have fin : ∀ H3, Same H H3 → ∀ {Qf : VK}, (∀ H', Same H H' → Qf (.bl true) H') → True := fun _ _ _ _ => trivial
  clear fin
  refine ⟨_, rfl, _, rfl, 1, rfl, t, _, rfl, ht1, fun z => ?_, fun z p hp => ?_⟩
  · have hn0 : ns = [] := by
      cases ns with
      | nil => rfl
      | cons n rest =>
        have h1 := z.1
        simp [HT.sIx] at h1
    subst hn0
    refine ⟨t, t, [], [], rfl, .inr ⟨ht1, ht1, fun D hD => ?_⟩⟩
    refine lc_it (walk_zipT (Nat.le_refl _)) (fun j H' => Same H1 H' ∧ H' D = some (.lst [])) ⟨same_new hD, upd_same⟩ (fun j H' _ h => ⟨sameT h.1 ht1, sameT h.1 ht1⟩) (fun i x H3 H4 hi => by cases hi) ?_
    rintro H3 ⟨s3, d3⟩
    refine ⟨D, [], rfl, SqL.of d3, _, rfl, ?_⟩
    refine iteF ?_
    refine ⟨_, rfl, false, .inr (.inl ⟨_, sameT s3 ht1, rfl⟩), _, rfl, iteT ?_⟩
    exact q H3 (s1.trans s3)
  · obtain ⟨n, rest, rfl⟩ : ∃ n rest, ns = n :: rest := by
      cases ns with
      | nil => exact absurd ⟨rfl, rfl⟩ z
      | cons n rest => exact ⟨n, rest, rfl⟩
    have s2 := same_new (o := .tup (cutV ((n :: rest).map V.int) (some 1) none)) hp
    have e2 : upd H1 p (.tup (cutV ((n :: rest).map V.int) (some 1) none)) p = some (.tup (rest.map V.int)) := by
      rw [upd_same]
      congr 2
      unfold cutV
      rw [show HT.sIx ((n :: rest).map V.int).length 0 (some 1) = 1 by simp [HT.sIx], show HT.sIx ((n :: rest).map V.int).length ((n :: rest).map V.int).length none = ((n :: rest).map V.int).length by simp [HT.sIx]]
      simp
      rw [List.take_of_length_le (by rw [List.length_map]; exact Nat.le_refl _)]
    generalize upd H1 p (.tup (cutV ((n :: rest).map V.int) (some 1) none)) = H2 at s2 e2
    have ht2 := sameT s2 ht1
    refine ⟨t, p, _, _, rfl, .inr ⟨ht2, SqT.of e2, fun D hD => ?_⟩⟩
    refine lc_it (walk_zipT (xs := (n :: rest).map V.int) (ys := rest.map V.int) (by rw [List.length_map, List.length_map, List.length_cons]; omega)) (fun j H' => Same H2 H' ∧ H' D = some (.lst (List.replicate j (V.bl true)))) ⟨same_new hD, upd_same⟩ (fun j H' _ h => ⟨sameT h.1 ht2, SqT.of (h.1 _ _ e2)⟩) ?_ ?_
    · rintro i x H3 H4 hi ⟨s3, d3⟩ ⟨T, x1, y1, rfl, hT, rfl, hx1, hy1⟩
      rw [List.getElem?_map] at hx1 hy1
      obtain ⟨a, ha, rfl⟩ := Option.map_eq_some_iff.mp hx1
      obtain ⟨b, hb, rfl⟩ := Option.map_eq_some_iff.mp hy1
      have sT := same_new (o := .tup [V.int a, V.int b]) hT
      refine ⟨T, _, rfl, SqT.of upd_same, rfl, _, _, rfl, _, _, rfl, rfl, rfl, ?_⟩
      unfold tYes
      dsimp only
      rw [if_pos rfl]
      refine ⟨_, rfl, _, rfl, _, _, rfl, rfl, _, sT _ _ d3, ?_, fun c o e => ?_, ?_⟩
      · rw [List.length_replicate, sizeLine_eq]
        rw [List.length_map] at hi
        rw [List.length_cons] at nl
        omega
      · rw [upd_ne (ne_of_none e hD)]
        exact sT _ _ (s3 _ _ e)
      · rw [upd_same]
        show some (HO.lst (List.replicate i (V.bl true) ++ [V.bl (decide (a < b))])) = _
        rw [decide_eq_true (lts i a b ha hb), List.replicate_succ']
    · rintro H3 ⟨s3, d3⟩
      have s03 := s1.trans (s2.trans s3)
      refine ⟨D, List.replicate (rest.map V.int).length true, rfl, SqL.of (by rw [d3, List.map_replicate]), _, rfl, ?_⟩
      rw [show (List.replicate (rest.map V.int).length true).all id = true by simp]
      refine iteF ?_
      have ht3 := sameT s03 ht
      refine ⟨_, rfl, true, .inr (.inl ⟨_, ht3, rfl⟩), _, rfl, iteF ?_⟩
      obtain ⟨r0, _⟩ := rg n List.mem_cons_self
      refine ⟨_, rfl, t, _, 0, _, rfl, rfl, ht3, atI_nat (j := 0) rfl, _, _, rfl, rfl, _, rfl, ?_⟩
      rw [decide_eq_true (show (0 : Int) ≤ n from r0)]
      refine iteT ?_
      obtain ⟨xs, l, hl⟩ : ∃ xs l, (n :: rest) = xs ++ [l] := ⟨(n :: rest).dropLast, (n :: rest).getLast (by simp), (List.dropLast_concat_getLast _).symm⟩
      have lm : l ∈ n :: rest := by rw [hl]; simp
      obtain ⟨_, l1⟩ := rg l lm
      refine ⟨_, rfl, 1, rfl, t, _, -1, _, rfl, rfl, ht3, by rw [hl]; exact last_ix, ?_⟩
      obtain ⟨rs, hd1, hd2⟩ := (hc.same s03).ex
      refine ⟨_, rfl, _, rfl, vc, nm, rs, es, rfl, hd1, hd2, fun v hv => ?_⟩
      obtain ⟨a, bs, rfl, ha, hbs⟩ := Dp_tup hv
      have lb : bs.length = es.length := by rw [DpAll_len hbs, List.length_map]
      refine ⟨a, _, rfl, .inr ha, _, _, rfl, rfl, ?_⟩
      rw [lb]
      show Q (V.bl (decide (l < (es.length : Int)))) H3
      rw [decide_eq_true l1]
      exact q H3 s03
abbrev NLF : List Str := ["code", "name", "over", "under", "thing", "block", "goal"]
def spLetsF (K : PySem.W.Frag) : Sp := fun vs H Q _ => ∃ (vc : V) (nm : Str) (o u : Int) (t : Addr) (es : List Ge) (ns : List Int), vs = [vc, .str nm, .int o, .int u, .ref t] ∧ CodeOf K H vc nm es ∧ SqT K H t (ns.map V.int) ∧ FN es o ns ∧ ¬ Rch es (some o) u ∧ ∀ H', Same H H' → Q (.bl true) H'
theorem sc_letsF : FnScope NLF ["code", "name", "over", "under", "thing"] (defScope (topS 17)) := ⟨rfl, rfl, rfl, by decide +kernel, rfl, by decide +kernel, by decide +kernel⟩
theorem ok_letsF {f f1 f2 : Addr} {fd fd1 fd2 : FuncData} (D : Df K mg "lets_fence" (topS 17) ["code", "name", "over", "under", "thing"] f fd) (D1 : Df K mg "is_rising_blocks" (topS 16) ["code", "name", "thing"] f1 fd1) (D2 : Df K mg "nexts" (topS 13) ["code", "name", "block"] f2 fd2) (B : Bt mg)
    (G1 : FnOk P w K mg base CX0 3 f1 fd1 ["code", "name", "thing"] (spRisB K)) (G2 : FnOk P w K mg base CX0 2 f2 fd2 ["code", "name", "block"] (spNexts K)) : FnOk P w K mg base CX0 4 f fd ["code", "name", "over", "under", "thing"] (spLetsF K) := by
  refine D.fn.ok sc_letsF (fun vs H Q E h => ?_) (fun cdv A outer s H vs Q E hr h => ?_)
  · obtain ⟨vc, nm, o, u, t, es, ns, rfl, _⟩ := h
    rfl
  obtain ⟨vc, nm, o, u, t, es, ns, rfl, hc, ht, fn, hnu, q⟩ := h
  have nd := sc_letsF.nd
  refine ⟨_, (pss_cons (ps_if (pt_not (pt_val (pe_call G1 hr (by rfl) D1.gl D1.fn.kp D1.bd .nil pass0 (pa_cons (pv 0) (pa_cons (pv 1) (pa_cons (pv 4) pa_nil)))))) pss_never pss_nil)
    (pss_cons (ps_for PassesOwn.never rfl (pi_tup (pv 4)) (pg_name (i := 5) nd rfl (Or.inl rfl))
    (pss_one (ps_if (pt_cmpR (r := rIn K false) op_in_seq (pv 5) (pe_tup (pa_cons (pv 2) (pa_cons (pv 3) pa_nil))) (by with_unfolding_all rfl)) pss_never pss_nil)))
    (C8.pss_cut (ps_if (PW.pt (pw_and (pt_cmpR op_ne (pv 2) pe_int (nomark _)) (pw_and1 (pt_cmpR (r := rIn K true) op_notIn_seq pe_int (pv 4) (by with_unfolding_all rfl))))) pss_never pss_nil)
    (pss_cons (ps_for PassesOwn.never rfl (pi_tup (pv 4)) (pg_name (i := 5) nd rfl (Or.inl rfl))
    (pss_one (ps_if (pt_not (pt_val (pe_callB (cr_all rfl) (by rfl) B.all (by decide +kernel) (pa_cons (pe_lc (own := [("goal", 6)]) (g := gName 6) (tt := tYes) rfl nd (pi_tup (pe_call G2 (hr.mono (by decide)) (by rfl) D2.gl D2.fn.kp D2.bd .nil pass0 (pa_cons (pv 0) (pa_cons (pv 1) (pa_cons (pv 5) pa_nil))))) (blkOk_by (N := NLF) (sc := defScope (topS 17)) (by decide +kernel)) (fun _ _ _ _ _ => pg_name (i := 6) nd rfl (Or.inl rfl)) (fun _ _ _ _ _ => pts_nil) (fun _ _ _ _ _ => (pe_or (pe_cmpR op_eq (pv 6) (pv 2) (nomark _)) (pe_one (pe_cmpR (r := rIn K false) op_in_seq (pv 6) (pv 4) (by with_unfolding_all rfl)))))) pa_nil)))) pss_never pss_nil)))
    (pss_one (ps_ret pe_bl)))))), ?_⟩
  have few := hc.ok.few
  refine ⟨_, rfl, _, rfl, _, rfl, vc, nm, t, es, ns, rfl, hc, ht, fn.ris, fun k hk => ((fn.mem k).mp hk).rng hc.ok, fun H1 s1 => ⟨_, rfl, ?_⟩⟩
  refine iteF ?_
  refine ⟨_, rfl, t, rfl, ⟨_, sameT s1 ht⟩, for_it (walk_tup (xs := ns.map V.int)) (fun i σ H' => ∃ (x5 : Option V), σ = [some vc, some (.str nm), some (.int o), some (.int u), some (.ref t), x5, none] ∧ Same H H') ⟨none, rfl, s1⟩ (fun i σ H' _ h => by obtain ⟨_, _, s'⟩ := h; exact sameT s' ht) ?_ ?_⟩
  · rintro i x σ H2 H3 hi ⟨x5, rfl, s2⟩ ⟨rfl, hx⟩
    rw [List.length_map] at hi
    rw [List.getElem?_map, List.getElem?_eq_getElem hi] at hx
    have hx' : V.int ns[i] = x := Option.some.inj hx
    subst hx'
    have hm := List.getElem_mem hi
    generalize ns[i] = b at hm
    have hr := (fn.mem b).mp hm
    refine ⟨_, rfl, _, rfl, _, rfl, by show 2 ≤ sizeLine; decide, fun T hT => ?_⟩
    refine ⟨T, _, rfl, .inr (SqT.of upd_same), rfl, rfl, _, rfl, ?_⟩
    have e : inV (V.int b) [V.int o, V.int u] = false := by
      have h1 : inV (V.int b) (([o, u] : List Int).map V.int) = false := by
        rw [inV_ints, decide_eq_false_iff_not]
        intro z
        simp only [List.mem_cons, List.not_mem_nil, or_false] at z
        rcases z with z | z
        · exact hr.ne (by rw [z])
        · exact hnu (z ▸ hr)
      exact h1
    rw [if_neg (by decide), e]
    exact iteF ⟨_, rfl, s2.trans (same_new hT)⟩
  · rintro σ H2 ⟨x5, rfl, s2⟩
    have ht2 := sameT s2 ht
    refine ⟨fun σ' H' => σ' = [some vc, some (.str nm), some (.int o), some (.int u), some (.ref t), x5, none] ∧ Same H H', ?_, ?_⟩
    · refine ⟨_, rfl, rfl, _, rfl, ?_⟩
      refine ite2 (fun c => ?_) (fun c => ?_)
      · have c' : o ≠ 0 := fun z => by rw [z] at c; simp at c
        refine ⟨_, rfl, t, _, rfl, .inr ht2, rfl, flat_ints _, _, rfl, ?_⟩
        rw [if_pos rfl, inV_ints, decide_eq_true ((fn.mem 0).mpr (.zero fun z => c' (Option.some.inj z)))]
        exact iteF ⟨rfl, s2⟩
      · exact iteF ⟨rfl, s2⟩
    rintro σ3 H3 ⟨rfl, s3⟩
    refine ⟨_, rfl, t, rfl, ⟨_, sameT s3 ht⟩, for_it (walk_tup (xs := ns.map V.int)) (fun i σ H' => ∃ (x5 : Option V), σ = [some vc, some (.str nm), some (.int o), some (.int u), some (.ref t), x5, none] ∧ Same H H') ⟨_, rfl, s3⟩ (fun i σ H' _ h => by obtain ⟨_, _, s'⟩ := h; exact sameT s' ht) ?_ ?_⟩
    · rintro i x σ H4 H5 hi ⟨x5, rfl, s4⟩ ⟨rfl, hx⟩
      rw [List.length_map] at hi
      rw [List.getElem?_map, List.getElem?_eq_getElem hi] at hx
      have hx' : V.int ns[i] = x := Option.some.inj hx
      subst hx'
      have hm := List.getElem_mem hi
      generalize ns[i] = b at hm
      have hr := (fn.mem b).mp hm
      obtain ⟨b0, b1⟩ := hr.rng hc.ok
      refine ⟨_, rfl, _, rfl, _, rfl, vc, nm, b, es, rfl, hc.same s4, b0, b1, fun g H6 s6 hg => ?_⟩
      have gl := goalsAt_len es b
      refine ⟨g, rfl, ⟨_, SqT.of hg⟩, fun L hL => ?_⟩
      refine lc_map (walk_tup (xs := (goalsAt es b).map V.int)) (fun i => V.bl true) hL (fun _ h => SqT.of (h _ _ hg)) (big_size (by rw [List.length_map]; omega)) ?_ ?_
      · intro j y H7 Q7 hj hy s7 q7
        rw [List.length_map] at hj
        rw [List.getElem?_map, List.getElem?_eq_getElem hj] at hy
        have hy' : V.int (goalsAt es b)[j] = y := Option.some.inj hy
        subst hy'
        have hgm := mem_goalsAt.mp (List.getElem_mem hj)
        generalize (goalsAt es b)[j] = k at hgm
        refine ⟨_, rfl, _, rfl, rfl, _, rfl, ?_⟩
        by_cases hko : k = o
        · rw [decide_eq_true (show V.int k = V.int o by rw [hko])]
          exact iteT (q7 H7 (Same.refl _))
        · rw [decide_eq_false (show ¬ V.int k = V.int o from fun z => hko (by injection z))]
          refine iteF ?_
          refine ⟨_, rfl, _, rfl, t, _, rfl, .inr (sameT (s4.trans (s6.trans s7)) ht), rfl, flat_ints _, ?_⟩
          rw [if_neg (by decide), inV_ints, decide_eq_true ((fn.mem k).mpr (.step hr hgm fun z => hko (Option.some.inj z).symm))]
          exact q7 H7 (Same.refl _)
      · intro H7 s7 hL7
        refine ⟨L, (List.range ((goalsAt es b).map V.int).length).map (fun _ => true), rfl, SqL.of (by rw [hL7, List.map_map]; rfl), _, rfl, ?_⟩
        rw [show ((List.range ((goalsAt es b).map V.int).length).map (fun _ => true)).all id = true by simp]
        exact iteF ⟨_, rfl, s4.trans (s6.trans s7)⟩
    · rintro σ H4 ⟨x5, rfl, s4⟩
      exact q H4 s4
end
end Sw
set_option maxRecDepth 100000
set_option maxHeartbeats 4000000
namespace Sw
open PySem PySem.Spec PyProof.Rows L2
theorem pe_never {X : Cx} {e : Expr} : PE X e (fun _ _ _ => False) := ⟨fun pins s σ H Q I h => h.elim⟩
abbrev toldD : PyData := .tuple [.str "told", .bool true]
theorem ints_fitT {ns : List Int} (hl : ns.length ≤ 60) : ∃ M, Fit M 60 1 20000 (.tuple (ns.map PyData.int)) := by
  refine ⟨(ns.map Int.natAbs).foldr max 0, (Fit.all (n := 0) (B := 250) (k := 60) (fun d hd => ?_) (by rw [List.length_map]; exact hl) (Nat.le_refl _)).mono (Nat.le_refl _) (Nat.le_refl _) (Nat.le_refl _) (by decide)⟩
  obtain ⟨k, hk, rfl⟩ := List.mem_map.mp hd
  refine ⟨?_, rfl, by simp [PyData.depth], Nat.le_refl _⟩
  simp only [leaf, decide_eq_true_eq]
  have : ∀ (l : List Int), k ∈ l → k.natAbs ≤ (l.map Int.natAbs).foldr max 0 := by
    intro l
    induction l with
    | nil => intro h; cases h
    | cons x l ih =>
      intro h
      rw [List.map_cons, List.foldr_cons]
      rcases List.mem_cons.mp h with rfl | h
      · exact Nat.le_max_left _ _
      · exact Nat.le_trans (ih h) (Nat.le_max_right _ _)
  exact this ns hk
theorem tup_shaped {ns : List Int} (hl : ns.length ≤ 60) : SeqAt.shaped (.tuple (ns.map PyData.int)) = true := by
  obtain ⟨M, h⟩ := ints_fitT hl
  exact h.shaped (by decide)
theorem none_kept {n : Nat} {f : Nat → V} : ((List.range n).filter (fun _ => false)).map f = [] := by
  rw [List.filter_eq_nil_iff.mpr (by simp)]
  rfl
theorem num_fit (k : Int) : ∃ M, Fit M 60 60 1000000 (.int k) := ⟨k.natAbs, by simp only [leaf, decide_eq_true_eq]; exact Nat.le_refl _, rfl, by simp [PyData.depth], by simp [wt]⟩
section
variable {P : Program} {w : World} {K : PySem.W.Frag} {mg : Str → Option Value} {base : Heap}
abbrev NAD : List Str := ["_law_arrows_here", "_law_over_here", "_law_under", "_law_thing", "_law_one", "_law_k"]
def spArd (K : PySem.W.Frag) : Sp := fun vs H Q _ => ∃ (F : Addr) (o u : Int) (t : Addr) (es : List Ge) (ns : List Int), vs = [.ref F, .int o, .int u, .ref t] ∧ ArrAt H F es ∧ Gok es ∧ SqT K H t (ns.map V.int) ∧ FW es o u ns ∧ ∀ v H', Same H H' → Dp K H' v toldD → Q v H'
abbrev NFD : List Str := ["_law_arrows_here", "_law_over_here", "_law_under", "_law_thing", "_law_one", "_law_block", "_law_inside", "_law_after"]
def spFnc (K : PySem.W.Frag) : Sp := fun vs H Q _ => ∃ (F : Addr) (o u : Int) (t : Addr) (es : List Ge) (ns : List Int), vs = [.ref F, .int o, .int u, .ref t] ∧ ArrAt H F es ∧ Gok es ∧ SqT K H t (ns.map V.int) ∧ FN es o ns ∧ ¬ Rch es (some o) u ∧ ∀ v H', Same H H' → Dp K H' v toldD → Q v H'
end
end Sw
set_option maxRecDepth 100000
set_option maxHeartbeats 4000000
namespace Sw
open PySem PySem.Spec PyProof.Rows L2
/-! ### NoPaper(word, at) -/
def clsB (s : Stmt) : List Stmt := match s with
  | .ClassDef _ _ _ b _ _ _ _ _ _ _ => b
  | _ => []
def mthS (i j : Nat) : Stmt := (clsB (topS i)).getD j (.Pass ⟨0, 0, 0, 0⟩)
/-- what the text says of the class -/
structure PapC (K : PySem.W.Frag) (mg : Str → Option Value) (C fI : Addr) : Prop where
  oex : OexC K C
  gC : mg "NoPaper" = some (.ref C)
  iC : PySem.W.findIn K (.ref C) "__init__" = some (some (.ref fI))
  tI : PySem.W.typeIn K (.ref fI) = some (.type "function")
  noW : PySem.W.findIn K (.ref C) "word" = some none
  noA : PySem.W.findIn K (.ref C) "at" = some none
section
variable {P : Program} {w : World} {K : PySem.W.Frag} {mg : Str → Option Value} {base : Heap}
def spInit (K : PySem.W.Frag) (C : Addr) : Sp := fun vs H Q _ => ∃ (a : Addr) (x y : V), vs = [.ref a, x, y] ∧ H a = some (exo a C none) ∧
  ∀ dx, H dx = none → dx ≠ a → Q .non (upd (upd (upd H dx (exd dx [("word", x)])) a (exo a C (some dx))) dx (exd dx [("at", y), ("word", x)]))
theorem sc_init : FnScope ["self", "word", "at"] ["self", "word", "at"] (defScope (mthS 3 0)) := ⟨rfl, rfl, rfl, by decide +kernel, rfl, by decide +kernel, by decide +kernel⟩
theorem ok_init {C fI : Addr} {fd : FuncData} (T : PapC K mg C fI) (F : Fun K "__init__" "NoPaper.__init__" (mthS 3 0) fI fd) : FnOk P w K mg base CX0 1 fI fd ["self", "word", "at"] (spInit K C) := by
  refine F.ok sc_init (fun vs H Q E h => ?_) (fun cdv A outer s H vs Q E hr h => ?_)
  · obtain ⟨a, x, y, rfl, _⟩ := h
    rfl
  obtain ⟨a, x, y, rfl, ha, q⟩ := h
  refine ⟨_, pss_cons (ps_ost (pv 0) (pv 1)) (pss_one (ps_ost (pv 0) (pv 2))), ?_⟩
  refine ⟨_, rfl, _, rfl, a, C, rfl, T.oex, T.noW, .inl ⟨ha, fun dx hdx ne => ?_⟩⟩
  refine ⟨_, rfl, _, rfl, a, C, rfl, T.oex, T.noA, .inr ⟨dx, _, upd_same, ?_, (by show 1 ≤ 900; decide), q dx hdx ne⟩⟩
  rw [upd_ne ne]
  exact upd_same
/-- a paper's refusal as it leaves -/
def papO (x y : V) : HO := .xd [("at", y), ("word", x)]
/-- NoPaper(x, y), made -/
theorem mk_pap {C : Addr} {ta : TA} {σ : L2.St} {H H1 : Hp} {x y : V} {Q : XK} (hta : ∀ Q' : List V → Hp → Prop, Q' [x, y] H1 → ta σ H Q') (q : ∀ d, H1 d = none → Q (.ref C) (some d) (upd H1 d (papO x y))) : tMkO C (spInit K C) [] ta σ H Q := by
  refine hta _ ⟨by show 2 ≤ 1000; decide, fun a ha => ⟨a, x, y, rfl, upd_same, fun dx hdx ne => ⟨rfl, dx, _, ?_, upd_same, ?_, ?_⟩⟩⟩
  · rw [upd_ne (Ne.symm ne)]
    exact upd_same
  · rw [upd_ne ne] at hdx
    exact hdx
  · rw [upd_ne ne] at hdx
    refine cast (congrArg _ ?_) (q dx hdx)
    funext b
    unfold papO
    by_cases h1 : b = dx
    · rw [h1, upd_same, upd_same]
    · rw [upd_ne h1, upd_ne h1]
      by_cases h2 : b = a
      · rw [h2, ha]
        exact (L2.del_same).symm
      · rw [L2.del_ne h2, upd_ne h1, upd_ne h2, upd_ne h1, upd_ne h2]
end
end Sw
set_option maxRecDepth 100000
set_option maxHeartbeats 4000000
namespace Sw
open PySem PySem.Spec PyProof.Rows L2
def dNums : PyData → Bool
  | .tuple ds => ds.all dNum
  | _ => false
def toI : PyData → Int
  | .int i => i
  | _ => 0
theorem nums_ints : ∀ {ds : List PyData}, ds.all dNum = true → ds = (ds.map toI).map PyData.int
  | [], _ => rfl
  | d :: ds, h => by
    rw [List.all_cons, Bool.and_eq_true] at h
    have e := nums_ints h.2
    rw [List.map_cons, List.map_cons, ← e]
    congr 1
    cases d with
    | int i => rfl
    | _ => cases h.1
theorem DpAll_ints_of {K : PySem.W.Frag} {H : Hp} : ∀ {ns : List Int} {xs : List V}, DpAll K H xs (ns.map PyData.int) → xs = ns.map V.int
  | [], [], _ => rfl
  | n :: ns, x :: xs, .cons h t => by
    rw [DpAll_ints_of t]
    cases h
    rfl
/-- each one below the next -/
def adj (ns : List Int) : List Bool := (ns.zip ns.tail).map fun p => decide (p.1 < p.2)
theorem adj_all : ∀ ns : List Int, (adj ns).all id = true ↔ ns.Pairwise (· < ·)
  | [] => by simp [adj]
  | [a] => by simp [adj]
  | a :: b :: r => by
    have ih := adj_all (b :: r)
    have e : adj (a :: b :: r) = decide (a < b) :: adj (b :: r) := rfl
    rw [e, List.all_cons, Bool.and_eq_true, ih, List.pairwise_cons (a := a)]
    constructor
    · rintro ⟨h1, h2⟩
      have h1' : a < b := by simpa using h1
      refine ⟨fun x hx => ?_, h2⟩
      rcases List.mem_cons.mp hx with rfl | hx
      · exact h1'
      · have := (List.pairwise_cons.mp h2).1 x hx
        omega
    · rintro ⟨h1, h2⟩
      exact ⟨by simpa using h1 b List.mem_cons_self, h2⟩
def dRis (n : Nat) : PyData → Bool
  | .tuple ds => ds.all dNum && (decide ((ds.map toI).Pairwise (· < ·)) && (ds.map toI).all fun k => decide (0 ≤ k) && decide (k < (n : Int)))
  | _ => false
theorem toI_ints (ns : List Int) : (ns.map PyData.int).map toI = ns := by
  rw [List.map_map]
  exact List.map_id' _
theorem ints_nums (ns : List Int) : (ns.map PyData.int).all dNum = true := by
  rw [List.all_map]
  exact List.all_eq_true.mpr fun _ _ => rfl
theorem dRis_ints (n : Nat) (ns : List Int) : dRis n (.tuple (ns.map PyData.int)) = (decide (ns.Pairwise (· < ·)) && ns.all fun k => decide (0 ≤ k) && decide (k < (n : Int))) := by
  show ((ns.map PyData.int).all dNum && (decide (((ns.map PyData.int).map toI).Pairwise (· < ·)) && ((ns.map PyData.int).map toI).all _)) = _
  rw [toI_ints, ints_nums, Bool.true_and]
/-- of a rising one the first and the last are enough -/
theorem ris_ends {n : Nat} {a l : Int} {r xs : List Int} (h : (a :: r).Pairwise (· < ·)) (e : a :: r = xs ++ [l]) : ((a :: r).all fun k => decide (0 ≤ k) && decide (k < (n : Int))) = (decide (0 ≤ a) && decide (l < (n : Int))) := by
  rw [Bool.eq_iff_iff, List.all_eq_true, Bool.and_eq_true, decide_eq_true_iff, decide_eq_true_iff]
  constructor
  · intro h1
    have h2 := h1 a List.mem_cons_self
    have h3 := h1 l (by rw [e]; simp)
    simp only [Bool.and_eq_true, decide_eq_true_eq] at h2 h3
    exact ⟨h2.1, h3.2⟩
  · rintro ⟨h1, h2⟩ k hk
    simp only [Bool.and_eq_true, decide_eq_true_eq]
    constructor
    · rcases List.mem_cons.mp hk with rfl | hk
      · exact h1
      · have := (List.pairwise_cons.mp h).1 k hk
        omega
    · rw [e] at h hk
      rcases List.mem_append.mp hk with hk | hk
      · have := (List.pairwise_append.mp h).2.2 k hk l (by simp)
        omega
      · have : k = l := by simpa using hk
        omega
theorem range_getD2' {α β : Type} (g : α → β) (d : α) : ∀ xs : List α, ((List.range xs.length).map fun i => g (xs.getD i d)) = xs.map g := by
  intro xs
  apply List.ext_getElem
  · simp
  · intro i h1 h2
    simp at h1
    simp [List.getD_eq_getElem?_getD, h1]
section
variable {P : Program} {w : World} {K : PySem.W.Frag} {mg : Str → Option Value} {base : Heap}
theorem ok_numsD {f f1 : Addr} {fd fd1 : FuncData} (D : Df K mg "is_numbers" (topS 15) ["thing"] f fd) (D1 : Df K mg "is_number" (topS 8) ["thing"] f1 fd1) (B : Bt mg)
    (G1 : FnOk P w K mg base CX0 1 f1 fd1 ["thing"] (spLook K dNum)) : FnOk P w K mg base CX0 2 f fd ["thing"] (spLook K dNums) := by
  refine D.fn.ok sc_nums (fun vs H Q E h => ?_) (fun cdv A outer s H vs Q E hr h => ?_)
  · obtain ⟨v, d, rfl, _⟩ := h
    rfl
  obtain ⟨v, d, rfl, hd, ⟨M, hf⟩, q⟩ := h
  have nd := sc_nums.nd
  refine ⟨_, (pss_one (ps_ret (pe_and (pe_callB (r := rIsi K) call_isi (by rfl) B.isi (by decide +kernel) (pa_cons (pv 0) (pa_cons (pe_bltn (v := .ty "tuple") (by rfl) B.tuple (by decide +kernel) rfl) pa_nil))) (pe_one (pe_callB (cr_all rfl) (by rfl) B.all (by decide +kernel) (pa_cons (pe_lc (own := [("part", 1)]) (g := gName 1) (tt := tYes) (te := tCall (spLook K dNum) [] E0 (tCons (tVar 1) tNil)) rfl nd (pi_tup (pv 0)) (blkOk_by (N := ["thing", "part"]) (sc := defScope (topS 15)) (by decide +kernel)) (fun _ _ _ _ _ => pg_name (i := 1) nd rfl (Or.inl rfl)) (fun _ _ _ _ _ => pts_nil) (fun _ _ _ _ _ => (pe_call G1 hr (by rfl) D1.gl D1.fn.kp D1.bd .nil pass0 (pa_cons (pv 1) pa_nil)))) pa_nil)))))), ?_⟩
  obtain ⟨t1, ty1, k1⟩ := isa_tup hd
  refine ⟨v, rfl, v, .ty "tuple", t1, _, _, rfl, .ty _, ty1, k1, _, rfl, ?_⟩
  cases hd with
  | @tup a xs ds hx hr0 =>
    have hlen := DpAll_len hr0
    obtain ⟨hl, _, _, hin⟩ := hf.inTup
    refine iteT ?_
    refine ⟨_, rfl, a, rfl, ⟨_, hx⟩, fun L hL => lc_map (walk_tup (xs := xs)) (fun i => V.bl (dNum (ds.getD i .none))) hL (fun _ h => sameT h hx) (big_size (by omega)) ?_ ?_⟩
    · intro i x H1 Q1 hi hxi hs q1
      obtain ⟨d, hdi, hdp⟩ := DpAll_get (DpAll_same hs hr0) hxi
      have e : ds.getD i .none = d := by simp [List.getD, hdi]
      rw [e] at q1
      exact ⟨x, rfl, x, d, rfl, hdp, ⟨M, (hin d (List.mem_of_getElem? hdi)).mono (Nat.le_refl _) (Nat.le_refl _) (by omega) (Nat.le_refl _)⟩, q1⟩
    · intro H1 s1 hL1
      rw [hlen, range_getD2' (fun d => V.bl (dNum d)) PyData.none ds, show (ds.map fun d => V.bl (dNum d)) = (ds.map dNum).map V.bl by rw [List.map_map]; rfl] at hL1
      refine ⟨L, ds.map dNum, rfl, SqL.of hL1, ?_⟩
      rw [show (ds.map dNum).all id = ds.all dNum by rw [List.all_map]; rfl]
      exact q H1 s1
  | non => exact iteF (q H (Same.refl H))
  | bl b => exact iteF (q H (Same.refl H))
  | int i => exact iteF (q H (Same.refl H))
  | str z => exact iteF (q H (Same.refl H))
  | lst h r => exact iteF (q H (Same.refl H))
def spRisD (K : PySem.W.Frag) : Sp := fun vs H Q _ => ∃ (vc : V) (nm : Str) (v : V) (d : PyData) (es : List Ge), vs = [vc, .str nm, v] ∧ CodeOf K H vc nm es ∧ Dp K H v d ∧ (∃ M, Fit M 60 60 1000000 d) ∧ ∀ H', Same H H' → Q (.bl (dRis es.length d)) H'
theorem ok_risD {f f1 f2 : Addr} {fd fd1 fd2 : FuncData} (D : Df K mg "is_rising_blocks" (topS 16) ["code", "name", "thing"] f fd) (D1 : Df K mg "is_numbers" (topS 15) ["thing"] f1 fd1) (D2 : Df K mg "blocks_of" (topS 10) ["code", "name"] f2 fd2) (B : Bt mg)
    (G1 : FnOk P w K mg base CX0 2 f1 fd1 ["thing"] (spLook K dNums)) (G2 : FnOk P w K mg base CX0 1 f2 fd2 ["code", "name"] (spBlocks K)) : FnOk P w K mg base CX0 3 f fd ["code", "name", "thing"] (spRisD K) := by
  refine D.fn.ok sc_risB (fun vs H Q E h => ?_) (fun cdv A outer s H vs Q E hr h => ?_)
  · obtain ⟨vc, nm, v, d, es, rfl, _⟩ := h
    rfl
  obtain ⟨vc, nm, v, d, es, rfl, hc, hd, hf, q⟩ := h
  have nd := sc_risB.nd
  refine ⟨_, (pss_cons (ps_if (PW.pt (pw_or (pt_not (pt_val (pe_call G1 hr (by rfl) D1.gl D1.fn.kp D1.bd .nil pass0 (pa_cons (pv 2) pa_nil)))) (pw_or1 (pt_not (pt_val (pe_callB (cr_all rfl) (by rfl) B.all (by decide +kernel) (pa_cons (pe_lc (own := [("one", 3), ("other", 4)]) (g := gTup K 2 (gCons (gName 3) (gCons (gName 4) gNil))) (tt := tYes) rfl nd (RZ.pi_zipA (by rfl) B.zip (pa_cons (pv 2) (pa_cons (pe_slice sl_tupA (pv 2) (po_some pe_int) po_none) pa_nil))) (blkOk_by (N := NRB) (sc := defScope (topS 16)) (by decide +kernel)) (fun _ _ _ _ _ => pg_tup rfl (pgs_cons (pg_name (i := 3) nd rfl (Or.inl rfl)) (pgs_cons (pg_name (i := 4) nd rfl (Or.inl rfl)) pgs_nil))) (fun _ _ _ _ _ => pts_nil) (fun _ _ _ _ _ => pe_cmpR op_lt (pv 3) (pv 4) (nomark _))) pa_nil))))))) (pss_one (ps_ret pe_bl)) pss_nil)
    (pss_one (ps_ret (pe_or (pe_notT (pv 2)) (pe_one (pe_and (pe_cmpR op_ge (pe_ix (r := rIxT K) ix_tup (pv 2) pe_int (fun _ _ => rfl)) pe_int (nomark _)) (pe_one (pe_cmpR op_lt (pe_ix (r := rIxT K) ix_tup (pv 2) (pe_un un_neg pe_int) (fun _ _ => rfl)) (pe_callB call_len_seq (by rfl) B.len PySem.boot_len (pa_cons (pe_call G2 (hr.mono (by decide)) (by rfl) D2.gl D2.fn.kp D2.bd .nil pass0 (pa_cons (pv 0) (pa_cons (pv 1) pa_nil))) pa_nil)) (nomark _))))))))), ?_⟩
  have few := hc.ok.few
  refine ⟨_, rfl, v, d, rfl, hd, hf, fun H1 s1 => ⟨_, rfl, ?_⟩⟩
  cases hdn : dNums d with
  | false =>
    have e : dRis es.length d = false := by
      cases d with
      | tuple ds =>
        show (ds.all dNum && _) = false
        rw [show ds.all dNum = false from hdn, Bool.false_and]
      | _ => rfl
    refine iteT ?_
    refine iteT ?_
    have q1 := q H1 s1
    rw [e] at q1
    exact q1
  | true =>
  cases hd with
  | non => cases hdn
  | bl b => cases hdn
  | int i => cases hdn
  | str z => cases hdn
  | lst h r => cases hdn
  | @tup t xs ds ht hr0 =>
  obtain ⟨M, hf⟩ := hf
  obtain ⟨hl, _, _, hin⟩ := hf.inTup
  have edn : ds.all dNum = true := hdn
  have ei := nums_ints edn
  generalize ds.map toI = ns at ei
  subst ei
  have ex := DpAll_ints_of hr0
  subst ex
  have nl : ns.length ≤ 60 := by rw [List.length_map] at hl; exact hl
  rw [dRis_ints] at q
  clear hdn edn hin hf hl hr0
  refine iteF ?_
  have ht1 := sameT s1 ht
  refine ⟨_, rfl, _, rfl, 1, rfl, t, _, rfl, ht1, fun z => ?_, fun z p hp => ?_⟩
  · have hn0 : ns = [] := by
      cases ns with
      | nil => rfl
      | cons n rest =>
        have h1 := z.1
        simp [HT.sIx] at h1
    subst hn0
    refine ⟨t, t, [], [], rfl, .inr ⟨ht1, ht1, fun D hD => ?_⟩⟩
    refine lc_it (walk_zipT (Nat.le_refl _)) (fun j H' => Same H1 H' ∧ H' D = some (.lst [])) ⟨same_new hD, upd_same⟩ (fun j H' _ h => ⟨sameT h.1 ht1, sameT h.1 ht1⟩) (fun i x H3 H4 hi => by cases hi) ?_
    rintro H3 ⟨s3, d3⟩
    refine ⟨D, [], rfl, SqL.of d3, _, rfl, ?_⟩
    refine iteF ?_
    refine ⟨_, rfl, false, .inr (.inl ⟨_, sameT s3 ht1, rfl⟩), _, rfl, iteT ?_⟩
    have q3 := q H3 (s1.trans s3)
    rw [show (decide (([] : List Int).Pairwise (· < ·)) && ([] : List Int).all fun k => decide (0 ≤ k) && decide (k < (es.length : Int))) = true by simp] at q3
    exact q3
  · obtain ⟨n, rest, rfl⟩ : ∃ n rest, ns = n :: rest := by
      cases ns with
      | nil => exact absurd ⟨rfl, rfl⟩ z
      | cons n rest => exact ⟨n, rest, rfl⟩
    have s2 := same_new (o := .tup (cutV ((n :: rest).map V.int) (some 1) none)) hp
    have e2 : upd H1 p (.tup (cutV ((n :: rest).map V.int) (some 1) none)) p = some (.tup (rest.map V.int)) := by
      rw [upd_same]
      congr 2
      unfold cutV
      rw [show HT.sIx ((n :: rest).map V.int).length 0 (some 1) = 1 by simp [HT.sIx], show HT.sIx ((n :: rest).map V.int).length ((n :: rest).map V.int).length none = ((n :: rest).map V.int).length by simp [HT.sIx]]
      simp
      rw [List.take_of_length_le (by rw [List.length_map]; exact Nat.le_refl _)]
    generalize upd H1 p (.tup (cutV ((n :: rest).map V.int) (some 1) none)) = H2 at s2 e2
    have ht2 := sameT s2 ht1
    have al : (adj (n :: rest)).length = rest.length := by simp [adj]
    refine ⟨t, p, _, _, rfl, .inr ⟨ht2, SqT.of e2, fun D hD => ?_⟩⟩
    refine lc_it (walk_zipT (xs := (n :: rest).map V.int) (ys := rest.map V.int) (by rw [List.length_map, List.length_map, List.length_cons]; omega)) (fun j H' => Same H2 H' ∧ H' D = some (.lst (((adj (n :: rest)).take j).map V.bl))) ⟨same_new hD, upd_same⟩ (fun j H' _ h => ⟨sameT h.1 ht2, SqT.of (h.1 _ _ e2)⟩) ?_ ?_
    · rintro i x H3 H4 hi ⟨s3, d3⟩ ⟨T, x1, y1, rfl, hT, rfl, hx1, hy1⟩
      rw [List.getElem?_map] at hx1 hy1
      obtain ⟨a, ha, rfl⟩ := Option.map_eq_some_iff.mp hx1
      obtain ⟨b, hb, rfl⟩ := Option.map_eq_some_iff.mp hy1
      have sT := same_new (o := .tup [V.int a, V.int b]) hT
      have hab : (adj (n :: rest))[i]? = some (decide (a < b)) := by
        have hz : ((n :: rest).zip (n :: rest).tail)[i]? = some (a, b) := List.getElem?_zip_eq_some.mpr ⟨ha, by rw [List.tail_cons]; exact hb⟩
        unfold adj
        rw [List.getElem?_map, hz]
        rfl
      refine ⟨T, _, rfl, SqT.of upd_same, rfl, _, _, rfl, _, _, rfl, rfl, rfl, ?_⟩
      unfold tYes
      dsimp only
      rw [if_pos rfl]
      refine ⟨_, rfl, _, rfl, _, _, rfl, rfl, _, sT _ _ d3, ?_, fun c o e => ?_, ?_⟩
      · rw [List.length_map, List.length_take, al, sizeLine_eq]
        rw [List.length_cons] at nl
        omega
      · rw [upd_ne (ne_of_none e hD)]
        exact sT _ _ (s3 _ _ e)
      · rw [upd_same, List.take_succ, hab, List.map_append]
        rfl
    · rintro H3 ⟨s3, d3⟩
      have s03 := s1.trans (s2.trans s3)
      rw [List.length_map, List.take_of_length_le (by rw [al]; exact Nat.le_refl _)] at d3
      refine ⟨D, adj (n :: rest), rfl, SqL.of d3, _, rfl, ?_⟩
      cases hadj : (adj (n :: rest)).all id with
      | false =>
        have hnp : ¬ (n :: rest).Pairwise (· < ·) := fun h => by
          rw [(adj_all _).mpr h] at hadj
          cases hadj
        refine iteT ?_
        have q3 := q H3 s03
        rw [decide_eq_false hnp, Bool.false_and] at q3
        exact q3
      | true =>
        have hpw := (adj_all _).mp hadj
        rw [decide_eq_true hpw, Bool.true_and] at q
        refine iteF ?_
        have ht3 := sameT s03 ht
        obtain ⟨xs, l, hl⟩ : ∃ xs l, (n :: rest) = xs ++ [l] := ⟨(n :: rest).dropLast, (n :: rest).getLast (by simp), (List.dropLast_concat_getLast _).symm⟩
        rw [ris_ends hpw hl] at q
        refine ⟨_, rfl, true, .inr (.inl ⟨_, ht3, rfl⟩), _, rfl, iteF ?_⟩
        refine ⟨_, rfl, t, _, 0, _, rfl, rfl, ht3, atI_nat (j := 0) rfl, _, _, rfl, rfl, _, rfl, ?_⟩
        by_cases h0 : 0 ≤ n
        · rw [decide_eq_true (show (0 : Int) ≤ n from h0)]
          rw [decide_eq_true h0, Bool.true_and] at q
          refine iteT ?_
          refine ⟨_, rfl, 1, rfl, t, _, -1, _, rfl, rfl, ht3, by rw [hl]; exact last_ix, ?_⟩
          obtain ⟨rs, hd1, hd2⟩ := (hc.same s03).ex
          refine ⟨_, rfl, _, rfl, vc, nm, rs, es, rfl, hd1, hd2, fun v hv => ?_⟩
          obtain ⟨a, bs, rfl, ha, hbs⟩ := Dp_tup hv
          have lb : bs.length = es.length := by rw [DpAll_len hbs, List.length_map]
          refine ⟨a, _, rfl, .inr ha, _, _, rfl, rfl, ?_⟩
          rw [lb]
          exact q H3 s03
        · rw [decide_eq_false (show ¬ (0 : Int) ≤ n from h0)]
          rw [decide_eq_false h0, Bool.false_and] at q
          exact iteF (q H3 s03)
end
end Sw
set_option maxRecDepth 100000
set_option maxHeartbeats 4000000
namespace Sw
open PySem PySem.Spec PyProof.Rows L2
/-- how a rising tuple of blocks is judged as a fence -/
def fenN (es : List Ge) (o u : Int) (ns : List Int) : Option (Str × Int) :=
  match ns.find? fun b => decide (b = o) || decide (b = u) with
  | some b => some ("in", b)
  | none => if o ≠ 0 ∧ (0 : Int) ∉ ns then some ("first", -1) else
    match ns.find? fun b => !((goalsAt es b).all fun g => decide (g = o) || decide (g ∈ ns)) with
    | some b => some ("next", b)
    | none => none
/-- how any thing is -/
def fenJ (es : List Ge) (o u : Int) (d : PyData) : Option (Str × Int) :=
  if dRis es.length d = true then (match d with | .tuple ds => fenN es o u (ds.map toI) | _ => none) else some ("shape", -1)
theorem find_hit {p : Int → Bool} : ∀ {ns : List Int} {i : Nat} {b : Int}, ns[i]? = some b → p b = true → (∀ c ∈ ns.take i, p c = false) → ns.find? p = some b
  | [], i, b, h, _, _ => by simp at h
  | n :: ns, 0, b, h, hp, _ => by
    have : n = b := by simpa using h
    subst this
    exact List.find?_cons_of_pos hp
  | n :: ns, i + 1, b, h, hp, hn => by
    rw [List.find?_cons_of_neg (by rw [hn n (by simp)]; simp)]
    exact find_hit (i := i) (by simpa using h) hp fun c hc => hn c (by simp [hc])
theorem find_no {p : Int → Bool} {ns : List Int} (h : ∀ c ∈ ns, p c = false) : ns.find? p = none := List.find?_eq_none.mpr fun c hc => by rw [h c hc]; simp
section
variable {P : Program} {w : World} {K : PySem.W.Frag} {mg : Str → Option Value} {base : Heap}
def spFenX (K : PySem.W.Frag) (C : Addr) : Sp := fun vs H Q E => ∃ (vc : V) (nm : Str) (o u : Int) (v : V) (d : PyData) (es : List Ge), vs = [vc, .str nm, .int o, .int u, v] ∧ CodeOf K H vc nm es ∧ Dp K H v d ∧ (∃ M, Fit M 60 60 1000000 d) ∧
  (fenJ es o u d = none → ∀ H', Same H H' → Q (.bl true) H') ∧ ∀ x y, fenJ es o u d = some (x, y) → ∀ dd H', Same H H' → H dd = none → H' dd = some (papO (.str x) (.int y)) → E (.ref C) (some dd) H'
theorem ok_fenX {f f1 f2 C fI : Addr} {fd fd1 fd2 fdI : FuncData} (D : Df K mg "lets_fence" (topS 17) ["code", "name", "over", "under", "thing"] f fd) (D1 : Df K mg "is_rising_blocks" (topS 16) ["code", "name", "thing"] f1 fd1) (D2 : Df K mg "nexts" (topS 13) ["code", "name", "block"] f2 fd2) (B : Bt mg)
    (T : PapC K mg C fI) (bI : Binds K fdI ["self", "word", "at"] [])
    (G1 : FnOk P w K mg base CX0 3 f1 fd1 ["code", "name", "thing"] (spRisD K)) (G2 : FnOk P w K mg base CX0 2 f2 fd2 ["code", "name", "block"] (spNexts K)) (GI : FnOk P w K mg base CX0 1 fI fdI ["self", "word", "at"] (spInit K C)) :
    FnOk P w K mg base (L2.CX P w) 4 f fd ["code", "name", "over", "under", "thing"] (spFenX K C) := by
  refine D.fn.okX sc_letsF (fun vs H Q E h => ?_) (fun cdv A outer s H vs Q E hr h => ?_)
  · obtain ⟨vc, nm, o, u, v, d, es, rfl, _⟩ := h
    rfl
  obtain ⟨vc, nm, o, u, v, d, es, rfl, hc, hd, hf, q, qx⟩ := h
  have nd := sc_letsF.nd
  refine ⟨_, (pss_cons (ps_if (pt_not (pt_val (pe_call G1 hr (by rfl) D1.gl D1.fn.kp D1.bd .nil pass0 (pa_cons (pv 0) (pa_cons (pv 1) (pa_cons (pv 4) pa_nil)))))) (pss_one (ps_raise rfl (takes_of rfl rfl rfl rfl) (pmk_oex T.oex T.iC T.tI GI (hr.mono (by decide)) bI .nil pass0 (by rfl) T.gC (pa_cons pe_str (pa_cons (pe_un un_neg pe_int) pa_nil))))) pss_nil)
    (pss_cons (ps_for PassesOwn.leaving rfl (pi_tup (pv 4)) (pg_name (i := 5) nd rfl (Or.inl rfl))
    (pss_one (ps_if (pt_cmpR (r := rIn K false) op_in_seq (pv 5) (pe_tup (pa_cons (pv 2) (pa_cons (pv 3) pa_nil))) (by with_unfolding_all rfl)) (pss_one (ps_raise rfl (takes_of rfl rfl rfl rfl) (pmk_oex T.oex T.iC T.tI GI (hr.mono (by decide)) bI .nil pass0 (by rfl) T.gC (pa_cons pe_str (pa_cons (pv 5) pa_nil))))) pss_nil)))
    (C8.pss_cut (ps_if (PW.pt (pw_and (pt_cmpR op_ne (pv 2) pe_int (nomark _)) (pw_and1 (pt_cmpR (r := rIn K true) op_notIn_seq pe_int (pv 4) (by with_unfolding_all rfl))))) (pss_one (ps_raise rfl (takes_of rfl rfl rfl rfl) (pmk_oex T.oex T.iC T.tI GI (hr.mono (by decide)) bI .nil pass0 (by rfl) T.gC (pa_cons pe_str (pa_cons (pe_un un_neg pe_int) pa_nil))))) pss_nil)
    (pss_cons (ps_for PassesOwn.leaving rfl (pi_tup (pv 4)) (pg_name (i := 5) nd rfl (Or.inl rfl))
    (pss_one (ps_if (pt_not (pt_val (pe_callB (cr_all rfl) (by rfl) B.all (by decide +kernel) (pa_cons (pe_lc (own := [("goal", 6)]) (g := gName 6) (tt := tYes) rfl nd (pi_tup (pe_call G2 (hr.mono (by decide)) (by rfl) D2.gl D2.fn.kp D2.bd .nil pass0 (pa_cons (pv 0) (pa_cons (pv 1) (pa_cons (pv 5) pa_nil))))) (blkOk_by (N := NLF) (sc := defScope (topS 17)) (by decide +kernel)) (fun _ _ _ _ _ => pg_name (i := 6) nd rfl (Or.inl rfl)) (fun _ _ _ _ _ => pts_nil) (fun _ _ _ _ _ => (pe_or (pe_cmpR op_eq (pv 6) (pv 2) (nomark _)) (pe_one (pe_cmpR (r := rIn K false) op_in_seq (pv 6) (pv 4) (by with_unfolding_all rfl)))))) pa_nil)))) (pss_one (ps_raise rfl (takes_of rfl rfl rfl rfl) (pmk_oex T.oex T.iC T.tI GI (hr.mono (by decide)) bI .nil pass0 (by rfl) T.gC (pa_cons pe_str (pa_cons (pv 5) pa_nil))))) pss_nil)))
    (pss_one (ps_ret pe_bl)))))), ?_⟩
  have few := hc.ok.few
  refine ⟨_, rfl, _, rfl, _, rfl, vc, nm, v, d, es, rfl, hc, hd, hf, fun H1 s1 => ⟨_, rfl, ?_⟩⟩
  cases hR : dRis es.length d with
  | false =>
    refine iteT ?_
    refine mk_pap (x := .str "shape") (y := .int (-1)) (fun Q' h => ⟨1, rfl, h⟩) fun dd hdd => ?_
    exact qx "shape" (-1) (by unfold fenJ; rw [if_neg (by rw [hR]; simp)]) dd _ (s1.trans (same_new hdd)) (s1.free hdd) upd_same
  | true =>
  cases hd with
  | non => cases hR
  | bl b => cases hR
  | int i => cases hR
  | str z => cases hR
  | lst h r => cases hR
  | @tup t xs ds ht hr0 =>
  obtain ⟨M, hf⟩ := hf
  obtain ⟨hl, _, _, hin⟩ := hf.inTup
  have edn : ds.all dNum = true := by
    have h2 : (ds.all dNum && _) = true := hR
    rw [Bool.and_eq_true] at h2
    exact h2.1
  have ei := nums_ints edn
  generalize ds.map toI = ns at ei
  subst ei
  have ex := DpAll_ints_of hr0
  subst ex
  have nl : ns.length ≤ 60 := by rw [List.length_map] at hl; exact hl
  have ej : fenJ es o u (.tuple (ns.map PyData.int)) = fenN es o u ns := by
    unfold fenJ
    rw [if_pos hR]
    show fenN es o u ((ns.map PyData.int).map toI) = _
    rw [toI_ints]
  rw [ej] at q qx
  rw [dRis_ints, Bool.and_eq_true, decide_eq_true_iff, List.all_eq_true] at hR
  obtain ⟨ris, rg0⟩ := hR
  have rg : ∀ k ∈ ns, 0 ≤ k ∧ k < (es.length : Int) := fun k hk => by
    have := rg0 k hk
    simpa using this
  clear edn hin hf hl hr0 ej rg0
  refine iteF ?_
  refine ⟨_, rfl, t, rfl, ⟨_, sameT s1 ht⟩, for_it (walk_tup (xs := ns.map V.int)) (fun i σ H' => ∃ (x5 : Option V), σ = [some vc, some (.str nm), some (.int o), some (.int u), some (.ref t), x5, none] ∧ Same H H' ∧ ∀ c ∈ ns.take i, (decide (c = o) || decide (c = u)) = false) ⟨none, rfl, s1, fun c hc => by simp at hc⟩ (fun i σ H' _ h => by obtain ⟨_, _, s', _⟩ := h; exact sameT s' ht) ?_ ?_⟩
  · rintro i x σ H2' H2 hi ⟨x5, rfl, s2, hno⟩ ⟨he, hx⟩
    subst he
    rw [List.getElem?_map] at hx
    obtain ⟨b, hb, rfl⟩ := Option.map_eq_some_iff.mp hx
    have etk : ns.take (i + 1) = ns.take i ++ [b] := by rw [List.take_succ, hb]; rfl
    refine ⟨_, rfl, _, rfl, _, rfl, by show 2 ≤ sizeLine; decide, fun T2 hT => ?_⟩
    have s3 := same_new (o := .tup [V.int o, V.int u]) hT
    have e3 : upd H2 T2 (.tup [V.int o, V.int u]) T2 = some (.tup (([o, u] : List Int).map V.int)) := upd_same
    generalize upd H2 T2 (.tup [V.int o, V.int u]) = H3 at s3 e3
    refine ⟨T2, _, rfl, .inr (SqT.of e3), rfl, flat_ints _, _, rfl, ?_⟩
    rw [if_neg (by decide), inV_ints, show decide (b ∈ [o, u]) = (decide (b = o) || decide (b = u)) by simp]
    have s23 := s2.trans s3
    cases hbo : (decide (b = o) || decide (b = u)) with
    | true =>
      refine iteT ?_
      refine mk_pap (x := .str "in") (y := .int b) (fun Q' h => ⟨_, rfl, h⟩) fun dd hdd => ?_
      refine qx "in" b ?_ dd _ (s23.trans (same_new hdd)) (s23.free hdd) upd_same
      unfold fenN
      rw [find_hit hb hbo hno]
    | false =>
      refine iteF ⟨_, rfl, s23, fun c hc => ?_⟩
      rw [etk] at hc
      rcases List.mem_append.mp hc with h | h
      · exact hno c h
      · have : c = b := by simpa using h
        rw [this]; exact hbo
  rintro σ H2 ⟨x5, rfl, s2, hno⟩
  rw [List.length_map, List.take_length] at hno
  have f1 := find_no hno
  have ef : fenN es o u ns = if o ≠ 0 ∧ (0 : Int) ∉ ns then some (("first" : Str), (-1 : Int)) else match ns.find? fun b => !((goalsAt es b).all fun g => decide (g = o) || decide (g ∈ ns)) with | some b => some (("next" : Str), b) | none => none := by
    unfold fenN
    rw [f1]
  rw [ef] at q qx
  clear ef f1 hno
  have ht2 := sameT s2 ht
  refine ⟨fun σ' H' => σ' = [some vc, some (.str nm), some (.int o), some (.int u), some (.ref t), x5, none] ∧ Same H H' ∧ ¬ (o ≠ 0 ∧ (0 : Int) ∉ ns), ?_, ?_⟩
  · refine ⟨_, rfl, rfl, _, rfl, ?_⟩
    by_cases ho : o = 0
    · rw [decide_eq_true (show V.int o = V.int 0 by rw [ho])]
      refine iteF ?_
      exact iteF ⟨rfl, s2, fun z => z.1 ho⟩
    · rw [decide_eq_false (show ¬ V.int o = V.int 0 from fun z => ho (by injection z))]
      refine iteT ?_
      refine ⟨_, rfl, t, _, rfl, .inr ht2, rfl, flat_ints _, _, rfl, ?_⟩
      rw [if_pos rfl, inV_ints]
      by_cases hz : (0 : Int) ∈ ns
      · rw [decide_eq_true hz]
        exact iteF ⟨rfl, s2, fun z => z.2 hz⟩
      · rw [decide_eq_false hz]
        refine iteT ?_
        refine mk_pap (x := .str "first") (y := .int (-1)) (fun Q' h => ⟨1, rfl, h⟩) fun dd hdd => ?_
        exact qx "first" (-1) (by rw [if_pos ⟨ho, hz⟩]) dd _ (s2.trans (same_new hdd)) (s2.free hdd) upd_same
  rintro σ3 H3 ⟨rfl, s3, hnz⟩
  rw [if_neg hnz] at q qx
  refine ⟨_, rfl, t, rfl, ⟨_, sameT s3 ht⟩, for_it (walk_tup (xs := ns.map V.int)) (fun i σ H' => ∃ (x5 : Option V), σ = [some vc, some (.str nm), some (.int o), some (.int u), some (.ref t), x5, none] ∧ Same H H' ∧ ∀ c ∈ ns.take i, (!((goalsAt es c).all fun g => decide (g = o) || decide (g ∈ ns))) = false) ⟨_, rfl, s3, fun c hc => by simp at hc⟩ (fun i σ H' _ h => by obtain ⟨_, _, s', _⟩ := h; exact sameT s' ht) ?_ ?_⟩
  · rintro i x σ H4' H4 hi ⟨x5, rfl, s4, hno⟩ ⟨he, hx⟩
    subst he
    rw [List.getElem?_map] at hx
    obtain ⟨b, hb, rfl⟩ := Option.map_eq_some_iff.mp hx
    have etk : ns.take (i + 1) = ns.take i ++ [b] := by rw [List.take_succ, hb]; rfl
    obtain ⟨b0, b1⟩ := rg b (List.mem_of_getElem? hb)
    refine ⟨_, rfl, _, rfl, _, rfl, vc, nm, b, es, rfl, hc.same s4, b0, b1, fun g H6 s6 hg => ?_⟩
    have gl := goalsAt_len es b
    have s46 := s4.trans s6
    refine ⟨g, rfl, ⟨_, SqT.of hg⟩, fun L hL => ?_⟩
    refine lc_map (walk_tup (xs := (goalsAt es b).map V.int)) (fun i => V.bl (decide ((goalsAt es b).getD i 0 = o) || decide ((goalsAt es b).getD i 0 ∈ ns))) hL (fun _ h => SqT.of (h _ _ hg)) (big_size (by rw [List.length_map]; omega)) ?_ ?_
    · intro j y H7 Q7 hj hy s7 q7
      rw [List.getElem?_map] at hy
      obtain ⟨k, hk, rfl⟩ := Option.map_eq_some_iff.mp hy
      rw [show (goalsAt es b).getD j 0 = k by rw [List.getD_eq_getElem?_getD, hk]; rfl] at q7
      refine ⟨_, rfl, _, rfl, rfl, _, rfl, ?_⟩
      by_cases hko : k = o
      · rw [decide_eq_true (show V.int k = V.int o by rw [hko])]
        rw [decide_eq_true hko, Bool.true_or] at q7
        exact iteT (q7 H7 (Same.refl _))
      · rw [decide_eq_false (show ¬ V.int k = V.int o from fun z => hko (by injection z))]
        rw [decide_eq_false hko, Bool.false_or] at q7
        refine iteF ?_
        refine ⟨_, rfl, _, rfl, t, _, rfl, .inr (sameT (s46.trans s7) ht), rfl, flat_ints _, ?_⟩
        rw [if_neg (by decide), inV_ints]
        exact q7 H7 (Same.refl _)
    · intro H7 s7 hL7
      rw [List.length_map, range_getD2' (fun k => V.bl (decide (k = o) || decide (k ∈ ns))) 0 (goalsAt es b), show ((goalsAt es b).map fun k => V.bl (decide (k = o) || decide (k ∈ ns))) = ((goalsAt es b).map fun k => decide (k = o) || decide (k ∈ ns)).map V.bl by rw [List.map_map]; rfl] at hL7
      have s07 := s46.trans s7
      refine ⟨L, _, rfl, SqL.of hL7, _, rfl, ?_⟩
      rw [show ((goalsAt es b).map fun k => decide (k = o) || decide (k ∈ ns)).all id = (goalsAt es b).all fun k => decide (k = o) || decide (k ∈ ns) by rw [List.all_map]; rfl]
      cases hal : (goalsAt es b).all fun k => decide (k = o) || decide (k ∈ ns) with
      | false =>
        refine iteT ?_
        refine mk_pap (x := .str "next") (y := .int b) (fun Q' h => ⟨_, rfl, h⟩) fun dd hdd => ?_
        refine qx "next" b ?_ dd _ (s07.trans (same_new hdd)) (s07.free hdd) upd_same
        rw [find_hit hb (by rw [hal]; rfl) hno]
      | true =>
        refine iteF ⟨_, rfl, s07, fun c hc => ?_⟩
        rw [etk] at hc
        rcases List.mem_append.mp hc with h | h
        · exact hno c h
        · have : c = b := by simpa using h
          rw [this, hal]; rfl
  · rintro σ H4 ⟨x5, rfl, s4, hno⟩
    rw [List.length_map, List.take_length] at hno
    exact q (by rw [find_no hno]) H4 s4
end
end Sw
set_option maxRecDepth 100000
set_option maxHeartbeats 4000000
namespace Sw
open PySem PySem.Spec PyProof.Rows L2
/-- what isinstance asks of the class of a caught one -/
structure XisC (K : PySem.W.Frag) (C : Addr) : Prop where
  cl : (PySem.W.clsIn K C).isSome = true
  ga : PySem.W.findIn K (.ref C) "__getattribute__" = some (some (.builtin "BaseException.__getattribute__"))
  gg : PySem.W.findIn K (.ref C) "__getattr__" = some none
  ex : PySem.W.subIn K (.ref C) (.type "BaseException") = some true
  cA : PySem.W.findIn K (.ref C) "__class__" = some (some (.builtin "object.__class__"))
  sg : PySem.W.specialIn K (.builtin "object.__class__") "__get__" = some (some (.builtin "getset_descriptor.__get__"))
  tk : PySem.W.takesIn K (.builtin "object.__class__") = some true
  mo : PySem.W.mroIn K C (.type "object") = some true
section
variable {X : Cx}
/-- isinstance(e, c) of a caught one with fields -/
def rIsED (K : PySem.W.Frag) (a : Addr) (cls : Value) (d : Option Addr) : List V → Hp → VK → Prop := fun xs H Q => ∃ (c : V) (cv : Value) (b : Bool) (C dd : Addr) (fs : List (Str × V)), xs = [.ref a, c] ∧ (∀ u, RelV c u → u = cv) ∧ cls = .ref C ∧ d = some dd ∧ H dd = some (.xd fs) ∧ XisC K C ∧ PySem.W.kitOne K (.ref C) cv = some b ∧ Q (.bl b) H
theorem inst_at {a C dd : Addr} {oe : Obj} {pn : List (Addr × Obj)} {fs : List (Str × V)} {pins : List (Addr × Obj)} {σ : L2.St} {H : Hp} {s : Shared} (hz : Zc (.ref C) (some dd) oe) (hf : ∃ vs, oe.data = .fields vs) (I : Inv (X.suite a ((a, oe) :: pn)) pins σ H s) (hd : H dd = some (.xd fs)) :
    ∃ od, PySem.W.InstAt s.heap a oe C (some od) := by
  obtain ⟨hget, _⟩ := I.pin (a, oe) (List.mem_append_left _ List.mem_cons_self)
  obtain ⟨vs, hv⟩ := hf
  have hx : ObjOk X.prog X.w H s.heap dd (.xd fs) := I.hok dd _ hd
  obtain ⟨mA, hns, _⟩ := hx
  obtain ⟨od, ho, _⟩ := lookIn_ns hns
  exact ⟨od, hget, hz.1, by unfold PySem.W.notCls; rw [hv] <;> rfl, by rw [hz.2]; exact ho⟩
theorem call_isED {a : Addr} {oe : Obj} {cls : Value} {d : Option Addr} {pn : List (Addr × Obj)} (hz : Zc cls d oe) (hf : ∃ vs, oe.data = .fields vs) : CallR (X.suite a ((a, oe) :: pn)) (.builtin "isinstance") (rIsED X.K a cls d) := by
  intro pins s σ H xs us Q I r h
  obtain ⟨c, cv, b, C, dd, fs, rfl, hcv, rfl, rfl, hd, T, e, q⟩ := h
  obtain ⟨u1, u2, rfl, r1, r2⟩ := vals2 r
  cases r1
  have ec := hcv _ r2
  subst ec
  obtain ⟨od, J⟩ := inst_at (X := X) hz hf I hd
  exact PySem.W.kia_one (PySem.W.kitx_exc T.cl T.ga T.gg T.ex T.cA T.sg T.tk T.mo) I.kIn J e (fun z => nomatch z) fun tk => ⟨.bl b, H, I.kept (t' := tk) fun _ _ z => z, rfl, q⟩
/-- isinstance(e, (A, B, ..)) of it -/
def rIsEDT (K : PySem.W.Frag) (a : Addr) (cls : Value) (d : Option Addr) : List V → Hp → VK → Prop := fun xs H Q => ∃ (t : Addr) (as : List Addr) (b : Bool) (C dd : Addr) (fs : List (Str × V)), xs = [.ref a, .ref t] ∧ SqT K H t (as.map V.ref) ∧ cls = .ref C ∧ d = some dd ∧ H dd = some (.xd fs) ∧ XisC K C ∧ PySem.W.kitAny K (.ref C) (as.map Value.ref) = some b ∧ Q (.bl b) H
theorem call_isEDT {a : Addr} {oe : Obj} {cls : Value} {d : Option Addr} {pn : List (Addr × Obj)} (hz : Zc cls d oe) (hf : ∃ vs, oe.data = .fields vs) : CallR (X.suite a ((a, oe) :: pn)) (.builtin "isinstance") (rIsEDT X.K a cls d) := by
  intro pins s σ H xs us Q I r h
  obtain ⟨t, as, b, C, dd, fs, rfl, hq, rfl, rfl, hd, T, e, q⟩ := h
  obtain ⟨u1, u2, rfl, r1, r2⟩ := vals2 r
  cases r1
  cases r2
  obtain ⟨od, J⟩ := inst_at (X := X) hz hf I hd
  obtain ⟨its, rv, ⟨⟨cls, dt, da, sl⟩, ho, hc, n, hdd⟩, _⟩ := I.tuple hq
  cases hc
  cases hdd
  have ei := refs_at rv
  subst ei
  exact PySem.W.kia_tup (PySem.W.kitx_exc T.cl T.ga T.gg T.ex T.cA T.sg T.tk T.mo) I.kIn J ho e (fun z => nomatch z) fun tk => ⟨.bl b, H, I.kept (t' := tk) fun _ _ z => z, rfl, q⟩
end
end Sw
set_option maxRecDepth 100000
set_option maxHeartbeats 4000000
namespace Sw
open PySem PySem.Spec PyProof.Rows L2
/-- what is said of a judgement -/
def saidD : Option (Str × Int) → PyData
  | none => .tuple [.str "told", .bool true]
  | some (x, y) => .tuple [.str "no", .str x, .int y]
/-- what the text says of NoPaper where it is caught -/
structure PapX (K : PySem.W.Frag) (mg : Str → Option Value) (C CW CL CN CT : Addr) : Prop where
  gC : mg "NoPaper" = some (.ref C)
  gW : mg "WayError" = some (.ref CW)
  gL : mg "LostError" = some (.ref CL)
  gN : mg "NoCode" = some (.ref CN)
  gT : mg "NoTurning" = some (.ref CT)
  bV : mg "ValueError" = none
  te : PySem.W.exmOne K (.ref C) (.ref CW) = some true
  k1 : PySem.W.kitOne K (.ref C) (.ref C) = some true
  k2 : PySem.W.kitOne K (.ref C) (.type "ValueError") = some true
  k3 : PySem.W.kitAny K (.ref C) [.ref CL, .ref CN, .ref CT] = some false
  xf : XfC K C
  xi : XisC K C
  noW : PySem.W.findIn K (.ref C) "word" = some none
  noA : PySem.W.findIn K (.ref C) "at" = some none
def tSui (K : PySem.W.Frag) (C CL CN CT : Addr) (a : Addr) (cls : Value) (d : Option Addr) : TS :=
  tIfS (tAnd (tB (tCB (rIsED K a cls d) (tCons (tVar 4) (tCons (tC (.ref C)) tNil)))) (tAnd (tB (tCB (rIsED K a cls d) (tCons (tVar 4) (tCons (tC (.ty "ValueError")) tNil)))) (tNot (tB (tCB (rIsEDT K a cls d) (tCons (tVar 4) (tCons (tTup (tCons (tC (.ref CL)) (tCons (tC (.ref CN)) (tCons (tC (.ref CT)) tNil)))) tNil)))))))
    (tRet (tTup (tCons (tC (.str "no")) (tCons (tXf a cls d C "word" (tVar 4)) (tCons (tXf a cls d C "at" (tVar 4)) tNil))))) tNext
section
variable {P : Program} {w : World} {K : PySem.W.Frag} {mg : Str → Option Value} {base : Heap}
abbrev NSd : List Str := ["_law_code", "_law_over", "_law_under", "_law_thing", "e"]
def spSaid (K : PySem.W.Frag) : Sp := fun vs H Q _ => ∃ (vc : V) (o u : Int) (v : V) (d : PyData) (es : List Ge), vs = [vc, .int o, .int u, v] ∧ CodeOf K H vc "main" es ∧ Dp K H v d ∧ (∃ M, Fit M 60 60 1000000 d) ∧ ∀ t H', Same H H' → Dp K H' (.ref t) (saidD (fenJ es o u d)) → Q (.ref t) H'
theorem sc_said : FnScope NSd ["_law_code", "_law_over", "_law_under", "_law_thing"] (defScope (topS 28)) := ⟨rfl, rfl, rfl, by decide +kernel, rfl, by decide +kernel, by decide +kernel⟩
theorem ok_said {f f1 C CW CL CN CT : Addr} {fd fd1 : FuncData} (D : Df K mg "_law_said" (topS 28) ["_law_code", "_law_over", "_law_under", "_law_thing"] f fd) (D1 : Df K mg "lets_fence" (topS 17) ["code", "name", "over", "under", "thing"] f1 fd1) (B : Bt mg) (T : PapX K mg C CW CL CN CT)
    (G1 : FnOk P w K mg base (L2.CX P w) 4 f1 fd1 ["code", "name", "over", "under", "thing"] (spFenX K C)) : FnOk P w K mg base CX0 5 f fd ["_law_code", "_law_over", "_law_under", "_law_thing"] (spSaid K) := by
  refine D.fn.ok sc_said (fun vs H Q E h => ?_) (fun cdv A outer s H vs Q E hr h => ?_)
  · obtain ⟨vc, o, u, v, d, es, rfl, _⟩ := h
    rfl
  obtain ⟨vc, o, u, v, d, es, rfl, hc, hd, hf, q⟩ := h
  have nd := sc_said.nd
  refine ⟨_, pss_cons (ps_try_as (i := 4) (tb := fun W => tRet (tTup (tCons (tC (.str "told")) (tCons (tCallS (spFenX K C) (WE W) (tCons (tVar 0) (tCons (tC (.str "main")) (tCons (tVar 1) (tCons (tVar 2) (tCons (tVar 3) tNil)))))) tNil)))) (ts := tSui K C CL CN CT) (Wout := fun _ _ _ _ => False) rfl rfl nd rfl rfl ⟨rfl, by decide, Or.inl T.gW⟩ takes0
      (fun W pn xe tk _ => pss_one (ps_ret (by exact (pe_tup (pa_cons pe_str (pa_cons (pe_callS G1 hr rfl D1.gl D1.fn.kp D1.bd (fun σ => passAt tk σ) (by exact (pa_cons (pv 0) (pa_cons pe_str (pa_cons (pv 1) (pa_cons (pv 2) (pa_cons (pv 3) pa_nil))))))) pa_nil))))))
      (fun a oe cls d pn hz hf => pss_one (by exact (ps_if (PW.pt (pw_and (pt_val (pe_callB (call_isED hz hf) (by rfl) B.isi (by decide +kernel) (pa_cons (pv 4) (pa_cons (pe_glob (v := .ref C) rfl T.gC rfl) pa_nil))))
          (pw_and (pt_val (pe_callB (call_isED hz hf) (by rfl) B.isi (by decide +kernel) (pa_cons (pv 4) (pa_cons (pe_bltn (v := .ty "ValueError") (by rfl) T.bV (by decide +kernel) rfl) pa_nil))))
          (pw_and1 (pt_not (pt_val (pe_callB (call_isEDT hz hf) (by rfl) B.isi (by decide +kernel) (pa_cons (pv 4) (pa_cons (pe_tup (pa_cons (pe_glob (v := .ref CL) rfl T.gL rfl) (pa_cons (pe_glob (v := .ref CN) rfl T.gN rfl) (pa_cons (pe_glob (v := .ref CT) rfl T.gT rfl) pa_nil)))) pa_nil)))))))))
        (pss_one (ps_ret (pe_tup (pa_cons pe_str (pa_cons (pe_xf T.xf T.noW hz hf (pv 4)) (pa_cons (pe_xf T.xf T.noA hz hf (pv 4)) pa_nil)))))) pss_nil))))
    (pss_one (ps_ret (pe_tup (pa_cons pe_str pa_nil)))), ?_⟩
  refine ⟨_, rfl, _, rfl, _, rfl, _, rfl, vc, "main", o, u, v, d, es, rfl, hc, hd, hf, fun e H1 s1 => ⟨by show 2 ≤ sizeLine; decide, fun t ht => ?_⟩, fun x y e dd H1 s1 hdd hx => ⟨true, T.te, fun _ a ha => ?_, fun z => nomatch z⟩⟩
  · refine q t _ (s1.trans (same_new ht)) ?_
    rw [e]
    exact .tup (SqT.of upd_same) (.cons (.str _) (.cons (.bl _) .nil))
  · have lw : List.lookup ("word" : Str) [(("at" : Str), V.int y), ("word", V.str x)] = some (.str x) := by rw [lookup_put, if_neg (by decide), lookup_put, if_pos rfl]
    have la : List.lookup ("at" : Str) [(("at" : Str), V.int y), ("word", V.str x)] = some (.int y) := by rw [lookup_put, if_pos rfl]
    refine ⟨_, rfl, .ref C, .ref C, true, C, dd, _, rfl, fun _ h => h, rfl, rfl, hx, T.xi, T.k1, _, rfl, iteT ?_⟩
    refine ⟨_, rfl, .ty "ValueError", .type "ValueError", true, C, dd, _, rfl, fun _ h => h, rfl, rfl, hx, T.xi, T.k2, _, rfl, iteT ?_⟩
    refine ⟨_, rfl, by show 3 ≤ sizeLine; decide, fun t ht => ?_⟩
    have s2 := same_new (o := .tup [V.ref CL, .ref CN, .ref CT]) ht
    have hx2 := s2 _ _ hx
    refine ⟨t, [CL, CN, CT], false, C, dd, _, rfl, SqT.of upd_same, rfl, rfl, hx2, T.xi, T.k3, _, rfl, iteT ?_⟩
    refine ⟨_, rfl, rfl, rfl, dd, _, .str x, rfl, hx2, lw, _, rfl, rfl, rfl, dd, _, .int y, rfl, hx2, la, by show 3 ≤ sizeLine; decide, fun t2 ht2 => ?_⟩
    refine q t2 _ (s1.trans (s2.trans (same_new ht2))) ?_
    rw [e]
    exact .tup (SqT.of upd_same) (.cons (.str _) (.cons (.str _) (.cons (.int _) .nil)))
end
end Sw
set_option maxRecDepth 100000
set_option maxHeartbeats 4000000
namespace Sw
open PySem PySem.Spec PyProof.Rows L2
abbrev N26 : List Str := ["_law_arrows_here", "_law_over", "_law_found", "_law_turn", "_law_block", "_law_one"]
section
variable {P : Program} {w : World} {K : PySem.W.Frag} {mg : Str → Option Value} {base : Heap}
def spComesN (K : PySem.W.Frag) : Sp := fun vs H Q _ => ∃ (F : Addr) (o : Int) (es : List Ge), vs = [.ref F, .int o] ∧ ArrAt H F es ∧ Gok es ∧ ∀ (t : Addr) (H' : Hp) (ns : List Int), Same H H' → H' t = some (.lst (ns.map V.int)) → ns.length ≤ es.length → (∀ k ∈ ns, 0 ≤ k ∧ k < (es.length : Int)) → Q (.ref t) H'
theorem sc_comes : FnScope N26 ["_law_arrows_here", "_law_over"] (defScope (topS 26)) := ⟨rfl, rfl, rfl, by decide +kernel, rfl, by decide +kernel, by decide +kernel⟩
theorem ok_comes {f : Addr} {fd : FuncData} (D : Df K mg "_law_comes" (topS 26) ["_law_arrows_here", "_law_over"] f fd) (B : Bt mg) : FnOk P w K mg base CX0 1 f fd ["_law_arrows_here", "_law_over"] (spComesN K) := by
  refine D.fn.ok sc_comes (fun vs H Q E h => ?_) (fun cdv A outer s H vs Q E hr h => ?_)
  · obtain ⟨F, o, es, rfl, _⟩ := h
    rfl
  obtain ⟨F, o, es, rfl, hA, hg, q⟩ := h
  have nd := sc_comes.nd
  have hu := hr.units
  refine ⟨_, C8.pss_cut (ps_set (i := 2) nd rfl (Or.inl rfl) (pe_ifExp (pt_cmpR op_ne (pv 1) pe_int (nomark _)) (pe_lst (pa_cons pe_int pa_nil)) (pe_lst pa_nil)))
    (pss_cons (ps_for PassesOwn.never rfl (pi_range1 (by rfl) B.range (pa_cons (pe_callB call_len_seq (by rfl) B.len PySem.boot_len (pa_cons (pv 0) pa_nil)) pa_nil)) (pg_name (i := 3) nd rfl (Or.inl rfl))
      (pss_one (ps_for PassesOwn.never rfl (pi_range1 (by rfl) B.range (pa_cons (pe_callB call_len_seq (by rfl) B.len PySem.boot_len (pa_cons (pv 0) pa_nil)) pa_nil)) (pg_name (i := 4) nd rfl (Or.inr rfl))
        (pss_one (ps_if (PW.pt (pw_and (pt_cmpR op_ne (pv 4) (pv 1) (nomark _)) (pw_and (pt_cmpR op_notIn_seq (pv 4) (pv 2) (by with_unfolding_all rfl)) (pw_and1 (pt_cmpR (op_neD hu)
          (pe_lc (own := [("_law_one", 5)]) (g := gName 5) (tt := tTest (tOp (rIn K false) (tVar 4) (tOp (rIxL K) (tVar 0) (tVar 5)))) rfl nd (pi_list (pv 2)) (blkOk_by (N := N26) (sc := defScope (topS 26)) (by decide +kernel)) (fun _ _ _ _ _ => pg_name (i := 5) nd rfl (Or.inl rfl))
            (fun _ _ _ _ _ => pts_one (pt_cmpR (r := rIn K false) op_in_seq (pv 4) (pe_ix (r := rIxL K) ix_list (pv 0) (pv 5) (fun _ _ => rfl)) (by with_unfolding_all rfl)))
            (fun _ _ _ _ _ => pv 5)) (pe_lst pa_nil) (nomark _))))))
          (pss_one (ps_expr (pe_bm PySem.F.plainAttrs_list PySem.F.slot_list_append PySem.F.type_list_append mt_append (pv 2) (pa_cons (pv 4) pa_nil)))) pss_nil)))))
    (pss_one (ps_ret (pe_callB cr_sorted (by rfl) B.sorted (by decide +kernel) (pa_cons (pv 2) pa_nil))))), ?_⟩
  have few := hg.few
  obtain ⟨as0, F0, p0⟩ := hA.ex
  have las : (as0.map V.ref).length = es.length := by rw [List.length_map]; exact p0.length
  refine ⟨fun σ H' => ∃ (L : Addr) (fs : List Int), σ = [some (.ref F), some (.int o), some (.ref L), none, none, none] ∧ H L = none ∧ Same H H' ∧ H' L = some (.lst (fs.map V.int)) ∧ CI es o fs ∧ (Clo es o fs ∨ 1 ≤ fs.length), ?_, ?_⟩
  · refine ⟨_, rfl, rfl, _, rfl, ?_⟩
    refine ite2 (fun c => ?_) (fun c => ?_)
    · have c' : o ≠ 0 := by simpa using c
      exact ⟨by show 1 ≤ sizeLine; decide, fun L hL => ⟨L, [0], rfl, hL, same_new hL, upd_same, ⟨by simp, fun k hk => by
        have : k = 0 := by simpa using hk
        rw [this]; exact .zero (fun e => c' (Option.some.inj e)), fun _ => by simp⟩, .inr (Nat.le_refl _)⟩⟩
    · have c' : o = 0 := by simpa using c
      exact ⟨Nat.zero_le _, fun L hL => ⟨L, [], rfl, hL, same_new hL, upd_same, ⟨List.nodup_nil, fun k hk => absurd hk List.not_mem_nil, fun h => absurd c' h⟩, .inl fun b hb => absurd hb List.not_mem_nil⟩⟩
  rintro σ1 H1 ⟨L, fs1, rfl, hL, s1, l1, ci1, cl1⟩
  refine ⟨_, rfl, F, _, rfl, .inl (SqL.of (s1 _ _ F0)), _, rfl, by omega, by omega, ?_⟩
  rw [las, Int.toNat_natCast]
  refine for_it walk_rangeA (fun t σ H' => ∃ (fs : List Int) (x3 x4 : Option V), σ = [some (.ref F), some (.int o), some (.ref L), x3, x4, none] ∧ Same H H' ∧ H' L = some (.lst (fs.map V.int)) ∧ CI es o fs ∧ (Clo es o fs ∨ t + 1 ≤ fs.length))
    ⟨fs1, none, none, rfl, s1, l1, ci1, by simpa using cl1⟩ (fun _ _ _ _ _ => trivial) ?_ ?_
  · rintro t x σ H2 H3 ht ⟨fs2, x3, x4, rfl, s2, l2, ci2, cl2⟩ ⟨rfl, hx⟩
    obtain ⟨rfl, _⟩ := ivs_at hx
    refine ⟨_, rfl, F, _, rfl, .inl (SqL.of (s2 _ _ F0)), _, rfl, by omega, by omega, ?_⟩
    rw [las, Int.toNat_natCast]
    refine for_it walk_rangeA (fun j σ H' => ∃ (fs : List Int) (x4 : Option V), σ = [some (.ref F), some (.int o), some (.ref L), some (.int (t : Int)), x4, none] ∧ Same H H' ∧ H' L = some (.lst (fs.map V.int)) ∧ Rnd es o fs2 fs j)
      ⟨fs2, _, rfl, s2, l2, ci2, fun k h => h, .inl rfl, fun _ => rfl, fun k k0 k1 => by omega⟩ (fun _ _ _ _ _ => trivial) ?_ ?_
    · rintro j x σ H4 H5 hj ⟨fs, x4, rfl, s4, l4, R⟩ ⟨rfl, hx⟩
      obtain ⟨rfl, _⟩ := ivs_at hx
      have fl := R.ci.few hg
      refine ⟨_, rfl, _, rfl, rfl, _, rfl, ?_⟩
      refine ite2 (fun c1 => ?_) (fun c1 => ?_)
      rotate_left
      · have c1' : (j : Int) = o := by simpa using c1
        exact iteF ⟨fs, _, rfl, s4, l4, R.skip fun h => absurd c1' h⟩
      have c1' : (j : Int) ≠ o := by simpa using c1
      refine ⟨_, rfl, _, rfl, L, _, rfl, .inl (SqL.of l4), rfl, flat_ints _, _, rfl, ?_⟩
      rw [if_pos rfl, inV_ints]
      refine ite2 (fun c2 => ?_) (fun c2 => ?_)
      rotate_left
      · have c2' : (j : Int) ∈ fs := by simpa using c2
        exact iteF ⟨fs, _, rfl, s4, l4, R.skip fun _ _ => c2'⟩
      have c2' : (j : Int) ∉ fs := by simpa using c2
      refine ⟨_, rfl, L, rfl, ⟨_, SqL.of l4⟩, fun D2 hD2 => ?_⟩
      refine lc_pure (walk_list (xs := fs.map V.int)) (fun i => decide ((j : Int) ∈ arr es (fs.getD i 0))) (fun i => V.int (fs.getD i 0)) hD2 (fun _ h => SqL.of (h _ _ l4)) (big_size (by rw [List.length_map]; omega)) ?_ ?_ ?_
      · intro i y H6 Q6 hi hy s6 q6
        rw [List.length_map] at hi
        rw [List.getElem?_map, List.getElem?_eq_getElem hi] at hy
        have hy' : V.int fs[i] = y := Option.some.inj hy
        subst hy'
        rw [show fs.getD i 0 = fs[i] by rw [List.getD_eq_getElem?_getD, List.getElem?_eq_getElem hi]; rfl] at q6
        obtain ⟨y0, y1⟩ := (R.ci.rc _ (List.getElem_mem hi)).rng hg
        obtain ⟨as, a, ea, eb, ec, _⟩ := (hA.same (s4.trans s6)).at y0 y1
        refine ⟨_, rfl, _, rfl, _, rfl, F, _, _, _, rfl, rfl, SqL.of ea, eb, a, _, rfl, .inl (SqL.of ec), rfl, flat_ints _, _, rfl, ?_⟩
        rw [if_neg (by simp), inV_ints]
        exact q6 H6 (Same.refl _)
      · intro i y H6 Q6 hi hy _ s6 q6
        rw [List.length_map] at hi
        rw [List.getElem?_map, List.getElem?_eq_getElem hi] at hy
        have hy' : V.int fs[i] = y := Option.some.inj hy
        subst hy'
        rw [show fs.getD i 0 = fs[i] by rw [List.getD_eq_getElem?_getD, List.getElem?_eq_getElem hi]; rfl] at q6
        exact ⟨_, rfl, q6 H6 (Same.refl _)⟩
      · intro H6 s6 hD6
        rw [List.length_map] at hD6
        have ev : ((List.range fs.length).filter fun i => decide ((j : Int) ∈ arr es (fs.getD i 0))).map (fun i => V.int (fs.getD i 0)) = (((List.range fs.length).filter fun i => decide ((j : Int) ∈ arr es (fs.getD i 0))).map (fun i => fs.getD i 0)).map V.int := by rw [List.map_map]; rfl
        rw [ev] at hD6
        have ex : (((List.range fs.length).filter fun i => decide ((j : Int) ∈ arr es (fs.getD i 0))).map (fun i => fs.getD i 0)) ≠ [] ↔ ∃ b ∈ fs, (j : Int) ∈ arr es b := by
          constructor
          · intro h
            obtain ⟨b, hb⟩ := List.exists_mem_of_ne_nil _ h
            obtain ⟨i, hi, rfl⟩ := List.mem_map.mp hb
            obtain ⟨hi1, hi2⟩ := List.mem_filter.mp hi
            rw [List.mem_range] at hi1
            refine ⟨_, ?_, of_decide_eq_true hi2⟩
            rw [List.getD_eq_getElem?_getD, List.getElem?_eq_getElem hi1]
            exact List.getElem_mem hi1
          · rintro ⟨b, hb, hb2⟩ h
            obtain ⟨i, hi, rfl⟩ := List.getElem_of_mem hb
            have : fs.getD i 0 = fs[i] := by rw [List.getD_eq_getElem?_getD, List.getElem?_eq_getElem hi]; rfl
            have hm : fs.getD i 0 ∈ (((List.range fs.length).filter fun i => decide ((j : Int) ∈ arr es (fs.getD i 0))).map (fun i => fs.getD i 0)) := List.mem_map.mpr ⟨i, List.mem_filter.mpr ⟨List.mem_range.mpr hi, by rw [this]; exact decide_eq_true hb2⟩, rfl⟩
            rw [h] at hm
            cases hm
        generalize (((List.range fs.length).filter fun i => decide ((j : Int) ∈ arr es (fs.getD i 0))).map (fun i => fs.getD i 0)) = ns at hD6 ex
        refine ⟨Nat.zero_le _, fun N hN => ?_⟩
        have sN := same_new (o := .lst []) hN
        refine ⟨.list (ns.map PyData.int), .list [], ints_list (sN _ _ hD6), .lst (SqL.of upd_same) .nil, ints_shaped _, nil_shaped, _, rfl, ?_⟩
        have s7 := s4.trans (s6.trans sN)
        have l7 := sN _ _ (s6 _ _ l4)
        generalize upd H6 N (.lst []) = H7 at s7 l7
        rw [eqv_nil_list]
        refine ite2 (fun c3 => ?_) (fun c3 => ?_)
        · have hne : ns ≠ [] := fun z => by rw [z] at c3; cases c3
          refine ⟨_, rfl, .inl ⟨rfl, _, SqL.of l7⟩, _, rfl, L, _, _, rfl, rfl, l7, by rw [List.length_map, sizeLine_eq]; omega, ?_⟩
          exact ⟨fs ++ [(j : Int)], _, rfl, fun c o e => by rw [upd_ne (ne_of_none e hL)]; exact s7 _ _ e, by rw [upd_same, List.map_append]; rfl, R.push c1' c2' (ex.mp hne)⟩
        · have hne : ns = [] := by
            cases ns with
            | nil => rfl
            | cons y ys => exact absurd rfl c3
          exact ⟨fs, _, rfl, s7, l7, R.skip fun _ hb => absurd hne (ex.mpr hb)⟩
    · rintro σ H4 ⟨fs, x4, rfl, s4, l4, R⟩
      refine ⟨fs, _, _, rfl, s4, l4, R.ci, ?_⟩
      rcases cl2 with h | h
      · rw [R.cl h]
        exact .inl h
      · rcases R.gr with e | e
        · subst e
          exact .inl (R.clo hg)
        · exact .inr (by omega)
  · rintro σ H2 ⟨fs, x3, x4, rfl, s2, l2, ci, cl⟩
    have fl := ci.few hg
    have clo : Clo es o fs := cl.elim id fun h => by omega
    refine ⟨_, rfl, L, fs, rfl, SqL.of l2, by omega, fun ns' p perm _ new => ?_⟩
    exact q p _ ns' (s2.trans (same_new new)) upd_same (by rw [perm.length_eq]; exact fl) fun k hk => (ci.rc k (perm.mem_iff.mp hk)).rng hg
end
end Sw
set_option maxRecDepth 100000
set_option maxHeartbeats 4000000
namespace Sw
open PySem PySem.Spec PyProof.Rows L2
theorem DpAll_pick {K : PySem.W.Frag} {H : Hp} {xs : List V} {ds : List PyData} (h : DpAll K H xs ds) : ∀ (I : List Nat), (∀ i ∈ I, i < xs.length) → DpAll K H (I.map fun i => xs.getD i .non) (I.map fun i => ds.getD i .none)
  | [], _ => .nil
  | i :: I, hi => by
    have h1 := hi i List.mem_cons_self
    obtain ⟨d, e1, e2⟩ := DpAll_get h (List.getElem?_eq_getElem h1)
    refine .cons ?_ (DpAll_pick h I fun j hj => hi j (List.mem_cons_of_mem _ hj))
    show Dp K H (xs.getD i .non) (ds.getD i .none)
    rw [show xs.getD i .non = xs[i] by rw [List.getD_eq_getElem?_getD, List.getElem?_eq_getElem h1]; rfl, show ds.getD i .none = d by rw [List.getD_eq_getElem?_getD, e1]; rfl]
    exact e2
theorem eqvAll_ints : ∀ xs ys : List Int, PyData.eqvAll (xs.map PyData.int) (ys.map PyData.int) = decide (xs = ys)
  | [], [] => by simp [PyData.eqvAll]
  | [], y :: ys => by simp [PyData.eqvAll]
  | x :: xs, [] => by simp [PyData.eqvAll]
  | x :: xs, y :: ys => by
    have ih := eqvAll_ints xs ys
    simp only [List.map_cons, PyData.eqvAll, ih]
    rw [Bool.eq_iff_iff]
    simp [PyData.eqv]
theorem eqv_lints (xs ys : List Int) : PyData.eqv (.list (xs.map PyData.int)) (.list (ys.map PyData.int)) = decide (xs = ys) := by
  rw [← eqvAll_ints]
  simp [PyData.eqv]
theorem eqv_tints (xs ys : List Int) : PyData.eqv (.tuple (xs.map PyData.int)) (.tuple (ys.map PyData.int)) = decide (xs = ys) := by
  rw [← eqvAll_ints]
  simp [PyData.eqv]
/-- the blocks that are in ns, rising -/
def risOf (n : Nat) (ns : List Int) : List Int := ((List.range n).filter fun i : Nat => decide ((i : Int) ∈ ns)).map fun i : Nat => (i : Int)
theorem risOf_ris (n : Nat) (ns : List Int) : (risOf n ns).Pairwise (· < ·) := by
  unfold risOf
  rw [List.pairwise_map]
  exact (List.Pairwise.filter _ List.pairwise_lt_range).imp fun h => by omega
theorem mem_risOf {n : Nat} {ns : List Int} {k : Int} : k ∈ risOf n ns ↔ 0 ≤ k ∧ k < (n : Int) ∧ k ∈ ns := by
  unfold risOf
  rw [List.mem_map]
  constructor
  · rintro ⟨i, hi, rfl⟩
    obtain ⟨h1, h2⟩ := List.mem_filter.mp hi
    have := List.mem_range.mp h1
    exact ⟨by omega, by omega, by simpa using h2⟩
  · rintro ⟨h0, h1, h2⟩
    refine ⟨k.toNat, List.mem_filter.mpr ⟨List.mem_range.mpr (by omega), ?_⟩, Int.toNat_of_nonneg h0⟩
    rw [Int.toNat_of_nonneg h0]
    simpa using h2
theorem risOf_eq {n : Nat} {ns : List Int} : risOf n ns = ns ↔ dRis n (.tuple (ns.map PyData.int)) = true := by
  rw [dRis_ints, Bool.and_eq_true, decide_eq_true_iff, List.all_eq_true]
  constructor
  · intro e
    refine ⟨by rw [← e]; exact risOf_ris n ns, fun k hk => ?_⟩
    rw [← e] at hk
    obtain ⟨h0, h1, _⟩ := mem_risOf.mp hk
    simp [h0, h1]
  · rintro ⟨h1, h2⟩
    refine rising_eq (risOf_ris n ns) h1 fun k => ?_
    rw [mem_risOf]
    refine ⟨fun h => h.2.2, fun h => ?_⟩
    have := h2 k h
    simp only [Bool.and_eq_true, decide_eq_true_eq] at this
    exact ⟨this.1, this.2, h⟩
theorem risOf_len (n : Nat) (ns : List Int) : (risOf n ns).length ≤ n := by
  unfold risOf
  rw [List.length_map]
  exact Nat.le_trans (List.length_filter_le _ _) (by rw [List.length_range]; exact Nat.le_refl _)
/-- 0 is in a rising one from 0 on just where it is ahead -/
theorem zero_ahead {ns : List Int} (h1 : ns.Pairwise (· < ·)) (h2 : ∀ k ∈ ns, 0 ≤ k) : ns.take 1 = [0] ↔ (0 : Int) ∈ ns := by
  cases ns with
  | nil => simp
  | cons a r =>
    rw [List.take_succ_cons, List.take_zero]
    constructor
    · intro e
      injection e with e _
      rw [e]
      exact List.mem_cons_self
    · intro hm
      rcases List.mem_cons.mp hm with e | hm
      · rw [← e]
      · have := (List.pairwise_cons.mp h1).1 0 hm
        have := h2 a List.mem_cons_self
        omega
theorem head_filter {p : Int → Bool} : ∀ ns : List Int, ns.find? p = (ns.filter p).head?
  | [] => rfl
  | n :: ns => by
    by_cases h : p n = true
    · rw [List.find?_cons_of_pos h, List.filter_cons_of_pos h]; rfl
    · rw [List.find?_cons_of_neg h, List.filter_cons_of_neg h]
      exact head_filter ns
theorem sl_one {K : PySem.W.Frag} {H : Hp} {Q : VK} {a : Addr} {ns : List Int} (ha : SqT K H a (ns.map V.int)) (q : ∀ c H', Same H H' → SqT K H' c ((ns.take 1).map V.int) → Q (.ref c) H') : rSlA K (.ref a) none (some 1) H Q := by
  have e2 : HT.sIx (ns.map V.int).length (ns.map V.int).length (some 1) = min 1 ns.length := by
    rw [show (1 : Int) = ((1 : Nat) : Int) by rfl, HT.sIx_nat, List.length_map]
  have e1 : HT.sIx (ns.map V.int).length 0 none = 0 := rfl
  refine ⟨a, _, rfl, ha, fun h => ?_, fun _ p hp => ?_⟩
  · refine q a H (Same.refl _) ?_
    rw [e2, List.length_map] at h
    rw [List.take_of_length_le (by omega)]
    exact ha
  · refine q p _ (same_new hp) (SqT.of ?_)
    rw [upd_same]
    unfold cutV
    rw [e1, e2, List.drop_zero, Nat.sub_zero, List.map_take]
    congr 2
    by_cases h : 1 ≤ ns.length
    · rw [Nat.min_eq_left h]
    · have : ns = [] := List.eq_nil_of_length_eq_zero (by omega)
      subst this
      rfl
theorem all_goals {es : List Ge} {b o : Int} {ns : List Int} : ((arr es b).filter fun g => !decide (g = o) && !decide (g ∈ ns)).isEmpty = ((goalsAt es b).all fun g => decide (g = o) || decide (g ∈ ns)) := by
  rw [Bool.eq_iff_iff, List.isEmpty_iff, List.filter_eq_nil_iff, List.all_eq_true]
  constructor
  · intro h g hg
    have := h g (mem_goalsAt.mp hg)
    by_cases h1 : g = o
    · simp [h1]
    · by_cases h2 : g ∈ ns
      · simp [h2]
      · simp [h1, h2] at this
  · intro h g hg
    have := h g (mem_goalsAt.mpr hg)
    by_cases h1 : g = o
    · simp [h1]
    · by_cases h2 : g ∈ ns
      · simp [h2]
      · simp [h1, h2] at this
theorem range_filter' {α β : Type} (p : α → Bool) (g : α → β) (d : α) (xs : List α) : ((List.range xs.length).filter fun i => p (xs.getD i d)).map (fun i => g (xs.getD i d)) = (xs.filter p).map g := by
  have e := range_getD2' (fun x : α => x) d xs
  rw [List.map_id'] at e
  have h : (((List.range xs.length).map fun i => xs.getD i d).filter p).map g = (xs.filter p).map g := by rw [e]
  rw [← h, List.filter_map, List.map_map]
  rfl
theorem arr_len (es : List Ge) (b : Int) : (arr es b).length ≤ 2 := by
  unfold arr
  split
  · rename_i e _
    cases e <;> simp [allG]
  · simp
theorem imap_emp (xs : List Int) : (xs.map PyData.int).isEmpty = xs.isEmpty := by cases xs <;> rfl
section
variable {P : Program} {w : World} {K : PySem.W.Frag} {mg : Str → Option Value} {base : Heap}
abbrev NFd : List Str := ["_law_arrows_here", "_law_over", "_law_under", "_law_thing", "_law_one", "_law_block", "_law_inside", "_law_after"]
def spFenced (K : PySem.W.Frag) : Sp := fun vs H Q _ => ∃ (F : Addr) (o u : Int) (v : V) (d : PyData) (es : List Ge), vs = [.ref F, .int o, .int u, v] ∧ ArrAt H F es ∧ Gok es ∧ Dp K H v d ∧ (∃ M, Fit M 60 60 1000000 d) ∧ ∀ t H', Same H H' → Dp K H' (.ref t) (saidD (fenJ es o u d)) → Q (.ref t) H'
theorem sc_fenced : FnScope NFd ["_law_arrows_here", "_law_over", "_law_under", "_law_thing"] (defScope (topS 27)) := ⟨rfl, rfl, rfl, by decide +kernel, rfl, by decide +kernel, by decide +kernel⟩
theorem ok_fenced {f f1 : Addr} {fd fd1 : FuncData} (D : Df K mg "_law_fenced" (topS 27) ["_law_arrows_here", "_law_over", "_law_under", "_law_thing"] f fd) (D1 : Df K mg "_law_number" (topS 23) ["_law_thing"] f1 fd1) (B : Bt mg)
    (G1 : FnOk P w K mg base CX0 1 f1 fd1 ["_law_thing"] (spLook K dNum)) : FnOk P w K mg base CX0 2 f fd ["_law_arrows_here", "_law_over", "_law_under", "_law_thing"] (spFenced K) := by
  refine D.fn.ok sc_fenced (fun vs H Q E h => ?_) (fun cdv A outer s H vs Q E hr h => ?_)
  · obtain ⟨F, o, u, v, d, es, rfl, _⟩ := h
    rfl
  obtain ⟨F, o, u, v, d, es, rfl, hA, hok, hd, ⟨M, hf⟩, q⟩ := h
  have nd := sc_fenced.nd
  have hu := hr.units
  refine ⟨_, (pss_cons (ps_if (PW.pt (pw_or (pt_not (pt_val (pe_callB (r := rIsi K) call_isi (by rfl) B.isi (by decide +kernel) (pa_cons (pv 3) (pa_cons (pe_bltn (v := .ty "tuple") (by rfl) B.tuple (by decide +kernel) rfl) pa_nil))))) (pw_or1 (pt_cmpR (r := rNeD K) (op_neD hu) (pe_lc (own := [("_law_one", 4)]) (g := gName 4) (tt := tNot (tB (tCall (spLook K dNum) [] E0 (tCons (tVar 4) tNil)))) rfl nd (pi_tup (pv 3)) (blkOk_by (N := NFd) (sc := defScope (topS 27)) (by decide +kernel)) (fun _ _ _ _ _ => pg_name (i := 4) nd rfl (Or.inl rfl)) (fun _ _ _ _ _ => (pts_one (pt_not (pt_val (pe_call G1 hr (by rfl) D1.gl D1.fn.kp D1.bd .nil pass0 (pa_cons (pv 4) pa_nil)))))) (fun _ _ _ _ _ => (pv 4))) (pe_lst pa_nil) (nomark _))))) (pss_one (ps_ret (pe_tup (pa_cons pe_str (pa_cons pe_str (pa_cons (pe_un un_neg pe_int) pa_nil)))))) pss_nil)
    (pss_cons (ps_if (pt_cmpR (r := rNeD K) (op_neD hu) (pe_lc (own := [("_law_block", 5)]) (g := gName 5) (tt := tTest (tOp (rIn K false) (tVar 5) (tVar 3))) rfl nd (pi_range1 (by rfl) B.range (pa_cons (pe_callB call_len_seq (by rfl) B.len PySem.boot_len (pa_cons (pv 0) pa_nil)) pa_nil)) (blkOk_by (N := NFd) (sc := defScope (topS 27)) (by decide +kernel)) (fun _ _ _ _ _ => pg_name (i := 5) nd rfl (Or.inl rfl)) (fun _ _ _ _ _ => (pts_one (pt_cmpR (r := rIn K false) op_in_seq (pv 5) (pv 3) (by with_unfolding_all rfl)))) (fun _ _ _ _ _ => (pv 5))) (pe_callTy call_list_of (by rfl) B.list (by decide +kernel) (pa_cons (pv 3) pa_nil)) (nomark _)) (pss_one (ps_ret (pe_tup (pa_cons pe_str (pa_cons pe_str (pa_cons (pe_un un_neg pe_int) pa_nil)))))) pss_nil)
    (pss_cons (ps_setLc (i := 6) (own := [("_law_block", 5)]) (g := gName 5) (tt := tTest (tOp (rIn K false) (tVar 5) (tTup (tCons (tVar 1) (tCons (tVar 2) tNil))))) rfl nd rfl rfl (sw_true rfl rfl rfl (by decide +kernel)) (pi_tup (pv 3)) (blkOk_by (N := NFd) (sc := defScope (topS 27)) (by decide +kernel)) (fun _ _ _ _ _ => pg_name (i := 5) nd rfl (Or.inl rfl)) (fun _ _ _ _ _ => (pts_one (pt_cmpR (r := rIn K false) op_in_seq (pv 5) (pe_tup (pa_cons (pv 1) (pa_cons (pv 2) pa_nil))) (by with_unfolding_all rfl)))) (fun _ _ _ _ _ => (pv 5)))
    (pss_cons (ps_if (pt_cmpR (r := rNeD K) (op_neD hu) (pv 6) (pe_lst pa_nil) (nomark _)) (pss_one (ps_ret (pe_tup (pa_cons pe_str (pa_cons pe_str (pa_cons (pe_ix (r := rIxL K) ix_list (pv 6) pe_int (fun _ _ => rfl)) pa_nil)))))) pss_nil)
    (C8.pss_cut (ps_if (PW.pt (pw_and (pt_cmpR op_ne (pv 1) pe_int (nomark _)) (pw_and1 (pt_cmpR (r := rNeD K) (op_neD hu) (pe_slice sl_tupA (pv 3) po_none (po_some pe_int)) (pe_tup (pa_cons pe_int pa_nil)) (nomark _))))) (pss_one (ps_ret (pe_tup (pa_cons pe_str (pa_cons pe_str (pa_cons (pe_un un_neg pe_int) pa_nil)))))) pss_nil)
    (pss_cons (ps_for PassesOwn.never rfl (pi_tup (pv 3)) (pg_name (i := 5) nd rfl (Or.inl rfl))
    (pss_one (ps_if (pt_cmpR (r := rNeD K) (op_neD hu) (pe_lc (own := [("_law_after", 7)]) (g := gName 7) (tt := tAnd (tTest (tOp rNe (tVar 7) (tVar 1))) (tTest (tOp (rIn K true) (tVar 7) (tVar 3)))) rfl nd (pi_list (pe_ix (r := rIxL K) ix_list (pv 0) (pv 5) (fun _ _ => rfl))) (blkOk_by (N := NFd) (sc := defScope (topS 27)) (by decide +kernel)) (fun _ _ _ _ _ => pg_name (i := 7) nd rfl (Or.inl rfl)) (fun _ _ _ _ _ => (pts_one (PW.pt (pw_and (pt_cmpR op_ne (pv 7) (pv 1) (nomark _)) (pw_and1 (pt_cmpR (r := rIn K true) op_notIn_seq (pv 7) (pv 3) (by with_unfolding_all rfl))))))) (fun _ _ _ _ _ => (pv 7))) (pe_lst pa_nil) (nomark _)) (pss_one (ps_ret (pe_tup (pa_cons pe_str (pa_cons pe_str (pa_cons (pv 5) pa_nil)))))) pss_nil)))
    (pss_one (ps_ret (pe_tup (pa_cons pe_str (pa_cons pe_bl pa_nil))))))))))), ?_⟩
  have few := hok.few
  have no3 : ∀ {H1 : Hp} (x : Str) (y : Int), Same H H1 → fenJ es o u d = some (x, y) → ∀ t, H1 t = none → Q (.ref t) (upd H1 t (.tup [.str "no", .str x, .int y])) := fun {H1} x y s1 e t ht => by
    refine q t _ (s1.trans (same_new ht)) ?_
    rw [e]
    exact .tup (SqT.of upd_same) (.cons (.str _) (.cons (.str _) (.cons (.int _) .nil)))
  have shp : dRis es.length d = false → fenJ es o u d = some (("shape" : Str), (-1 : Int)) := fun h => by
    unfold fenJ
    rw [if_neg (by rw [h]; simp)]
  obtain ⟨t1, ty1, k1⟩ := isa_tup hd
  refine ⟨v, rfl, v, .ty "tuple", t1, _, _, rfl, .ty _, ty1, k1, _, rfl, ?_⟩
  cases hd with
  | non => exact iteT (iteT ⟨1, rfl, by show 3 ≤ sizeLine; decide, no3 _ _ (Same.refl _) (shp rfl)⟩)
  | bl b => exact iteT (iteT ⟨1, rfl, by show 3 ≤ sizeLine; decide, no3 _ _ (Same.refl _) (shp rfl)⟩)
  | int i => exact iteT (iteT ⟨1, rfl, by show 3 ≤ sizeLine; decide, no3 _ _ (Same.refl _) (shp rfl)⟩)
  | str z => exact iteT (iteT ⟨1, rfl, by show 3 ≤ sizeLine; decide, no3 _ _ (Same.refl _) (shp rfl)⟩)
  | lst h r => exact iteT (iteT ⟨1, rfl, by show 3 ≤ sizeLine; decide, no3 _ _ (Same.refl _) (shp rfl)⟩)
  | @tup t xs ds ht hr0 =>
  refine iteF ?_
  have hlen := DpAll_len hr0
  obtain ⟨hl, _, _, hin⟩ := hf.inTup
  refine ⟨_, rfl, t, rfl, ⟨_, ht⟩, fun D1' hD1 => ?_⟩
  refine lc_pure (walk_tup (xs := xs)) (fun i => !dNum (ds.getD i .none)) (fun i => xs.getD i .non) hD1 (fun _ h => sameT h ht) (big_size (by omega)) ?_ ?_ ?_
  · intro i x H1 Q1 hi hxi hs q1
    obtain ⟨d, hdi, hdp⟩ := DpAll_get (DpAll_same hs hr0) hxi
    rw [show ds.getD i .none = d by simp [List.getD, hdi]] at q1
    exact ⟨x, rfl, x, d, rfl, hdp, ⟨M, (hin d (List.mem_of_getElem? hdi)).mono (Nat.le_refl _) (Nat.le_refl _) (by omega) (Nat.le_refl _)⟩, fun H2 s2 => ⟨_, rfl, q1 H2 s2⟩⟩
  · intro i x H1 Q1 hi hxi _ hs q1
    rw [show xs.getD i .non = x by simp [List.getD, hxi]] at q1
    exact ⟨_, rfl, q1 H1 (Same.refl _)⟩
  intro H1 s1 hL1
  refine ⟨Nat.zero_le _, fun N hN => ?_⟩
  have s2 := same_new (o := .lst []) hN
  have e2 : upd H1 N (.lst []) N = some (.lst []) := upd_same
  generalize upd H1 N (.lst []) = H2 at s2 e2
  have s02 := s1.trans s2
  have hI : ∀ i ∈ (List.range xs.length).filter (fun i => !dNum (ds.getD i .none)), i < xs.length := fun i hi => List.mem_range.mp (List.mem_filter.mp hi).1
  refine ⟨.list (((List.range xs.length).filter (fun i => !dNum (ds.getD i .none))).map fun i => ds.getD i .none), .list [], .lst (SqL.of (s2 _ _ hL1)) (DpAll_pick (DpAll_same s02 hr0) _ hI), .lst (SqL.of e2) .nil, fit_shaped (M := M) (l := 60) (n := 59) (B := 1000000) (fun d hd => ?_) (by omega), nil_shaped, _, rfl, ?_⟩
  · obtain ⟨i, hi, rfl⟩ := List.mem_map.mp hd
    have h1 := hI i hi
    rw [hlen] at h1
    rw [List.getD_eq_getElem?_getD, List.getElem?_eq_getElem h1]
    exact hin _ (List.getElem_mem h1)
  rw [eqv_nil_list]
  cases hall : ds.all dNum with
  | false =>
    have hne : (((List.range xs.length).filter (fun i => !dNum (ds.getD i .none))).map fun i => ds.getD i .none).isEmpty = false := by
      rw [List.isEmpty_eq_false_iff]
      intro e
      rw [List.map_eq_nil_iff, List.filter_eq_nil_iff] at e
      have : ds.all dNum = true := List.all_eq_true.mpr fun d hd => by
        obtain ⟨i, hi, rfl⟩ := List.getElem_of_mem hd
        have := e i (List.mem_range.mpr (by rw [hlen]; exact hi))
        rw [List.getD_eq_getElem?_getD, List.getElem?_eq_getElem hi] at this
        simpa using this
      rw [this] at hall
      cases hall
    rw [hne]
    refine iteT ?_
    exact ⟨1, rfl, by show 3 ≤ sizeLine; decide, no3 _ _ s02 (shp (by show (ds.all dNum && _) = false; rw [hall, Bool.false_and]))⟩
  | true =>
  have hemp : (((List.range xs.length).filter (fun i => !dNum (ds.getD i .none))).map fun i => ds.getD i .none).isEmpty = true := by
    rw [List.isEmpty_iff, List.map_eq_nil_iff, List.filter_eq_nil_iff]
    intro i hi
    have h1 : i < ds.length := by rw [← hlen]; exact List.mem_range.mp hi
    have := List.all_eq_true.mp hall _ (List.getElem_mem h1)
    rw [List.getD_eq_getElem?_getD, List.getElem?_eq_getElem h1]
    simpa using this
  rw [hemp]
  refine iteF ?_
  have ei := nums_ints hall
  generalize ds.map toI = ns at ei
  subst ei
  have ex := DpAll_ints_of hr0
  subst ex
  have nl : ns.length ≤ 60 := by rw [List.length_map] at hl; exact hl
  clear hemp hI hin hL1 hall hlen hl hr0
  have ht2 := sameT s02 ht
  -- rising, blocks
  obtain ⟨as0, F0, p0⟩ := (hA.same s02).ex
  have las : (as0.map V.ref).length = es.length := by rw [List.length_map]; exact p0.length
  refine ⟨_, rfl, F, _, rfl, .inl (SqL.of F0), _, rfl, by omega, by omega, ?_⟩
  rw [las, Int.toNat_natCast]
  refine fun D2 hD2 => ?_
  refine lc_pure walk_rangeA (fun i => decide ((i : Int) ∈ ns)) (fun i => V.int (i : Int)) hD2 (fun _ _ => trivial) (big_size (by omega)) ?_ ?_ ?_
  · intro i x H3 Q3 hi hx s3 q3
    obtain ⟨rfl, _⟩ := ivs_at hx
    refine ⟨_, rfl, _, rfl, t, _, rfl, .inr (sameT s3 ht2), rfl, flat_ints _, _, rfl, ?_⟩
    rw [if_neg (by simp), inV_ints]
    exact q3 H3 (Same.refl _)
  · intro i x H3 Q3 hi hx _ s3 q3
    obtain ⟨rfl, _⟩ := ivs_at hx
    exact ⟨_, rfl, q3 H3 (Same.refl _)⟩
  intro H3 s3 hD3
  rw [show (((List.range es.length).filter fun i : Nat => decide ((i : Int) ∈ ns)).map fun i : Nat => V.int (i : Int)) = (risOf es.length ns).map V.int by unfold risOf; rw [List.map_map]; rfl] at hD3
  have s03 := s02.trans s3
  refine ⟨_, rfl, t, _, rfl, .inr (sameT s03 ht), fun l4 hl4 => ?_⟩
  have s4 := same_new (o := .lst (ns.map V.int)) hl4
  have e4 : upd H3 l4 (.lst (ns.map V.int)) l4 = some (.lst (ns.map V.int)) := upd_same
  generalize upd H3 l4 (.lst (ns.map V.int)) = H4 at s4 e4
  have s04 := s03.trans s4
  refine ⟨.list ((risOf es.length ns).map PyData.int), .list (ns.map PyData.int), .lst (SqL.of (s4 _ _ hD3)) (DpAll_ints _), .lst (SqL.of e4) (DpAll_ints _), ints_shaped _, ints_shaped _, _, rfl, ?_⟩
  rw [eqv_lints]
  by_cases hR : risOf es.length ns = ns
  rotate_left
  · rw [decide_eq_false hR]
    refine iteT ?_
    exact ⟨1, rfl, by show 3 ≤ sizeLine; decide, no3 _ _ s04 (shp (Bool.eq_false_iff.mpr fun z => hR (risOf_eq.mpr z)))⟩
  rw [decide_eq_true hR]
  refine iteF ?_
  have hR' := risOf_eq.mp hR
  have ej : fenJ es o u (.tuple (ns.map PyData.int)) = fenN es o u ns := by
    unfold fenJ
    rw [if_pos hR']
    show fenN es o u ((ns.map PyData.int).map toI) = _
    rw [toI_ints]
  rw [ej] at no3 q
  rw [dRis_ints, Bool.and_eq_true, decide_eq_true_iff, List.all_eq_true] at hR'
  obtain ⟨ris, rg0⟩ := hR'
  have rg : ∀ k ∈ ns, 0 ≤ k ∧ k < (es.length : Int) := fun k hk => by
    have := rg0 k hk
    simpa using this
  clear shp ej rg0 hR hD3
  have ht4 := sameT s04 ht
  -- inside
  refine ⟨_, rfl, t, rfl, ⟨_, ht4⟩, fun D5 hD5 => ?_⟩
  refine lc_pure (walk_tup (xs := ns.map V.int)) (fun i => decide (ns.getD i 0 = o) || decide (ns.getD i 0 = u)) (fun i => V.int (ns.getD i 0)) hD5 (fun _ h => sameT h ht4) (big_size (by rw [List.length_map]; omega)) ?_ ?_ ?_
  · intro i x H5 Q5 hi hx s5 q5
    rw [List.getElem?_map] at hx
    obtain ⟨b, hb, rfl⟩ := Option.map_eq_some_iff.mp hx
    rw [show ns.getD i 0 = b by rw [List.getD_eq_getElem?_getD, hb]; rfl] at q5
    refine ⟨_, rfl, _, rfl, _, rfl, by show 2 ≤ sizeLine; decide, fun T2 hT => ?_⟩
    refine ⟨T2, [V.int o, V.int u], rfl, .inr (SqT.of upd_same), rfl, rfl, _, rfl, ?_⟩
    rw [if_neg (by simp), show inV (V.int b) [V.int o, V.int u] = (decide (b = o) || decide (b = u)) from (inV_ints (z := b) (zs := [o, u])).trans (by simp)]
    exact q5 _ (same_new hT)
  · intro i x H5 Q5 hi hx _ s5 q5
    rw [List.getElem?_map] at hx
    obtain ⟨b, hb, rfl⟩ := Option.map_eq_some_iff.mp hx
    rw [show ns.getD i 0 = b by rw [List.getD_eq_getElem?_getD, hb]; rfl] at q5
    exact ⟨_, rfl, q5 H5 (Same.refl _)⟩
  intro H5 s5 hD6
  rw [List.length_map, range_filter' (fun b => decide (b = o) || decide (b = u)) V.int 0 ns] at hD6
  have s05 := s04.trans s5
  have hfd := head_filter (p := fun b => decide (b = o) || decide (b = u)) ns
  have fil : (ns.filter fun b => decide (b = o) || decide (b = u)).length ≤ 60 := Nat.le_trans (List.length_filter_le _ _) nl
  generalize (ns.filter fun b => decide (b = o) || decide (b = u)) = ins at hD6 hfd fil
  refine ⟨_, rfl, Nat.zero_le _, fun N2 hN2 => ?_⟩
  have s6 := same_new (o := .lst []) hN2
  have e6 : upd H5 N2 (.lst []) N2 = some (.lst []) := upd_same
  generalize upd H5 N2 (.lst []) = H6 at s6 e6
  have s06 := s05.trans s6
  have hD7 := s6 _ _ hD6
  refine ⟨.list (ins.map PyData.int), .list [], .lst (SqL.of hD7) (DpAll_ints _), .lst (SqL.of e6) .nil, ints_shaped _, nil_shaped, _, rfl, ?_⟩
  rw [eqv_nil_list, imap_emp]
  cases hins : ins with
  | cons b r =>
    subst hins
    refine iteT ?_
    refine ⟨_, rfl, D5, _, 0, _, rfl, rfl, SqL.of hD7, atI_nat (j := 0) rfl, by show 3 ≤ sizeLine; decide, no3 _ _ s06 ?_⟩
    unfold fenN
    rw [hfd]
    rfl
  | nil =>
  subst hins
  refine iteF ?_
  have ef : fenN es o u ns = if o ≠ 0 ∧ (0 : Int) ∉ ns then some (("first" : Str), (-1 : Int)) else match ns.find? fun b => !((goalsAt es b).all fun g => decide (g = o) || decide (g ∈ ns)) with | some b => some (("next" : Str), b) | none => none := by
    unfold fenN
    rw [hfd]
    rfl
  rw [ef] at no3 q
  clear ef hfd fil hD6 hD7
  have ht6 := sameT s06 ht
  refine ⟨fun σ' H' => ∃ x5 x4 x7 : Option V, σ' = [some (.ref F), some (.int o), some (.int u), some (.ref t), x4, x5, some (.ref D5), x7] ∧ Same H H' ∧ ¬ (o ≠ 0 ∧ (0 : Int) ∉ ns), ?_, ?_⟩
  · refine ⟨_, rfl, rfl, _, rfl, ?_⟩
    by_cases ho : o = 0
    · rw [decide_eq_true (show V.int o = V.int 0 by rw [ho])]
      refine iteF ?_
      exact iteF ⟨_, _, _, rfl, s06, fun z => z.1 ho⟩
    · rw [decide_eq_false (show ¬ V.int o = V.int 0 from fun z => ho (by injection z))]
      refine iteT ?_
      refine ⟨_, rfl, 1, rfl, sl_one ht6 fun c H7 s7 hc7 => ?_⟩
      refine ⟨by show 1 ≤ sizeLine; decide, fun t0 ht0 => ?_⟩
      have s8 := same_new (o := .tup [V.int 0]) ht0
      refine ⟨.tuple ((ns.take 1).map PyData.int), .tuple (([0] : List Int).map PyData.int), .tup (sameT s8 hc7) (DpAll_ints _), .tup (SqT.of upd_same) (DpAll_ints [0]), tup_shaped (by rw [List.length_take]; omega), tup_shaped (by show 1 ≤ 60; omega), _, rfl, ?_⟩
      rw [eqv_tints]
      have s08 := s06.trans (s7.trans s8)
      by_cases hz : (0 : Int) ∈ ns
      · rw [decide_eq_true ((zero_ahead ris fun k hk => (rg k hk).1).mpr hz)]
        exact iteF ⟨_, _, _, rfl, s08, fun z => z.2 hz⟩
      · rw [decide_eq_false (fun z => hz ((zero_ahead ris fun k hk => (rg k hk).1).mp z))]
        refine iteT ?_
        exact ⟨1, rfl, by show 3 ≤ sizeLine; decide, no3 _ _ s08 (by rw [if_pos ⟨ho, hz⟩])⟩
  rintro σ7 H7 ⟨x5, x4, x7, rfl, s07, hnz⟩
  rw [if_neg hnz] at no3 q
  refine ⟨_, rfl, t, rfl, ⟨_, sameT s07 ht⟩, for_it (walk_tup (xs := ns.map V.int)) (fun i σ H' => ∃ x5 x4 x7 : Option V, σ = [some (.ref F), some (.int o), some (.int u), some (.ref t), x4, x5, some (.ref D5), x7] ∧ Same H H' ∧ ∀ c ∈ ns.take i, (!((goalsAt es c).all fun g => decide (g = o) || decide (g ∈ ns))) = false) ⟨_, _, _, rfl, s07, fun c hc => by simp at hc⟩ (fun i σ H' _ h => by obtain ⟨_, _, _, _, s', _⟩ := h; exact sameT s' ht) ?_ ?_⟩
  · rintro i x σ H8' H8 hi ⟨x5, x4, x7, rfl, s8, hno⟩ ⟨he, hx⟩
    subst he
    rw [List.getElem?_map] at hx
    obtain ⟨b, hb, rfl⟩ := Option.map_eq_some_iff.mp hx
    have etk : ns.take (i + 1) = ns.take i ++ [b] := by rw [List.take_succ, hb]; rfl
    obtain ⟨b0, b1⟩ := rg b (List.mem_of_getElem? hb)
    obtain ⟨as, a, ea, eb, ec, _⟩ := (hA.same s8).at b0 b1
    have al : (arr es b).length ≤ 2 := arr_len es b
    refine ⟨_, rfl, _, rfl, F, _, _, _, rfl, rfl, SqL.of ea, eb, a, rfl, ⟨_, SqL.of ec⟩, fun D9 hD9 => ?_⟩
    refine lc_pure (walk_list (xs := (arr es b).map V.int)) (fun i => !decide ((arr es b).getD i 0 = o) && !decide ((arr es b).getD i 0 ∈ ns)) (fun i => V.int ((arr es b).getD i 0)) hD9 (fun _ h => SqL.of (h _ _ ec)) (big_size (by rw [List.length_map]; omega)) ?_ ?_ ?_
    · intro j y H9 Q9 hj hy s9 q9
      rw [List.getElem?_map] at hy
      obtain ⟨k, hk, rfl⟩ := Option.map_eq_some_iff.mp hy
      rw [show (arr es b).getD j 0 = k by rw [List.getD_eq_getElem?_getD, hk]; rfl] at q9
      refine ⟨_, rfl, _, rfl, rfl, _, rfl, ?_⟩
      by_cases hko : k = o
      · rw [decide_eq_true (show V.int k = V.int o by rw [hko])]
        rw [decide_eq_true hko, Bool.not_true, Bool.false_and] at q9
        exact iteF (q9 H9 (Same.refl _))
      · rw [decide_eq_false (show ¬ V.int k = V.int o from fun z => hko (by injection z))]
        rw [decide_eq_false hko, Bool.not_false, Bool.true_and] at q9
        refine iteT ?_
        refine ⟨_, rfl, _, rfl, t, _, rfl, .inr (sameT (s8.trans s9) ht), rfl, flat_ints _, _, rfl, ?_⟩
        rw [if_pos rfl, inV_ints]
        exact q9 H9 (Same.refl _)
    · intro j y H9 Q9 hj hy _ s9 q9
      rw [List.getElem?_map] at hy
      obtain ⟨k, hk, rfl⟩ := Option.map_eq_some_iff.mp hy
      rw [show (arr es b).getD j 0 = k by rw [List.getD_eq_getElem?_getD, hk]; rfl] at q9
      exact ⟨_, rfl, q9 H9 (Same.refl _)⟩
    intro H9 s9 hD10
    rw [List.length_map, range_filter' (fun k => !decide (k = o) && !decide (k ∈ ns)) V.int 0 (arr es b)] at hD10
    refine ⟨Nat.zero_le _, fun N3 hN3 => ?_⟩
    have s10 := same_new (o := .lst []) hN3
    have e10 : upd H9 N3 (.lst []) N3 = some (.lst []) := upd_same
    generalize upd H9 N3 (.lst []) = H10 at s10 e10
    have s010 := s8.trans (s9.trans s10)
    refine ⟨.list (((arr es b).filter fun k => !decide (k = o) && !decide (k ∈ ns)).map PyData.int), .list [], .lst (SqL.of (s10 _ _ hD10)) (DpAll_ints _), .lst (SqL.of e10) .nil, ints_shaped _, nil_shaped, _, rfl, ?_⟩
    rw [eqv_nil_list, imap_emp, all_goals]
    cases hal : (goalsAt es b).all fun k => decide (k = o) || decide (k ∈ ns) with
    | false =>
      refine iteT ?_
      exact ⟨_, rfl, by show 3 ≤ sizeLine; decide, no3 _ _ s010 (by rw [find_hit hb (by rw [hal]; rfl) hno])⟩
    | true =>
      refine iteF ⟨_, _, _, rfl, s010, fun c hc => ?_⟩
      rw [etk] at hc
      rcases List.mem_append.mp hc with h | h
      · exact hno c h
      · have : c = b := by simpa using h
        rw [this, hal]; rfl
  · rintro σ H8 ⟨x5, x4, x7, rfl, s8, hno⟩
    rw [List.length_map, List.take_length] at hno
    refine ⟨by show 2 ≤ sizeLine; decide, fun t9 ht9 => ?_⟩
    refine q t9 _ (s8.trans (same_new ht9)) ?_
    rw [find_no hno]
    exact .tup (SqT.of upd_same) (.cons (.str _) (.cons (.bl _) .nil))
end
end Sw
set_option maxRecDepth 100000
set_option maxHeartbeats 4000000
namespace Sw
open PySem PySem.Spec PyProof.Rows L2
def evI (n : Nat) : List Int := (List.range n).map fun i : Nat => (i : Int)
theorem rg_ev (n : Nat) : rgV 0 (n : Int) = (evI n).map V.int := by
  unfold rgV evI
  rw [Int.sub_zero, Int.toNat_natCast, List.map_map]
  refine List.map_congr_left fun i _ => ?_
  show V.int (0 + (i : Int)) = V.int (i : Int)
  rw [Int.zero_add]
theorem ev_len (n : Nat) : (evI n).length = n := by unfold evI; rw [List.length_map, List.length_range]
theorem ev_at {n i : Nat} {k : Int} (h : (evI n)[i]? = some k) : k = (i : Int) := by
  unfold evI at h
  rw [List.getElem?_map] at h
  obtain ⟨j, hj, rfl⟩ := Option.map_eq_some_iff.mp h
  obtain ⟨h1, h2⟩ := List.getElem?_eq_some_iff.mp hj
  rw [List.getElem_range] at h2
  rw [h2]
theorem ev_rng {n : Nat} {k : Int} (h : k ∈ evI n) : 0 ≤ k ∧ k < (n : Int) := by
  unfold evI at h
  obtain ⟨i, hi, rfl⟩ := List.mem_map.mp h
  have := List.mem_range.mp hi
  exact ⟨by omega, by omega⟩
theorem cat_any {K : PySem.W.Frag} {H : Hp} {Q : VK} {a b : Addr} {xs ys : List V} (ha : SqT K H a xs) (hb : SqT K H b ys) (hl : xs.length + ys.length ≤ sizeLine) (q : ∀ c H', Same H H' → SqT K H' c (xs ++ ys) → Q (.ref c) H') : rCatA K (.ref a) (.ref b) H Q :=
  ⟨a, b, xs, ys, rfl, rfl, ha, hb, hl, fun e => q b H (Same.refl _) (by rw [e]; exact hb), fun _ e => q a H (Same.refl _) (by rw [e, List.append_nil]; exact ha), fun _ _ p hp => q p _ (same_new hp) (SqT.of upd_same)⟩
theorem sl_any {K : PySem.W.Frag} {H : Hp} {Q : VK} {a : Addr} {ns : List Int} {lo hi : Option Int} (ha : SqT K H a (ns.map V.int)) (q : ∀ c H' (ms : List Int), Same H H' → SqT K H' c (ms.map V.int) → (∀ k ∈ ms, k ∈ ns) → ms.length ≤ ns.length → Q (.ref c) H') : rSlA K (.ref a) lo hi H Q :=
  ⟨a, _, rfl, ha, fun _ => q a H ns (Same.refl _) ha (fun _ h => h) (Nat.le_refl _), fun _ p hp => by
    have e : cutV (ns.map V.int) lo hi = ((ns.drop (HT.sIx ns.length 0 lo)).take (HT.sIx ns.length ns.length hi - HT.sIx ns.length 0 lo)).map V.int := by
      unfold cutV
      rw [List.length_map, List.map_take, List.map_drop]
    rw [e]
    refine q p _ _ (same_new hp) (SqT.of upd_same) (fun k hk => List.mem_of_mem_drop (List.mem_of_mem_take hk)) ?_
    rw [List.length_take, List.length_drop]
    omega⟩
theorem sl_anyN {K : PySem.W.Frag} {σ : L2.St} {H : Hp} {Q : VK} {a : Addr} {ns : List Int} {lo : Option Int} (ha : SqT K H a (ns.map V.int)) (q : ∀ c H' (ms : List Int), Same H H' → SqT K H' c (ms.map V.int) → (∀ k ∈ ms, k ∈ ns) → ms.length ≤ ns.length → Q (.ref c) H') : tNoPart σ H fun u H3 => rSlA K (.ref a) lo u H3 Q := sl_any ha q
/-- the things while they grow -/
structure LJ (K : PySem.W.Frag) (p fq T : Addr) (b : Nat) (H : Hp) (us : List V) (ds : List PyData) : Prop where
  feed : FeedAt H p fq b
  at_ : H T = some (.lst us)
  np : T ≠ p
  nq : T ≠ fq
  dat : DpAll K (del (del H p) T) us ds
  fit : ∀ d ∈ ds, FitT d
section
variable {K : PySem.W.Frag} {p fq T : Addr} {b : Nat} {H H' : Hp} {us : List V} {ds : List PyData}
theorem LJ.next {b' : Nat} (I : LJ K p fq T b H us ds) (s : Same (del H p) (del H' p)) (F : FeedAt H' p fq b') : LJ K p fq T b' H' us ds :=
  ⟨F, (of_del (s _ _ (del_some I.at_ I.np))).1, I.np, I.nq, DpAll_same (same_del s) I.dat, I.fit⟩
theorem LJ.lay (I : LJ K p fq T b H us ds) (s : Same H H') : LJ K p fq T b H' us ds := I.next (same_del s) (I.feed.same s)
theorem LJ.mono {c : Nat} (I : LJ K p fq T b H us ds) (h : b ≤ c) : LJ K p fq T c H us ds := ⟨I.feed.mono h, I.at_, I.np, I.nq, I.dat, I.fit⟩
theorem LJ.more (I : LJ K p fq T b H us ds) {ws : List V} {es : List PyData} (h : DpAll K (del (del H p) T) ws es) (hf : ∀ d ∈ es, FitT d) : LJ K p fq T b (upd H T (.lst (us ++ ws))) (us ++ ws) (ds ++ es) := by
  have s : Same (del (del H p) T) (del (del (upd H T (.lst (us ++ ws))) p) T) := fun c o e => by
    obtain ⟨e1, e2⟩ := of_del e
    obtain ⟨e3, e4⟩ := of_del e1
    exact del_some (del_some (by rw [upd_ne e2]; exact e3) e4) e2
  exact ⟨I.feed.upd I.np I.nq, upd_same, I.np, I.nq, DpAll_same s (DpAll_append I.dat h), fun d hd => (List.mem_append.mp hd).elim (I.fit d) (hf d)⟩
/-- what is told elsewhere stays while they grow -/
theorem LJ.keeps (I : LJ K p fq T b H us ds) {H0 : Hp} (hT : H0 T = none) (s : Same (del H0 p) (del H p)) (zs : List V) : Same (del H0 p) (del (upd H T (.lst zs)) p) := fun c o e => by
  have h1 := s _ _ e
  have hn : c ≠ T := ne_of_none (of_del e).1 hT
  exact del_some (by rw [upd_ne hn]; exact (of_del h1).1) (of_del e).2
/-- one more tuple of numbers -/
theorem LJ.tup (I : LJ K p fq T b H us ds) {t : Addr} {ns : List Int} (ht : H t = some (.tup (ns.map V.int))) (hl : ns.length ≤ 12) (hr : ∀ k ∈ ns, 0 ≤ k ∧ k < 100) : LJ K p fq T b (upd H T (.lst (us ++ [.ref t]))) (us ++ [.ref t]) (ds ++ [.tuple (ns.map PyData.int)]) := by
  have n1 : t ≠ p := fun z => by
    obtain ⟨_, _, _, _, g1, _⟩ := I.feed.ex
    rw [z, g1] at ht
    cases ht
  have n2 : t ≠ T := fun z => by rw [z, I.at_] at ht; cases ht
  refine I.more (.cons (ints_tup (del_some (del_some ht n1) n2)) .nil) fun d hd => ?_
  have : d = .tuple (ns.map PyData.int) := by simpa using hd
  rw [this]
  exact (ints_fit (by omega) hr).mono (show 100 ≤ 10 ^ 199 + 2 by decide +kernel) (Nat.le_refl _) (by omega) (Nat.le_refl _)
end
theorem sqT_del {K : PySem.W.Frag} {H : Hp} {a p fq : Addr} {xs : List V} {b : Nat} (h : SqT K H a xs) (F : FeedAt H p fq b) : SqT K (del H p) a xs := by
  obtain ⟨_, _, _, _, g1, _⟩ := F.ex
  rcases h with (h | ⟨o, h⟩) | h
  · exact .inl (.inl (del_some h fun e => by rw [e, g1] at h; cases h))
  · exact .inl (.inr ⟨o, del_some h fun e => by rw [e, g1] at h; cases h⟩)
  · exact .inr h
theorem shut_fit {ns : List Int} (hl : ns.length ≤ 6) (h : ∀ k ∈ ns, 0 ≤ k ∧ k < 100) : Fit (10 ^ 199) 6 1 1517 (.tuple (ns.map PyData.int)) :=
  ((Fit.all (M := 100) (l := 6) (n := 0) (B := 250) (k := 6) (fun d hd => by
    obtain ⟨k, hk, rfl⟩ := List.mem_map.mp hd
    have := h k hk
    exact ⟨by simp only [leaf, decide_eq_true_eq]; omega, rfl, by simp [PyData.depth], Nat.le_refl _⟩) (by rw [List.length_map]; exact hl) (Nat.le_refl _))).mono (show 100 ≤ 10 ^ 199 by decide +kernel) (Nat.le_refl _) (Nat.le_refl _) (Nat.le_refl _)
theorem list_fitI {ns : List Int} (hl : ns.length ≤ 12) (h : ∀ k ∈ ns, 0 ≤ k ∧ k < 100) : FitT (.list (ns.map PyData.int)) := by
  have f := ints_fit (show ns.length ≤ 60 by omega) h
  obtain ⟨h1, h2, h3, h4⟩ := f.inTup
  have g : Fit 100 60 (0 + 1) 20000 (.list (ns.map PyData.int)) := Fit.lst h1 (fun x hx => ⟨(h4 x hx).lf, (h4 x hx).ln, (h4 x hx).dp⟩) h3
  exact g.mono (show 100 ≤ 10 ^ 199 + 2 by decide +kernel) (Nat.le_refl _) (by omega) (Nat.le_refl _)
theorem tup_fitI {ns : List Int} (hl : ns.length ≤ 12) (h : ∀ k ∈ ns, 0 ≤ k ∧ k < 100) : FitT (.tuple (ns.map PyData.int)) :=
  (ints_fit (show ns.length ≤ 60 by omega) h).mono (show 100 ≤ 10 ^ 199 + 2 by decide +kernel) (Nat.le_refl _) (by omega) (Nat.le_refl _)
/-- some of the numbers below n -/
def pickE (n : Nat) (p : Nat → Bool) : List Int := ((List.range n).filter p).map fun i : Nat => (i : Int)
theorem pickE_len (n : Nat) (p : Nat → Bool) : (pickE n p).length ≤ n := by
  unfold pickE
  rw [List.length_map]
  exact Nat.le_trans (List.length_filter_le _ _) (by rw [List.length_range]; exact Nat.le_refl _)
theorem pickE_rng {n : Nat} {p : Nat → Bool} {k : Int} (h : k ∈ pickE n p) : 0 ≤ k ∧ k < (n : Int) := by
  unfold pickE at h
  obtain ⟨i, hi, rfl⟩ := List.mem_map.mp h
  have := List.mem_range.mp (List.mem_filter.mp hi).1
  exact ⟨by omega, by omega⟩
theorem pickE_V (n : Nat) (p : Nat → Bool) : ((List.range n).filter p).map (fun i : Nat => V.int (i : Int)) = (pickE n p).map V.int := by
  unfold pickE
  rw [List.map_map]
  rfl
section
variable {P : Program} {w : World} {K : PySem.W.Frag} {mg : Str → Option Value} {base : Heap}
abbrev NTh : List Str := ["_law_feed_here", "_law_arrows_here", "_law_over", "_law_many", "_law_shut", "_law_bent", "_law_found", "_law_block", "_law_k", "_law_step", "_law_less"]
def spThings (K : PySem.W.Frag) : Sp := fun vs H Q _ => ∃ (p fq F : Addr) (o : Int) (b : Nat) (es : List Ge), vs = [.ref p, .ref F, .int o] ∧ FeedAt H p fq b ∧ b + 1000 ≤ 100000000 ∧ ArrAt (del H p) F es ∧ Gok es ∧ es.length ≤ 6 ∧
  ∀ (T : Addr) (H' : Hp) (us : List V) (ds : List PyData), Same (del H p) (del H' p) → LJ K p fq T (b + 400) H' us ds → us.length = 17 → Q (.ref T) H'
theorem sc_things : FnScope NTh ["_law_feed_here", "_law_arrows_here", "_law_over"] (defScope (topS 29)) := ⟨rfl, rfl, rfl, by decide +kernel, rfl, by decide +kernel, by decide +kernel⟩
theorem ok_things {f f1 f2 f3 f4 : Addr} {fd fd1 fd2 fd3 fd4 : FuncData} (D : Df K mg "_law_things" (topS 29) ["_law_feed_here", "_law_arrows_here", "_law_over"] f fd) (D1 : Df K mg "_law_comes" (topS 26) ["_law_arrows_here", "_law_over"] f1 fd1) (D2 : Df K mg "_law_odd" (topS 22) [] f2 fd2)
    (D3 : Df K mg "_law_bend" (topS 21) ["_law_feed_here", "_law_thing", "_law_odd_here"] f3 fd3) (D4 : Df K mg "_law_draw" (topS 20) ["_law_feed_here", "_law_many"] f4 fd4) (B : Bt mg)
    (G1 : FnOk P w K mg base CX0 1 f1 fd1 ["_law_arrows_here", "_law_over"] (spComesN K)) (G2 : FnOk P w K mg base CX0 1 f2 fd2 [] (spOdd K)) (GA : FnOk P w K mg base CX0 3 f3 fd3 ["_law_feed_here", "_law_thing", "_law_odd_here"] (spBend K 2)) (GB : FnOk P w K mg base CX0 5 f3 fd3 ["_law_feed_here", "_law_thing", "_law_odd_here"] (spBend K 4))
    (G4 : FnOk P w K mg base CX0 1 f4 fd4 ["_law_feed_here", "_law_many"] spDraw) : FnOk P w K mg base CX0 6 f fd ["_law_feed_here", "_law_arrows_here", "_law_over"] (spThings K) := by
  refine D.fn.ok sc_things (fun vs H Q E h => ?_) (fun cdv A outer s H vs Q E hr h => ?_)
  · obtain ⟨p, fq, F, o, b, es, rfl, _⟩ := h
    rfl
  obtain ⟨p, fq, F, o, b, es, rfl, hF, hb, hAd, hok, few6, q⟩ := h
  have nd := sc_things.nd
  refine ⟨_, (pss_cons (ps_set (i := 3) nd rfl (Or.inl rfl) (pe_callB call_len_seq (by rfl) B.len PySem.boot_len (pa_cons (pv 1) pa_nil)))
    (pss_cons (ps_set (i := 4) nd rfl (Or.inr rfl) (pe_callTy call_tuple_of (by rfl) B.tuple (by decide +kernel) (pa_cons (pe_call G1 (hr.mono (by decide)) (by rfl) D1.gl D1.fn.kp D1.bd .nil pass0 (pa_cons (pv 1) (pa_cons (pv 2) pa_nil))) pa_nil)))
    (pss_cons (ps_set (i := 5) nd rfl (Or.inl rfl) (pe_call GA (hr.mono (by decide)) (by rfl) D3.gl D3.fn.kp D3.bd .nil pass0 (pa_cons (pv 0) (pa_cons (pv 4) (pa_cons (pe_call0 G2 (hr.mono (by decide)) (by rfl) D2.gl D2.fn.kp D2.bd .nil pass0) pa_nil)))))
    (pss_cons (ps_set (i := 6) nd rfl (Or.inl rfl) (pe_lst (pa_cons (pv 4) (pa_cons (pe_revT (pv 4)) (pa_cons (pe_callTy call_list_of (by rfl) B.list (by decide +kernel) (pa_cons (pv 4) pa_nil)) (pa_cons (pe_op op_catA (pv 4) (pe_slice sl_tupA (pv 4) (po_some (pe_un un_neg pe_int)) po_none)) (pa_cons (pv 5) (pa_cons (pe_call GB (hr.mono (by decide)) (by rfl) D3.gl D3.fn.kp D3.bd .nil pass0 (pa_cons (pv 0) (pa_cons (pv 5) (pa_cons (pe_call0 G2 (hr.mono (by decide)) (by rfl) D2.gl D2.fn.kp D2.bd .nil pass0) pa_nil)))) pa_nil))))))))
    (pss_cons (ps_expr (pe_bm PySem.F.plainAttrs_list PySem.F.slot_list_append PySem.F.type_list_append mt_append (pv 6) (pa_cons (pe_tupRg rfl (by rfl) B.tuple (prg_1 (by rfl) B.range (pv 3))) pa_nil)))
    (pss_cons (ps_expr (pe_bm PySem.F.plainAttrs_list PySem.F.slot_list_append PySem.F.type_list_append mt_append (pv 6) (pa_cons (pe_callTy call_tuple_of (by rfl) B.tuple (by decide +kernel) (pa_cons (pe_lc (own := [("_law_block", 7)]) (g := gName 7) (tt := (tTest (tOp rNe (tVar 7) (tVar 2)))) rfl nd (pi_range1 (by rfl) B.range (pa_cons (pv 3) pa_nil)) (blkOk_by (N := NTh) (sc := defScope (topS 29)) (by decide +kernel)) (fun _ _ _ _ _ => pg_name (i := 7) nd rfl (Or.inl rfl)) (fun _ _ _ _ _ => (pts_one (pt_cmpR op_ne (pv 7) (pv 2) (nomark _)))) (fun _ _ _ _ _ => (pv 7))) pa_nil)) pa_nil)))
    (pss_cons (ps_for PassesOwn.never rfl (pi_range1 (by rfl) B.range (pa_cons pe_int pa_nil)) (pg_name (i := 8) nd rfl (Or.inl rfl))
    (pss_cons (ps_asg (pe_tup (pa_cons (pe_call G4 (hr.mono (by decide)) (by rfl) D4.gl D4.fn.kp D4.bd .nil pass0 (pa_cons (pv 0) (pa_cons (pv 3) pa_nil))) (pa_cons (pe_call G4 (hr.mono (by decide)) (by rfl) D4.gl D4.fn.kp D4.bd .nil pass0 (pa_cons (pv 0) (pa_cons (pv 3) pa_nil))) pa_nil))) (pg_tup rfl (pgs_cons (pg_name (i := 9) nd rfl (Or.inr rfl)) (pgs_cons (pg_name (i := 10) nd rfl (Or.inr rfl)) pgs_nil))))
    (pss_cons (ps_expr (pe_bm PySem.F.plainAttrs_list PySem.F.slot_list_append PySem.F.type_list_append mt_append (pv 6) (pa_cons (pe_callTy call_tuple_of (by rfl) B.tuple (by decide +kernel) (pa_cons (pe_lc (own := [("_law_block", 7)]) (g := gName 7) (tt := tOr (tAnd (tTest (tOp (rIn K false) (tVar 7) (tVar 4))) (tTest (tOp rNe (tVar 7) (tVar 10)))) (tTest (tOp rEq (tVar 7) (tVar 9)))) rfl nd (pi_range1 (by rfl) B.range (pa_cons (pv 3) pa_nil)) (blkOk_by (N := NTh) (sc := defScope (topS 29)) (by decide +kernel)) (fun _ _ _ _ _ => pg_name (i := 7) nd rfl (Or.inl rfl)) (fun _ _ _ _ _ => (pts_one (PW.pt (pw_or (PW.pt (pw_and (pt_cmpR (r := rIn K false) op_in_seq (pv 7) (pv 4) (by with_unfolding_all rfl)) (pw_and1 (pt_cmpR op_ne (pv 7) (pv 10) (nomark _))))) (pw_or1 (pt_cmpR op_eq (pv 7) (pv 9) (nomark _))))))) (fun _ _ _ _ _ => (pv 7))) pa_nil)) pa_nil)))
    (pss_cons (ps_expr (pe_bm PySem.F.plainAttrs_list PySem.F.slot_list_append PySem.F.type_list_append mt_append (pv 6) (pa_cons (pe_callTy call_tuple_of (by rfl) B.tuple (by decide +kernel) (pa_cons (pe_lc (own := [("_law_block", 7)]) (g := gName 7) (tt := (tTest (tOp rNe (tVar 7) (tVar 9)))) rfl nd (pi_tup (pv 4)) (blkOk_by (N := NTh) (sc := defScope (topS 29)) (by decide +kernel)) (fun _ _ _ _ _ => pg_name (i := 7) nd rfl (Or.inl rfl)) (fun _ _ _ _ _ => (pts_one (pt_cmpR op_ne (pv 7) (pv 9) (nomark _)))) (fun _ _ _ _ _ => (pv 7))) pa_nil)) pa_nil)))
    (pss_one (ps_expr (pe_bm PySem.F.plainAttrs_list PySem.F.slot_list_append PySem.F.type_list_append mt_append (pv 6) (pa_cons (pe_callTy call_tuple_of (by rfl) B.tuple (by decide +kernel) (pa_cons (pe_lc (own := [("_law_block", 7)]) (g := gName 7) (tt := tTest (tOp rEq (tCall spDraw [] E0 (tCons (tVar 0) (tCons (tC (.int 2)) tNil))) (tC (.int 0)))) rfl nd (pi_range1 (by rfl) B.range (pa_cons (pv 3) pa_nil)) (blkOk_by (N := NTh) (sc := defScope (topS 29)) (by decide +kernel)) (fun _ _ _ _ _ => pg_name (i := 7) nd rfl (Or.inl rfl)) (fun _ _ _ _ _ => (pts_one (pt_cmpR op_eq (pe_call G4 (hr.mono (by decide)) (by rfl) D4.gl D4.fn.kp D4.bd .nil pass0 (pa_cons (pv 0) (pa_cons pe_int pa_nil))) pe_int (nomark _)))) (fun _ _ _ _ _ => (pv 7))) pa_nil)) pa_nil))))))))
    (pss_one (ps_ret (pv 6)))))))))), ?_⟩
  have hA := hAd.same (del_same H p)
  obtain ⟨as0, F0, p0⟩ := hA.ex
  have las : (as0.map V.ref).length = es.length := by rw [List.length_map]; exact p0.length
  obtain ⟨up, hup⟩ := hF.there
  -- many, shut
  refine ⟨_, rfl, F, _, rfl, .inl (SqL.of F0), ?_⟩
  rw [las]
  refine ⟨_, rfl, _, rfl, F, o, es, rfl, hA, hok, fun tc H1 ns s1 htc nl nr => ?_⟩
  have nr100 : ∀ k ∈ ns, 0 ≤ k ∧ k < 100 := fun k hk => ⟨(nr k hk).1, by have := (nr k hk).2; omega⟩
  refine ⟨tc, _, rfl, .inl ⟨SqL.of htc, fun t4 ht4 => ?_⟩⟩
  have s2 := same_new (o := .tup (ns.map V.int)) ht4
  have e2 : upd H1 t4 (.tup (ns.map V.int)) t4 = some (.tup (ns.map V.int)) := upd_same
  generalize upd H1 t4 (.tup (ns.map V.int)) = H2 at s2 e2
  have s02 := s1.trans s2
  have F2 := hF.same s02
  have nt4 : t4 ≠ p := fun z => by
    obtain ⟨_, _, _, _, g1, _⟩ := F2.ex
    rw [z, g1] at e2
    cases e2
  have odd_in : ∀ {Ha Hb : Hp} {b' : Nat}, FeedAt Ha p fq b' → ∀ {vo : V} {os : List PyData}, Dp K (fr Ha Hb) vo (.tuple os) → Dp K (del Hb p) vo (.tuple os) := fun {Ha Hb b'} hFa {vo os} dO => by
    obtain ⟨u, hpu⟩ := hFa.there
    refine Dp_same (fun c o' e => ?_) dO
    obtain ⟨e1, e2⟩ := of_fr e
    exact del_some e2 (Ne.symm (ne_of_none hpu e1))
  -- bent
  refine ⟨_, rfl, _, rfl, rfl, fun vo os H3 s3 dO hol hof => ?_⟩
  have F3 := F2.same s3
  have e3 := s3 _ _ e2
  refine ⟨p, fq, .ref t4, vo, b, 1, 10 ^ 199, 6, 1517, .tuple (ns.map PyData.int), os, rfl, rfl, by decide, F3, by omega, ints_tup (del_some e3 nt4), odd_in F2 dO, hol, hof, shut_fit (by omega) nr100, Nat.le_refl _, by decide, by decide, fun v5 d5 H4 dp5 fit5 s4 F4 => ?_⟩
  have sd04 : Same (del H p) (del H4 p) := (same_del (s02.trans s3)).trans s4
  have e4 := (of_del (s4 _ _ (del_some e3 nt4))).1
  -- the display
  refine ⟨_, rfl, ?_⟩
  refine ⟨_, rfl, t4, _, rfl, SqT.of e4, fun a2 h2 => ?_⟩
  rw [← List.map_reverse]
  have s5 := same_new (o := .tup (ns.reverse.map V.int)) h2
  have e5 : upd H4 a2 (.tup (ns.reverse.map V.int)) a2 = some (.tup (ns.reverse.map V.int)) := upd_same
  generalize upd H4 a2 (.tup (ns.reverse.map V.int)) = H5 at s5 e5
  refine ⟨_, rfl, t4, _, rfl, .inr (SqT.of (s5 _ _ e4)), fun l6 hl6 => ?_⟩
  have s6 := same_new (o := .lst (ns.map V.int)) hl6
  have e6 : upd H5 l6 (.lst (ns.map V.int)) l6 = some (.lst (ns.map V.int)) := upd_same
  generalize upd H5 l6 (.lst (ns.map V.int)) = H6 at s6 e6
  have s46 := s5.trans s6
  refine ⟨_, rfl, _, rfl, 1, rfl, -1, rfl, ?_⟩
  refine sl_anyN (SqT.of (s46 _ _ e4)) fun a7 H7 zs s7 h7 hz1 hz2 => ?_
  refine cat_any (SqT.of (s7 _ _ (s46 _ _ e4))) h7 (by rw [List.length_map, List.length_map, sizeLine_eq]; omega) fun a8 H8 s8 h8 => ?_
  rw [← List.map_append] at h8
  refine ⟨_, rfl, ?_⟩
  have s48 := s46.trans (s7.trans s8)
  have F8 := F4.same s48
  refine ⟨_, rfl, _, rfl, rfl, fun vo2 os2 H9 s9 dO2 hol2 hof2 => ?_⟩
  have s49 := s48.trans s9
  have F9 := F8.same s9
  refine ⟨p, fq, v5, vo2, b + 10 * 2, 3, 10 ^ 199 + 1, 14, 4134, d5, os2, rfl, rfl, by decide, F9, by omega, Dp_same (same_del s49) dp5, odd_in F8 dO2, hol2, hof2, fit5, Nat.le_succ _, by decide, by decide, fun v6 d6 H10 dp6 fit6 s10 F10 => ?_⟩
  have sd410 : Same (del H4 p) (del H10 p) := (same_del s49).trans s10
  have dat : DpAll K (del H10 p) [.ref t4, .ref a2, .ref l6, .ref a8, v5, v6] [.tuple (ns.map PyData.int), .tuple (ns.reverse.map PyData.int), .list (ns.map PyData.int), .tuple ((ns ++ zs).map PyData.int), d5, d6] := by
    refine .cons (Dp_same sd410 (ints_tup (del_some e4 nt4))) (.cons ?_ (.cons ?_ (.cons ?_ (.cons (Dp_same sd410 dp5) (.cons dp6 .nil)))))
    · have n2 : a2 ≠ p := (F4.ne h2).1
      exact Dp_same ((same_del (s6.trans (s7.trans (s8.trans s9)))).trans s10) (ints_tup (del_some e5 n2))
    · have n6 : l6 ≠ p := ((F4.same s5).ne hl6).1
      exact Dp_same ((same_del (s7.trans (s8.trans s9))).trans s10) (.lst (SqL.of (del_some e6 n6)) (DpAll_ints _))
    · exact Dp_same ((same_del s9).trans s10) (.tup (sqT_del h8 F8) (DpAll_ints _))
  have hz100 : ∀ k ∈ ns ++ zs, 0 ≤ k ∧ k < 100 := fun k hk => (List.mem_append.mp hk).elim (nr100 k) fun h => nr100 k (hz1 k h)
  refine ⟨by show 6 ≤ sizeLine; decide, fun T hT => ?_⟩
  obtain ⟨nTp, nTq⟩ := F10.ne hT
  have I0 : LJ K p fq T (b + 100) (upd H10 T (.lst [.ref t4, .ref a2, .ref l6, .ref a8, v5, v6])) [.ref t4, .ref a2, .ref l6, .ref a8, v5, v6] [.tuple (ns.map PyData.int), .tuple (ns.reverse.map PyData.int), .list (ns.map PyData.int), .tuple ((ns ++ zs).map PyData.int), d5, d6] := by
    refine ⟨(F10.same (same_new hT)).mono (by omega), upd_same, nTp, nTq, DpAll_same (fun c o' e => ?_) dat, fun d hd => ?_⟩
    · obtain ⟨e1, e2⟩ := of_del e
      have hn : c ≠ T := ne_of_none e1 hT
      exact del_some (del_some (by rw [upd_ne hn]; exact e1) e2) hn
    · simp only [List.mem_cons, List.not_mem_nil, or_false] at hd
      rcases hd with rfl | rfl | rfl | rfl | rfl | rfl
      · exact tup_fitI (by omega) nr100
      · exact tup_fitI (by rw [List.length_reverse]; omega) fun k hk => nr100 k (List.mem_reverse.mp hk)
      · exact list_fitI (by omega) nr100
      · exact tup_fitI (by rw [List.length_append]; omega) hz100
      · exact fit5.mono (Nat.le_succ _) (by decide) (by decide) (by decide)
      · exact fit6.mono (Nat.le_refl _) (by decide) (by decide) (by decide)
  have sd0 : Same (del H p) (del (upd H10 T (.lst [.ref t4, .ref a2, .ref l6, .ref a8, v5, v6])) p) := sd04.trans (sd410.trans (same_del (same_new hT)))
  have hT0 : ∀ {c : Addr} {oo : HO}, del H p c = some oo → c ≠ T := fun {c oo} e => ne_of_none (of_del ((sd04.trans sd410) _ _ e)).1 hT
  have t40 : (upd H10 T (.lst [.ref t4, .ref a2, .ref l6, .ref a8, v5, v6])) t4 = some (.tup (ns.map V.int)) := (same_new hT) _ _ (of_del (sd410 _ _ (del_some e4 nt4))).1
  generalize upd H10 T (.lst [.ref t4, .ref a2, .ref l6, .ref a8, v5, v6]) = H11 at I0 sd0 t40
  have nt4T : t4 ≠ T := fun z => by rw [z, I0.at_] at t40; cases t40
  clear dat hz100 dp5 dp6 fit5 fit6 e4 e5 e6 h7 h8 s5 s6 s7 s8 s46 s48 s49 s9 s10 sd410 sd04 F10 F9 F8 F4 F3 F2 s4 e3 e2 dO dO2 odd_in hT
  -- what stays: one more thing
  have grow : ∀ {Ha : Hp} {b' : Nat} {us : List V} {ds : List PyData} {zs : List V}, LJ K p fq T b' Ha us ds → Same (del H p) (del Ha p) → Same (del H p) (del (upd Ha T (.lst zs)) p) := fun {Ha b' us ds zs} I sa c o' e => by
    have h1 := sa _ _ e
    exact del_some (by rw [upd_ne (hT0 e)]; exact (of_del h1).1) (of_del e).2
  -- range
  refine ⟨_, rfl, .inl ⟨rfl, _, SqL.of I0.at_⟩, _, rfl, _, rfl, RgOk.of_le (by omega) (by omega) (by omega) (by omega), fun t12 ht12 => ?_⟩
  rw [rg_ev]
  have s12 := same_new (o := .tup ((evI es.length).map V.int)) ht12
  have e12 : upd H11 t12 (.tup ((evI es.length).map V.int)) t12 = some (.tup ((evI es.length).map V.int)) := upd_same
  generalize upd H11 t12 (.tup ((evI es.length).map V.int)) = H12 at s12 e12
  have evl := ev_len es.length
  have I12 := I0.lay s12
  refine ⟨T, _, _, rfl, rfl, I12.at_, by show 6 < sizeLine; decide, ?_⟩
  have I13 := I12.tup e12 (by omega) fun k hk => ⟨(ev_rng hk).1, by have := (ev_rng hk).2; omega⟩
  have sd13 := grow (Ha := H12) I12 (sd0.trans (same_del s12)) (zs := [V.ref t4, .ref a2, .ref l6, .ref a8, v5, v6] ++ [V.ref t12])
  have t413 : upd H12 T (.lst ([V.ref t4, .ref a2, .ref l6, .ref a8, v5, v6] ++ [V.ref t12])) t4 = some (.tup (ns.map V.int)) := by rw [upd_ne nt4T]; exact s12 _ _ t40
  generalize upd H12 T (.lst ([V.ref t4, .ref a2, .ref l6, .ref a8, v5, v6] ++ [V.ref t12])) = H13 at I13 sd13 t413
  -- all but over
  refine ⟨_, rfl, .inl ⟨rfl, _, SqL.of I13.at_⟩, _, rfl, _, rfl, by omega, by omega, ?_⟩
  rw [Int.toNat_natCast]
  refine fun Da hDa => ?_
  refine lc_pure walk_rangeA (fun i => !decide ((i : Int) = o)) (fun i => V.int (i : Int)) hDa (fun _ _ => trivial) (big_size (by omega)) ?_ ?_ ?_
  · intro i x H14 Q14 hi hx s14 q14
    obtain ⟨rfl, _⟩ := ivs_at hx
    refine ⟨_, rfl, _, rfl, rfl, _, rfl, ?_⟩
    rw [show decide (V.int (i : Int) = V.int o) = decide ((i : Int) = o) by rw [decide_eq_decide]; exact ⟨fun z => by injection z, fun z => by rw [z]⟩]
    exact q14 H14 (Same.refl _)
  · intro i x H14 Q14 hi hx _ s14 q14
    obtain ⟨rfl, _⟩ := ivs_at hx
    exact ⟨_, rfl, q14 H14 (Same.refl _)⟩
  intro H14 s14 hD14
  rw [pickE_V] at hD14
  have pl := pickE_len es.length fun i => !decide ((i : Int) = o)
  have pr : ∀ k ∈ pickE es.length (fun i => !decide ((i : Int) = o)), 0 ≤ k ∧ k < 100 := fun k hk => ⟨(pickE_rng hk).1, by have := (pickE_rng hk).2; omega⟩
  generalize pickE es.length (fun i => !decide ((i : Int) = o)) = pk at hD14 pl pr
  refine ⟨Da, _, rfl, .inl ⟨SqL.of hD14, fun t15 ht15 => ?_⟩⟩
  have s15 := s14.trans (same_new (o := .tup (pk.map V.int)) ht15)
  have e15 : upd H14 t15 (.tup (pk.map V.int)) t15 = some (.tup (pk.map V.int)) := upd_same
  generalize upd H14 t15 (.tup (pk.map V.int)) = H15 at s15 e15
  have I15 := I13.lay s15
  refine ⟨T, _, _, rfl, rfl, I15.at_, by show 7 < sizeLine; decide, ?_⟩
  have I16 := I15.tup e15 (by omega) pr
  have sd16 := grow (Ha := H15) I15 (sd13.trans (same_del s15)) (zs := [V.ref t4, .ref a2, .ref l6, .ref a8, v5, v6] ++ [V.ref t12] ++ [V.ref t15])
  have t416 : upd H15 T (.lst ([V.ref t4, .ref a2, .ref l6, .ref a8, v5, v6] ++ [V.ref t12] ++ [V.ref t15])) t4 = some (.tup (ns.map V.int)) := by rw [upd_ne nt4T]; exact s15 _ _ t413
  have u16 : ([V.ref t4, .ref a2, .ref l6, .ref a8, v5, v6] ++ [V.ref t12] ++ [V.ref t15]).length = 8 := rfl
  generalize upd H15 T (.lst ([V.ref t4, .ref a2, .ref l6, .ref a8, v5, v6] ++ [V.ref t12] ++ [V.ref t15])) = H16 at I16 sd16 t416
  generalize ([V.ref t4, .ref a2, .ref l6, .ref a8, v5, v6] ++ [V.ref t12] ++ [V.ref t15]) = us0 at I16 u16
  generalize ([PyData.tuple (ns.map PyData.int), .tuple (ns.reverse.map PyData.int), .list (ns.map PyData.int), .tuple ((ns ++ zs).map PyData.int), d5, d6] ++ [PyData.tuple ((evI es.length).map PyData.int)] ++ [PyData.tuple (pk.map PyData.int)]) = ds0 at I16
  clear I15 I13 I12 I0 s15 s14 s12 sd13 sd0 t413 t40 e15 e12 hD14
  refine ⟨3, rfl, by decide, by decide, ?_⟩
  refine for_it walk_range (fun k σ H' => ∃ (x7 x8 x9 x10 : Option V) (us : List V) (ds : List PyData), σ = [some (.ref p), some (.ref F), some (.int o), some (.int (es.length : Nat)), some (.ref t4), some v5, some (.ref T), x7, x8, x9, x10] ∧ Same (del H p) (del H' p) ∧ LJ K p fq T (b + 100 + 20 * k) H' us ds ∧ us.length = 8 + 3 * k ∧ H' t4 = some (.tup (ns.map V.int)))
    ⟨_, none, none, none, us0, ds0, rfl, sd16, I16, u16, t416⟩ (fun _ _ _ _ _ => trivial) ?_ ?_
  · rintro k x σ H17 H17' hk ⟨x7, x8, x9, x10, us, ds, rfl, sd17, I17, u17, t417⟩ ⟨rfl, rfl⟩
    have hk3 : k < 3 := hk
    have pos := hok.pos
    refine ⟨_, rfl, _, rfl, p, fq, _, _, rfl, I17.feed, by omega, by omega, by omega, fun r1 H18 r10 r11 s18 F18 => ?_⟩
    have I18 := I17.next s18 F18
    refine ⟨_, rfl, _, rfl, p, fq, _, _, rfl, I18.feed, by omega, by omega, by omega, fun r2 H19 r20 r21 s19 F19 => ?_⟩
    have I19 := I18.next s19 F19
    have sd19 := sd17.trans (s18.trans s19)
    have t419 := (of_del ((s18.trans s19) _ _ (del_some t417 nt4))).1
    refine ⟨by show 2 ≤ sizeLine; decide, fun TT hTT => ?_⟩
    have s20 := same_new (o := .tup [V.int r1, V.int r2]) hTT
    have e20 : upd H19 TT (.tup [V.int r1, V.int r2]) TT = some (.tup [V.int r1, V.int r2]) := upd_same
    generalize upd H19 TT (.tup [V.int r1, V.int r2]) = H20 at s20 e20
    refine ⟨TT, _, rfl, SqT.of e20, rfl, _, _, rfl, _, _, rfl, rfl, ?_⟩
    have I20 := I19.lay s20
    have sd20 := sd19.trans (same_del s20)
    have t420 := s20 _ _ t419
    clear I17 I18 I19 s18 s19 F18 F19 sd19 sd17 t417 t419 s20 e20 hTT
    -- first
    refine ⟨_, rfl, .inl ⟨rfl, _, SqL.of I20.at_⟩, _, rfl, _, rfl, by omega, by omega, ?_⟩
    rw [Int.toNat_natCast]
    refine fun Db hDb => ?_
    refine lc_pure walk_rangeA (fun i => (decide ((i : Int) ∈ ns) && !decide ((i : Int) = r2)) || decide ((i : Int) = r1)) (fun i => V.int (i : Int)) hDb (fun _ _ => trivial) (big_size (by omega)) ?_ ?_ ?_
    · intro i x H21 Q21 hi hx s21 q21
      obtain ⟨rfl, _⟩ := ivs_at hx
      refine ⟨_, rfl, _, rfl, t4, _, rfl, .inr (SqT.of (s21 _ _ t420)), rfl, flat_ints _, _, rfl, ?_⟩
      rw [if_neg (by simp), inV_ints]
      have q' := q21 H21 (Same.refl _)
      have ei : ∀ z : Int, decide (V.int (i : Int) = V.int z) = decide ((i : Int) = z) := fun z => by
        rw [decide_eq_decide]
        exact ⟨fun y => by injection y, fun y => by rw [y]⟩
      by_cases h1 : (i : Int) ∈ ns
      · rw [decide_eq_true h1] at q' ⊢
        refine iteT ?_
        refine ⟨_, rfl, _, rfl, rfl, _, rfl, ?_⟩
        rw [ei]
        by_cases h2 : (i : Int) = r2
        · rw [decide_eq_true h2] at q' ⊢
          refine iteF ?_
          refine ⟨_, rfl, _, rfl, rfl, _, rfl, ?_⟩
          rw [ei]
          exact q'
        · rw [decide_eq_false h2] at q' ⊢
          exact iteT q'
      · rw [decide_eq_false h1] at q' ⊢
        refine iteF ?_
        refine iteF ?_
        refine ⟨_, rfl, _, rfl, rfl, _, rfl, ?_⟩
        rw [ei]
        exact q'
    · intro i x H21 Q21 hi hx _ s21 q21
      obtain ⟨rfl, _⟩ := ivs_at hx
      exact ⟨_, rfl, q21 H21 (Same.refl _)⟩
    intro H21 s21 hD21
    rw [pickE_V] at hD21
    have pl := pickE_len es.length fun i => (decide ((i : Int) ∈ ns) && !decide ((i : Int) = r2)) || decide ((i : Int) = r1)
    have pr : ∀ k ∈ pickE es.length (fun i => (decide ((i : Int) ∈ ns) && !decide ((i : Int) = r2)) || decide ((i : Int) = r1)), 0 ≤ k ∧ k < 100 := fun k hk => ⟨(pickE_rng hk).1, by have := (pickE_rng hk).2; omega⟩
    generalize pickE es.length (fun i => (decide ((i : Int) ∈ ns) && !decide ((i : Int) = r2)) || decide ((i : Int) = r1)) = pk1 at hD21 pl pr
    refine ⟨Db, _, rfl, .inl ⟨SqL.of hD21, fun t22 ht22 => ?_⟩⟩
    have s22 := s21.trans (same_new (o := .tup (pk1.map V.int)) ht22)
    have e22 : upd H21 t22 (.tup (pk1.map V.int)) t22 = some (.tup (pk1.map V.int)) := upd_same
    generalize upd H21 t22 (.tup (pk1.map V.int)) = H22 at s22 e22
    have I22 := I20.lay s22
    refine ⟨T, _, _, rfl, rfl, I22.at_, by rw [sizeLine_eq]; omega, ?_⟩
    have I23 := I22.tup e22 (by omega) pr
    have sd23 := grow (zs := us ++ [.ref t22]) I22 (sd20.trans (same_del s22))
    have t423 : upd H22 T (.lst (us ++ [.ref t22])) t4 = some (.tup (ns.map V.int)) := by rw [upd_ne nt4T]; exact s22 _ _ t420
    generalize upd H22 T (.lst (us ++ [.ref t22])) = H23 at I23 sd23 t423
    clear I22 s22 s21 e22 hD21 pl pr I20 sd20 t420
    -- second
    refine ⟨_, rfl, .inl ⟨rfl, _, SqL.of I23.at_⟩, _, rfl, t4, rfl, ⟨_, SqT.of t423⟩, fun Dc hDc => ?_⟩
    refine lc_pure (walk_tup (xs := ns.map V.int)) (fun i => !decide (ns.getD i 0 = r1)) (fun i => V.int (ns.getD i 0)) hDc (fun _ h => SqT.of (h _ _ t423)) (big_size (by rw [List.length_map]; omega)) ?_ ?_ ?_
    · intro i x H24 Q24 hi hx s24 q24
      rw [List.getElem?_map] at hx
      obtain ⟨g, hg, rfl⟩ := Option.map_eq_some_iff.mp hx
      rw [show ns.getD i 0 = g by rw [List.getD_eq_getElem?_getD, hg]; rfl] at q24
      refine ⟨_, rfl, _, rfl, rfl, _, rfl, ?_⟩
      rw [show decide (V.int g = V.int r1) = decide (g = r1) by rw [decide_eq_decide]; exact ⟨fun y => by injection y, fun y => by rw [y]⟩]
      exact q24 H24 (Same.refl _)
    · intro i x H24 Q24 hi hx _ s24 q24
      rw [List.getElem?_map] at hx
      obtain ⟨g, hg, rfl⟩ := Option.map_eq_some_iff.mp hx
      rw [show ns.getD i 0 = g by rw [List.getD_eq_getElem?_getD, hg]; rfl] at q24
      exact ⟨_, rfl, q24 H24 (Same.refl _)⟩
    intro H24 s24 hD24
    rw [List.length_map, range_filter' (fun g => !decide (g = r1)) V.int 0 ns] at hD24
    have pl : (ns.filter fun g => !decide (g = r1)).length ≤ 6 := Nat.le_trans (List.length_filter_le _ _) (by omega)
    have pr : ∀ k ∈ (ns.filter fun g => !decide (g = r1)), 0 ≤ k ∧ k < 100 := fun k hk => nr100 k (List.mem_filter.mp hk).1
    generalize (ns.filter fun g => !decide (g = r1)) = pk2 at hD24 pl pr
    refine ⟨Dc, _, rfl, .inl ⟨SqL.of hD24, fun t25 ht25 => ?_⟩⟩
    have s25 := s24.trans (same_new (o := .tup (pk2.map V.int)) ht25)
    have e25 : upd H24 t25 (.tup (pk2.map V.int)) t25 = some (.tup (pk2.map V.int)) := upd_same
    generalize upd H24 t25 (.tup (pk2.map V.int)) = H25 at s25 e25
    have I25 := I23.lay s25
    refine ⟨T, _, _, rfl, rfl, I25.at_, by rw [List.length_append, List.length_singleton, sizeLine_eq]; omega, ?_⟩
    have I26 := I25.tup e25 (by omega) pr
    have sd26 := grow (zs := us ++ [.ref t22] ++ [.ref t25]) I25 (sd23.trans (same_del s25))
    have t426 : upd H25 T (.lst (us ++ [.ref t22] ++ [.ref t25])) t4 = some (.tup (ns.map V.int)) := by rw [upd_ne nt4T]; exact s25 _ _ t423
    generalize upd H25 T (.lst (us ++ [.ref t22] ++ [.ref t25])) = H26 at I26 sd26 t426
    clear I25 s25 s24 e25 hD24 pl pr I23 sd23 t423
    -- third
    refine ⟨_, rfl, .inl ⟨rfl, _, SqL.of I26.at_⟩, _, rfl, _, rfl, by omega, by omega, ?_⟩
    rw [Int.toNat_natCast]
    refine fun Dd hDd => lc_it walk_rangeA (fun i H' => ∃ (js : List Int), Same (del H26 p) (del H' p) ∧ FeedAt H' p fq (b + 100 + 20 * k + 2 + i) ∧ H' Dd = some (.lst (js.map V.int)) ∧ js.length ≤ i ∧ ∀ k ∈ js, 0 ≤ k ∧ k < 100)
      ⟨[], same_del (same_new hDd), (I26.feed.same (same_new hDd)).mono (by omega), upd_same, Nat.zero_le _, fun k h => absurd h List.not_mem_nil⟩ (fun _ _ _ _ => trivial) ?_ ?_
    · rintro i x H27' H27 hi ⟨js, s27, F27, d27, lj, hj⟩ ⟨he, hx⟩
      subst he
      obtain ⟨rfl, _⟩ := ivs_at hx
      have nDd := I26.feed.ne hDd
      refine ⟨rfl, ?_⟩
      refine ⟨_, rfl, p, fq, 2, _, rfl, F27, by omega, by decide, by decide, fun r H28 r0 r1' s28 F28 => ?_⟩
      refine ⟨rfl, _, rfl, ?_⟩
      have d28 := (of_del (s28 _ _ (del_some d27 nDd.1))).1
      have s2728 := s27.trans s28
      refine ite2 (fun c => ?_) (fun c => ?_)
      · refine ⟨_, rfl, _, d28, by rw [List.length_map, sizeLine_eq]; omega, js ++ [(i : Int)], fun c o' e => ?_, F28.upd nDd.1 nDd.2, by rw [upd_same, List.map_append]; rfl, by rw [List.length_append, List.length_singleton]; omega, fun k' hk' => ?_⟩
        · have h1 := s2728 _ _ e
          have hn : c ≠ Dd := ne_of_none (of_del e).1 hDd
          exact del_some (by rw [upd_ne hn]; exact (of_del h1).1) (of_del e).2
        · rcases List.mem_append.mp hk' with h | h
          · exact hj k' h
          · have : k' = (i : Int) := by simpa using h
            rw [this]
            exact ⟨by omega, by omega⟩
      · exact ⟨js, s2728, F28, d28, by omega, hj⟩
    rintro H27 ⟨js, s27, F27, d27, lj, hj⟩
    have I27 := I26.next s27 F27
    refine ⟨Dd, _, rfl, .inl ⟨SqL.of d27, fun t28 ht28 => ?_⟩⟩
    have s28 := same_new (o := .tup (js.map V.int)) ht28
    have e28 : upd H27 t28 (.tup (js.map V.int)) t28 = some (.tup (js.map V.int)) := upd_same
    generalize upd H27 t28 (.tup (js.map V.int)) = H28 at s28 e28
    have I28 := I27.lay s28
    refine ⟨T, _, _, rfl, rfl, I28.at_, by rw [List.length_append, List.length_append, List.length_singleton, List.length_singleton, sizeLine_eq]; omega, ?_⟩
    have I29 := I28.tup e28 (by omega) hj
    have sd29 := grow (zs := us ++ [.ref t22] ++ [.ref t25] ++ [.ref t28]) I28 (sd26.trans (s27.trans (same_del s28)))
    have t429 : upd H28 T (.lst (us ++ [.ref t22] ++ [.ref t25] ++ [.ref t28])) t4 = some (.tup (ns.map V.int)) := by rw [upd_ne nt4T]; exact s28 _ _ (of_del (s27 _ _ (del_some t426 nt4))).1
    refine ⟨_, _, _, _, _, _, rfl, sd29, I29.mono (by omega), ?_, t429⟩
    rw [List.length_append, List.length_append, List.length_append]
    show us.length + 1 + 1 + 1 = 8 + 3 * (k + 1)
    omega
  · rintro σ H17 ⟨x7, x8, x9, x10, us, ds, rfl, sd17, I17, u17, t417⟩
    exact ⟨_, rfl, q T H17 us ds sd17 (I17.mono (by show b + 100 + 20 * 3 ≤ b + 400; omega)) u17⟩
end
end Sw
set_option maxRecDepth 100000
set_option maxHeartbeats 4000000
namespace Sw
open PySem PySem.Spec PyProof.Rows L2
/-! the fixed things, as data -/
def fxE1 : List Expr := eltsOf (asgOf (stAt 30 1))
def fxL1 : List PyData := (cstL (cst none 12) fxE1).getD []
def fxA2 : PyData := (cst none 12 (arg0 (exprOf (stAt 30 2)))).getD .none
def fxE3 : List Expr := eltsOf (arg0 (exprOf (stAt 30 3)))
def fxL3 : List PyData := (cstL (cst none 12) fxE3).getD []
theorem fx1 : cstL (cst none 12) fxE1 = some fxL1 := some_of (by decide +kernel)
theorem fx2 : cst none 12 (arg0 (exprOf (stAt 30 2))) = some fxA2 := some_of (by decide +kernel)
theorem fx3 : cstL (cst none 12) fxE3 = some fxL3 := some_of (by decide +kernel)
theorem fxF : ((fxL1 ++ [fxA2] ++ fxL3).all (fitB (10 ^ 199) 30 3 20000)) = true := by decide +kernel
theorem fxN1 : fxL1.length = 15 := by decide +kernel
theorem fxN3 : fxL3.length = 4 := by decide +kernel
theorem ArrAt.del {H : Hp} {F p fq : Addr} {es : List Ge} {b : Nat} (h : ArrAt H F es) (f : FeedAt H p fq b) : ArrAt (del H p) F es := by
  obtain ⟨as, h1, h2⟩ := h.ex
  obtain ⟨ns, i, j, k, g1, _⟩ := f.ex
  have n1 : F ≠ p := fun e => by
    rw [e, g1] at h1
    have h3 := HO.lst.inj (Option.some.inj h1)
    match as, h3 with
    | [], h3 => cases h3
    | [_], h3 => cases h3
    | _ :: _ :: _, h3 =>
      injection h3 with _ h4
      injection h4 with h5 _
      cases h5
  refine ⟨as, del_some h1 n1, paired_imp (R := fun a e => H a = some (.lst ((allG e).map V.int))) (fun a e r => del_some r fun z => ?_) h2⟩
  rw [z, g1] at r
  have h3 := HO.lst.inj (Option.some.inj r)
  match hq : allG e, h3 with
  | [], h3 => cases h3
  | x :: xs, h3 =>
    injection h3 with h4 _
    cases h4
theorem fenJ_small {es : List Ge} (few : es.length ≤ 60) {o u : Int} {d : PyData} {x : Str} {y : Int} (h : fenJ es o u d = some (x, y)) : (x = "shape" ∨ x = "in" ∨ x = "first" ∨ x = "next") ∧ -1 ≤ y ∧ y < 100 := by
  unfold fenJ at h
  by_cases hR : dRis es.length d = true
  · rw [if_pos hR] at h
    cases d with
    | tuple ds =>
      have hR2 : (ds.all dNum && (decide ((ds.map toI).Pairwise (· < ·)) && (ds.map toI).all fun k => decide (0 ≤ k) && decide (k < (es.length : Int)))) = true := hR
      rw [Bool.and_eq_true, Bool.and_eq_true, List.all_eq_true (l := ds.map toI)] at hR2
      have rg : ∀ k ∈ ds.map toI, -1 ≤ k ∧ k < 100 := fun k hk => by
        have := hR2.2.2 k hk
        simp only [Bool.and_eq_true, decide_eq_true_eq] at this
        omega
      have h' : fenN es o u (ds.map toI) = some (x, y) := h
      generalize ds.map toI = ns at rg h'
      unfold fenN at h'
      split at h'
      · rename_i b hb
        cases h'
        exact ⟨.inr (.inl rfl), rg _ (List.mem_of_find?_eq_some hb)⟩
      · split at h'
        · cases h'
          exact ⟨.inr (.inr (.inl rfl)), by omega, by omega⟩
        · split at h'
          · rename_i b hb
            cases h'
            exact ⟨.inr (.inr (.inr rfl)), rg _ (List.mem_of_find?_eq_some hb)⟩
          · cases h'
    | _ => cases hR
  · rw [if_neg hR] at h
    cases h
    exact ⟨.inl rfl, by omega, by omega⟩
theorem saidD_fit {es : List Ge} (few : es.length ≤ 60) (o u : Int) (d : PyData) : Fit 100 60 1 2000 (saidD (fenJ es o u d)) := by
  have fs : ∀ z : Str, z ∈ [("shape" : Str), "in", "first", "next", "no", "told"] → leaf 100 (.str z) = true ∧ lens 60 (.str z) = true ∧ (PyData.str z).depth ≤ 0 := fun z hz => by
    simp only [List.mem_cons, List.not_mem_nil, or_false] at hz
    rcases hz with rfl | rfl | rfl | rfl | rfl | rfl <;> exact ⟨by decide +kernel, rfl, by simp [PyData.depth]⟩
  have ws : ∀ z : Str, z ∈ [("shape" : Str), "in", "first", "next", "no", "told"] → wt (.str z) ≤ 200 := fun z hz => by
    simp only [List.mem_cons, List.not_mem_nil, or_false] at hz
    rcases hz with rfl | rfl | rfl | rfl | rfl | rfl <;> decide +kernel
  cases hj : fenJ es o u d with
  | none =>
    refine Fit.tup (n := 0) (by show 2 ≤ 60; decide) (fun x hx => ?_) ?_
    · simp only [List.mem_cons, List.not_mem_nil, or_false] at hx
      rcases hx with rfl | rfl
      · exact fs _ (by simp)
      · exact ⟨rfl, rfl, by simp [PyData.depth]⟩
    · have := ws "told" (by simp)
      simp only [wtAll, wt] at this ⊢
      omega
  | some p =>
    obtain ⟨x, y⟩ := p
    obtain ⟨hx, y0, y1⟩ := fenJ_small few hj
    have hx' : x ∈ [("shape" : Str), "in", "first", "next", "no", "told"] := by
      rcases hx with rfl | rfl | rfl | rfl <;> simp
    refine Fit.tup (n := 0) (by show 3 ≤ 60; decide) (fun z hz => ?_) ?_
    · simp only [List.mem_cons, List.not_mem_nil, or_false] at hz
      rcases hz with rfl | rfl | rfl
      · exact fs _ (by simp)
      · exact fs _ hx'
      · exact ⟨by simp only [leaf, decide_eq_true_eq]; omega, rfl, by simp [PyData.depth]⟩
    · have h1 := ws "no" (by simp)
      have h2 := ws x hx'
      simp only [wtAll, wt] at h1 h2 ⊢
      omega
/-- code and things, for repr -/
theorem both_fit {es : List Ge} (g : Gok es) {ds : List PyData} (hd : ∀ d ∈ ds, FitT d) (hl : ds.length ≤ 400) : Fit (10 ^ 199 + 2) 400 52 16600000 (.tuple [codeD [("main", es)], .list ds]) := by
  have f1 := (codeD_fit g).mono (show 100 ≤ 10 ^ 199 + 2 by decide +kernel) (show 60 ≤ 400 by omega) (show 6 ≤ 51 by omega) (Nat.le_refl _)
  have f2 := list_fit hd hl
  refine Fit.tup (n := 51) (by show 2 ≤ 400; omega) (fun x hx => ?_) ?_
  · simp only [List.mem_cons, List.not_mem_nil, or_false] at hx
    rcases hx with rfl | rfl
    · exact ⟨f1.lf, f1.ln, f1.dp⟩
    · exact ⟨f2.lf, f2.ln, f2.dp⟩
  · have h1 := f1.wg
    have h2 := f2.wg
    simp only [wtAll]
    omega
section
variable {P : Program} {w : World} {K : PySem.W.Frag} {mg : Str → Option Value} {base : Heap}
abbrev NL14 : List Str := ["_law_script", "_law_feed_here", "_law_fixed", "_law_turn", "_law_code", "_law_arrows_here", "_law_over", "_law_things_here", "_law_kept", "_law_under", "_law_thing"]
theorem sc_law14 : FnScope NL14 ["_law_script"] (defScope (topS 30)) := ⟨rfl, rfl, rfl, by decide +kernel, rfl, by decide +kernel, by decide +kernel⟩
theorem ok_law14 {f f1 f2 f3 f4 f5 f6 : Addr} {fd fd1 fd2 fd3 fd4 fd5 fd6 : FuncData} (D : Df K mg "law" (topS 30) ["_law_script"] f fd) (D1 : Df K mg "_law_feed" (topS 19) ["_law_script"] f1 fd1) (D2 : Df K mg "_law_graph" (topS 24) ["_law_feed_here", "_law_most"] f2 fd2) (D3 : Df K mg "_law_arrows" (topS 25) ["_law_code"] f3 fd3)
    (D4 : Df K mg "_law_things" (topS 29) ["_law_feed_here", "_law_arrows_here", "_law_over"] f4 fd4) (D5 : Df K mg "_law_said" (topS 28) ["_law_code", "_law_over", "_law_under", "_law_thing"] f5 fd5) (D6 : Df K mg "_law_fenced" (topS 27) ["_law_arrows_here", "_law_over", "_law_under", "_law_thing"] f6 fd6) (B : Bt mg)
    (G1 : FnOk P w K mg base CX0 1 f1 fd1 ["_law_script"] (spFeedG K)) (G2 : FnOk P w K mg base CX0 2 f2 fd2 ["_law_feed_here", "_law_most"] (spGraph K)) (G3 : FnOk P w K mg base CX0 1 f3 fd3 ["_law_code"] (spArrows K)) (G4 : FnOk P w K mg base CX0 6 f4 fd4 ["_law_feed_here", "_law_arrows_here", "_law_over"] (spThings K))
    (G5 : FnOk P w K mg base CX0 5 f5 fd5 ["_law_code", "_law_over", "_law_under", "_law_thing"] (spSaid K)) (G6 : FnOk P w K mg base CX0 2 f6 fd6 ["_law_arrows_here", "_law_over", "_law_under", "_law_thing"] (spFenced K)) :
    FnG P w K mg base 7 f fd ["_law_script"] (spLaw K) := by
  refine fun_okG D.fn sc_law14 (fun vs H Q E h => ?_) (fun cdv A outer s H vs Q E hg hr h => ?_)
  · obtain ⟨a, ns, rfl, _⟩ := h
    rfl
  obtain ⟨a, ns, rfl, hS, hn, q⟩ := h
  have nd := sc_law14.nd
  have hu := hr.units
  have hg2 : (A.deeper (envOfC "law" (defScope (topS 30)) s.heap.objs.size f cdv)).guards = some [] := hg
  refine ⟨_, (pss_cons (ps_set (i := 1) nd rfl (Or.inl rfl) (pe_call G1 (hr.mono (by decide)) (by rfl) D1.gl D1.fn.kp D1.bd .nil pass0 (pa_cons (pv 0) pa_nil)))
    (pss_cons (ps_set (i := 2) nd rfl (Or.inl rfl) (pe_lst (pa_cst (g := none) (f := cst none 12) (fun e d h => pe_cst (g := none) trivial 12 e d h) (fun e d es env h => cst_star h) fxE1 fxL1 fx1)))
    (pss_cons (ps_expr (pe_bm PySem.F.plainAttrs_list PySem.F.slot_list_append PySem.F.type_list_append mt_append (pv 2) (pa_cons (pe_cst (g := none) trivial 12 (arg0 (exprOf (stAt 30 2))) fxA2 fx2) pa_nil)))
    (pss_cons (ps_expr (pe_bm PySem.F.plainAttrs_list PySem.F.slot_list_extend PySem.F.type_list_extend mt_extend (pv 2) (pa_cons (pe_lst (pa_cst (g := none) (f := cst none 12) (fun e d h => pe_cst (g := none) trivial 12 e d h) (fun e d es env h => cst_star h) fxE3 fxL3 fx3)) pa_nil)))
    (pss_cons (ps_for PassesOwn.never rfl (pi_range1 (by rfl) B.range (pa_cons pe_int pa_nil)) (pg_name (i := 3) nd rfl (Or.inl rfl))
    (pss_cons (ps_set (i := 4) nd rfl (Or.inl rfl) (pe_call G2 (hr.mono (by decide)) (by rfl) D2.gl D2.fn.kp D2.bd .nil pass0 (pa_cons (pv 1) (pa_cons pe_int pa_nil))))
    (pss_cons (ps_set (i := 5) nd rfl (Or.inl rfl) (pe_call G3 (hr.mono (by decide)) (by rfl) D3.gl D3.fn.kp D3.bd .nil pass0 (pa_cons (pv 4) pa_nil)))
    (pss_one (ps_for PassesOwn.never rfl (pi_range1 (by rfl) B.range (pa_cons (pe_callB call_len_seq (by rfl) B.len PySem.boot_len (pa_cons (pv 5) pa_nil)) pa_nil)) (pg_name (i := 6) nd rfl (Or.inl rfl))
    (pss_cons (ps_set (i := 7) nd rfl (Or.inl rfl) (pe_op op_cat (pe_call G4 hr (by rfl) D4.gl D4.fn.kp D4.bd .nil pass0 (pa_cons (pv 1) (pa_cons (pv 5) (pa_cons (pv 6) pa_nil)))) (pv 2)))
    (pss_cons (ps_set (i := 8) nd rfl (Or.inl rfl) (pe_callB (call_repr hg2 hu) (by rfl) B.repr (by decide +kernel) (pa_cons (pe_tup (pa_cons (pv 4) (pa_cons (pv 7) pa_nil))) pa_nil)))
    (C8.pss_cut (ps_for PassesOwn.never rfl (pi_range1 (by rfl) B.range (pa_cons (pe_callB call_len_seq (by rfl) B.len PySem.boot_len (pa_cons (pv 5) pa_nil)) pa_nil)) (pg_name (i := 9) nd rfl (Or.inl rfl))
    (pss_one (ps_for PassesOwn.never rfl (pi_list (pv 7)) (pg_name (i := 10) nd rfl (Or.inl rfl))
    (pss_one (ps_if (pt_cmpR op_ne (pe_callB (call_repr hg2 hu) (by rfl) B.repr (by decide +kernel) (pa_cons (pe_call G5 (hr.mono (by decide)) (by rfl) D5.gl D5.fn.kp D5.bd .nil pass0 (pa_cons (pv 4) (pa_cons (pv 6) (pa_cons (pv 9) (pa_cons (pv 10) pa_nil))))) pa_nil)) (pe_callB (call_repr hg2 hu) (by rfl) B.repr (by decide +kernel) (pa_cons (pe_call G6 (hr.mono (by decide)) (by rfl) D6.gl D6.fn.kp D6.bd .nil pass0 (pa_cons (pv 5) (pa_cons (pv 6) (pa_cons (pv 9) (pa_cons (pv 10) pa_nil))))) pa_nil)) (nomark _)) pss_never pss_nil)))))
    (pss_one (ps_if (pt_cmpR op_ne (pe_callB (call_repr hg2 hu) (by rfl) B.repr (by decide +kernel) (pa_cons (pe_tup (pa_cons (pv 4) (pa_cons (pv 7) pa_nil))) pa_nil)) (pv 8) (nomark _)) pss_never pss_nil))))))))))
    (pss_one (ps_ret pe_bl))))))), ?_⟩
  refine ⟨_, rfl, a, ns, rfl, hS, hn, fun p fq H1 s1 hp F1 => ?_⟩
  obtain ⟨up, hup⟩ := F1.there
  -- the fixed things
  refine ⟨trivial, fun us1 H2 s2 d2 => ?_⟩
  have l1 := DpAll_len d2
  rw [fxN1] at l1
  refine ⟨by rw [sizeLine_eq]; omega, fun FX hFX => ?_⟩
  have nFX : H1 FX = none := s2.free hFX
  have A1 : FoundAt K H1 FX (upd H2 FX (.lst us1)) us1 fxL1 := ⟨s2.trans (same_new hFX), nFX, upd_same, DpAll_same (fun c o e => by
    obtain ⟨e1, e2⟩ := of_fr e
    have hn : c ≠ FX := ne_of_none e2 hFX
    exact del_some (fr_some e1 (by rw [upd_ne hn]; exact e2)) hn) d2⟩
  generalize upd H2 FX (.lst us1) = H3 at A1
  refine ⟨_, rfl, .inl ⟨rfl, _, SqL.of A1.at_⟩, trivial, fun v2 H4 s4 d4 => ?_⟩
  refine ⟨FX, _, _, rfl, rfl, s4 _ _ A1.at_, by rw [sizeLine_eq]; omega, ?_⟩
  have A2 := A1.more s4 (.cons (Dp_same (nw_fr A1.s0 A1.at_) d4) .nil)
  generalize upd H4 FX (.lst (us1 ++ [v2])) = H5 at A2
  refine ⟨_, rfl, .inl ⟨rfl, _, SqL.of A2.at_⟩, trivial, fun us3 H6 s6 d6 => ?_⟩
  have l3 := DpAll_len d6
  rw [fxN3] at l3
  refine ⟨by rw [sizeLine_eq]; omega, fun b3 hb3 => ?_⟩
  have t3 := same_new (o := .lst us3) hb3
  have eb3 : upd H6 b3 (.lst us3) b3 = some (.lst us3) := upd_same
  have d6' := DpAll_same ((fr_next t3).trans (nw_fr A2.s0 A2.at_)) d6
  have t36 := s6.trans t3
  generalize upd H6 b3 (.lst us3) = H7 at eb3 d6' t36
  refine ⟨FX, b3, _, _, rfl, rfl, t36 _ _ A2.at_, eb3, by rw [List.length_append, List.length_singleton, sizeLine_eq]; omega, ?_⟩
  have A3 := A2.more t36 d6'
  have fxl : (us1 ++ [v2] ++ us3).length = 20 := by rw [List.length_append, List.length_append, List.length_singleton]; omega
  have fxf : ∀ d ∈ fxL1 ++ [fxA2] ++ fxL3, FitT d := fun d hd => (allFit fxF d hd).mono (by omega) (by omega) (by omega) (Nat.le_refl _)
  generalize upd H7 FX (.lst (us1 ++ [v2] ++ us3)) = H8 at A3
  generalize us1 ++ [v2] ++ us3 = fvs at A3 fxl
  generalize fxL1 ++ [fxA2] ++ fxL3 = fds at A3 fxf
  have nFp : FX ≠ p := fun z => by rw [z, hup] at nFX; cases nFX
  have nFq : FX ≠ fq := (F1.ne nFX).2
  have F8 := F1.same A3.s0
  have fd8 : DpAll K (Sw.del H8 p) fvs fds := DpAll_same (fun c o e => by
    obtain ⟨e1, _⟩ := of_del e
    obtain ⟨e2, e3⟩ := of_fr e1
    exact del_some e3 (fun z => by rw [z, hup] at e2; cases e2)) A3.dat
  have fx8 := A3.at_
  clear A1 A2 A3 d2 d4 d6 d6' eb3 t36 t3 s6 s4 s2
  refine ⟨3, rfl, by decide, by decide, ?_⟩
  refine for_it walk_range (fun k σ H' => ∃ (x3 x4 x5 x6 x7 x8 x9 x10 : Option V), σ = [some (.ref a), some (.ref p), some (.ref FX), x3, x4, x5, x6, x7, x8, x9, x10] ∧ Same (Sw.del H8 p) (Sw.del H' p) ∧ FeedAt H' p fq (5000 * k)) ⟨none, none, none, none, none, none, none, none, rfl, Same.refl _, F8⟩ (fun _ _ _ _ _ => trivial) ?_ ?_
  · rintro k x σ H9 H9' hk ⟨x3, x4, x5, x6, x7, x8, x9, x10, rfl, s9, F9⟩ ⟨rfl, rfl⟩
    have hk3 : k < 3 := hk
    refine ⟨_, rfl, p, fq, 6, _, rfl, F9, by omega, by decide, by decide, fun v H10 es s10 F10 hok few6 dC => ?_⟩
    have few := hok.few
    refine ⟨_, rfl, v, "main", es, [], rfl, Dp_same (Sw.del_same H10 p) dC, few, fun F H11 s11 A11 => ?_⟩
    have s811 := s9.trans (s10.trans (same_del s11))
    have F11 := F10.same s11
    have dC11 := Dp_same (same_del s11) dC
    have AD11 := A11.del F11
    obtain ⟨av, cxs, rfl, _, _⟩ := Dp_tup dC
    obtain ⟨as0, F0, p0⟩ := A11.ex
    have las : (as0.map V.ref).length = es.length := by rw [List.length_map]; exact p0.length
    refine ⟨_, rfl, F, _, rfl, .inl (SqL.of F0), _, rfl, by omega, by omega, ?_⟩
    rw [las, Int.toNat_natCast]
    refine for_it walk_rangeA (fun i σ H' => ∃ (x6 x7 x8 x9 x10 : Option V), σ = [some (.ref a), some (.ref p), some (.ref FX), some (.int (0 + ((k : Nat) : Int))), some (.ref av), some (.ref F), x6, x7, x8, x9, x10] ∧ Same (Sw.del H11 p) (Sw.del H' p) ∧ FeedAt H' p fq (5000 * k + 100 + 500 * i)) ⟨_, _, _, _, _, rfl, Same.refl _, F11⟩ (fun _ _ _ _ _ => trivial) ?_ ?_
    · rintro i x σ H12' H12 hi ⟨x6, x7, x8, x9, x10, rfl, s12, F12⟩ ⟨he, hx⟩
      subst he
      obtain ⟨rfl, _⟩ := ivs_at hx
      refine ⟨_, rfl, _, rfl, _, rfl, p, fq, F, (i : Int), _, es, rfl, F12, by omega, AD11.same s12, hok, few6, fun T H13 us ds s13 I13 u13 => ?_⟩
      have s1113 := s12.trans s13
      have s813 := s811.trans s1113
      have fx13 := (of_del (s813 _ _ (del_some fx8 nFp))).1
      have fd13 := DpAll_same ((Sw.del_same H13 p)) (DpAll_same s813 fd8)
      have dl : ds.length = 17 := by rw [← DpAll_len I13.dat]; exact u13
      have dfl : fds.length = 20 := by rw [← DpAll_len fd13]; exact fxl
      refine ⟨_, rfl, T, FX, _, _, rfl, rfl, I13.at_, fx13, by rw [sizeLine_eq]; omega, fun T2 hT2 => ?_⟩
      have dat13 : DpAll K H13 (us ++ fvs) (ds ++ fds) := DpAll_append (DpAll_same (fun c o e => (of_del (of_del e).1).1) I13.dat) fd13
      have s14 := same_new (o := .lst (us ++ fvs)) hT2
      have e14 : upd H13 T2 (.lst (us ++ fvs)) T2 = some (.lst (us ++ fvs)) := upd_same
      have dfit : ∀ d ∈ ds ++ fds, FitT d := fun d hd => (List.mem_append.mp hd).elim (I13.fit d) (fxf d)
      have dlen : (ds ++ fds).length ≤ 400 := by rw [List.length_append]; omega
      have F13 := I13.feed
      have dC13 := Dp_same (s1113) dC11
      have C13 : CodeOf K H13 (.ref av) "main" es := ⟨⟨_, Dp_same (Sw.del_same H13 p) dC13, by show (if ("main" : Str) = "main" then _ else _) = _; rw [if_pos rfl]⟩, hok⟩
      have AR13 : ArrAt H13 F es := (AD11.same s1113).same (Sw.del_same H13 p)
      have cd13 := Dp_same (Sw.del_same H13 p) dC13
      generalize upd H13 T2 (.lst (us ++ fvs)) = H14 at s14 e14
      generalize us ++ fvs = ts at e14 dat13
      generalize ds ++ fds = tds at dat13 dfit dlen
      have tl := DpAll_len dat13
      obtain ⟨r1, r2, r3, r4⟩ := repr_of (both_fit hok dfit dlen) (by decide +kernel) (by decide) (by decide)
      have dat14 := DpAll_same s14 dat13
      have both : ∀ {H' : Hp} {T3 : Addr}, Same H14 H' → H' T3 = some (.tup [V.ref av, .ref T2]) → Dp K H' (.ref T3) (.tuple [codeD [("main", es)], .list tds]) := fun {H' T3} s' h => .tup (SqT.of h) (.cons (Dp_same (s14.trans s') cd13) (.cons (.lst (SqL.of (s' _ _ e14)) (DpAll_same s' dat14)) .nil))
      refine ⟨_, rfl, _, rfl, by show 2 ≤ sizeLine; decide, fun T3 hT3 => ?_⟩
      have s15 := same_new (o := .tup [V.ref av, .ref T2]) hT3
      have e15 : upd H14 T3 (.tup [V.ref av, .ref T2]) T3 = some (.tup [V.ref av, .ref T2]) := upd_same
      generalize upd H14 T3 (.tup [V.ref av, .ref T2]) = H15 at s15 e15
      refine ⟨T3, _, rfl, both s15 e15, r1, r2, r3, r4, ?_⟩
      have s1315 := s14.trans s15
      obtain ⟨as1, F1', p1⟩ := (AR13.same s1315).ex
      have las1 : (as1.map V.ref).length = es.length := by rw [List.length_map]; exact p1.length
      refine ⟨fun σ' H' => ∃ (x9 x10 : Option V), σ' = [some (.ref a), some (.ref p), some (.ref FX), some (.int (0 + ((k : Nat) : Int))), some (.ref av), some (.ref F), some (.int (i : Int)), some (.ref T2), some (.str (PyData.tuple [codeD [("main", es)], .list tds]).shown), x9, x10] ∧ Same H15 H', ?_, ?_⟩
      · refine ⟨_, rfl, F, _, rfl, .inl (SqL.of F1'), _, rfl, by omega, by omega, ?_⟩
        rw [las1, Int.toNat_natCast]
        refine for_it walk_rangeA (fun j σ H' => ∃ (x9 x10 : Option V), σ = [some (.ref a), some (.ref p), some (.ref FX), some (.int (0 + ((k : Nat) : Int))), some (.ref av), some (.ref F), some (.int (i : Int)), some (.ref T2), some (.str (PyData.tuple [codeD [("main", es)], .list tds]).shown), x9, x10] ∧ Same H15 H') ⟨_, _, rfl, Same.refl _⟩ (fun _ _ _ _ _ => trivial) ?_ ?_
        · rintro j x σ H16' H16 hj ⟨x9, x10, rfl, s16⟩ ⟨he, hx⟩
          subst he
          obtain ⟨rfl, _⟩ := ivs_at hx
          have e16 := (s15.trans s16) _ _ e14
          refine ⟨_, rfl, T2, rfl, ⟨_, SqL.of e16⟩, for_it (walk_list (xs := ts)) (fun m σ H' => ∃ (x10 : Option V), σ = [some (.ref a), some (.ref p), some (.ref FX), some (.int (0 + ((k : Nat) : Int))), some (.ref av), some (.ref F), some (.int (i : Int)), some (.ref T2), some (.str (PyData.tuple [codeD [("main", es)], .list tds]).shown), some (.int (j : Int)), x10] ∧ Same H15 H') ⟨_, rfl, s16⟩ (fun m σ H' _ h => by obtain ⟨_, _, s'⟩ := h; exact SqL.of (s' _ _ (s15 _ _ e14))) ?_ ?_⟩
          · rintro m x σ H17' H17 hm ⟨x10, rfl, s17⟩ ⟨he, hx⟩
            subst he
            have s1317 := s1315.trans s17
            obtain ⟨d, hdi, hdp⟩ := DpAll_get (DpAll_same s1317 dat13) hx
            have ft := dfit d (List.mem_of_getElem? hdi)
            have hft : ∃ M, Fit M 60 60 1000000 d := ⟨_, ft.mono (Nat.le_refl _) (Nat.le_refl _) (by omega) (by omega)⟩
            obtain ⟨z1, z2, z3, z4⟩ := repr_ok (saidD_fit few (i : Int) (j : Int) d) (by decide) (by decide) (by decide)
            refine ⟨_, rfl, _, rfl, _, rfl, _, rfl, .ref av, (i : Int), (j : Int), x, d, es, rfl, C13.same s1317, hdp, hft, fun t H18 s18 dp18 => ?_⟩
            refine ⟨t, _, rfl, dp18, z1, z2, z3, z4, ?_⟩
            refine ⟨_, rfl, _, rfl, _, rfl, _, rfl, F, (i : Int), (j : Int), x, d, es, rfl, AR13.same (s1317.trans s18), hok, Dp_same s18 hdp, hft, fun t2 H19 s19 dp19 => ?_⟩
            refine ⟨t2, _, rfl, dp19, z1, z2, z3, z4, rfl, _, rfl, ?_⟩
            rw [decide_eq_true rfl]
            exact iteF ⟨_, rfl, s17.trans (s18.trans s19)⟩
          · rintro σ H17 ⟨x10, rfl, s17⟩
            exact ⟨_, _, rfl, s17⟩
        · rintro σ H16 ⟨x9, x10, rfl, s16⟩
          exact ⟨_, _, rfl, s16⟩
      rintro σ16 H16 ⟨x9', x10', rfl, s16⟩
      refine ⟨_, rfl, _, rfl, by show 2 ≤ sizeLine; decide, fun T4 hT4 => ?_⟩
      have s17 := same_new (o := .tup [V.ref av, .ref T2]) hT4
      have e17 : upd H16 T4 (.tup [V.ref av, .ref T2]) T4 = some (.tup [V.ref av, .ref T2]) := upd_same
      generalize upd H16 T4 (.tup [V.ref av, .ref T2]) = H17 at s17 e17
      have s1517 := s16.trans s17
      refine ⟨T4, _, rfl, both (s15.trans s1517) e17, r1, r2, r3, r4, _, rfl, rfl, _, rfl, ?_⟩
      rw [decide_eq_true rfl]
      exact iteF ⟨_, _, _, _, _, rfl, s1113.trans (same_del (s1315.trans s1517)), (F13.same (s1315.trans s1517)).mono (by omega)⟩
    · rintro σ H12 ⟨x6, x7, x8, x9, x10, rfl, s12, F12⟩
      exact ⟨_, _, _, _, _, _, _, _, rfl, s811.trans s12, F12.mono (by omega)⟩
  · rintro σ H9 ⟨x3, x4, x5, x6, x7, x8, x9, x10, rfl, _, F9⟩
    exact q H9
end
end Sw
set_option maxRecDepth 100000
set_option maxHeartbeats 4000000
namespace Sw
open PySem PySem.Spec PyProof.Rows L2
theorem all_mk {l : PySem.W.OpenLaw} {w : World} {K : PySem.W.Frag} {h : Heap} {mg : Str → Option Value} {fa f8 f10 f12 f13 f15 f16 f17 f19 f20 f21 f22 f23 f24 f25 f26 f27 f28 f29 f30 : Addr} (X : K.In h) (G : h.Ns mainGlobals mg) (hfa : mg "law" = some (.ref fa))
    {od8 od10 od12 od13 od15 od16 od17 od19 od20 od21 od22 od23 od24 od25 od26 od27 od28 od29 od30 an8 an10 an12 an13 an15 an16 an17 an19 an20 an21 an22 an23 an24 an25 an26 an27 an28 an29 an30 : Option Addr} {sl8 sl10 sl12 sl13 sl15 sl16 sl17 sl19 sl20 sl21 sl22 sl23 sl24 sl25 sl26 sl27 sl28 sl29 sl30 : Array (Option Value)} {oc8 oc10 oc12 oc13 oc15 oc16 oc17 oc19 oc20 oc21 oc22 oc23 oc24 oc25 oc26 oc27 oc28 oc29 oc30 kV8 kV10 kV12 kV13 kV15 kV16 kV17 kV19 kV20 kV21 kV22 kV23 kV24 kV25 kV26 kV27 kV28 kV29 kV30 dc8 dc10 dc12 dc13 dc15 dc16 dc17 dc19 dc20 dc21 dc22 dc23 dc24 dc25 dc26 dc27 dc28 dc29 dc30 pm8 pm10 pm12 pm13 pm15 pm16 pm17 pm19 pm20 pm21 pm22 pm23 pm24 pm25 pm26 pm27 pm28 pm29 pm30 cd8 cd10 cd12 cd13 cd15 cd16 cd17 cd19 cd20 cd21 cd22 cd23 cd24 cd25 cd26 cd27 cd28 cd29 cd30 ct8 ct10 ct12 ct13 ct15 ct16 ct17 ct19 ct20 ct21 ct22 ct23 ct24 ct25 ct26 ct27 ct28 ct29 ct30 : Value}
    (a8 : PySem.W.nsIn K mainGlobals "is_number" = some (some (.ref f8))) (l8 : K.lookup f8 = some ⟨oc8, od8, .func (PySem.W.fnOf "is_number" "is_number" (defArgs (topS 8)) (defBody (topS 8)) (defScope (topS 8)) .none kV8 dc8 pm8 an8 cd8 ct8), sl8⟩) (c8 : PySem.W.codeIn K cd8 "is_number" = true) (k8 : PySem.W.keepIn K (.ref f8) = true)
    (a10 : PySem.W.nsIn K mainGlobals "blocks_of" = some (some (.ref f10))) (l10 : K.lookup f10 = some ⟨oc10, od10, .func (PySem.W.fnOf "blocks_of" "blocks_of" (defArgs (topS 10)) (defBody (topS 10)) (defScope (topS 10)) .none kV10 dc10 pm10 an10 cd10 ct10), sl10⟩) (c10 : PySem.W.codeIn K cd10 "blocks_of" = true) (k10 : PySem.W.keepIn K (.ref f10) = true)
    (a12 : PySem.W.nsIn K mainGlobals "goals" = some (some (.ref f12))) (l12 : K.lookup f12 = some ⟨oc12, od12, .func (PySem.W.fnOf "goals" "goals" (defArgs (topS 12)) (defBody (topS 12)) (defScope (topS 12)) .none kV12 dc12 pm12 an12 cd12 ct12), sl12⟩) (c12 : PySem.W.codeIn K cd12 "goals" = true) (k12 : PySem.W.keepIn K (.ref f12) = true)
    (a13 : PySem.W.nsIn K mainGlobals "nexts" = some (some (.ref f13))) (l13 : K.lookup f13 = some ⟨oc13, od13, .func (PySem.W.fnOf "nexts" "nexts" (defArgs (topS 13)) (defBody (topS 13)) (defScope (topS 13)) .none kV13 dc13 pm13 an13 cd13 ct13), sl13⟩) (c13 : PySem.W.codeIn K cd13 "nexts" = true) (k13 : PySem.W.keepIn K (.ref f13) = true)
    (a15 : PySem.W.nsIn K mainGlobals "is_numbers" = some (some (.ref f15))) (l15 : K.lookup f15 = some ⟨oc15, od15, .func (PySem.W.fnOf "is_numbers" "is_numbers" (defArgs (topS 15)) (defBody (topS 15)) (defScope (topS 15)) .none kV15 dc15 pm15 an15 cd15 ct15), sl15⟩) (c15 : PySem.W.codeIn K cd15 "is_numbers" = true) (k15 : PySem.W.keepIn K (.ref f15) = true)
    (a16 : PySem.W.nsIn K mainGlobals "is_rising_blocks" = some (some (.ref f16))) (l16 : K.lookup f16 = some ⟨oc16, od16, .func (PySem.W.fnOf "is_rising_blocks" "is_rising_blocks" (defArgs (topS 16)) (defBody (topS 16)) (defScope (topS 16)) .none kV16 dc16 pm16 an16 cd16 ct16), sl16⟩) (c16 : PySem.W.codeIn K cd16 "is_rising_blocks" = true) (k16 : PySem.W.keepIn K (.ref f16) = true)
    (a17 : PySem.W.nsIn K mainGlobals "lets_fence" = some (some (.ref f17))) (l17 : K.lookup f17 = some ⟨oc17, od17, .func (PySem.W.fnOf "lets_fence" "lets_fence" (defArgs (topS 17)) (defBody (topS 17)) (defScope (topS 17)) .none kV17 dc17 pm17 an17 cd17 ct17), sl17⟩) (c17 : PySem.W.codeIn K cd17 "lets_fence" = true) (k17 : PySem.W.keepIn K (.ref f17) = true)
    (a19 : PySem.W.nsIn K mainGlobals "_law_feed" = some (some (.ref f19))) (l19 : K.lookup f19 = some ⟨oc19, od19, .func (PySem.W.fnOf "_law_feed" "_law_feed" (defArgs (topS 19)) (defBody (topS 19)) (defScope (topS 19)) .none kV19 dc19 pm19 an19 cd19 ct19), sl19⟩) (c19 : PySem.W.codeIn K cd19 "_law_feed" = true) (k19 : PySem.W.keepIn K (.ref f19) = true)
    (a20 : PySem.W.nsIn K mainGlobals "_law_draw" = some (some (.ref f20))) (l20 : K.lookup f20 = some ⟨oc20, od20, .func (PySem.W.fnOf "_law_draw" "_law_draw" (defArgs (topS 20)) (defBody (topS 20)) (defScope (topS 20)) .none kV20 dc20 pm20 an20 cd20 ct20), sl20⟩) (c20 : PySem.W.codeIn K cd20 "_law_draw" = true) (k20 : PySem.W.keepIn K (.ref f20) = true)
    (a21 : PySem.W.nsIn K mainGlobals "_law_bend" = some (some (.ref f21))) (l21 : K.lookup f21 = some ⟨oc21, od21, .func (PySem.W.fnOf "_law_bend" "_law_bend" (defArgs (topS 21)) (defBody (topS 21)) (defScope (topS 21)) .none kV21 dc21 pm21 an21 cd21 ct21), sl21⟩) (c21 : PySem.W.codeIn K cd21 "_law_bend" = true) (k21 : PySem.W.keepIn K (.ref f21) = true)
    (a22 : PySem.W.nsIn K mainGlobals "_law_odd" = some (some (.ref f22))) (l22 : K.lookup f22 = some ⟨oc22, od22, .func (PySem.W.fnOf "_law_odd" "_law_odd" (defArgs (topS 22)) (defBody (topS 22)) (defScope (topS 22)) .none kV22 dc22 pm22 an22 cd22 ct22), sl22⟩) (c22 : PySem.W.codeIn K cd22 "_law_odd" = true) (k22 : PySem.W.keepIn K (.ref f22) = true)
    (a23 : PySem.W.nsIn K mainGlobals "_law_number" = some (some (.ref f23))) (l23 : K.lookup f23 = some ⟨oc23, od23, .func (PySem.W.fnOf "_law_number" "_law_number" (defArgs (topS 23)) (defBody (topS 23)) (defScope (topS 23)) .none kV23 dc23 pm23 an23 cd23 ct23), sl23⟩) (c23 : PySem.W.codeIn K cd23 "_law_number" = true) (k23 : PySem.W.keepIn K (.ref f23) = true)
    (a24 : PySem.W.nsIn K mainGlobals "_law_graph" = some (some (.ref f24))) (l24 : K.lookup f24 = some ⟨oc24, od24, .func (PySem.W.fnOf "_law_graph" "_law_graph" (defArgs (topS 24)) (defBody (topS 24)) (defScope (topS 24)) .none kV24 dc24 pm24 an24 cd24 ct24), sl24⟩) (c24 : PySem.W.codeIn K cd24 "_law_graph" = true) (k24 : PySem.W.keepIn K (.ref f24) = true)
    (a25 : PySem.W.nsIn K mainGlobals "_law_arrows" = some (some (.ref f25))) (l25 : K.lookup f25 = some ⟨oc25, od25, .func (PySem.W.fnOf "_law_arrows" "_law_arrows" (defArgs (topS 25)) (defBody (topS 25)) (defScope (topS 25)) .none kV25 dc25 pm25 an25 cd25 ct25), sl25⟩) (c25 : PySem.W.codeIn K cd25 "_law_arrows" = true) (k25 : PySem.W.keepIn K (.ref f25) = true)
    (a26 : PySem.W.nsIn K mainGlobals "_law_comes" = some (some (.ref f26))) (l26 : K.lookup f26 = some ⟨oc26, od26, .func (PySem.W.fnOf "_law_comes" "_law_comes" (defArgs (topS 26)) (defBody (topS 26)) (defScope (topS 26)) .none kV26 dc26 pm26 an26 cd26 ct26), sl26⟩) (c26 : PySem.W.codeIn K cd26 "_law_comes" = true) (k26 : PySem.W.keepIn K (.ref f26) = true)
    (a27 : PySem.W.nsIn K mainGlobals "_law_fenced" = some (some (.ref f27))) (l27 : K.lookup f27 = some ⟨oc27, od27, .func (PySem.W.fnOf "_law_fenced" "_law_fenced" (defArgs (topS 27)) (defBody (topS 27)) (defScope (topS 27)) .none kV27 dc27 pm27 an27 cd27 ct27), sl27⟩) (c27 : PySem.W.codeIn K cd27 "_law_fenced" = true) (k27 : PySem.W.keepIn K (.ref f27) = true)
    (a28 : PySem.W.nsIn K mainGlobals "_law_said" = some (some (.ref f28))) (l28 : K.lookup f28 = some ⟨oc28, od28, .func (PySem.W.fnOf "_law_said" "_law_said" (defArgs (topS 28)) (defBody (topS 28)) (defScope (topS 28)) .none kV28 dc28 pm28 an28 cd28 ct28), sl28⟩) (c28 : PySem.W.codeIn K cd28 "_law_said" = true) (k28 : PySem.W.keepIn K (.ref f28) = true)
    (a29 : PySem.W.nsIn K mainGlobals "_law_things" = some (some (.ref f29))) (l29 : K.lookup f29 = some ⟨oc29, od29, .func (PySem.W.fnOf "_law_things" "_law_things" (defArgs (topS 29)) (defBody (topS 29)) (defScope (topS 29)) .none kV29 dc29 pm29 an29 cd29 ct29), sl29⟩) (c29 : PySem.W.codeIn K cd29 "_law_things" = true) (k29 : PySem.W.keepIn K (.ref f29) = true)
    (a30 : PySem.W.nsIn K mainGlobals "law" = some (some (.ref f30))) (l30 : K.lookup f30 = some ⟨oc30, od30, .func (PySem.W.fnOf "law" "law" (defArgs (topS 30)) (defBody (topS 30)) (defScope (topS 30)) .none kV30 dc30 pm30 an30 cd30 ct30), sl30⟩) (c30 : PySem.W.codeIn K cd30 "law" = true) (k30 : PySem.W.keepIn K (.ref f30) = true)
    {C CW CL CN CT fI N : Addr} {nm q : Str} {bs : List Value} {sn : List Str} {sub : List Value} {ab : Bool} {col : Option Bool} {dd odI anI : Option Addr} {m0 m1 m2 m3 m5 : Option Value} {slI : Array (Option Value)} {ocI kVI dcI pmI cdI ctI : Value}
    (aC : PySem.W.nsIn K mainGlobals "NoPaper" = some (some (.ref C)))
    (aW : PySem.W.nsIn K mainGlobals "WayError" = some (some (.ref CW)))
    (aL : PySem.W.nsIn K mainGlobals "LostError" = some (some (.ref CL)))
    (aN : PySem.W.nsIn K mainGlobals "NoCode" = some (some (.ref CN)))
    (aT : PySem.W.nsIn K mainGlobals "NoTurning" = some (some (.ref CT)))
    (xC : K.lookup C = some (excClassObj nm q C N bs [.ref CW, .type "ValueError", .type "Exception", .type "BaseException", .type "object"] true sn sub ab col dd m0 m1 m2 m3 m5 "ValueError.__new__"))
    (sa : PySem.W.findIn K (.ref C) "__setattr__" = some (some (.builtin "object.__setattr__")))
    (eC : PySem.W.subIn K (.ref C) (.type "BaseException") = some true)
    (tC : PySem.W.typeIn K (.ref C) = some (.type "type"))
    (kC : PySem.W.keepIn K (.ref C) = true)
    (iC : PySem.W.findIn K (.ref C) "__init__" = some (some (.ref fI)))
    (tI : PySem.W.typeIn K (.ref fI) = some (.type "function"))
    (noW : PySem.W.findIn K (.ref C) "word" = some none)
    (noA : PySem.W.findIn K (.ref C) "at" = some none)
    (lI : K.lookup fI = some ⟨ocI, odI, .func (PySem.W.fnOf "__init__" "NoPaper.__init__" (defArgs (mthS 3 0)) (defBody (mthS 3 0)) (defScope (mthS 3 0)) .none kVI dcI pmI anI cdI ctI), slI⟩)
    (cI : PySem.W.codeIn K cdI "NoPaper.__init__" = true)
    (kI : PySem.W.keepIn K (.ref fI) = true)
    (eW : PySem.W.subIn K (.ref CW) (.type "BaseException") = some true)
    (hW : PySem.W.hasDictIn K CW = true)
    (tW : PySem.W.typeIn K (.ref CW) = some (.type "type"))
    (sCW : PySem.W.subIn K (.ref C) (.ref CW) = some true)
    (k2 : PySem.W.kitOne K (.ref C) (.type "ValueError") = some true)
    (k3 : PySem.W.kitAny K (.ref C) [.ref CL, .ref CN, .ref CT] = some false)
    (ga : PySem.W.findIn K (.ref C) "__getattribute__" = some (some (.builtin "BaseException.__getattribute__")))
    (gg : PySem.W.findIn K (.ref C) "__getattr__" = some none)
    (hC : PySem.W.hasDictIn K C = true)
    (clC : PySem.W.isClsIn K C = true)
    (cA : PySem.W.findIn K (.ref C) "__class__" = some (some (.builtin "object.__class__")))
    (sg : PySem.W.specialIn K (.builtin "object.__class__") "__get__" = some (some (.builtin "getset_descriptor.__get__")))
    (tk : PySem.W.takesIn K (.builtin "object.__class__") = some true)
    (mo : PySem.W.mroIn K C (.type "object") = some true)
    (zV : PySem.W.nsIn K mainGlobals "ValueError" = some none)
    (z0 : PySem.W.nsIn K mainGlobals "isinstance" = some none) (z1 : PySem.W.nsIn K mainGlobals "int" = some none) (z2 : PySem.W.nsIn K mainGlobals "bool" = some none) (z3 : PySem.W.nsIn K mainGlobals "str" = some none) (z4 : PySem.W.nsIn K mainGlobals "tuple" = some none) (z5 : PySem.W.nsIn K mainGlobals "list" = some none) (z6 : PySem.W.nsIn K mainGlobals "len" = some none) (z7 : PySem.W.nsIn K mainGlobals "all" = some none) (z8 : PySem.W.nsIn K mainGlobals "zip" = some none) (z9 : PySem.W.nsIn K mainGlobals "range" = some none) (z10 : PySem.W.nsIn K mainGlobals "ord" = some none) (z11 : PySem.W.nsIn K mainGlobals "sorted" = some none) (z12 : PySem.W.nsIn K mainGlobals "set" = some none) (z13 : PySem.W.nsIn K mainGlobals "repr" = some none) :
    ∃ fd : FuncData, (∀ (s : Shared) (v : Value), BindsTo s fd ⟨[v], []⟩ [("_law_script", v)]) ∧ ∀ base : Heap, K.In base → base.Ns mainGlobals mg → FnG l.prog w K mg base 7 fa fd ["_law_script"] (spLaw K) := by
  have e := hfa.symm.trans (PySem.W.mg_of X G a30)
  cases e
  have B : Bt mg := ⟨PySem.W.mg_none_of X G z0, PySem.W.mg_none_of X G z1, PySem.W.mg_none_of X G z2, PySem.W.mg_none_of X G z3, PySem.W.mg_none_of X G z4, PySem.W.mg_none_of X G z5, PySem.W.mg_none_of X G z6, PySem.W.mg_none_of X G z7, PySem.W.mg_none_of X G z8, PySem.W.mg_none_of X G z9, PySem.W.mg_none_of X G z10, PySem.W.mg_none_of X G z11, PySem.W.mg_none_of X G z12, PySem.W.mg_none_of X G z13⟩
  have F8 := fun_mk (st := topS 8) l8 c8 k8
  have D8 : Df K mg "is_number" (topS 8) ["thing"] f8 _ := ⟨F8, F8.binds (ps := ["thing"]) fun _ _ _ _ _ _ us hl => match us, hl with | [_], _ => rfl, PySem.W.mg_of X G a8⟩
  have F10 := fun_mk (st := topS 10) l10 c10 k10
  have D10 : Df K mg "blocks_of" (topS 10) ["code", "name"] f10 _ := ⟨F10, F10.binds (ps := ["code", "name"]) fun _ _ _ _ _ _ us hl => match us, hl with | [_, _], _ => rfl, PySem.W.mg_of X G a10⟩
  have F12 := fun_mk (st := topS 12) l12 c12 k12
  have D12 : Df K mg "goals" (topS 12) ["end"] f12 _ := ⟨F12, F12.binds (ps := ["end"]) fun _ _ _ _ _ _ us hl => match us, hl with | [_], _ => rfl, PySem.W.mg_of X G a12⟩
  have F13 := fun_mk (st := topS 13) l13 c13 k13
  have D13 : Df K mg "nexts" (topS 13) ["code", "name", "block"] f13 _ := ⟨F13, F13.binds (ps := ["code", "name", "block"]) fun _ _ _ _ _ _ us hl => match us, hl with | [_, _, _], _ => rfl, PySem.W.mg_of X G a13⟩
  have F15 := fun_mk (st := topS 15) l15 c15 k15
  have D15 : Df K mg "is_numbers" (topS 15) ["thing"] f15 _ := ⟨F15, F15.binds (ps := ["thing"]) fun _ _ _ _ _ _ us hl => match us, hl with | [_], _ => rfl, PySem.W.mg_of X G a15⟩
  have F16 := fun_mk (st := topS 16) l16 c16 k16
  have D16 : Df K mg "is_rising_blocks" (topS 16) ["code", "name", "thing"] f16 _ := ⟨F16, F16.binds (ps := ["code", "name", "thing"]) fun _ _ _ _ _ _ us hl => match us, hl with | [_, _, _], _ => rfl, PySem.W.mg_of X G a16⟩
  have F17 := fun_mk (st := topS 17) l17 c17 k17
  have D17 : Df K mg "lets_fence" (topS 17) ["code", "name", "over", "under", "thing"] f17 _ := ⟨F17, F17.binds (ps := ["code", "name", "over", "under", "thing"]) fun _ _ _ _ _ _ us hl => match us, hl with | [_, _, _, _, _], _ => rfl, PySem.W.mg_of X G a17⟩
  have F19 := fun_mk (st := topS 19) l19 c19 k19
  have D19 : Df K mg "_law_feed" (topS 19) ["_law_script"] f19 _ := ⟨F19, F19.binds (ps := ["_law_script"]) fun _ _ _ _ _ _ us hl => match us, hl with | [_], _ => rfl, PySem.W.mg_of X G a19⟩
  have F20 := fun_mk (st := topS 20) l20 c20 k20
  have D20 : Df K mg "_law_draw" (topS 20) ["_law_feed_here", "_law_many"] f20 _ := ⟨F20, F20.binds (ps := ["_law_feed_here", "_law_many"]) fun _ _ _ _ _ _ us hl => match us, hl with | [_, _], _ => rfl, PySem.W.mg_of X G a20⟩
  have F21 := fun_mk (st := topS 21) l21 c21 k21
  have D21 : Df K mg "_law_bend" (topS 21) ["_law_feed_here", "_law_thing", "_law_odd_here"] f21 _ := ⟨F21, F21.binds (ps := ["_law_feed_here", "_law_thing", "_law_odd_here"]) fun _ _ _ _ _ _ us hl => match us, hl with | [_, _, _], _ => rfl, PySem.W.mg_of X G a21⟩
  have F22 := fun_mk (st := topS 22) l22 c22 k22
  have D22 : Df K mg "_law_odd" (topS 22) [] f22 _ := ⟨F22, F22.binds (ps := []) fun _ _ _ _ _ _ us hl => match us, hl with | [], _ => rfl, PySem.W.mg_of X G a22⟩
  have F23 := fun_mk (st := topS 23) l23 c23 k23
  have D23 : Df K mg "_law_number" (topS 23) ["_law_thing"] f23 _ := ⟨F23, F23.binds (ps := ["_law_thing"]) fun _ _ _ _ _ _ us hl => match us, hl with | [_], _ => rfl, PySem.W.mg_of X G a23⟩
  have F24 := fun_mk (st := topS 24) l24 c24 k24
  have D24 : Df K mg "_law_graph" (topS 24) ["_law_feed_here", "_law_most"] f24 _ := ⟨F24, F24.binds (ps := ["_law_feed_here", "_law_most"]) fun _ _ _ _ _ _ us hl => match us, hl with | [_, _], _ => rfl, PySem.W.mg_of X G a24⟩
  have F25 := fun_mk (st := topS 25) l25 c25 k25
  have D25 : Df K mg "_law_arrows" (topS 25) ["_law_code"] f25 _ := ⟨F25, F25.binds (ps := ["_law_code"]) fun _ _ _ _ _ _ us hl => match us, hl with | [_], _ => rfl, PySem.W.mg_of X G a25⟩
  have F26 := fun_mk (st := topS 26) l26 c26 k26
  have D26 : Df K mg "_law_comes" (topS 26) ["_law_arrows_here", "_law_over"] f26 _ := ⟨F26, F26.binds (ps := ["_law_arrows_here", "_law_over"]) fun _ _ _ _ _ _ us hl => match us, hl with | [_, _], _ => rfl, PySem.W.mg_of X G a26⟩
  have F27 := fun_mk (st := topS 27) l27 c27 k27
  have D27 : Df K mg "_law_fenced" (topS 27) ["_law_arrows_here", "_law_over", "_law_under", "_law_thing"] f27 _ := ⟨F27, F27.binds (ps := ["_law_arrows_here", "_law_over", "_law_under", "_law_thing"]) fun _ _ _ _ _ _ us hl => match us, hl with | [_, _, _, _], _ => rfl, PySem.W.mg_of X G a27⟩
  have F28 := fun_mk (st := topS 28) l28 c28 k28
  have D28 : Df K mg "_law_said" (topS 28) ["_law_code", "_law_over", "_law_under", "_law_thing"] f28 _ := ⟨F28, F28.binds (ps := ["_law_code", "_law_over", "_law_under", "_law_thing"]) fun _ _ _ _ _ _ us hl => match us, hl with | [_, _, _, _], _ => rfl, PySem.W.mg_of X G a28⟩
  have F29 := fun_mk (st := topS 29) l29 c29 k29
  have D29 : Df K mg "_law_things" (topS 29) ["_law_feed_here", "_law_arrows_here", "_law_over"] f29 _ := ⟨F29, F29.binds (ps := ["_law_feed_here", "_law_arrows_here", "_law_over"]) fun _ _ _ _ _ _ us hl => match us, hl with | [_, _, _], _ => rfl, PySem.W.mg_of X G a29⟩
  have F30 := fun_mk (st := topS 30) l30 c30 k30
  have D30 : Df K mg "law" (topS 30) ["_law_script"] fa _ := ⟨F30, F30.binds (ps := ["_law_script"]) fun _ _ _ _ _ _ us hl => match us, hl with | [_], _ => rfl, PySem.W.mg_of X G a30⟩
  refine ⟨PySem.W.fnOf "law" "law" (defArgs (topS 30)) (defBody (topS 30)) (defScope (topS 30)) .none kV30 dc30 pm30 an30 cd30 ct30, fun s v => .of_eq rfl, fun base _ _ => ?_⟩
  have FI := fun_mk (st := mthS 3 0) lI cI kI
  have bI := FI.binds (ps := ["self", "word", "at"]) fun _ _ _ _ _ _ us hl => match us, hl with | [_, _, _], _ => rfl
  have TC : PapC K mg C fI := ⟨⟨⟨nm, q, N, bs, _, sn, sub, ab, col, dd, m0, m1, m2, m3, m5, xC, by rfl⟩, sa, eC, tC, kC⟩, PySem.W.mg_of X G aC, iC, tI, noW, noA⟩
  have TX : PapX K mg C CW CL CN CT := ⟨PySem.W.mg_of X G aC, PySem.W.mg_of X G aW, PySem.W.mg_of X G aL, PySem.W.mg_of X G aN, PySem.W.mg_of X G aT, PySem.W.mg_none_of X G zV, PySem.W.exm_ref eW hW tW sCW, by unfold PySem.W.kitOne; rw [if_pos (beq_self_eq_true _)], k2, k3, ⟨ga, gg, eC, hC⟩, ⟨clC, ga, gg, eC, cA, sg, tk, mo⟩, noW, noA⟩
  have GB := ok_blocks (P := l.prog) (w := w) (base := base) D10 B
  have GG := ok_goals (P := l.prog) (w := w) (base := base) D12 B
  have GN := ok_nexts D13 D10 D12 B GB GG
  have Gnum := ok_num (P := l.prog) (w := w) (base := base) D8 B
  have Gnums := ok_numsD D15 D8 B Gnum
  have Gris := ok_risD D16 D15 D10 B Gnums GB
  have GI := ok_init (P := l.prog) (w := w) (base := base) TC FI
  have Gfen := ok_fenX D17 D16 D13 B TC bI Gris GN GI
  have Gsaid := ok_said D28 D17 B TX Gfen
  have GF := ok_feedG (P := l.prog) (w := w) (base := base) D19
  have GD := ok_draw (P := l.prog) (w := w) (base := base) D20 B
  have GR := ok_graph D24 D20 B GD
  have GA := ok_arrows (P := l.prog) (w := w) (base := base) D25 B
  have GC := ok_comes (P := l.prog) (w := w) (base := base) D26 B
  have GO := ok_odd (P := l.prog) (w := w) (base := base) D22
  have GBd := ok_bend (P := l.prog) (w := w) (base := base) D21 D20 B GD
  have Gln := ok_lnum (P := l.prog) (w := w) (base := base) D23 B
  have Gfd := ok_fenced D27 D23 B Gln
  have Gth := ok_things D29 D26 D22 D21 D20 B GC GO (GBd 2) (GBd 4) GD
  exact ok_law14 D30 D19 D24 D25 D29 D28 D27 B GF GR GA Gth Gsaid Gfd
theorem walk {l : PySem.W.OpenLaw} {q : Program} {loose : List Str} {XP : (Str → Option Value) → Heap → Prop} {YP : World → Heap → Prop} {d : DefRec} {K : Params → PySem.W.Frag} (hn : l.most = some 63) (hdf : d.params.defaults = [])
    (hY : ∀ (w : World) (h : Heap), YP w h → (K w.params).In h)
    (F : ∀ (w : World) (mg : Str → Option Value) (fa : Addr) (h : Heap), (K w.params).In h → h.Ns mainGlobals mg → mg d.name = some (.ref fa) →
      ∃ fd : FuncData, (∀ (s : Shared) (u : Value), BindsTo s fd ⟨[u], []⟩ [("_law_script", u)]) ∧ ∀ base : Heap, (K w.params).In base → base.Ns mainGlobals mg → FnG l.prog w (K w.params) mg base 7 fa fd ["_law_script"] (spLaw (K w.params))) :
    PySem.W.WalkO q loose XP YP l.row.toRowW d [] (fun f vs => PySem.call f vs) :=
  walkG (n := 63) (k := 7) (x := "_law_script") (sp := spLaw) hn (by decide) hdf ⟨rfl, by decide, by decide⟩ hY F (fun K H a ns hl _ hS => ⟨a, ns, rfl, hS, hl, fun _ => rfl⟩)
end Sw
open PySem PySem.W PyProof.Rows
set_option maxRecDepth 100000 in
set_option maxHeartbeats 0 in
theorem PySem.Challenge.cw_storeways_k14_fences_judged_holds : PySem.Challenge.rw_storeways_k14_fences_judged.Holds := by
  w_on; o_law; k_head; (case hw => w_witness2)
  k_fill
  refine Sw.walk (l := PySem.Challenge.rw_storeways_k14_fences_judged) rfl rfl (fun w h Y => PySem.W.kIn_of Y) ?F
  case F =>
    intro w mg fa h KX G hmg
    refine' Sw.all_mk KX G hmg ?a8 ?l8 ?c8 ?k8 ?a10 ?l10 ?c10 ?k10 ?a12 ?l12 ?c12 ?k12 ?a13 ?l13 ?c13 ?k13 ?a15 ?l15 ?c15 ?k15 ?a16 ?l16 ?c16 ?k16 ?a17 ?l17 ?c17 ?k17 ?a19 ?l19 ?c19 ?k19 ?a20 ?l20 ?c20 ?k20 ?a21 ?l21 ?c21 ?k21 ?a22 ?l22 ?c22 ?k22 ?a23 ?l23 ?c23 ?k23 ?a24 ?l24 ?c24 ?k24 ?a25 ?l25 ?c25 ?k25 ?a26 ?l26 ?c26 ?k26 ?a27 ?l27 ?c27 ?k27 ?a28 ?l28 ?c28 ?k28 ?a29 ?l29 ?c29 ?k29 ?a30 ?l30 ?c30 ?k30 ?aC ?aW ?aL ?aN ?aT ?xC ?sa ?eC ?tC ?kC ?iC ?tI ?noW ?noA ?lI ?cI ?kI ?eW ?hW ?tW ?sCW ?k2 ?k3 ?ga ?gg ?hC ?clC ?cA ?sg ?tk ?mo ?zV ?z0 ?z1 ?z2 ?z3 ?z4 ?z5 ?z6 ?z7 ?z8 ?z9 ?z10 ?z11 ?z12 ?z13
    (case a8 => first | k_is | rfl | decide +kernel); (case l8 => first | k_is | rfl | decide +kernel); (case c8 => first | k_is | rfl | decide +kernel); (case k8 => first | k_is | rfl | decide +kernel); (case a10 => first | k_is | rfl | decide +kernel); (case l10 => first | k_is | rfl | decide +kernel); (case c10 => first | k_is | rfl | decide +kernel); (case k10 => first | k_is | rfl | decide +kernel)
    (case a12 => first | k_is | rfl | decide +kernel); (case l12 => first | k_is | rfl | decide +kernel); (case c12 => first | k_is | rfl | decide +kernel); (case k12 => first | k_is | rfl | decide +kernel); (case a13 => first | k_is | rfl | decide +kernel); (case l13 => first | k_is | rfl | decide +kernel); (case c13 => first | k_is | rfl | decide +kernel); (case k13 => first | k_is | rfl | decide +kernel)
    (case a15 => first | k_is | rfl | decide +kernel); (case l15 => first | k_is | rfl | decide +kernel); (case c15 => first | k_is | rfl | decide +kernel); (case k15 => first | k_is | rfl | decide +kernel); (case a16 => first | k_is | rfl | decide +kernel); (case l16 => first | k_is | rfl | decide +kernel); (case c16 => first | k_is | rfl | decide +kernel); (case k16 => first | k_is | rfl | decide +kernel)
    (case a17 => first | k_is | rfl | decide +kernel); (case l17 => first | k_is | rfl | decide +kernel); (case c17 => first | k_is | rfl | decide +kernel); (case k17 => first | k_is | rfl | decide +kernel); (case a19 => first | k_is | rfl | decide +kernel); (case l19 => first | k_is | rfl | decide +kernel); (case c19 => first | k_is | rfl | decide +kernel); (case k19 => first | k_is | rfl | decide +kernel)
    (case a20 => first | k_is | rfl | decide +kernel); (case l20 => first | k_is | rfl | decide +kernel); (case c20 => first | k_is | rfl | decide +kernel); (case k20 => first | k_is | rfl | decide +kernel); (case a21 => first | k_is | rfl | decide +kernel); (case l21 => first | k_is | rfl | decide +kernel); (case c21 => first | k_is | rfl | decide +kernel); (case k21 => first | k_is | rfl | decide +kernel)
    (case a22 => first | k_is | rfl | decide +kernel); (case l22 => first | k_is | rfl | decide +kernel); (case c22 => first | k_is | rfl | decide +kernel); (case k22 => first | k_is | rfl | decide +kernel); (case a23 => first | k_is | rfl | decide +kernel); (case l23 => first | k_is | rfl | decide +kernel); (case c23 => first | k_is | rfl | decide +kernel); (case k23 => first | k_is | rfl | decide +kernel)
    (case a24 => first | k_is | rfl | decide +kernel); (case l24 => first | k_is | rfl | decide +kernel); (case c24 => first | k_is | rfl | decide +kernel); (case k24 => first | k_is | rfl | decide +kernel); (case a25 => first | k_is | rfl | decide +kernel); (case l25 => first | k_is | rfl | decide +kernel); (case c25 => first | k_is | rfl | decide +kernel); (case k25 => first | k_is | rfl | decide +kernel)
    (case a26 => first | k_is | rfl | decide +kernel); (case l26 => first | k_is | rfl | decide +kernel); (case c26 => first | k_is | rfl | decide +kernel); (case k26 => first | k_is | rfl | decide +kernel); (case a27 => first | k_is | rfl | decide +kernel); (case l27 => first | k_is | rfl | decide +kernel); (case c27 => first | k_is | rfl | decide +kernel); (case k27 => first | k_is | rfl | decide +kernel)
    (case a28 => first | k_is | rfl | decide +kernel); (case l28 => first | k_is | rfl | decide +kernel); (case c28 => first | k_is | rfl | decide +kernel); (case k28 => first | k_is | rfl | decide +kernel); (case a29 => first | k_is | rfl | decide +kernel); (case l29 => first | k_is | rfl | decide +kernel); (case c29 => first | k_is | rfl | decide +kernel); (case k29 => first | k_is | rfl | decide +kernel)
    (case a30 => first | k_is | rfl | decide +kernel); (case l30 => first | k_is | rfl | decide +kernel); (case c30 => first | k_is | rfl | decide +kernel); (case k30 => first | k_is | rfl | decide +kernel); (case aC => first | k_is | rfl | decide +kernel); (case aW => first | k_is | rfl | decide +kernel); (case aL => first | k_is | rfl | decide +kernel); (case aN => first | k_is | rfl | decide +kernel)
    (case aT => first | k_is | rfl | decide +kernel); (case xC => first | k_is | rfl | decide +kernel); (case sa => first | k_is | rfl | decide +kernel); (case eC => first | k_is | rfl | decide +kernel); (case tC => first | k_is | rfl | decide +kernel); (case kC => first | k_is | rfl | decide +kernel); (case iC => first | k_is | rfl | decide +kernel); (case tI => first | k_is | rfl | decide +kernel)
    (case noW => first | k_is | rfl | decide +kernel); (case noA => first | k_is | rfl | decide +kernel); (case lI => first | k_is | rfl | decide +kernel); (case cI => first | k_is | rfl | decide +kernel); (case kI => first | k_is | rfl | decide +kernel); (case eW => first | k_is | rfl | decide +kernel); (case hW => first | k_is | rfl | decide +kernel); (case tW => first | k_is | rfl | decide +kernel)
    (case sCW => first | k_is | rfl | decide +kernel); (case k2 => first | k_is | rfl | decide +kernel); (case k3 => first | k_is | rfl | decide +kernel); (case ga => first | k_is | rfl | decide +kernel); (case gg => first | k_is | rfl | decide +kernel); (case hC => first | k_is | rfl | decide +kernel); (case clC => first | k_is | rfl | decide +kernel); (case cA => first | k_is | rfl | decide +kernel)
    (case sg => first | k_is | rfl | decide +kernel); (case tk => first | k_is | rfl | decide +kernel); (case mo => first | k_is | rfl | decide +kernel); (case zV => first | k_is | rfl | decide +kernel); (case z0 => first | k_is | rfl | decide +kernel); (case z1 => first | k_is | rfl | decide +kernel); (case z2 => first | k_is | rfl | decide +kernel); (case z3 => first | k_is | rfl | decide +kernel)
    (case z4 => first | k_is | rfl | decide +kernel); (case z5 => first | k_is | rfl | decide +kernel); (case z6 => first | k_is | rfl | decide +kernel); (case z7 => first | k_is | rfl | decide +kernel); (case z8 => first | k_is | rfl | decide +kernel); (case z9 => first | k_is | rfl | decide +kernel); (case z10 => first | k_is | rfl | decide +kernel); (case z11 => first | k_is | rfl | decide +kernel)
    (case z12 => first | k_is | rfl | decide +kernel); (case z13 => first | k_is | rfl | decide +kernel)
