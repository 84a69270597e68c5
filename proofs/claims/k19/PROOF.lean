import PyProof.Rows.All
import Wide.All
import OpenK.AllK
import Wide.FinOn
import HandS.ForMost
import HandS.IsInst
import HandS.EndBits
import PyProof.ReprRoads
import HandS.Walk
import HandS.TupAny
import HandS.Style
import HandS.Zip
import HandS.Set
import HandS.SetFor
import PyProof.Rows.SortShellAny
import HandS.Codes
import HandS.Flow
import HandS.Dict
import HandS.Wide
import HandS.StrMore
import PyProof.StrBlock2
import PyProof.Rows.IntBool
import KE.KDictPairs
import PyProof.SetRoads
import HandS.SortOrd
import HandS.SortRule
import PyProof.Rows.SortKeyStr
import HandS.Conv
import HandS.Strs
import HandS.Sort
import HandS.Text
import HandS.TupLe
import PyProof.CallFns
import PySem.Challenge.RW_storeways_k19_starts_by_kind
set_option Elab.async false
set_option linter.all false
set_option maxRecDepth 100000
set_option maxHeartbeats 4000000
namespace Sw
open PySem PySem.Spec PyProof.Rows L2

/-- repr of data at a place, where no repr is under way -/
def rRepr (K : PySem.W.Frag) : List V → Hp → VK → Prop := fun xs H Q =>
  ∃ (a : Addr) (d : PyData), xs = [.ref a] ∧ Dp K H (.ref a) d ∧ d.showable = true ∧ d.hasDict = false ∧ d.depth ≤ 60 ∧ d.shown.length ≤ sizeLine ∧ Q (.str d.shown) H
theorem call_repr {X : Cx} (hg : X.A.guards = some []) (hu : X.A.units + 64 < cLine) : CallR X (.builtin "repr") (rRepr X.K) := by
  intro pins s σ H xs us Q I r h
  obtain ⟨a, d, rfl, hd, h1, h2, h3, h4, q⟩ := h
  cases r with
  | cons r0 r1 =>
    cases r1
    cases (show _ = Value.ref a from r0)
    obtain ⟨as, rd⟩ := Dp.reads I d _ _ hd rfl
    exact repr_of_reads' rd h1 (PyData.noDict_hsm h2) hg (by omega) (fun b o e => e) (fun h' u tk k => ⟨.str d.shown, H, I.kept k, ⟨u, rfl⟩, q⟩) h4

/-- a promise that is kept where no repr is under way -/
structure FnG (P : Program) (w : World) (K : PySem.W.Frag) (mg : Str → Option Value) (base : Heap) (k : Nat) (f : Addr) (fd : FuncData) (ps : List Str) (sp : Sp) : Prop where
  size : ∀ vs H Q E, sp vs H Q E → vs.length = ps.length
  goes : ∀ (A : Around) (outer : List Env) (s : Shared) (H : Hp) (args : Args) (us : List Value) (vs : List V) (Q : VK) (E : XK), A.guards = some [] →
    Room k A → Env0 P w K mg base A outer s H → BindsTo s fd args (ps.zip us) → Vals vs us → sp vs H Q E → codeAny (model P w) A (.call (.ref f) args) (CR CX0 outer P w H s Q E) s
section
variable {P : Program} {w : World} {K : PySem.W.Frag} {mg : Str → Option Value} {base : Heap}
theorem fun_okG {x qual : Str} {st : Stmt} {f : Addr} {fd : FuncData} {N ps : List Str} {k : Nat} {sp : Sp} (F : Fun K x qual st f fd) (S : FnScope N ps (defScope st))
    (len : ∀ vs H Q E, sp vs H Q E → vs.length = ps.length)
    (hb : ∀ (cdv : Value) (A : Around) (outer : List Env) (s : Shared) (H : Hp) (vs : List V) (Q : VK) (E : XK), A.guards = some [] → Room k (A.deeper (envOfC qual (defScope st) s.heap.objs.size f cdv)) → sp vs H Q E →
      ∃ t, PSs (cxOf CX0 P w K mg base N qual (defScope st) f cdv A outer s H E).nox (defBody st) t ∧
        t { nx := fun _ H' => Q .non H', rt := Q } (start N vs) H) : FnG P w K mg base (k + 1) f fd ps sp := by
  refine ⟨len, fun A outer s H args us vs Q E hg => ?_⟩
  obtain ⟨oc, od, kV, doc, pm, an, cdv, ct, osl, rfl, lk, hcd⟩ := F.ex
  intro hr e0 bd r hsp
  obtain ⟨t, ht0, hq⟩ := hb cdv A outer s H vs Q E hg (hr.deeper _) hsp
  have ht := ht0.nox
  have kin : K.In s.heap := e0.mod.kin.keeps fun b o e => (e0.bs b o e).1
  refine codeAny_call_function hr.depth (kin _ _ lk) rfl S.co S.gen rfl (PySem.W.codeRec_of kin hcd) (bd _ _ _ _ ?_)
  refine wpAny_newFunctionEnv_cells S.kind ?_ fun env he s1 x => ?_
  · rintro ⟨n, v⟩ hy
    rcases S.par n (List.of_mem_zip hy).1 with q | q
    · exact .inl q
    · exact .inr ⟨q, PySem.W.cellsFrom_some _ _ _ (.inl q)⟩
  · subst he
    refine ⟨(e0.mod.nolimit.keeps fun b o e => (e0.bs b o e).1).keeps x.toInCall.keep, codeAny_func ?_⟩
    refine wpAny_mono (ht.run [] s1 (start N vs) H _ (inv_start S hr.hd e0 (len _ _ _ _ hsp) r x) hq) (fun fl s' hs => ?_) fun e s' hs => hs
    cases fl with
    | ret u =>
      obtain ⟨v, σ', H', J, rv, q⟩ := hs
      exact ⟨v, H', J.os, J.bare, J.base, J.hok, rv, q⟩
    | next =>
      obtain ⟨σ', H', J, q⟩ := hs
      exact ⟨V.non, H', J.os, J.bare, J.base, J.hok, rfl, q⟩
    | brk =>
      obtain ⟨_, _, _, q⟩ := hs
      exact q.elim
    | cont =>
      obtain ⟨_, _, _, q⟩ := hs
      exact q.elim
end
/-- the law's own call, from the promise of its def: the script is locked, or it is one of the module's own objects -/
theorem law_goes {P : Program} {w : World} {K : PySem.W.Frag} {mg mb : Str → Option Value} {k : Nat} {fa a : Addr} {fd : FuncData} {x : Str} {sp : Sp} {s : Shared} {vs : List Value} {ns : List Int}
    (kin : K.In s.heap) (g : s.heap.Ns mainGlobals mg) (b : s.heap.Ns builtinsNs mb) (hbb : ∀ y : Str, y ≠ "__name__" → mb y = bootBuiltins y) (nl : s.heap.NoLimit) (gn : s.gens = #[])
    (ha : s.heap.get? a = some { cls := .type "list", data := .seq vs.toArray }) (hi : IntsAre vs ns) (hl : ns.length ≤ sizeLine) (hr : Room k callerA)
    (F : ∀ base : Heap, K.In base → base.Ns mainGlobals mg → FnG P w K mg base k fa fd [x] sp) (bd : ∀ (s : Shared) (u : Value), BindsTo s fd ⟨[u], []⟩ [(x, u)])
    (hsp : ∀ H : Hp, SqL K H a (ns.map V.int) → sp [.ref a] H (fun v _ => v = .bl true) fun _ _ _ => False) :
    codeAny (model P w) callerA (.call (.ref fa) ⟨[.ref a], []⟩) (fun r s' => r = .ok (.ret (.bool true)) ∧ OldK s.heap s'.heap ∧ s'.os = s.os ∧ AllBare s'.gens) s := by
  have rv := vals_ints hi
  have step : ∀ H : Hp, SqL K H a (ns.map V.int) → HOk P w H s.heap → (∀ c u, H c = some u → c = a ∧ u = .frz { cls := .type "list", data := .seq vs.toArray } (.lst (ns.map V.int)) ∧ K.lookup a = none) →
      codeAny (model P w) callerA (.call (.ref fa) ⟨[.ref a], []⟩) (fun r s' => r = .ok (.ret (.bool true)) ∧ OldK s.heap s'.heap ∧ s'.os = s.os ∧ AllBare s'.gens) s := by
    intro H hS hok only
    have dictFree : ∀ {c : Addr} {o : Obj} {es : Array DictEntry} {ep : Nat}, s.heap.get? c = some o → o.data = .dict es ep → H c = none := by
      intro c o es ep e d
      cases q : H c with
      | none => rfl
      | some u =>
        obtain ⟨rfl, _, _⟩ := only c u q
        rw [ha] at e
        cases e
        cases d
    have ns2 : ∀ {c : Addr} {m : Str → Option Value}, s.heap.Ns c m → (hidT s.heap H).Ns c m := by
      rintro c m ⟨o, es, ep, e, d, r⟩
      exact ⟨o, es, ep, hidT_get e (dictFree e d), d, r⟩
    have kb : K.In (hidT s.heap H) := by
      intro c o e
      refine hidT_get (kin c o e) ?_
      cases q : H c with
      | none => rfl
      | some u =>
        obtain ⟨rfl, _, z⟩ := only c u q
        rw [z] at e
        cases e
    have md : Mod K mg (hidT s.heap H) := ⟨kb, ns2 g, ⟨mb, ns2 b, hbb⟩, by
      obtain ⟨mc, h1, h2⟩ := nl
      exact ⟨mc, ns2 h1, h2⟩⟩
    have e0 : Env0 P w K mg (hidT s.heap H) callerA [] s H := ⟨rfl, md, fun c o e => of_hidT e, Nat.le_of_eq (hidT_size _ _), trivial, fun c hc => (nomatch hc), hok, .of_eq gn⟩
    refine codeAny_mono ((F _ kb (ns2 g)).goes callerA [] s H ⟨[.ref a], []⟩ [.ref a] [.ref a] _ _ rfl hr e0 (bd s (.ref a)) (.cons rfl .nil) (hsp H hS)) ?_
    intro r s' h
    cases r with
    | error e => exact h.elim
    | ok fl =>
      cases fl with
      | ret u =>
        obtain ⟨v, H', os, bare, un, hok', r', q⟩ := h
        cases (show v = .bl true from q)
        cases (show u = Value.bool true from r')
        refine ⟨rfl, OldK.of_keep fun c o e => ?_, os, bare⟩
        cases q : H c with
        | none => exact un.keep c o e q (fun z => nomatch z) (fun z => nomatch z)
        | some u =>
          obtain ⟨rfl, rfl, _⟩ := only c u q
          obtain ⟨e2, _⟩ := hok' _ _ (un.frzs _ _ _ q)
          rw [ha] at e
          cases e
          exact e2
      | next => exact False.elim h
      | brk => exact False.elim h
      | cont => exact False.elim h
  cases hk : K.lookup a with
  | some o =>
    have e := kin a o hk
    rw [ha] at e
    cases e
    refine step (fun _ => none) (.inr ⟨_, vs.toArray, _, hk, rfl, rfl, rfl, ?_, by simpa using rv⟩) (fun c u z => nomatch z) (fun c u z => nomatch z)
    rw [List.size_toArray, hi.length]
    exact hl
  | none =>
    refine step (fun c => if c = a then some (.frz { cls := .type "list", data := .seq vs.toArray } (.lst (ns.map V.int))) else none) (.inl (.inr ⟨_, if_pos rfl⟩)) ?_ ?_
    · intro c u z
      by_cases hc : c = a
      · have z' := (if_pos hc).symm.trans z
        cases z'
        subst hc
        exact ⟨ha, by rw [List.length_map]; exact hl, vs, _, rv, ha⟩
      · have z' := (if_neg hc).symm.trans z
        cases z'
    · intro c u z
      by_cases hc : c = a
      · have z' := (if_pos hc).symm.trans z
        exact ⟨hc, (Option.some.inj z').symm, hk⟩
      · have z' := (if_neg hc).symm.trans z
        cases z'
/-- the goal that k_head leaves, from the promise of the law's def -/
theorem walkG {l : PySem.W.OpenLaw} {n k : Nat} {q : Program} {loose : List Str} {XP : (Str → Option Value) → Heap → Prop} {YP : World → Heap → Prop} {d : DefRec} {K : Params → PySem.W.Frag} {sp : PySem.W.Frag → Sp} {x : Str}
    (hn : l.most = some n) (hn2 : n ≤ sizeLine) (hdf : d.params.defaults = []) (hr : Room k callerA) (hY : ∀ (w : World) (h : Heap), YP w h → (K w.params).In h)
    (F : ∀ (w : World) (mg : Str → Option Value) (fa : Addr) (h : Heap), (K w.params).In h → h.Ns mainGlobals mg → mg d.name = some (.ref fa) →
      ∃ fd : FuncData, (∀ (s : Shared) (u : Value), BindsTo s fd ⟨[u], []⟩ [(x, u)]) ∧ ∀ base : Heap, (K w.params).In base → base.Ns mainGlobals mg → FnG l.prog w (K w.params) mg base k fa fd [x] (sp (K w.params)))
    (hsp : ∀ (K : PySem.W.Frag) (H : Hp) (a : Addr) (ns : List Int), ns.length ≤ n → (∀ z ∈ ns, Builtin.Int.intBits z ≤ 1048576) → SqL K H a (ns.map V.int) → sp K [.ref a] H (fun v _ => v = .bl true) fun _ _ _ => False) :
    PySem.W.WalkO q loose XP YP l.row.toRowW d [] (fun f vs => PySem.call f vs) := by
  refine Att.attach_callB hn hdf ?_
  intro w s₀ s₁ mg mb fa o pm cd doc a vs ns G Y ho hd hcd hmg hobj hints hlen hbits hg
  obtain ⟨fd, hb, hF⟩ := F w mg fa _ (hY w _ Y) G.T.g hmg
  exact law_goes (hY w _ Y) G.T.g G.T.b G.T.builtins G.T.nolimit hg hobj hints (Nat.le_trans hlen hn2) hr hF hb fun H hS => hsp _ H a ns hlen hbits hS
end Sw
set_option maxRecDepth 100000
set_option maxHeartbeats 4000000
namespace Sw
open PySem PySem.Spec PyProof.Rows L2

/-! ### heaps -/
theorem same_new {H : Hp} {p : Addr} {o : HO} (h : H p = none) : Same H (upd H p o) := fun b x e => by
  rw [upd_ne (ne_of_none e h)]
  exact e
theorem sameT {K : PySem.W.Frag} {H H' : Hp} {a : Addr} {xs : List V} (e : Same H H') (h : SqT K H a xs) : SqT K H' a xs := by
  rcases h with (h | ⟨o, h⟩) | h
  · exact .inl (.inl (e _ _ h))
  · exact .inl (.inr ⟨o, e _ _ h⟩)
  · exact .inr h
mutual
theorem Dp_same {K : PySem.W.Frag} {H H' : Hp} (e : Same H H') : ∀ {v : V} {d : PyData}, Dp K H v d → Dp K H' v d
  | _, _, .non => .non
  | _, _, .bl b => .bl b
  | _, _, .int i => .int i
  | _, _, .str x => .str x
  | _, _, .lst h r => .lst (e.seq h) (DpAll_same e r)
  | _, _, .tup h r => .tup (sameT e h) (DpAll_same e r)
theorem DpAll_same {K : PySem.W.Frag} {H H' : Hp} (e : Same H H') : ∀ {vs : List V} {ds : List PyData}, DpAll K H vs ds → DpAll K H' vs ds
  | _, _, .nil => .nil
  | _, _, .cons h r => .cons (Dp_same e h) (DpAll_same e r)
end
theorem DpAll_len {K : PySem.W.Frag} {H : Hp} : ∀ {vs : List V} {ds : List PyData}, DpAll K H vs ds → vs.length = ds.length
  | _, _, .nil => rfl
  | _, _, .cons _ r => by rw [List.length_cons, List.length_cons, DpAll_len r]
theorem DpAll_get {K : PySem.W.Frag} {H : Hp} : ∀ {vs : List V} {ds : List PyData} {i : Nat} {v : V}, DpAll K H vs ds → vs[i]? = some v → ∃ d, ds[i]? = some d ∧ Dp K H v d
  | _, _, _, _, .nil, e => by simp at e
  | _, _, 0, _, .cons h _, e => by simp at e; subst e; exact ⟨_, rfl, h⟩
  | _, _, i + 1, v, .cons _ r, e => by
    obtain ⟨d, h1, h2⟩ := DpAll_get (i := i) (v := v) r (by simpa using e)
    exact ⟨d, by simpa using h1, h2⟩
theorem DpAll_get' {K : PySem.W.Frag} {H : Hp} {vs : List V} {ds : List PyData} {i : Nat} {d : PyData} (h : DpAll K H vs ds) (e : ds[i]? = some d) : ∃ v, vs[i]? = some v ∧ Dp K H v d := by
  have hl := DpAll_len h
  obtain ⟨hi, _⟩ := List.getElem?_eq_some_iff.mp e
  have hv : i < vs.length := by omega
  obtain ⟨d', h1, h2⟩ := DpAll_get h (List.getElem?_eq_getElem hv)
  rw [e] at h1
  cases h1
  exact ⟨_, List.getElem?_eq_getElem hv, h2⟩
theorem DpAll_append {K : PySem.W.Frag} {H : Hp} : ∀ {vs us : List V} {ds es : List PyData}, DpAll K H vs ds → DpAll K H us es → DpAll K H (vs ++ us) (ds ++ es)
  | _, _, _, _, .nil, r => r
  | _, _, _, _, .cons h t, r => .cons h (DpAll_append t r)
theorem DpAll_of {K : PySem.W.Frag} {H : Hp} : ∀ {vs : List V} {ds : List PyData}, vs.length = ds.length → (∀ (i : Nat) v d, vs[i]? = some v → ds[i]? = some d → Dp K H v d) → DpAll K H vs ds
  | [], [], _, _ => .nil
  | v :: vs, d :: ds, hl, h => .cons (h 0 v d rfl rfl) (DpAll_of (by simpa using hl) fun i x y e1 e2 => h (i + 1) x y (by simpa using e1) (by simpa using e2))
  | [], _ :: _, hl, _ => by simp at hl
  | _ :: _, [], hl, _ => by simp at hl
theorem DpAll_strs {K : PySem.W.Frag} {H : Hp} : ∀ zs : List Str, DpAll K H (zs.map V.str) (zs.map PyData.str)
  | [] => .nil
  | z :: zs => .cons (.str z) (DpAll_strs zs)

/-! ### comprehensions over what stays: the tests and the items change nothing that stood -/
theorem lc_pure {J : It} {n : Nat} {G : Hp → Prop} {xs : List V} (w : Walk J n G (YAt xs)) {tt : TT} {te : TE} {j : Nat} {σ : L2.St} {H1 : Hp} {D : Addr} {Qd : Hp → Prop} (p : Nat → Bool) (f : Nat → V) (hD : H1 D = none)
    (hG : ∀ H, Same H1 H → G H) (hn : n < sizeLine)
    (ht : ∀ (i : Nat) x H (Q : Bool → Hp → Prop), i < n → xs[i]? = some x → Same H1 H → (∀ H', Same H H' → Q (p i) H') → tt ((wipe σ [j]).set j (some x)) H Q)
    (he : ∀ (i : Nat) x H (Q : VK), i < n → xs[i]? = some x → p i = true → Same H1 H → (∀ H', Same H H' → Q (f i) H') → te ((wipe σ [j]).set j (some x)) H Q)
    (hd : ∀ H', Same H1 H' → H' D = some (.lst (((List.range n).filter p).map f)) → Qd H') :
    ∃ W : Nat → Nat → Hp → Prop, (∃ m, W 0 m (upd H1 D (.lst []))) ∧ ∀ i m H, W i m H → (J.stop i H ∧ Qd H) ∨ (J.go i H ∧ ∃ Nx : Hp → Prop, (∀ H', Nx H' → ∃ m', m' < m ∧ W (i + 1) m' H') ∧
      ∀ x H', J.yld i H x H' → gName j x (wipe σ [j]) H' fun σ2 H2 => wipe σ2 [j] = wipe σ [j] ∧ tt σ2 H2 fun b H3 =>
        if b = true then te σ2 H3 fun y H4 => ∃ acc, H4 D = some (.lst acc) ∧ acc.length < sizeLine ∧ Nx (upd H4 D (.lst (acc ++ [y]))) else Nx H3) := by
  refine lc_it w (fun i H => Same H1 H ∧ H D = some (.lst (((List.range i).filter p).map f))) ⟨same_new hD, by rw [upd_same]; rfl⟩ (fun i H _ h => hG H h.1) ?_ (fun H h => hd H h.1 h.2)
  rintro i x H H' hi ⟨hs, hacc⟩ ⟨rfl, hx⟩
  refine ⟨?_, ?_⟩
  · show ((List.set (List.set σ j none) j (some x)).set j none) = List.set σ j none
    rw [List.set_set, List.set_set]
  have hr : (List.range (i + 1)).filter p = (List.range i).filter p ++ (if p i = true then [i] else []) := by
    rw [List.range_succ, List.filter_append]
    congr 1
    by_cases hp : p i = true <;> simp [hp]
  refine ht i x H' _ hi hx hs fun H2 h2 => ?_
  by_cases hp : p i = true
  · rw [hp]
    refine iteT ?_
    refine he i x H2 _ hi hx hp (hs.trans h2) fun H3 h3 => ?_
    have h3D := h3 _ _ (h2 _ _ hacc)
    refine ⟨_, h3D, ?_, ?_, ?_⟩
    · rw [List.length_map]
      have := List.length_filter_le p (List.range i)
      rw [List.length_range] at this
      omega
    · intro b o e
      rw [upd_ne (ne_of_none e hD)]
      exact h3 _ _ (h2 _ _ (hs _ _ e))
    · rw [upd_same, hr, if_pos hp, List.map_append]
      rfl
  · have hp' : p i = false := by simpa using hp
    rw [hp']
    refine iteF ?_
    refine ⟨hs.trans h2, ?_⟩
    rw [hr, if_neg hp, List.append_nil]
    exact h2 _ _ hacc
theorem range_all {n : Nat} {f : Nat → V} : ((List.range n).filter (fun _ => true)).map f = (List.range n).map f := by
  rw [List.filter_eq_self.mpr (by simp)]
/-- without tests -/
theorem lc_map {J : It} {n : Nat} {G : Hp → Prop} {xs : List V} (w : Walk J n G (YAt xs)) {te : TE} {j : Nat} {σ : L2.St} {H1 : Hp} {D : Addr} {Qd : Hp → Prop} (f : Nat → V) (hD : H1 D = none)
    (hG : ∀ H, Same H1 H → G H) (hn : n < sizeLine)
    (he : ∀ (i : Nat) x H (Q : VK), i < n → xs[i]? = some x → Same H1 H → (∀ H', Same H H' → Q (f i) H') → te ((wipe σ [j]).set j (some x)) H Q)
    (hd : ∀ H', Same H1 H' → H' D = some (.lst ((List.range n).map f)) → Qd H') :
    ∃ W : Nat → Nat → Hp → Prop, (∃ m, W 0 m (upd H1 D (.lst []))) ∧ ∀ i m H, W i m H → (J.stop i H ∧ Qd H) ∨ (J.go i H ∧ ∃ Nx : Hp → Prop, (∀ H', Nx H' → ∃ m', m' < m ∧ W (i + 1) m' H') ∧
      ∀ x H', J.yld i H x H' → gName j x (wipe σ [j]) H' fun σ2 H2 => wipe σ2 [j] = wipe σ [j] ∧ tYes σ2 H2 fun b H3 =>
        if b = true then te σ2 H3 fun y H4 => ∃ acc, H4 D = some (.lst acc) ∧ acc.length < sizeLine ∧ Nx (upd H4 D (.lst (acc ++ [y]))) else Nx H3) :=
  lc_pure w (tt := tYes) (fun _ => true) f hD hG hn (fun i x H Q _ _ _ q => q H (Same.refl H)) (fun i x H Q hi hx _ hs q => he i x H Q hi hx hs q) fun H' hs h => hd H' hs (by rw [h, range_all])
/-- a text's signs as its walk's items -/
theorem walk_signs {z : Str} : Walk (Its z) z.cps.size (fun _ => True) (YAt (z.cps.toList.map fun c => V.str ⟨#[c]⟩)) := by
  refine ⟨walk_str.goes, walk_str.stops, fun i H x H' hi hg y => ?_⟩
  obtain ⟨rfl, c, hc, rfl⟩ := walk_str.yields i H x H' hi hg y
  refine ⟨rfl, ?_⟩
  rw [List.getElem?_map, Array.getElem?_toList, hc]
  rfl
end Sw
set_option maxRecDepth 100000
set_option maxHeartbeats 4000000
namespace Sw
open PySem PySem.Spec PyProof.Rows L2

/-! ### how large data are -/
mutual
/-- leaves: ints at most M, texts of ASCII; no dict -/
def leaf (M : Nat) : PyData → Bool
  | .none | .bool _ => true
  | .int i => decide (i.natAbs ≤ M)
  | .str x => x.cps.toList.all (fun c => decide (c < 128))
  | .list xs | .tuple xs => leafAll M xs
  | .dict _ => false
def leafAll (M : Nat) : List PyData → Bool
  | [] => true
  | x :: xs => leaf M x && leafAll M xs
end
mutual
/-- no list or tuple in it is longer than l -/
def lens (l : Nat) : PyData → Bool
  | .none | .bool _ | .int _ | .str _ => true
  | .list xs | .tuple xs => decide (xs.length ≤ l) && lensAll l xs
  | .dict _ => false
def lensAll (l : Nat) : List PyData → Bool
  | [] => true
  | x :: xs => lens l x && lensAll l xs
end
mutual
/-- at least as much as its text is long -/
def wt : PyData → Nat
  | .none | .bool _ => 5
  | .int _ => 250
  | .str x => 10 * x.length + 5
  | .list xs | .tuple xs => wtAll xs + 5
  | .dict _ => 0
def wtAll : List PyData → Nat
  | [] => 0
  | x :: xs => wt x + 2 + wtAll xs
end
theorem leaf_str {M : Nat} {x : Str} : leaf M (.str x) = true ↔ ∀ c ∈ x.cps.toList, c < 128 := by
  simp only [leaf, List.all_eq_true, decide_eq_true_eq]
theorem leafAll_iff {M : Nat} : ∀ {xs : List PyData}, leafAll M xs = true ↔ ∀ x ∈ xs, leaf M x = true
  | [] => by simp [leafAll]
  | x :: xs => by simp [leafAll, leafAll_iff (xs := xs)]
theorem lensAll_iff {l : Nat} : ∀ {xs : List PyData}, lensAll l xs = true ↔ ∀ x ∈ xs, lens l x = true
  | [] => by simp [lensAll]
  | x :: xs => by simp [lensAll, lensAll_iff (xs := xs)]
theorem wtAll_append : ∀ xs ys : List PyData, wtAll (xs ++ ys) = wtAll xs + wtAll ys
  | [], ys => by simp [wtAll]
  | x :: xs, ys => by simp [wtAll, wtAll_append xs ys]; omega
theorem wt_mem : ∀ {xs : List PyData} {x : PyData}, x ∈ xs → wt x + 2 ≤ wtAll xs
  | y :: xs, x, h => by
    rcases List.mem_cons.mp h with rfl | h
    · simp [wtAll]
    · have := wt_mem h
      simp [wtAll]; omega
theorem wtAll_take (xs : List PyData) (k : Nat) : wtAll (xs.take k) ≤ wtAll xs := by
  have h := wtAll_append (xs.take k) (xs.drop k)
  rw [List.take_append_drop] at h
  omega
theorem wtAll_drop (xs : List PyData) (k : Nat) : wtAll (xs.drop k) ≤ wtAll xs := by
  have h := wtAll_append (xs.take k) (xs.drop k)
  rw [List.take_append_drop] at h
  omega
theorem depthAll_iff {n : Nat} : ∀ {xs : List PyData}, PyData.depthAll xs ≤ n ↔ ∀ x ∈ xs, x.depth ≤ n
  | [] => by simp [PyData.depthAll]
  | x :: xs => by simp [PyData.depthAll, depthAll_iff (xs := xs), Nat.max_le]
theorem depth_tuple {n : Nat} {xs : List PyData} : (PyData.tuple xs).depth ≤ n + 1 ↔ ∀ x ∈ xs, x.depth ≤ n := by
  simp [PyData.depth, depthAll_iff]
theorem depth_list {n : Nat} {xs : List PyData} : (PyData.list xs).depth ≤ n + 1 ↔ ∀ x ∈ xs, x.depth ≤ n := by
  simp [PyData.depth, depthAll_iff]

mutual
theorem leaf_noDict {M : Nat} : ∀ d : PyData, leaf M d = true → d.hasDict = false
  | .none, _ => by simp [PyData.hasDict]
  | .bool _, _ => by simp [PyData.hasDict]
  | .int _, _ => by simp [PyData.hasDict]
  | .str _, _ => by simp [PyData.hasDict]
  | .list xs, h => by simpa [PyData.hasDict] using leafAll_noDict xs (by simpa [leaf] using h)
  | .tuple xs, h => by simpa [PyData.hasDict] using leafAll_noDict xs (by simpa [leaf] using h)
  | .dict _, h => by simp [leaf] at h
theorem leafAll_noDict {M : Nat} : ∀ xs : List PyData, leafAll M xs = true → PyData.hasDictAll xs = false
  | [], _ => by simp [PyData.hasDictAll]
  | x :: xs, h => by
    have h' : leaf M x = true ∧ leafAll M xs = true := by simpa [leafAll] using h
    simp [PyData.hasDictAll, leaf_noDict x h'.1, leafAll_noDict xs h'.2]
end
mutual
theorem leaf_canLay {M : Nat} : ∀ d : PyData, leaf M d = true → d.canLay0 = true
  | .none, _ => by simp [PyData.canLay0]
  | .bool _, _ => by simp [PyData.canLay0]
  | .int _, _ => by simp [PyData.canLay0]
  | .str x, h => by
    have h' := leaf_str.mp h
    simp only [PyData.canLay0, PyData.strOk, Array.all_eq_true_iff_forall_mem, decide_eq_true_eq]
    intro c hc
    have := h' c (by simpa using hc)
    omega
  | .list xs, h => by simpa [PyData.canLay0] using leafAll_canLay xs (by simpa [leaf] using h)
  | .tuple xs, h => by simpa [PyData.canLay0] using leafAll_canLay xs (by simpa [leaf] using h)
  | .dict _, h => by simp [leaf] at h
theorem leafAll_canLay {M : Nat} : ∀ xs : List PyData, leafAll M xs = true → PyData.canLayAll0 xs = true
  | [], _ => by simp [PyData.canLayAll0]
  | x :: xs, h => by
    have h' : leaf M x = true ∧ leafAll M xs = true := by simpa [leafAll] using h
    simp [PyData.canLayAll0, leaf_canLay x h'.1, leafAll_canLay xs h'.2]
end
mutual
theorem leaf_shows {M : Nat} (hM : M < 2 ^ 1920) : ∀ d : PyData, leaf M d = true → d.showable = true
  | .none, _ => by simp [PyData.showable]
  | .bool _, _ => by simp [PyData.showable]
  | .int i, h => by
    have h' : i.natAbs ≤ M := by simpa [leaf] using h
    simp only [PyData.showable, decide_eq_true_eq]
    exact log2_small (Nat.lt_of_le_of_lt h' hM)
  | .str x, h => by simp [PyData.showable]
  | .list xs, h => by simpa [PyData.showable] using leafAll_shows hM xs (by simpa [leaf] using h)
  | .tuple xs, h => by simpa [PyData.showable] using leafAll_shows hM xs (by simpa [leaf] using h)
  | .dict _, h => by simp [leaf] at h
theorem leafAll_shows {M : Nat} (hM : M < 2 ^ 1920) : ∀ xs : List PyData, leafAll M xs = true → PyData.showableAll xs = true
  | [], _ => by simp [PyData.showableAll]
  | x :: xs, h => by
    have h' : leaf M x = true ∧ leafAll M xs = true := by simpa [leafAll] using h
    simp [PyData.showableAll, leaf_shows hM x h'.1, leafAll_shows hM xs h'.2]
end
mutual
theorem shown_wt {M : Nat} (hM : M < 10 ^ 240) : ∀ d : PyData, leaf M d = true → d.shown.length ≤ wt d
  | .none, _ => by simp only [PyData.shown, wt]; decide +kernel
  | .bool b, _ => by cases b <;> (simp only [PyData.shown, wt]; decide +kernel)
  | .int i, h => by
    have h' : i.natAbs ≤ M := by simpa [leaf] using h
    have e := int_text_length_le10 (k := 240) (by decide) (Nat.lt_of_le_of_lt h' hM)
    simp only [PyData.shown, wt]
    rw [PySem.ofString_length]
    omega
  | .str x, h => by
    have h' := leaf_str.mp h
    have e := StrLaws.reprText_len x (fun c hc => by have := h' c hc; omega)
    simp only [PyData.shown, wt]
    omega
  | .list xs, h => by
    have e1 := listText_len_le (PyData.shownAll xs)
    have e2 := shownAll_wt hM xs (by simpa [leaf] using h)
    rw [PyData.shownAll_length] at e1
    simp only [PyData.shown, wt]
    omega
  | .tuple xs, h => by
    have e1 := tupleText_len_le (PyData.shownAll xs)
    have e2 := shownAll_wt hM xs (by simpa [leaf] using h)
    rw [PyData.shownAll_length] at e1
    simp only [PyData.shown, wt]
    omega
  | .dict _, h => by simp [leaf] at h
theorem shownAll_wt {M : Nat} (hM : M < 10 ^ 240) : ∀ xs : List PyData, leafAll M xs = true → ((PyData.shownAll xs).map (·.length)).sum + 2 * xs.length ≤ wtAll xs
  | [], _ => by simp [PyData.shownAll, wtAll]
  | x :: xs, h => by
    have h' : leaf M x = true ∧ leafAll M xs = true := by simpa [leafAll] using h
    have e1 := shown_wt hM x h'.1
    have e2 := shownAll_wt hM xs h'.2
    simp only [PyData.shownAll, wtAll, List.map_cons, List.sum_cons, List.length_cons]
    omega
end
mutual
theorem leaf_mono {M N : Nat} (h : M ≤ N) : ∀ d : PyData, leaf M d = true → leaf N d = true
  | .none, _ => by simp [leaf]
  | .bool _, _ => by simp [leaf]
  | .int i, e => by
    have e' : i.natAbs ≤ M := by simpa [leaf] using e
    simp only [leaf, decide_eq_true_eq]; omega
  | .str _, e => by simpa [leaf] using e
  | .list xs, e => by simpa [leaf] using leafAll_mono h xs (by simpa [leaf] using e)
  | .tuple xs, e => by simpa [leaf] using leafAll_mono h xs (by simpa [leaf] using e)
  | .dict _, e => by simp [leaf] at e
theorem leafAll_mono {M N : Nat} (h : M ≤ N) : ∀ xs : List PyData, leafAll M xs = true → leafAll N xs = true
  | [], _ => by simp [leafAll]
  | x :: xs, e => by
    have e' : leaf M x = true ∧ leafAll M xs = true := by simpa [leafAll] using e
    simp [leafAll, leaf_mono h x e'.1, leafAll_mono h xs e'.2]
end
mutual
theorem lens_mono {k l : Nat} (h : k ≤ l) : ∀ d : PyData, lens k d = true → lens l d = true
  | .none, _ => by simp [lens]
  | .bool _, _ => by simp [lens]
  | .int _, _ => by simp [lens]
  | .str _, _ => by simp [lens]
  | .list xs, e => by
    have e' : xs.length ≤ k ∧ lensAll k xs = true := by simpa [lens] using e
    simp only [lens, Bool.and_eq_true, decide_eq_true_eq]
    exact ⟨by omega, lensAll_mono h xs e'.2⟩
  | .tuple xs, e => by
    have e' : xs.length ≤ k ∧ lensAll k xs = true := by simpa [lens] using e
    simp only [lens, Bool.and_eq_true, decide_eq_true_eq]
    exact ⟨by omega, lensAll_mono h xs e'.2⟩
  | .dict _, e => by simp [lens] at e
theorem lensAll_mono {k l : Nat} (h : k ≤ l) : ∀ xs : List PyData, lensAll k xs = true → lensAll l xs = true
  | [], _ => by simp [lensAll]
  | x :: xs, e => by
    have e' : lens k x = true ∧ lensAll k xs = true := by simpa [lensAll] using e
    simp [lensAll, lens_mono h x e'.1, lensAll_mono h xs e'.2]
end

/-- data of this size: ints at most M, sequences at most l long, n deep, B heavy -/
structure Fit (M l n B : Nat) (d : PyData) : Prop where
  lf : leaf M d = true
  ln : lens l d = true
  dp : d.depth ≤ n
  wg : wt d ≤ B
theorem Fit.mono {M l n B M' l' n' B' : Nat} {d : PyData} (h : Fit M l n B d) (h1 : M ≤ M') (h2 : l ≤ l') (h3 : n ≤ n') (h4 : B ≤ B') : Fit M' l' n' B' d :=
  ⟨leaf_mono h1 d h.lf, lens_mono h2 d h.ln, Nat.le_trans h.dp h3, Nat.le_trans h.wg h4⟩
theorem Fit.none {M l n B : Nat} (h : 5 ≤ B) : Fit M l n B .none := ⟨rfl, rfl, Nat.zero_le _, h⟩
theorem Fit.bool {M l n B : Nat} {b : Bool} (h : 5 ≤ B) : Fit M l n B (.bool b) := ⟨rfl, rfl, Nat.zero_le _, h⟩
theorem Fit.int {M l n B : Nat} {i : Int} (hi : i.natAbs ≤ M) (h : 250 ≤ B) : Fit M l n B (.int i) := ⟨by simpa [leaf] using hi, rfl, Nat.zero_le _, h⟩
theorem Fit.str {M l n B : Nat} {x : Str} (hx : ∀ c ∈ x.cps.toList, c < 128) (h : 10 * x.length + 5 ≤ B) : Fit M l n B (.str x) := ⟨leaf_str.mpr hx, rfl, Nat.zero_le _, h⟩
theorem Fit.tup {M l n B : Nat} {xs : List PyData} (hl : xs.length ≤ l) (h : ∀ x ∈ xs, leaf M x = true ∧ lens l x = true ∧ x.depth ≤ n) (hw : wtAll xs + 5 ≤ B) : Fit M l (n + 1) B (.tuple xs) :=
  ⟨by simpa [leaf] using leafAll_iff.mpr fun x hx => (h x hx).1, by simp only [lens, Bool.and_eq_true, decide_eq_true_eq]; exact ⟨hl, lensAll_iff.mpr fun x hx => (h x hx).2.1⟩, depth_tuple.mpr fun x hx => (h x hx).2.2, by simpa [wt] using hw⟩
theorem Fit.lst {M l n B : Nat} {xs : List PyData} (hl : xs.length ≤ l) (h : ∀ x ∈ xs, leaf M x = true ∧ lens l x = true ∧ x.depth ≤ n) (hw : wtAll xs + 5 ≤ B) : Fit M l (n + 1) B (.list xs) :=
  ⟨by simpa [leaf] using leafAll_iff.mpr fun x hx => (h x hx).1, by simp only [lens, Bool.and_eq_true, decide_eq_true_eq]; exact ⟨hl, lensAll_iff.mpr fun x hx => (h x hx).2.1⟩, depth_list.mpr fun x hx => (h x hx).2.2, by simpa [wt] using hw⟩
theorem Fit.inTup {M l n B : Nat} {xs : List PyData} (h : Fit M l n B (.tuple xs)) : xs.length ≤ l ∧ 1 ≤ n ∧ wtAll xs + 5 ≤ B ∧ ∀ x ∈ xs, Fit M l (n - 1) B x := by
  have h2 : xs.length ≤ l ∧ lensAll l xs = true := by simpa [lens] using h.ln
  have h3 : PyData.depthAll xs + 1 ≤ n := by simpa [PyData.depth] using h.dp
  have h4 : wtAll xs + 5 ≤ B := by simpa [wt] using h.wg
  refine ⟨h2.1, by omega, h4, fun x hx => ⟨leafAll_iff.mp (by simpa [leaf] using h.lf) x hx, lensAll_iff.mp h2.2 x hx, (depthAll_iff (n := n - 1)).mp (by omega) x hx, ?_⟩⟩
  have := wt_mem hx
  omega
theorem Fit.inLst {M l n B : Nat} {xs : List PyData} (h : Fit M l n B (.list xs)) : xs.length ≤ l ∧ 1 ≤ n ∧ wtAll xs + 5 ≤ B ∧ ∀ x ∈ xs, Fit M l (n - 1) B x := by
  have h2 : xs.length ≤ l ∧ lensAll l xs = true := by simpa [lens] using h.ln
  have h3 : PyData.depthAll xs + 1 ≤ n := by simpa [PyData.depth] using h.dp
  have h4 : wtAll xs + 5 ≤ B := by simpa [wt] using h.wg
  refine ⟨h2.1, by omega, h4, fun x hx => ⟨leafAll_iff.mp (by simpa [leaf] using h.lf) x hx, lensAll_iff.mp h2.2 x hx, (depthAll_iff (n := n - 1)).mp (by omega) x hx, ?_⟩⟩
  have := wt_mem hx
  omega
theorem Fit.shaped {M l n B : Nat} {d : PyData} (h : Fit M l n B d) (hn : n ≤ 64) : SeqAt.shaped d = true := by
  unfold SeqAt.shaped
  rw [leaf_canLay d h.lf, Bool.true_and, decide_eq_true_eq]
  exact Nat.le_trans h.dp hn
end Sw
set_option maxRecDepth 100000
set_option maxHeartbeats 4000000
namespace Sw
open PySem PySem.Spec PyProof.Rows L2

/-- a def of the text, how it binds, where it stands -/
structure Df (K : PySem.W.Frag) (mg : Str → Option Value) (x : Str) (st : Stmt) (ps : List Str) (f : Addr) (fd : FuncData) : Prop where
  fn : Fun K x x st f fd
  bd : Binds K fd ps []
  gl : mg x = some (.ref f)

/-! ### isinstance of data -/
def isaInt : PyData → Bool
  | .int _ => true
  | .bool _ => true
  | _ => false
def isaBool : PyData → Bool
  | .bool _ => true
  | _ => false
def isaStr : PyData → Bool
  | .str _ => true
  | _ => false
def isaTup : PyData → Bool
  | .tuple _ => true
  | _ => false
theorem ty_list {K : PySem.W.Frag} {H : Hp} {a : Addr} {xs : List V} (h : SqL K H a xs) : TyX K H (.ref a) (.type "list") := by
  rcases h with (h | ⟨o, h⟩) | ⟨o, its, n, h, hc, _⟩
  · exact .base (.lst h)
  · exact .base (.frz h)
  · exact .kList h hc
theorem ty_tup {K : PySem.W.Frag} {H : Hp} {a : Addr} {xs : List V} (h : SqT K H a xs) : TyX K H (.ref a) (.type "tuple") := by
  rcases h with (h | ⟨o, h⟩) | ⟨o, its, n, h, hc, _⟩
  · exact .base (.tup h)
  · exact .fTuple h
  · exact .kTuple h hc
theorem isa_data {K : PySem.W.Frag} {H : Hp} {v : V} {d : PyData} {T : String} {g : PyData → Bool} (h : Dp K H v d)
    (k0 : kitB "NoneType" T = some (g .none)) (k1 : ∀ b, kitB "bool" T = some (g (.bool b))) (k2 : ∀ i, kitB "int" T = some (g (.int i))) (k3 : ∀ x, kitB "str" T = some (g (.str x)))
    (k4 : ∀ xs, kitB "list" T = some (g (.list xs))) (k5 : ∀ xs, kitB "tuple" T = some (g (.tuple xs))) : ∃ t, TyX K H v t ∧ PySem.W.kitOne K t (.type T) = some (g d) := by
  cases h with
  | non => exact ⟨_, .base .non, kit_ty k0⟩
  | bl b => exact ⟨_, .base (.bl b), kit_ty (k1 b)⟩
  | int i => exact ⟨_, .base (.int i), kit_ty (k2 i)⟩
  | str x => exact ⟨_, .base (.str x), kit_ty (k3 x)⟩
  | lst h _ => exact ⟨_, ty_list h, kit_ty (k4 _)⟩
  | tup h _ => exact ⟨_, ty_tup h, kit_ty (k5 _)⟩
theorem isa_int {K : PySem.W.Frag} {H : Hp} {v : V} {d : PyData} (h : Dp K H v d) : ∃ t, TyX K H v t ∧ PySem.W.kitOne K t (.type "int") = some (isaInt d) :=
  isa_data (g := isaInt) h (by decide +kernel) (fun _ => by show _ = some true; decide +kernel) (fun _ => by show _ = some true; decide +kernel) (fun _ => by show _ = some false; decide +kernel) (fun _ => by show _ = some false; decide +kernel) (fun _ => by show _ = some false; decide +kernel)
theorem isa_bool {K : PySem.W.Frag} {H : Hp} {v : V} {d : PyData} (h : Dp K H v d) : ∃ t, TyX K H v t ∧ PySem.W.kitOne K t (.type "bool") = some (isaBool d) :=
  isa_data (g := isaBool) h (by decide +kernel) (fun _ => by show _ = some true; decide +kernel) (fun _ => by show _ = some false; decide +kernel) (fun _ => by show _ = some false; decide +kernel) (fun _ => by show _ = some false; decide +kernel) (fun _ => by show _ = some false; decide +kernel)
theorem isa_str {K : PySem.W.Frag} {H : Hp} {v : V} {d : PyData} (h : Dp K H v d) : ∃ t, TyX K H v t ∧ PySem.W.kitOne K t (.type "str") = some (isaStr d) :=
  isa_data (g := isaStr) h (by decide +kernel) (fun _ => by show _ = some false; decide +kernel) (fun _ => by show _ = some false; decide +kernel) (fun _ => by show _ = some true; decide +kernel) (fun _ => by show _ = some false; decide +kernel) (fun _ => by show _ = some false; decide +kernel)
theorem isa_tup {K : PySem.W.Frag} {H : Hp} {v : V} {d : PyData} (h : Dp K H v d) : ∃ t, TyX K H v t ∧ PySem.W.kitOne K t (.type "tuple") = some (isaTup d) :=
  isa_data (g := isaTup) h (by decide +kernel) (fun _ => by show _ = some false; decide +kernel) (fun _ => by show _ = some false; decide +kernel) (fun _ => by show _ = some false; decide +kernel) (fun _ => by show _ = some false; decide +kernel) (fun _ => by show _ = some true; decide +kernel)

/-! ### what a look promises -/
def dNum : PyData → Bool
  | .int _ => true
  | _ => false
def okSign (c : Nat) : Bool := decide (97 ≤ c) && decide (c ≤ 122)
def wordS (z : Str) : Bool := decide (1 ≤ z.length) && decide (z.length ≤ 8) && z.cps.toList.all okSign
def dWord : PyData → Bool
  | .str z => wordS z
  | _ => false
def dOper (d : PyData) : Bool := dNum d || dWord d
def dPair : PyData → Bool
  | .tuple ds => decide (ds.length = 2)
  | _ => false
def dPos : PyData → Bool
  | .int i => decide (1 ≤ i)
  | _ => false
def dObj : PyData → Bool
  | .tuple [a, b] => dWord a && dPos b
  | _ => false
def fstS : PyData → Str
  | .tuple (.str z :: _) => z
  | _ => Str.empty
def rises : List Str → Bool
  | a :: b :: r => decide (a.cps.toList < b.cps.toList) && rises (b :: r)
  | _ => true
def dObjs : PyData → Bool
  | .tuple ds => !ds.isEmpty && ds.all dObj && rises (ds.map fstS)
  | _ => false
/-- a look at data: its answer, all that stood stands -/
def spLook (K : PySem.W.Frag) (g : PyData → Bool) : Sp := fun vs H Q _ => ∃ (v : V) (d : PyData), vs = [v] ∧ Dp K H v d ∧ (∃ M, Fit M 60 60 1000000 d) ∧ ∀ H', Same H H' → Q (.bl (g d)) H'
theorem big_size {n : Nat} (h : n ≤ 1000000) : n < sizeLine := by rw [sizeLine_eq]; omega
theorem fit_strlen {M l n B : Nat} {x : Str} (h : Fit M l n B (.str x)) (hB : B ≤ 1000000) : x.length ≤ sizeLine := by
  have h1 : 10 * x.length + 5 ≤ B := by simpa [wt] using h.wg
  rw [sizeLine_eq]; omega
theorem isi_dNum (d : PyData) : (isaInt d && !isaBool d) = dNum d := by cases d <;> rfl
end Sw
set_option maxRecDepth 100000
set_option maxHeartbeats 4000000
namespace Sw
open PySem PySem.Spec PyProof.Rows L2
def topS (i : Nat) : Stmt := PySem.Challenge.pw_storeways_k19_starts_by_kind.main.body.getD i (.Pass ⟨0, 0, 0, 0⟩)
/-- built-in names that the text leaves alone -/
structure Bt (mg : Str → Option Value) : Prop where
  isi : mg "isinstance" = none
  int : mg "int" = none
  bool : mg "bool" = none
  str : mg "str" = none
  tuple : mg "tuple" = none
  list : mg "list" = none
  len : mg "len" = none
  all : mg "all" = none
  zip : mg "zip" = none
  range : mg "range" = none
  ord : mg "ord" = none
  sorted : mg "sorted" = none
  set : mg "set" = none
  repr : mg "repr" = none
section
variable {P : Program} {w : World} {K : PySem.W.Frag} {mg : Str → Option Value} {base : Heap}
theorem sc_num : FnScope ["thing"] ["thing"] (defScope (topS 2)) := ⟨rfl, rfl, rfl, by decide +kernel, rfl, by decide +kernel, by decide +kernel⟩
theorem ok_num {f : Addr} {fd : FuncData} (D : Df K mg "is_number" (topS 2) ["thing"] f fd) (B : Bt mg) : FnOk P w K mg base CX0 1 f fd ["thing"] (spLook K dNum) := by
  refine D.fn.ok sc_num (fun vs H Q E h => ?_) (fun cdv A outer s H vs Q E hr h => ?_)
  · obtain ⟨v, d, rfl, _⟩ := h
    rfl
  obtain ⟨v, d, rfl, hd, hf, q⟩ := h
  refine ⟨_, pss_one (ps_ret (pe_and (pe_callB call_isi (by rfl) B.isi (by decide +kernel) (pa_cons (pv 0) (pa_cons (pe_bltn (v := .ty "int") (by rfl) B.int (by decide +kernel) rfl) pa_nil)))
    (pe_one (pe_not (pe_callB call_isi (by rfl) B.isi (by decide +kernel) (pa_cons (pv 0) (pa_cons (pe_bltn (v := .ty "bool") (by rfl) B.bool (by decide +kernel) rfl) pa_nil))))))), ?_⟩
  obtain ⟨t1, ty1, k1⟩ := isa_int hd
  obtain ⟨t2, ty2, k2⟩ := isa_bool hd
  refine ⟨v, rfl, v, .ty "int", t1, _, _, rfl, .ty _, ty1, k1, _, rfl, ?_⟩
  have e := isi_dNum d
  refine ite2 (fun c => ?_) (fun c => ?_)
  · refine ⟨v, rfl, v, .ty "bool", t2, _, _, rfl, .ty _, ty2, k2, _, rfl, ?_⟩
    rw [c, Bool.true_and] at e
    rw [e]
    exact q H (Same.refl H)
  · have c' : isaInt d = false := by simpa using c
    rw [c', Bool.false_and] at e
    rw [e]
    exact q H (Same.refl H)
theorem sc_word : FnScope ["thing", "sign"] ["thing"] (defScope (topS 3)) := ⟨rfl, rfl, rfl, by decide +kernel, rfl, by decide +kernel, by decide +kernel⟩
theorem sign_lo (c : Nat) : (!decide (([c] : List Nat) < ("a" : Str).cps.toList)) = decide (97 ≤ c) := by
  show (!decide (([c] : List Nat) < [97])) = decide (97 ≤ c)
  by_cases h : 97 ≤ c
  · have : ¬ (([c] : List Nat) < [97]) := by intro z; have := List.cons_lt_cons_iff.mp z; simp at this; omega
    simp [h, this]
  · have : ([c] : List Nat) < [97] := List.cons_lt_cons_iff.mpr (.inl (by omega))
    simp [h, this]
theorem sign_hi (c : Nat) : (!decide (("z" : Str).cps.toList < ([c] : List Nat))) = decide (c ≤ 122) := by
  show (!decide (([122] : List Nat) < [c])) = decide (c ≤ 122)
  by_cases h : c ≤ 122
  · have : ¬ (([122] : List Nat) < [c]) := by intro z; have := List.cons_lt_cons_iff.mp z; simp at this; omega
    simp [h, this]
  · have : ([122] : List Nat) < [c] := List.cons_lt_cons_iff.mpr (.inl (by omega))
    simp [h, this]
theorem all_range {z : Str} : ((List.range z.cps.size).map fun i => V.bl (okSign (z.cps.toList.getD i 0))) = (z.cps.toList.map okSign).map V.bl := by
  apply List.ext_getElem?
  intro i
  simp only [List.getElem?_map, List.getElem?_range']
  by_cases h : i < z.cps.size
  · rw [List.getElem?_range h, List.getElem?_eq_getElem (by simpa using h)]
    simp [List.getD, List.getElem?_eq_getElem, h]
  · rw [List.getElem?_eq_none (by simpa using h), List.getElem?_eq_none (by simpa using h)]
    rfl
theorem ok_word {f : Addr} {fd : FuncData} (D : Df K mg "is_word" (topS 3) ["thing"] f fd) (B : Bt mg) (gL : ∃ t, mg "LONGEST_WORD" = some (.int 8 t)) : FnOk P w K mg base CX0 1 f fd ["thing"] (spLook K dWord) := by
  refine D.fn.ok sc_word (fun vs H Q E h => ?_) (fun cdv A outer s H vs Q E hr h => ?_)
  · obtain ⟨v, d, rfl, _⟩ := h
    rfl
  obtain ⟨v, d, rfl, hd, ⟨M, hf⟩, q⟩ := h
  obtain ⟨t8, gL⟩ := gL
  refine ⟨_, pss_cons (ps_if (PW.pt (pw_or (pt_not (pt_val (pe_callB call_isi (by rfl) B.isi (by decide +kernel) (pa_cons (pv 0) (pa_cons (pe_bltn (v := .ty "str") (by rfl) B.str (by decide +kernel) rfl) pa_nil)))))
      (pw_or1 (pt_not (pt_chain op_le op_le pe_int (pe_callB call_len_str (by rfl) B.len PySem.boot_len (pa_cons (pv 0) pa_nil)) (pe_glob (v := .int 8) (by rfl) gL ⟨_, rfl⟩)))))) (pss_one (ps_ret pe_bl)) pss_nil)
    (pss_one (ps_ret (pe_callB (cr_all rfl) (by rfl) B.all (by decide +kernel) (pa_cons (pe_lc (own := [("sign", 1)]) (g := gName 1) (tt := tYes) rfl sc_word.nd (pi_str (pv 0))
      (blkOk_by (N := ["thing", "sign"]) (sc := defScope (topS 3)) (by decide +kernel)) (fun _ _ _ _ _ => pg_name (i := 1) sc_word.nd rfl (Or.inl rfl)) (fun _ _ _ _ _ => pts_nil)
      (fun _ _ _ _ _ => pe_chain op_le_str op_le_str pe_str (pv 1) pe_str)) pa_nil)))), ?_⟩
  obtain ⟨t1, ty1, k1⟩ := isa_str hd
  refine ⟨v, rfl, v, .ty "str", t1, _, _, rfl, .ty _, ty1, k1, _, rfl, ?_⟩
  cases hd with
  | str z =>
    refine iteF ?_
    have hz := fit_strlen hf (Nat.le_refl _)
    refine ⟨_, rfl, z, rfl, hz, _, _, rfl, rfl, _, rfl, ?_⟩
    refine ite2 (fun c => ?_) (fun c => ?_)
    · have c1 : (1 : Int) ≤ (z.length : Int) := of_decide_eq_true c
      refine ⟨_, _, rfl, rfl, _, rfl, ?_⟩
      refine ite2 (fun c => ?_) (fun c => ?_)
      · have c2 : ¬ (z.length : Int) ≤ 8 := by simpa using c
        have e : dWord (.str z) = false := by
          show wordS z = false
          unfold wordS
          rw [decide_eq_false (show ¬ z.length ≤ 8 by omega)]
          simp
        rw [← e]
        exact q H (Same.refl H)
      · have c2 : (z.length : Int) ≤ 8 := by simpa using c
        refine ⟨_, rfl, z, rfl, fun L hL => lc_map walk_signs (fun i => V.bl (okSign (z.cps.toList.getD i 0))) hL (fun _ _ => trivial) (big_size (by have : z.cps.size = z.length := rfl; omega)) ?_ ?_⟩
        · intro i x H1 Q1 hi hx hs q1
          have hi' : i < z.cps.toList.length := by simpa using hi
          rw [List.getElem?_map, List.getElem?_eq_getElem hi'] at hx
          have hx' : V.str ⟨#[z.cps.toList[i]]⟩ = x := Option.some.inj hx
          subst hx'
          have eg : z.cps.toList.getD i 0 = z.cps.toList[i] := by simp [List.getD, List.getElem?_eq_getElem hi']
          refine ⟨_, rfl, _, _, rfl, rfl, _, rfl, ?_⟩
          have e1 := sign_lo z.cps.toList[i]
          have e2 := sign_hi z.cps.toList[i]
          have q2 := q1 H1 (Same.refl H1)
          rw [eg] at q2
          refine ite2 (fun c => ?_) (fun c => ?_)
          · have c' : decide (97 ≤ z.cps.toList[i]) = true := by rw [← e1]; exact c
            refine ⟨_, _, rfl, rfl, ?_⟩
            have e3 : okSign z.cps.toList[i] = !decide (("z" : Str).cps.toList < ([z.cps.toList[i]] : List Nat)) := by
              unfold okSign
              rw [c', e2, Bool.true_and]
            rw [e3] at q2
            exact q2
          · have c' : decide (97 ≤ z.cps.toList[i]) = false := by rw [← e1]; simpa using c
            have e3 : okSign z.cps.toList[i] = false := by
              unfold okSign
              rw [c', Bool.false_and]
            rw [e3] at q2
            exact q2
        · intro H1 hs hL1
          refine ⟨L, z.cps.toList.map okSign, rfl, SqL.of (by rw [hL1, all_range]), ?_⟩
          have e : dWord (.str z) = (z.cps.toList.map okSign).all id := by
            show wordS z = _
            unfold wordS
            rw [decide_eq_true (show 1 ≤ z.length by omega), decide_eq_true (show z.length ≤ 8 by omega), List.all_map]
            rfl
          rw [← e]
          exact q H1 hs
    · have c1 : ¬ (1 : Int) ≤ (z.length : Int) := of_decide_eq_false (by simpa using c)
      have e : dWord (.str z) = false := by
        show wordS z = false
        unfold wordS
        rw [decide_eq_false (show ¬ 1 ≤ z.length by omega)]
        simp
      refine ⟨_, rfl, iteT ?_⟩
      rw [← e]
      exact q H (Same.refl H)
  | non => exact iteT (q H (Same.refl H))
  | bl b => exact iteT (q H (Same.refl H))
  | int i => exact iteT (q H (Same.refl H))
  | lst h r => exact iteT (q H (Same.refl H))
  | tup h r => exact iteT (q H (Same.refl H))
end
end Sw
set_option maxRecDepth 100000
set_option maxHeartbeats 4000000
namespace Sw
open PySem PySem.Spec PyProof.Rows L2
section
variable {P : Program} {w : World} {K : PySem.W.Frag} {mg : Str → Option Value} {base : Heap}
theorem q_of {Q : VK} {b c : Bool} {H : Hp} (e : b = c) (h : Q (.bl b) H) : Q (.bl c) H := e ▸ h
theorem sc_pair : FnScope ["thing"] ["thing"] (defScope (topS 4)) := ⟨rfl, rfl, rfl, by decide +kernel, rfl, by decide +kernel, by decide +kernel⟩
theorem int_two {n : Nat} : decide (V.int (n : Int) = V.int 2) = decide (n = 2) := by
  by_cases h : n = 2
  · subst h; simp
  · have : ¬ (V.int (n : Int) = V.int 2) := fun z => h (by injection z with z; omega)
    simp [h, this]
theorem ok_pair {f : Addr} {fd : FuncData} (D : Df K mg "is_pair" (topS 4) ["thing"] f fd) (B : Bt mg) : FnOk P w K mg base CX0 1 f fd ["thing"] (spLook K dPair) := by
  refine D.fn.ok sc_pair (fun vs H Q E h => ?_) (fun cdv A outer s H vs Q E hr h => ?_)
  · obtain ⟨v, d, rfl, _⟩ := h
    rfl
  obtain ⟨v, d, rfl, hd, hf, q⟩ := h
  refine ⟨_, pss_one (ps_ret (pe_and (pe_callB call_isi (by rfl) B.isi (by decide +kernel) (pa_cons (pv 0) (pa_cons (pe_bltn (v := .ty "tuple") (by rfl) B.tuple (by decide +kernel) rfl) pa_nil)))
    (pe_one (pe_cmpR op_eq (pe_callB call_len_seq (by rfl) B.len PySem.boot_len (pa_cons (pv 0) pa_nil)) pe_int (nomark _))))), ?_⟩
  obtain ⟨t1, ty1, k1⟩ := isa_tup hd
  refine ⟨v, rfl, v, .ty "tuple", t1, _, _, rfl, .ty _, ty1, k1, _, rfl, ?_⟩
  cases hd with
  | tup h r =>
    refine iteT ?_
    refine ⟨_, rfl, _, _, rfl, .inr h, rfl, ?_⟩
    have e := q H (Same.refl H)
    have e2 := DpAll_len r
    rw [int_two, e2]
    exact e
  | non => exact iteF (q H (Same.refl H))
  | bl b => exact iteF (q H (Same.refl H))
  | int i => exact iteF (q H (Same.refl H))
  | str z => exact iteF (q H (Same.refl H))
  | lst h r => exact iteF (q H (Same.refl H))
end
end Sw
set_option maxRecDepth 100000
set_option maxHeartbeats 4000000
namespace Sw
open PySem PySem.Spec PyProof.Rows L2
theorem cut_one (xs : List V) : cutV xs (some 1) none = xs.drop 1 := by
  unfold cutV
  rw [show HT.sIx xs.length 0 (some 1) = min 1 xs.length from HT.sIx_nat xs.length 0 1, HT.sIx_none]
  cases xs with
  | nil => rfl
  | cons x r =>
    have e : min 1 (x :: r).length = 1 := by rw [List.length_cons]; omega
    rw [e]
    show (List.take ((x :: r).length - 1) r) = r
    rw [List.length_cons, Nat.add_sub_cancel, List.take_length]
theorem obj_parts {K : PySem.W.Frag} {H : Hp} {v : V} {d : PyData} (h : Dp K H v d) (o : dObj d = true) : ∃ (p : Addr) (z : Str) (k : Int), v = .ref p ∧ SqT K H p [.str z, .int k] ∧ fstS d = z ∧ d = .tuple [.str z, .int k] := by
  unfold dObj at o
  split at o
  · rename_i a b
    rw [Bool.and_eq_true] at o
    cases a with
    | str z =>
      cases b with
      | int k =>
        cases h with
        | tup hs r =>
          cases r with
          | cons h0 r =>
            cases r with
            | cons h1 r =>
              cases r
              cases h0
              cases h1
              exact ⟨_, z, k, rfl, hs, rfl, rfl⟩
      | _ => simp [dPos] at o
    | _ => simp [dWord] at o
  · cases o
theorem rises_range : ∀ zs : List Str, ((List.range (zs.length - 1)).map fun i => decide ((zs.getD i Str.empty).cps.toList < (zs.getD (i + 1) Str.empty).cps.toList)).all id = rises zs
  | [] => rfl
  | [_] => rfl
  | a :: b :: r => by
    have ih := rises_range (b :: r)
    have e : (a :: b :: r).length - 1 = (b :: r).length - 1 + 1 := by simp
    rw [e, List.range_succ_eq_map, List.map_cons, List.map_map, List.all_cons]
    show (decide (a.cps.toList < b.cps.toList) && _) = (decide (a.cps.toList < b.cps.toList) && rises (b :: r))
    rw [← ih]
    rfl
section
variable {P : Program} {w : World} {K : PySem.W.Frag} {mg : Str → Option Value} {base : Heap}
def spRise (K : PySem.W.Frag) : Sp := fun vs H Q _ => ∃ (v : V) (ds : List PyData), vs = [v] ∧ Dp K H v (.tuple ds) ∧ ds.length ≤ 60 ∧ ds.all dObj = true ∧ ∀ H', Same H H' → Q (.bl (rises (ds.map fstS))) H'
theorem sc_rise : FnScope ["pairs", "firsts", "pair", "one", "other"] ["pairs"] (defScope (topS 5)) := ⟨rfl, rfl, rfl, by decide +kernel, rfl, by decide +kernel, by decide +kernel⟩
theorem ok_rise {f : Addr} {fd : FuncData} (D : Df K mg "has_rising_firsts" (topS 5) ["pairs"] f fd) (B : Bt mg) : FnOk P w K mg base CX0 1 f fd ["pairs"] (spRise K) := by
  refine D.fn.ok sc_rise (fun vs H Q E h => ?_) (fun cdv A outer s H vs Q E hr h => ?_)
  · obtain ⟨v, d, rfl, _⟩ := h
    rfl
  obtain ⟨v, ds, rfl, hd, hl, ho, q⟩ := h
  cases hd with
  | @tup a xs _ hx hr0 =>
  have hlen := DpAll_len hr0
  refine ⟨_, pss_cons (ps_setLc (i := 1) (own := [("pair", 2)]) (g := gName 2) (tt := tYes) rfl sc_rise.nd rfl rfl (sw_true rfl rfl rfl (by decide +kernel)) (pi_tup (pv 0))
      (blkOk_by (N := ["pairs", "firsts", "pair", "one", "other"]) (sc := defScope (topS 5)) (by decide +kernel)) (fun _ _ _ _ _ => pg_name (i := 2) sc_rise.nd rfl (Or.inl rfl)) (fun _ _ _ _ _ => pts_nil)
      (fun _ _ _ _ _ => pe_ix (r := rIxT K) ix_tup (pv 2) pe_int (fun _ _ => rfl)))
    (pss_one (ps_ret (pe_callB (cr_all rfl) (by rfl) B.all (by decide +kernel) (pa_cons (pe_lc (own := [("one", 3), ("other", 4)]) (g := gTup K 2 (gCons (gName 3) (gCons (gName 4) gNil))) (tt := tYes) rfl sc_rise.nd
      (pi_zip (by rfl) B.zip (pa_cons (pv 1) (pa_cons (pe_slice sl_list (pv 1) (po_some pe_int) po_none) pa_nil)))
      (blkOk_by (N := ["pairs", "firsts", "pair", "one", "other"]) (sc := defScope (topS 5)) (by decide +kernel))
      (fun _ _ _ _ _ => pg_tup rfl (pgs_cons (pg_name (i := 3) sc_rise.nd rfl (Or.inl rfl)) (pgs_cons (pg_name (i := 4) sc_rise.nd rfl (Or.inl rfl)) pgs_nil))) (fun _ _ _ _ _ => pts_nil)
      (fun _ _ _ _ _ => pe_cmpR op_lt_str (pv 3) (pv 4) (nomark _))) pa_nil)))), ?_⟩
  -- firsts = [pair[0] for pair in pairs]
  refine ⟨_, rfl, a, rfl, ⟨_, hx⟩, fun L hL => lc_map (walk_tup (xs := xs)) (fun i => V.str ((ds.map fstS).getD i Str.empty)) hL (fun _ h => sameT h hx) (big_size (by omega)) ?_ ?_⟩
  · intro i x H1 Q1 hi hxi hs q1
    obtain ⟨d, hdi, hdp⟩ := DpAll_get (DpAll_same hs hr0) hxi
    have hobj : dObj d = true := List.all_eq_true.mp ho d (List.mem_of_getElem? hdi)
    obtain ⟨p, z, k, rfl, hp, hz, rfl⟩ := obj_parts hdp hobj
    have e : (ds.map fstS).getD i Str.empty = z := by
      simp only [List.getD, List.getElem?_map, hdi]
      exact hz
    have q2 := q1 H1 (Same.refl H1)
    rw [e] at q2
    exact ⟨_, rfl, p, _, 0, _, rfl, rfl, hp, atI_nat (j := 0) rfl, q2⟩
  intro H1 s1 hL1
  have eL : (List.range xs.length).map (fun i => V.str ((ds.map fstS).getD i Str.empty)) = (ds.map fstS).map V.str := by
    apply List.ext_getElem?
    intro i
    simp only [List.getElem?_map]
    by_cases h : i < ds.length
    · rw [List.getElem?_range (by omega), List.getElem?_eq_getElem h]
      simp [List.getD, h]
    · rw [List.getElem?_eq_none (by first | omega | (simp; omega)), List.getElem?_eq_none (by first | omega | (simp; omega))]
      rfl
  rw [eL] at hL1
  generalize hzs : ds.map fstS = zs at hL1 q
  have hzl : zs.length = ds.length := by rw [← hzs, List.length_map]
  -- all([one < other for one, other in zip(firsts, firsts[1:])])
  refine ⟨.ref L, rfl, .ref L, rfl, 1, rfl, L, zs.map V.str, rfl, SqL.of hL1, fun C hC => ?_⟩
  have sC : Same H1 (upd H1 C (.lst (cutV (zs.map V.str) (some 1) none))) := same_new hC
  have hLC := sC _ _ hL1
  have hCC : upd H1 C (.lst (cutV (zs.map V.str) (some 1) none)) C = some (.lst ((zs.map V.str).drop 1)) := by rw [upd_same, cut_one]
  generalize upd H1 C (.lst (cutV (zs.map V.str) (some 1) none)) = H2 at sC hLC hCC
  refine ⟨L, C, zs.map V.str, (zs.map V.str).drop 1, rfl, SqL.of hLC, SqL.of hCC, fun D2 hD2 => ?_⟩
  refine lc_it (walk_zip (xs := zs.map V.str) (ys := (zs.map V.str).drop 1) (n := zs.length - 1) (by simp)) (fun i H => Same H2 H ∧ H D2 = some (.lst ((List.range i).map fun i => V.bl (decide ((zs.getD i Str.empty).cps.toList < (zs.getD (i + 1) Str.empty).cps.toList))))) ⟨same_new hD2, by rw [upd_same]; rfl⟩ (fun i H _ h => ⟨SqL.of (h.1 _ _ hLC), SqL.of (h.1 _ _ hCC)⟩) ?_ ?_
  · rintro i x H3 H4 hi ⟨s3, h3⟩ ⟨T, x1, x2, rfl, nT, rfl, e1, e2⟩
    have i1 : i < zs.length := by omega
    have i2 : i + 1 < zs.length := by omega
    have e1' : V.str zs[i] = x1 := by
      dsimp only at e1
      rw [List.getElem?_map, List.getElem?_eq_getElem i1] at e1
      exact Option.some.inj e1
    have e2' : V.str zs[i + 1] = x2 := by
      dsimp only at e2
      rw [List.getElem?_drop, Nat.add_comm 1 i, List.getElem?_map, List.getElem?_eq_getElem i2] at e2
      exact Option.some.inj e2
    subst e1' e2'
    have sT : Same H3 (upd H3 T (.tup [V.str zs[i], V.str zs[i + 1]])) := same_new nT
    refine ⟨T, _, rfl, .inl (.inl upd_same), rfl, _, _, rfl, _, _, rfl, rfl, ?_⟩
    refine ⟨rfl, ?_⟩
    unfold tYes
    dsimp only
    rw [if_pos rfl]
    refine ⟨_, rfl, _, rfl, _, _, rfl, rfl, _, sT _ _ h3, ?_, ?_, ?_⟩
    · rw [List.length_map, List.length_range]
      exact big_size (by omega)
    · intro b o e
      rw [upd_ne (ne_of_none e hD2)]
      exact sT _ _ (s3 _ _ e)
    · rw [upd_same, List.range_succ, List.map_append]
      have g1 : zs.getD i Str.empty = zs[i] := by simp [List.getD, List.getElem?_eq_getElem i1]
      have g2 : zs.getD (i + 1) Str.empty = zs[i + 1] := by simp [List.getD, List.getElem?_eq_getElem i2]
      simp only [List.map_cons, List.map_nil, g1, g2]
  · rintro H3 ⟨s3, h3⟩
    refine ⟨D2, (List.range (zs.length - 1)).map (fun i => decide ((zs.getD i Str.empty).cps.toList < (zs.getD (i + 1) Str.empty).cps.toList)), rfl, SqL.of (by rw [h3, List.map_map]; rfl), ?_⟩
    rw [rises_range]
    exact q H3 (s1.trans (sC.trans s3))
end
end Sw
set_option maxRecDepth 100000
set_option maxHeartbeats 4000000
namespace Sw
open PySem PySem.Spec PyProof.Rows L2

/-! ### sets of texts -/
def Mem1 (w : World) (e : Int × Value) (x : Str) : Prop := ∃ t, e.2 = Value.str x t ∧ e.1 = hashStr w x
/-- the set at a holds the texts L, none twice -/
def TxtSet (w : World) (h : Heap) (a : Addr) (L : List Str) : Prop :=
  ∃ o es ep t, h.get? a = some o ∧ o.ExactSet ∧ o.data = .set es ep t ∧ Paired (Mem1 w) es.toList L ∧ L.Nodup ∧ es.size < scanBound ∧ t.fits es.size = true ∧ Ris t.place.toList ∧
    (w.params.followText "set-order" = true ∨ t.led = true)
theorem TxtSet.at {w : World} {h h' : Heap} {a : Addr} {L : List Str} (R : TxtSet w h a L) (k : ∀ o, h.get? a = some o → h'.get? a = some o) : TxtSet w h' a L := by
  obtain ⟨o, es, ep, t, ho, r⟩ := R
  exact ⟨o, es, ep, t, k o ho, r⟩
theorem paired_perm {α β : Type} {R : α → β → Prop} : ∀ {l l' : List α}, l'.Perm l → ∀ {L : List β}, Paired R l L → ∃ L', Paired R l' L' ∧ L'.Perm L := by
  intro l l' p
  induction p with
  | nil => intro L h; cases h; exact ⟨[], .nil, .nil⟩
  | cons x p ih =>
    intro L h
    cases h with
    | cons r t =>
      obtain ⟨L', h1, h2⟩ := ih t
      exact ⟨_ :: L', .cons r h1, h2.cons _⟩
  | swap x y l =>
    intro L h
    cases h with
    | cons r1 t =>
      cases t with
      | cons r2 t => exact ⟨_ :: _ :: _, .cons r2 (.cons r1 t), .swap _ _ _⟩
  | trans p q ih1 ih2 =>
    intro L h
    obtain ⟨L1, h1, h2⟩ := ih2 h
    obtain ⟨L2, h3, h4⟩ := ih1 h1
    exact ⟨L2, h3, h4.trans h2⟩
theorem mem_elems {P : Program} {w : World} : ∀ {l : List (Int × Value)} {L : List Str}, Paired (Mem1 w) l L → ElemsOf (strKind P w) l
  | _, _, .nil, _, he => by simp at he
  | _, _, .cons r t, e, he => by
    rcases List.mem_cons.mp he with rfl | he
    · obtain ⟨tk, h1, h2⟩ := r
      exact ⟨⟨_, by rw [h1]; exact strKind_is P w _ tk, h2⟩, by rw [h1]; rfl⟩
    · exact mem_elems t e he
theorem is_iff {P : Program} {w : World} {x y : Str} {t : Tok} : (strKind P w).is x (.str y t) = true ↔ y = x := by
  show Value.isStrOf x (.str y t) = true ↔ _
  simp [Value.isStrOf]
theorem found_mem {P : Program} {w : World} {x : Str} : ∀ {l : List (Int × Value)} {L : List Str}, Paired (Mem1 w) l L → ((∃ e ∈ l, (strKind P w).is x e.2 = true) ↔ x ∈ L)
  | _, _, .nil => by simp
  | _, _, .cons (a := e0) (b := y) r t => by
    have ih := found_mem (P := P) (w := w) (x := x) t
    obtain ⟨tk, h1, _⟩ := r
    constructor
    · rintro ⟨e, he, h⟩
      rcases List.mem_cons.mp he with rfl | he
      · rw [h1, is_iff] at h
        rw [h]
        exact List.mem_cons_self
      · exact List.mem_cons_of_mem _ (ih.mp ⟨e, he, h⟩)
    · intro h
      rcases List.mem_cons.mp h with rfl | h
      · exact ⟨e0, List.mem_cons_self, by rw [h1, is_iff]⟩
      · obtain ⟨e, he, h⟩ := ih.mpr h
        exact ⟨e, List.mem_cons_of_mem _ he, h⟩
section
variable {P : Program} {w : World} {A : Around} {E : Value → Shared → Prop} {s : Shared} {a : Addr} {L : List Str}
theorem txt_store {g : Bool → Sem Unit} (hg : ∀ (b : Bool) (s₁ : Shared) (Q' : Unit → Shared → Prop), Q' () s₁ → wpAny (model P w) A (g b) Q' E s₁)
    {o : Obj} {es es1 : Array (Int × Value)} {ep : Nat} {t t2 : SetTable} (ho : s.heap.get? a = some o) (hex : o.ExactSet) (hd : o.data = .set es ep t) (pr : Paired (Mem1 w) es1.toList L) (nd : L.Nodup)
    (hb : es1.size < scanBound) (hf : t2.fits es1.size = true) (hr : Ris t2.place.toList) (hl : w.params.followText "set-order" = true ∨ t2.led = true) {dm : Bool} {R : Option Bool → Shared → Prop}
    (hR : ∀ h' L', Heap.SameBut a s.heap h' → TxtSet w h' a L' → L'.Perm L → R (some true) { s with heap := h' }) :
    wpAny (model P w) A (do
        storeSet a es1 t2
        if (!dm && t2.tooFull) = true then do
            g (relayAll t2 es1 (SetTable.grown es1.size)).2.2
            storeSet a (relayAll t2 es1 (SetTable.grown es1.size)).1 (relayAll t2 es1 (SetTable.grown es1.size)).2.1
            pure (some true)
          else pure (some true)) R E s := by
  refine wpAny_bind (wpAny_storeSet_of ho hd ?_ (fits_of_scanBound hb))
  have o1 := store_at (es' := es1) (t' := t2) ho hd
  have sb := Heap.SameBut.update s.heap a (Obj.putSet es1 t2)
  split
  · have p1 := relayAll_perm t2 es1 (SetTable.grown es1.size)
    have p2 := relayAll_fits t2 es1 (SetTable.grown es1.size)
    have p3 := relayAll_ris t2 es1 (SetTable.grown es1.size)
    have p4 := relayAll_led t2 es1 (SetTable.grown es1.size)
    generalize relayAll t2 es1 (SetTable.grown es1.size) = Z at p1 p2 p3 p4 ⊢
    obtain ⟨es2, t3, gv⟩ := Z
    dsimp only at p1 p2 p3 p4 ⊢
    obtain ⟨L', q1, q2⟩ := paired_perm p1 pr
    have sz : es2.size = es1.size := by
      have := p1.length_eq
      simpa using this
    have hb2 : es2.size < scanBound := by omega
    refine wpAny_bind (hg gv _ _ ?_)
    refine wpAny_bind (wpAny_storeSet_of o1 rfl ?_ (fits_of_scanBound hb2))
    refine wpAny_pure (hR _ L' (sb.trans (Heap.SameBut.update _ a _)) ?_ q2)
    exact ⟨_, es2, _, t3, store_at (es' := es2) (t' := t3) o1 rfl, hex, rfl, q1, q2.nodup_iff.mpr nd, hb2, p2, p3, hl.imp id fun z => by rw [p4]; exact z⟩
  · exact wpAny_pure (hR _ L sb ⟨_, es1, _, t2, o1, hex, rfl, pr, nd, hb, hf, hr, hl⟩ (.refl _))
theorem txt_add {x : Str} {tk : Tok} {Q : Bool → Shared → Prop} (R : TxtSet w s.heap a L) (room : L.length + 1 < scanBound)
    (hQ : ∀ b h' L', Heap.SameBut a s.heap h' → TxtSet w h' a L' → (x ∈ L ∧ L' = L ∨ x ∉ L ∧ L'.Perm (x :: L)) → Q b { s with heap := h' }) :
    wpAny (model P w) A (setAddHashed a (.str x tk) ((strKind P w).hash x)) Q E s := by
  obtain ⟨o, es, ep, t, ho, hex, hd, pr, nd, hb, hf, hr, hl⟩ := R
  have el : ElemsOf (strKind P w) es.toList := mem_elems pr
  have sc : (Value.str x tk).scannable = true := rfl
  have key : (strKind P w).is x (.str x tk) = true := strKind_is P w x tk
  have hlen : es.size = L.length := by have := pr.length; simpa using this
  unfold setAddHashed setAddHashedIn
  refine wpAny_holding (wpAny_bind (wpAny_setState_of ho hd hf ?_))
  dsimp only
  rw [byScan_of sc hb el]
  simp only [↓reduceIte]
  unfold setAddByScan
  refine wpAny_bind (wpAny_bind (wpAny_rule (wpAny_bind (wpAny_setScan_of key ho hd hf el ?_))))
  cases hfi : List.findIdx? (fun e => (strKind P w).is x e.2) es.toList with
  | some j =>
    obtain ⟨hj, pj, _⟩ := List.findIdx?_eq_some_iff_getElem.mp hfi
    have hx : x ∈ L := (found_mem (P := P) pr).mp ⟨_, List.getElem_mem hj, pj⟩
    exact wpAny_pure (wpAny_pure (hQ _ s.heap L (Heap.SameBut.refl a s.heap) ⟨o, es, ep, t, ho, hex, hd, pr, nd, hb, hf, hr, hl⟩ (.inl ⟨hx, rfl⟩)))
  | none =>
    dsimp only
    have hx : x ∉ L := fun z => by
      obtain ⟨e, he, q⟩ := (found_mem (P := P) pr).mpr z
      have c := List.findIdx?_eq_none_iff.mp hfi e he
      rw [q] at c
      cases c
    have gw : ∀ (b : Bool) {s₁ : Shared} {Q' : Unit → Shared → Prop}, Q' () s₁ → wpAny (model P w) A (match b with | true => rule "set.scan.the-table-gave-way" | false => pure ()) Q' E s₁ := by
      intro b s₁ Q' q
      cases b
      · exact wpAny_pure q
      · exact wpAny_rule q
    have p1 := layNew_perm t es ((strKind P w).hash x) (.str x tk)
    have p2 := layNew_fits t es ((strKind P w).hash x) (.str x tk)
    have p3 := layNew_ris t es ((strKind P w).hash x) (.str x tk) hr
    have p4 := layNew_led t es ((strKind P w).hash x) (.str x tk)
    generalize layNew t es ((strKind P w).hash x) (.str x tk) = Z at p1 p2 p3 p4 ⊢
    obtain ⟨es1, t1, dm, gv⟩ := Z
    dsimp only at p1 p2 p3 p4 ⊢
    rw [Array.toList_push] at p1
    have pr1 : Paired (Mem1 w) (((strKind P w).hash x, Value.str x tk) :: es.toList) (x :: L) := .cons ⟨tk, rfl, rfl⟩ pr
    obtain ⟨L1, q1, q2⟩ := paired_perm (p1.trans (List.perm_append_singleton _ _)) pr1
    have nd1 : L1.Nodup := q2.nodup_iff.mpr (List.nodup_cons.mpr ⟨hx, nd⟩)
    have sz1 : es1.size = L.length + 1 := by
      have h1 := q1.length
      have h2 := q2.length_eq
      simp at h1 h2
      omega
    have hb1 : es1.size < scanBound := by omega
    have hl1 : w.params.followText "set-order" = true ∨ t1.led = true := hl.imp id fun z => by rw [p4]; exact z
    have fin : ∀ h' L', Heap.SameBut a s.heap h' → TxtSet w h' a L' → L'.Perm L1 → Q true { s with heap := h' } := fun h' L' sb r pm => hQ true h' L' sb r (.inr ⟨hx, pm.trans q2⟩)
    refine wpAny_bind (gw _ ?_)
    split
    · refine wpAny_bind ?_
      rw [hashByValue_scannable 8 sc]
      refine wpAny_pure ?_
      refine txt_store (L := L1) ?_ ho hex hd q1 nd1 hb1 ?_ ?_ ?_ ?_
      · intro b s₁ Q' q; cases b <;> first | exact wpAny_pure q | exact wpAny_rule q
      · first | (split <;> first | exact p2 | exact SetTable.fits_plain_off p2) | exact p2
      · first | (split <;> exact p3) | exact p3
      · first | (split <;> exact hl1) | exact hl1
      · intro h' L' sb r pm; dsimp only; exact wpAny_pure (fin h' L' sb r pm)
    · refine wpAny_bind (wpAny_pure ?_)
      simp only [↓reduceIte]
      refine txt_store (L := L1) ?_ ho hex hd q1 nd1 hb1 p2 p3 hl1 ?_
      · intro b s₁ Q' q; cases b <;> first | exact wpAny_pure q | exact wpAny_rule q
      · intro h' L' sb r pm; dsimp only; exact wpAny_pure (fin h' L' sb r pm)
end
end Sw
set_option maxRecDepth 100000
set_option maxHeartbeats 4000000
namespace Sw
open PySem PySem.Spec PyProof.Rows L2
/-- L: what is met in the first i of xs -/
def Met (xs : List Str) (i : Nat) (L : List Str) : Prop := L.length ≤ i ∧ ∀ x, x ∈ L ↔ x ∈ xs.take i
theorem Met.step {xs L L' : List Str} {i : Nat} {x : Str} (g : Met xs i L) (hx : xs[i]? = some x) (h : x ∈ L ∧ L' = L ∨ x ∉ L ∧ L'.Perm (x :: L)) : Met xs (i + 1) L' := by
  have et : xs.take (i + 1) = xs.take i ++ [x] := by rw [List.take_add_one, hx]; rfl
  rcases h with ⟨hm, rfl⟩ | ⟨hm, pm⟩
  · refine ⟨Nat.le_succ_of_le g.1, fun y => ?_⟩
    rw [et, List.mem_append, ← g.2 y]
    constructor
    · exact .inl
    · rintro (h | h)
      · exact h
      · rw [List.mem_singleton.mp h]; exact hm
  · refine ⟨by rw [pm.length_eq, List.length_cons]; exact Nat.succ_le_succ g.1, fun y => ?_⟩
    rw [pm.mem_iff, et, List.mem_append, ← g.2 y, List.mem_cons, List.mem_singleton]
    exact Or.comm
section
variable {P : Program} {w : World} {A : Around} {E : Value → Shared → Prop} {s : Shared}
theorem txt_update {I : Addr} {fp wr : List Addr} {G : Array GenState → Array GenState → Prop} {n : Nat} {Pv : Nat → Value → Prop} {St : Nat → Shared → Prop} {R : Result → Shared → Prop} (W : WalksS P w A.in1 I fp wr G n Pv St)
    (S : Addr) (hSf : S ∉ fp) (xs : List Str) (hn : n = xs.length) (few : n + 1 < scanBound) (hval : ∀ i v, Pv i v → ∃ x t, xs[i]? = some x ∧ v = .str x t) :
    ∀ (k i : Nat) (s : Shared), n - i = k → i ≤ n → St i s → (∃ L, TxtSet w s.heap S L ∧ Met xs i L) → (∀ s' L, Moved (S :: wr) G s s' → TxtSet w s'.heap S L → Met xs n L → R (.ok (.ret .none)) s') →
      codeAny (model P w) A (.builtin "set.update.loop" ⟨[.ref S, .ref I], []⟩) R s := by
  have nw : S ∉ wr := fun h => hSf (W.sub _ h)
  have up : ∀ b ∈ wr, b ∈ S :: wr := fun b hb => List.mem_cons_of_mem _ hb
  intro k
  induction k with
  | zero =>
    rintro i s hk hi st ⟨L, hS, g⟩ hR
    obtain rfl : i = n := by omega
    refine codeAny_builtin PyProof.Rows.F.entry_set_update_loop ?_; rw [Around.under_plainId PyProof.Rows.F.plain_set_update_loop _]
    show wpAny _ A.in1 (pyNext (.ref I) >>= _) _ _ s
    refine wpAny_bind (W.done s _ _ st ?_)
    intro s' hm
    show wpAny _ A.in1 (ret Value.none) _ _ s'
    exact wpAny_pure (hR s' L (hm.mono up) (hS.at fun o e => hm.heap S o nw e) g)
  | succ k ih =>
    rintro i s hk hi st ⟨L, hS, g⟩ hR
    have lt : i < n := by omega
    refine codeAny_builtin PyProof.Rows.F.entry_set_update_loop ?_; rw [Around.under_plainId PyProof.Rows.F.plain_set_update_loop _]
    show wpAny _ A.in1 (pyNext (.ref I) >>= _) _ _ s
    refine wpAny_bind (W.item i s _ _ lt st ?_)
    intro v s' hP st' hm
    obtain ⟨x, t, hx, rfl⟩ := hval i v hP
    have hS' : TxtSet w s'.heap S L := hS.at fun o e => hm.heap S o nw e
    show wpAny _ A.in1 (holding [Value.str x t] (setAdd S (.str x t)) >>= _) _ _ s'
    refine wpAny_bind (wpAny_holding ?_)
    unfold setAdd
    refine wpAny_holding (wpAny_bind ((strKind P w).pyHash (k := x) (strKind_is P w x t) ?_))
    refine txt_add (s := { s' with toks := s'.toks + 1 }) hS' (by have := g.1; omega) ?_
    intro b h' L' sb hS2 hL
    refine wpAny_pure ⟨plainId_quiet PyProof.Rows.F.plain_set_update_loop _, ih (i + 1) _ (by omega) lt (W.frame _ s' _ _ st' (Nat.le_succ _) ?_) ⟨L', hS2, g.step hx hL⟩ ?_⟩
    · intro c hc o e
      rw [sb.2 c (fun z : c = S => hSf (z ▸ hc))]
      exact e
    · intro s'' L2 hm2 hS3 g3
      refine hR s'' L2 (Moved.trans W.gtrans ((hm.mono up).then_heap (Nat.le_succ _) ?_) hm2) hS3 g3
      intro c o hc e
      rw [sb.2 c (fun z : c = S => hc (by rw [z]; exact List.mem_cons_self))]
      exact e
/-- the object that set.__new__ lays -/
abbrev newSetO (w : World) : Obj := { cls := .type "set", dict := none, data := .set #[] 0 (.fresh 0 0 (!w.params.followText "set-order")) }
theorem txt_fresh {h : Heap} {a : Addr} (e : h.get? a = some (newSetO w)) : TxtSet w h a [] := by
  refine ⟨_, #[], 0, _, e, ⟨rfl, rfl, rfl⟩, rfl, .nil, List.nodup_nil, by decide, by rfl, List.Pairwise.nil, ?_⟩
  show _ ∨ (!w.params.followText "set-order") = true
  cases w.params.followText "set-order"
  · exact .inr rfl
  · exact .inl rfl
theorem call_set_txts {l : Addr} {items : Array Value} (xs : List Str) {Q : Value → Shared → Prop} (hh : A.handled = none) (hl : s.heap.IsList l items) (hit : StrsAre items.toList xs) (few : xs.length + 1 < scanBound)
    (h : ∀ (h' : Heap) (tk : Nat) L, TxtSet w h' s.heap.objs.size L → Met xs xs.length L → (∀ b o, s.heap.get? b = some o → h'.get? b = some o) → Q (.ref s.heap.objs.size) { s with heap := h', toks := tk }) :
    wpAny (model P w) A (call (.type "set") [.ref l]) Q E s := by
  have isz : items.size = xs.length := by have := hit.length; simpa using this
  obtain ⟨c, tl, hmro⟩ := F.called_set.mro
  have hmade := F.called_set.made
  have hsub := F.called_set.sub
  refine wpAny_call (codeAny_of_tree ?_)
  show wpAny _ _ (callAny (.type "set") _) _ _ _
  refine wpAny_pure ⟨Code.quiet_builtin _ (by decide +kernel), codeAny_builtin F.entry_type_call ?_⟩
  rw [Around.under_plain (weight_type_call_type "set" [.ref l] []) rfl]
  have h1 := F.called_set.notType
  have h2 := F.called_set.canCreate
  have hct := F.typeCall_set_1 (.ref l)
  repeat (any_goals (first | assumption | wp_step))
  refine codeAny_mono (code_set_led1 (.ref l) (E := E) (Q₁ := fun obj s1 => obj = .ref s.heap.objs.size ∧ s1 = { s with heap := s.heap.push (newSetO w) }) ⟨rfl, rfl⟩) ?_
  intro r s1 hr
  cases r with
  | error e => exact hr
  | ok fl =>
    cases fl with
    | ret obj =>
      obtain ⟨rfl, rfl⟩ := hr
      have hS : (s.heap.push (newSetO w)).get? s.heap.objs.size = some (newSetO w) := Heap.get?_push_size _ rfl
      have hT : Shared.TypeIs { s with heap := s.heap.push (newSetO w) } (.ref s.heap.objs.size) "set" := ⟨_, hS, rfl⟩
      have hli := F.called_set.init.lookup
      have hbi := F.called_set.init.bind (.ref s.heap.objs.size)
      repeat (any_goals (first | assumption | wp_step))
      refine codeAny_mono (codeAny_call_builtin (R := wants (fun r s2 => r = .none ∧ ∃ h' tk L, s2 = { s with heap := h', toks := tk } ∧ TxtSet w h' s.heap.objs.size L ∧ Met xs xs.length L ∧
          (∀ b o, s.heap.get? b = some o → h'.get? b = some o)) E) F.called_set.init.plain F.entry_set_init (check_set_init_1 hT ?_)) ?_
      · obtain ⟨ol, hol, hcl, nl, hdl⟩ := hl
        obtain ⟨ocls, odict, odata, oslots⟩ := ol
        simp only at hcl hdl
        subst hcl
        subst hdl
        have hol' : (s.heap.push (newSetO w)).get? l = some { cls := .type "list", dict := odict, data := .seq items nl, slots := oslots } := Heap.get?_push_of_some _ hol
        have hsls := F.sub_list_set
        have hslf := F.sub_list_frozenset
        have hne : (Value.type "list" == Value.type "dict") = false := by decide
        have hl1 : (s.heap.push (newSetO w)).IsList l items := ⟨_, hol', rfl, nl, rfl⟩
        unfold Builtin.«set.__init__» noKeywords Builtin.Frozenset.updateFrom
        generalize hPI : pyIter = PI
        wp_walk
        subst hPI
        refine wpAny_pyIter_list hl1 (wpAny_bind (wpAny_runValue ?_))
        have hlS : l < s.heap.objs.size := Heap.lt_size hol
        have zp : (s.heap.push (newSetO w)).objs.size = s.heap.objs.size + 1 := Heap.size_push ..
        have neI : l ≠ (s.heap.push (newSetO w)).objs.size := by rw [zp]; exact Nat.ne_of_lt (Nat.lt_succ_of_lt hlS)
        have nS : s.heap.objs.size ∉ [(s.heap.push (newSetO w)).objs.size, l] := by
          rw [zp]
          simp only [List.mem_cons, List.not_mem_nil, or_false, not_or]
          exact ⟨Nat.ne_of_lt (Nat.lt_succ_self _), Nat.ne_of_gt hlS⟩
        have hval : ∀ (i : Nat) (v : Value), items[i]? = some v → ∃ x t, xs[i]? = some x ∧ v = .str x t := fun i v hv => by
          obtain ⟨y, t, e1, e2⟩ := hit.item i v (by rw [Array.getElem?_toList]; exact hv)
          exact ⟨y, t, e2, e1⟩
        refine txt_update ((Walks.list (by simp [hh]) _ l neI items).toS) s.heap.objs.size nS xs isz (by omega) hval (items.size - 0) 0 _ (by omega) (Nat.zero_le _)
          ⟨⟨_, Heap.get?_push_size _ rfl, rfl, rfl⟩, (hl1.push _)⟩ ⟨[], txt_fresh (Heap.get?_push_of_some _ hS), Nat.le_refl _, by simp⟩ ?_
        intro s' L hm hS' g'
        obtain ⟨h', g2, d', tk', os'⟩ := s'
        have eg : g2 = s.gens := hm.gens
        have ed : d' = s.drawn := hm.drawn
        have eo : os' = s.os := hm.os
        subst eg ed eo
        show wpAny _ _ _ _ _ _
        refine wpAny_pure ?_
        show wpAny _ _ (ret Value.none) _ _ _
        rw [isz] at g'
        refine wpAny_pure ⟨rfl, h', tk', L, rfl, hS', g', fun c o e => ?_⟩
        have lc : c < s.heap.objs.size := Heap.lt_size e
        refine hm.heap c o ?_ (Heap.get?_push_of_some _ (Heap.get?_push_of_some _ e))
        simp only [List.mem_cons, List.not_mem_nil, or_false, not_or]
        refine ⟨Nat.ne_of_lt lc, ?_⟩
        rw [zp]
        exact Nat.ne_of_lt (Nat.lt_succ_of_lt lc)
      · intro r2 s2 hr2
        cases r2 with
        | error e => exact hr2
        | ok fl2 =>
          cases fl2 with
          | ret r =>
            obtain ⟨rfl, h', tk, L, rfl, hS', g', hk'⟩ := hr2
            repeat (any_goals (first | assumption | wp_step))
            exact h _ _ _ hS' g' hk'
          | _ => exact hr2.elim
    | _ => exact hr.elim
end
end Sw
set_option maxRecDepth 100000
set_option maxHeartbeats 4000000
namespace Sw
open PySem PySem.Spec PyProof.Rows L2
theorem strs_of_mem {w : World} : ∀ {l : List (Int × Value)} {L : List Str}, Paired (Mem1 w) l L → Paired (fun v x => ∃ t, v = Value.str x t) (l.map (·.2)) L
  | _, _, .nil => .nil
  | _, _, .cons ⟨t, h, _⟩ r => .cons ⟨t, h⟩ (strs_of_mem r)
theorem strs_of_paired : ∀ {l : List Value} {L : List Str}, Paired (fun v x => ∃ t, v = Value.str x t) l L → StrsAre l L
  | _, _, .nil => .nil
  | _, _, .cons ⟨t, h⟩ r => by
    subst h
    exact .cons _ t (strs_of_paired r)
section
variable {P : Program} {w : World} {A : Around} {E : Value → Shared → Prop} {s : Shared}
theorem sorted_txts {a : Addr} {L : List Str} {Q : Value → Shared → Prop} (R : TxtSet w s.heap a L) (hh : A.handled = none) (h64 : L.length < 64)
    (hQ : ∀ s' p (out : Array Value) (c : Nat) (ys : List Str), (∀ b o, s.heap.get? b = some o → s'.heap.get? b = some o) → s'.gens = s.gens → s'.os = s.os → s.heap.objs.size ≤ p →
      s'.heap.get? p = some (seqObj "list" out c) → StrsAre out.toList ys → ys.Perm L → sortedS ys = true → Q (.ref p) s') : wpAny (model P w) A (call (.builtin "sorted") [.ref a]) Q E s := by
  obtain ⟨o, es, ep, t, ho, hex, hd, pr, nd, hb, hf, hr, hl⟩ := R
  refine Calls.call_function_entry kind_sorted plain_sorted entry_sorted (args_sorted1 _) ?_
  unfold Builtin.«sorted»
  refine wpAny_bind (m := checkCount "sorted" 1 1 _) (wpAny_pure ?_)
  refine wpAny_bind (collect_set (A := A.in1) hh ⟨o, ho, hex.1, hd⟩ hf hb hr hl ?_)
  intro s1 vs k1 hz g1 o1 pm
  obtain ⟨L1, q1, q2⟩ := paired_perm pm (strs_of_mem pr)
  have hS := strs_of_paired q1
  have hvl : vs.length = L.length := by rw [q1.length, q2.length_eq]
  refine wpAny_bind (wpAny_newList ?_ (by rw [hvl, sizeLine_eq]; omega))
  have hoL : (s1.heap.push (seqObj "list" vs.toArray 0)).get? s1.heap.objs.size = some (seqObj "list" vs.toArray 0) := Heap.get?_push_size _ rfl
  refine wpAny_bind (wpAny_holding (wpAny_call_entry slot_list_sort ⟨_, hoL, rfl⟩ entry_list_sort (list_sort_treeK PyProof.Rows.strKind_oneLt hoL hS.keysOf (fun v₁ v₂ rest e => keyKind_strs (by rw [← e]; exact hS)) (by rw [hvl]; exact h64) ?_) (args_list_sort _)))
  intro st' hp hs
  obtain ⟨ys, a1, a2, a3⟩ := sorted_out_str hS hp hs
  generalize (arrOf st').map (·.2) = out at a1
  refine ⟨_, rfl, ?_⟩
  obtain ⟨c, hc⟩ := sortedHeap_at (vs := vs) (out := out) hoL
  refine wpAny_pure ⟨_, rfl, hQ _ s1.heap.objs.size out c ys ?_ g1 o1 hz hc a1 (a2.trans q2) a3⟩
  intro b u e
  have q := k1 b u e
  have lt := Heap.lt_size q
  show (sortedHeap (s1.heap.push (seqObj "list" vs.toArray 0)) s1.heap.objs.size vs out).get? b = some u
  rw [sortedHeap_old (Nat.ne_of_lt lt) (by rw [size_push']; exact Nat.lt_succ_of_lt lt)]
  exact Heap.get?_push_of_some _ q
end
/-- a set of texts as a thing of the abstract heap -/
def SetSO (w : World) (a : Addr) (L : List Str) : HO := .ext fun h => TxtSet w h a L
theorem setSO_ok {P : Program} {w : World} {H : Hp} {h : Heap} {a : Addr} {L : List Str} (R : TxtSet w h a L) : ObjOk P w H h a (SetSO w a L) := by
  refine ⟨R, ?_, fun h1 h2 r k => r.at k⟩
  obtain ⟨o, _, _, _, ho, _⟩ := R
  exact ⟨o, ho⟩
section
variable {X : Cx}
def rSetS (K : PySem.W.Frag) (w : World) : List V → Hp → VK → Prop := fun vs H Q => ∃ (l : Addr) (xs : List Str), vs = [.ref l] ∧ SqL K H l (xs.map V.str) ∧ xs.length ≤ 1000 ∧
  ∀ a L, H a = none → L.length ≤ xs.length → (∀ x, x ∈ L ↔ x ∈ xs) → Q (.ref a) (upd H a (SetSO w a L))
theorem cr_setS (hc : X.calm = true) : CallR X (.type "set") (rSetS X.K X.w) := by
  intro pins s σ H vs us Q I r h
  obtain ⟨l, xs, rfl, hl, hn, q⟩ := h
  obtain ⟨its, rv, hp, _⟩ := I.list hl
  rw [Vals.ref1 r]
  refine call_set_txts xs (I.ok.hd hc) hp.isList (by simpa using rv.strs) (by unfold scanBound; omega) ?_
  intro h' tk L hS g k
  have hf : H s.heap.objs.size = none := I.hok.fresh (Nat.le_refl _)
  refine ⟨.ref s.heap.objs.size, _, I.laid (t' := tk) (o := SetSO X.w s.heap.objs.size L) k (Nat.le_refl _) (setSO_ok hS), rfl, q _ L hf g.1 ?_⟩
  intro x
  have := g.2 x
  rwa [List.take_length] at this
def rSortedSS (w : World) : List V → Hp → VK → Prop := fun vs H Q => ∃ (a : Addr) (L : List Str), vs = [.ref a] ∧ H a = some (SetSO w a L) ∧ L.length < 64 ∧
  ∀ (ys : List Str) (p : Addr), ys.Perm L → L.Nodup → sortedS ys = true → H p = none → Q (.ref p) (upd H p (.lst (ys.map V.str)))
theorem cr_sortedSS (hc : X.calm = true) : CallR X (.builtin "sorted") (rSortedSS X.w) := by
  intro pins s σ H vs us Q I r h
  obtain ⟨a, L, rfl, ha, h64, q⟩ := h
  have R : TxtSet X.w s.heap a L := (I.hok a _ ha).1
  have nd : L.Nodup := by
    obtain ⟨_, _, _, _, _, _, _, _, nd, _⟩ := R
    exact nd
  rw [Vals.ref1 r]
  refine sorted_txts R (I.ok.hd hc) h64 ?_
  intro s' p out c ys k g o hp hg hi pm hs
  have hlen : (ys.map V.str).length ≤ sizeLine := by rw [List.length_map, pm.length_eq, sizeLine_eq]; omega
  have hn : H p = none := I.hok.fresh hp
  have J : Inv X pins σ (upd H p (.lst (ys.map V.str))) { s with heap := s'.heap, gens := s'.gens, drawn := s'.drawn, toks := s'.toks } :=
    I.call (ch := []) (Un.laid k hp hn) (I.hok.laid k hp ⟨hlen, out.toList, c, vals_of_strs hi, hg⟩) (by rw [g]; exact I.bare) (fun _ z => nomatch z)
  have e : s' = { s with heap := s'.heap, gens := s'.gens, drawn := s'.drawn, toks := s'.toks } := by
    cases s'; cases s; cases o; rfl
  rw [e]
  exact ⟨.ref p, _, J, rfl, q ys p pm nd hs hn⟩
end
end Sw
set_option maxRecDepth 100000
set_option maxHeartbeats 4000000
namespace Sw
open PySem PySem.Spec PyProof.Rows L2
def LtS (a b : Str) : Prop := a.cps.toList < b.cps.toList
theorem LtS.trans {a b c : Str} (h1 : LtS a b) (h2 : LtS b c) : LtS a c := List.lt_trans h1 h2
theorem LtS.irr {a : Str} : ¬ LtS a a := List.lt_irrefl _
theorem LtS.tri {a b : Str} (h : ¬ LtS b a) (hne : a ≠ b) : LtS a b := by
  have h1 : a.cps.toList ≤ b.cps.toList := h
  rcases List.le_iff_lt_or_eq.mp h1 with h2 | h2
  · exact h2
  · exfalso
    apply hne
    cases a with
    | mk x =>
      cases b with
      | mk y =>
        have : x = y := by
          have := congrArg List.toArray h2
          simpa using this
        rw [this]
theorem rises_pw : ∀ zs : List Str, rises zs = true ↔ zs.Pairwise LtS
  | [] => by simp [rises]
  | [_] => by simp [rises]
  | a :: b :: r => by
    have ih := rises_pw (b :: r)
    rw [show rises (a :: b :: r) = (decide (a.cps.toList < b.cps.toList) && rises (b :: r)) from rfl, Bool.and_eq_true, decide_eq_true_eq, ih]
    constructor
    · rintro ⟨h1, h2⟩
      refine List.pairwise_cons.mpr ⟨fun x hx => ?_, h2⟩
      rcases List.mem_cons.mp hx with rfl | hx
      · exact h1
      · exact LtS.trans h1 ((List.pairwise_cons.mp h2).1 x hx)
    · intro h
      obtain ⟨h1, h2⟩ := List.pairwise_cons.mp h
      exact ⟨h1 b List.mem_cons_self, h2⟩
theorem sorted_pw : ∀ (p : Str) (r : List Str), risingS p r = true → (p :: r).Nodup → (p :: r).Pairwise LtS
  | p, [], _, _ => by simp
  | p, x :: r, h, nd => by
    have h' : (!ltCps x.cps.toList p.cps.toList && risingS x r) = true := h
    rw [Bool.and_eq_true, ltCps_eq] at h'
    obtain ⟨n1, n2⟩ := List.nodup_cons.mp nd
    have ih := sorted_pw x r h'.2 n2
    have hx : LtS p x := LtS.tri (fun z => by have z2 := h'.1; rw [decide_eq_true (show x.cps.toList < p.cps.toList from z)] at z2; cases z2) (fun e => n1 (by rw [e]; exact List.mem_cons_self))
    refine List.pairwise_cons.mpr ⟨fun y hy => ?_, ih⟩
    rcases List.mem_cons.mp hy with rfl | hy
    · exact hx
    · exact LtS.trans hx ((List.pairwise_cons.mp ih).1 y hy)
theorem pw_unique : ∀ {ys zs : List Str}, ys.Pairwise LtS → zs.Pairwise LtS → (∀ x, x ∈ ys ↔ x ∈ zs) → ys = zs
  | [], [], _, _, _ => rfl
  | [], z :: zs, _, _, h => absurd ((h z).mpr List.mem_cons_self) List.not_mem_nil
  | y :: ys, [], _, _, h => absurd ((h y).mp List.mem_cons_self) List.not_mem_nil
  | y :: ys, z :: zs, h1, h2, h => by
    obtain ⟨a1, a2⟩ := List.pairwise_cons.mp h1
    obtain ⟨b1, b2⟩ := List.pairwise_cons.mp h2
    have e : y = z := by
      rcases List.mem_cons.mp ((h y).mp List.mem_cons_self) with e | m1
      · exact e
      · rcases List.mem_cons.mp ((h z).mpr List.mem_cons_self) with e | m2
        · exact e.symm
        · exact absurd ((b1 y m1).trans (a1 z m2)) LtS.irr
    subst e
    rw [pw_unique a2 b2]
    intro x
    constructor
    · intro hx
      rcases List.mem_cons.mp ((h x).mp (List.mem_cons_of_mem _ hx)) with e | m
      · subst e
        exact absurd (a1 x hx) LtS.irr
      · exact m
    · intro hx
      rcases List.mem_cons.mp ((h x).mpr (List.mem_cons_of_mem _ hx)) with e | m
      · subst e
        exact absurd (b1 x hx) LtS.irr
      · exact m
theorem eqvAll_strs : ∀ ys zs : List Str, PyData.eqvAll (ys.map .str) (zs.map .str) = decide (ys = zs)
  | [], [] => by simp [PyData.eqvAll]
  | [], _ :: _ => by simp [PyData.eqvAll]
  | _ :: _, [] => by simp [PyData.eqvAll]
  | y :: ys, z :: zs => by
    simp only [List.map_cons, PyData.eqvAll, PyData.eqv, eqvAll_strs ys zs]
    by_cases h1 : y = z <;> by_cases h2 : ys = zs <;> simp [h1, h2]
theorem eqv_strs (ys zs : List Str) : PyData.eqv (.list (ys.map .str)) (.list (zs.map .str)) = decide (ys = zs) := by
  simp only [PyData.eqv, eqvAll_strs]
theorem sorted_set_is {ys L zs : List Str} (pm : ys.Perm L) (nd : L.Nodup) (hs : sortedS ys = true) (hm : ∀ x, x ∈ L ↔ x ∈ zs) : decide (ys = zs) = rises zs := by
  have ndy : ys.Nodup := pm.nodup_iff.mpr nd
  have py : ys.Pairwise LtS := by
    cases ys with
    | nil => exact .nil
    | cons p r => exact sorted_pw p r hs ndy
  by_cases h : rises zs = true
  · rw [h, decide_eq_true_eq]
    exact pw_unique py ((rises_pw zs).mp h) fun x => by rw [pm.mem_iff, hm]
  · have h' : rises zs = false := by simpa using h
    rw [h', decide_eq_false_iff_not]
    intro e
    subst e
    exact h ((rises_pw _).mpr py)
end Sw
set_option maxRecDepth 100000
set_option maxHeartbeats 4000000
namespace Sw
open PySem PySem.Spec PyProof.Rows L2
/-- x is not True, x is not False, x an int or a bool -/
def rNotB2 : R2 := fun x y H Q => ∃ b : Bool, y = .bl b ∧ ((∃ i, x = .int i ∧ Q (.bl true) H) ∨ ∃ a, x = .bl a ∧ Q (.bl (!decide (a = b))) H)
theorem op_notB2 {X : Cx} : OpR X (compareOp .IsNot) rNotB2 := by
  intro pins s σ H x y v u Q I rx ry h
  obtain ⟨b, rfl, h⟩ := h
  cases (show u = Value.bool b from ry)
  rcases h with ⟨i, rfl, q⟩ | ⟨a, rfl, q⟩
  · obtain ⟨t, rfl⟩ := rx
    exact wpAny_isNot_other rfl (fun z => by cases z) ⟨.bl true, H, I, rfl, q⟩
  · cases (show v = Value.bool a from rx)
    by_cases e : a = b
    · subst e
      exact wpAny_isNot_self rfl ⟨.bl false, H, I, rfl, by simpa using q⟩
    · exact wpAny_isNot_other rfl (fun z => e (Value.bool.inj z)) ⟨.bl true, H, I, rfl, by simpa [e] using q⟩
section
variable {P : Program} {w : World} {K : PySem.W.Frag} {mg : Str → Option Value} {base : Heap}
/-- the signs that spoil a word -/
def bad (z : Str) : List Nat := z.cps.toList.filter fun c => !okSign c
theorem bad_nil (z : Str) : (bad z).isEmpty = z.cps.toList.all okSign := by
  unfold bad
  generalize z.cps.toList = l
  induction l with
  | nil => rfl
  | cons c l ih =>
    by_cases h : okSign c = true
    · simp [h, ← ih]
    · have h' : okSign c = false := by simpa using h
      simp [h']
theorem filter_signs {z : Str} : ((List.range z.cps.size).filter fun i => !okSign (z.cps.toList.getD i 0)).map (fun i => V.str ⟨#[z.cps.toList.getD i 0]⟩) = ((bad z).map fun c => (⟨#[c]⟩ : Str)).map V.str := by
  unfold bad
  have e : z.cps.toList = (List.range z.cps.size).map fun i => z.cps.toList.getD i 0 := by
    apply List.ext_getElem?
    intro i
    simp only [List.getElem?_map]
    by_cases h : i < z.cps.size
    · rw [List.getElem?_range h, List.getElem?_eq_getElem (by simpa using h)]
      simp [List.getD, List.getElem?_eq_getElem, h]
    · rw [List.getElem?_eq_none (by simpa using h), List.getElem?_eq_none (by simpa using h)]
      rfl
  conv => rhs; rw [e]
  rw [List.filter_map, List.map_map, List.map_map]
  rfl
theorem eqv_nil_list (xs : List PyData) : PyData.eqv (.list xs) (.list []) = xs.isEmpty := by
  cases xs <;> simp [PyData.eqv, PyData.eqvAll]
theorem eqv_nil_tup (xs : List PyData) : PyData.eqv (.tuple xs) (.tuple []) = xs.isEmpty := by
  cases xs <;> simp [PyData.eqv, PyData.eqvAll]
theorem strs_shaped {zs : List Str} (h : ∀ z ∈ zs, ∀ c ∈ z.cps.toList, c < 128) : SeqAt.shaped (.list (zs.map PyData.str)) = true := by
  have hf : leaf 0 (.list (zs.map PyData.str)) = true := by
    simp only [leaf]
    refine leafAll_iff.mpr fun x hx => ?_
    obtain ⟨z, hz, rfl⟩ := List.mem_map.mp hx
    exact leaf_str.mpr (h z hz)
  unfold SeqAt.shaped
  rw [leaf_canLay _ hf, Bool.true_and, decide_eq_true_eq]
  have : (PyData.list (zs.map PyData.str)).depth ≤ 0 + 1 := depth_list.mpr fun x hx => by
    obtain ⟨z, _, rfl⟩ := List.mem_map.mp hx
    simp [PyData.depth]
  omega
theorem nil_shaped : SeqAt.shaped (.list []) = true := by decide +kernel
theorem nilT_shaped : SeqAt.shaped (.tuple []) = true := by decide +kernel
theorem bad_sign (c : Nat) : (decide ((c : Int) < 97) || decide ((c : Int) > 122)) = !okSign c := by
  unfold okSign
  by_cases h1 : 97 ≤ c <;> by_cases h2 : c ≤ 122 <;> simp [h1, h2] <;> omega
end
end Sw
set_option maxRecDepth 100000
set_option maxHeartbeats 4000000
namespace Sw
open PySem PySem.Spec PyProof.Rows L2
section
variable {P : Program} {w : World} {K : PySem.W.Frag} {mg : Str → Option Value} {base : Heap}
/-- pairs whose first things are words -/
def dWp : PyData → Bool
  | .tuple [a, _] => dWord a
  | _ => false
def dPairs : PyData → Bool
  | .tuple ds => !ds.isEmpty && ds.all dWp && rises (ds.map fstS)
  | _ => false
theorem wp_parts {K : PySem.W.Frag} {H : Hp} {v : V} {d : PyData} (h : Dp K H v d) (o : dWp d = true) : ∃ (p : Addr) (z : Str) (v1 : V) (e : PyData), v = .ref p ∧ SqT K H p [.str z, v1] ∧ Dp K H v1 e ∧ fstS d = z ∧ d = .tuple [.str z, e] := by
  unfold dWp at o
  split at o
  · rename_i a b
    cases a with
    | str z =>
      cases h with
      | tup hs r =>
        cases r with
        | cons h0 r =>
          cases r with
          | cons h1 r =>
            cases r
            cases h0
            exact ⟨_, z, _, _, rfl, hs, h1, rfl, rfl⟩
    | _ => simp [dWord] at o
  · cases o
theorem isEmpty_len {α β : Type} {l : List α} {m : List β} (h : l.length = m.length) : l.isEmpty = m.isEmpty := by
  cases l <;> cases m <;> simp at h ⊢
theorem filter_none {α : Type} (l : List α) (p : α → Bool) : (l.filter fun x => !p x).isEmpty = l.all p := by
  induction l with
  | nil => rfl
  | cons c l ih =>
    by_cases h : p c = true
    · simp [h, ← ih]
    · have h' : p c = false := by simpa using h
      simp [h']
theorem range_filter_all {ds : List PyData} (p : PyData → Bool) : ((List.range ds.length).filter fun i => !p (ds.getD i .none)).isEmpty = ds.all p := by
  rw [filter_none]
  have e : ds = (List.range ds.length).map fun i => ds.getD i .none := by
    apply List.ext_getElem?
    intro i
    simp only [List.getElem?_map]
    by_cases h : i < ds.length
    · rw [List.getElem?_range h, List.getElem?_eq_getElem h]
      simp [List.getD, h]
    · rw [List.getElem?_eq_none (by omega), List.getElem?_eq_none (by simp; omega)]
      rfl
  conv => rhs; rw [e]
  rw [List.all_map]
  rfl
theorem fit_shaped {M l n B : Nat} {ds : List PyData} (h : ∀ d ∈ ds, Fit M l n B d) (hn : n ≤ 63) : SeqAt.shaped (.list ds) = true := by
  have hf : leaf M (.list ds) = true := by simp only [leaf]; exact leafAll_iff.mpr fun x hx => (h x hx).lf
  unfold SeqAt.shaped
  rw [leaf_canLay _ hf, Bool.true_and, decide_eq_true_eq]
  have : (PyData.list ds).depth ≤ n + 1 := depth_list.mpr fun x hx => (h x hx).dp
  omega
theorem obj_all : ∀ (ds : List PyData), ds.all dObj = true → ds.all dWp = true := by
  intro ds h
  refine List.all_eq_true.mpr fun d hd => ?_
  have o := List.all_eq_true.mp h d hd
  unfold dObj at o
  split at o
  · rw [Bool.and_eq_true] at o
    exact o.1
  · cases o
end
end Sw
set_option maxRecDepth 100000
set_option maxHeartbeats 4000000
namespace Sw
open PySem PySem.Spec PyProof.Rows L2
/-! ### a heap without one place -/
def del (H : Hp) (p : Addr) : Hp := fun c => if c = p then none else H c
theorem del_some {H : Hp} {p c : Addr} {o : HO} (h : H c = some o) (hc : c ≠ p) : del H p c = some o := by unfold del; rw [if_neg hc]; exact h
theorem of_del {H : Hp} {p c : Addr} {o : HO} (h : del H p c = some o) : H c = some o ∧ c ≠ p := by
  unfold del at h
  by_cases hc : c = p
  · rw [if_pos hc] at h; cases h
  · rw [if_neg hc] at h; exact ⟨h, hc⟩
theorem del_same (H : Hp) (p : Addr) : Same (del H p) H := fun c o h => (of_del h).1
theorem same_del {H H' : Hp} {p : Addr} (h : Same H H') : Same (del H p) (del H' p) := fun c o e => del_some (h _ _ (of_del e).1) (of_del e).2
theorem del_upd {H : Hp} {p : Addr} {o : HO} : Same (del H p) (del (upd H p o) p) := fun c u e => del_some (by rw [upd_ne (of_del e).2]; exact (of_del e).1) (of_del e).2
theorem del_new {H : Hp} {p a : Addr} {o : HO} (ha : H a = none) : Same (del H p) (del (upd H a o) p) := same_del (same_new ha)
theorem new_del {H : Hp} {p a : Addr} {o u : HO} (hp : H p = some u) (ha : H a = none) : del (upd H a o) p a = some o := del_some upd_same (fun e => by rw [e, hp] at ha; cases ha)
/-! ### what the draws stand on -/
structure FeedAt (H : Hp) (p fq : Addr) (b : Nat) : Prop where
  ex : ∃ (ns : List Int) (kvs : List (Key × V)) (i j k : Int), H p = some (.dK kvs) ∧ H fq = some (.lst (ns.map V.int)) ∧ p ≠ fq ∧ kvs.length ≤ 4 ∧ valV kvs (Sum.inr "cells") = some (.ref fq) ∧ valV kvs (Sum.inr "at") = some (.int i) ∧ valV kvs (Sum.inr "left") = some (.int j) ∧ valV kvs (Sum.inr "turn") = some (.int k) ∧ 0 ≤ i ∧ 0 ≤ j ∧ 0 ≤ k ∧ k ≤ (b : Int) ∧ ns.length ≤ 63
theorem FeedAt.there {H : Hp} {p fq : Addr} {b : Nat} (h : FeedAt H p fq b) : ∃ u, H p = some u := by
  obtain ⟨ns, kvs, i, j, k, hp, _⟩ := h.ex
  exact ⟨_, hp⟩
theorem FeedAt.mono {H : Hp} {p fq : Addr} {b c : Nat} (h : FeedAt H p fq b) (hb : b ≤ c) : FeedAt H p fq c := by
  obtain ⟨ns, kvs, i, j, k, h1, h2, h3, h4, h5, h6, h7, h8, h9, h10, h11, h12, h13⟩ := h.ex
  exact ⟨ns, kvs, i, j, k, h1, h2, h3, h4, h5, h6, h7, h8, h9, h10, h11, by omega, h13⟩
theorem FeedAt.same {H H' : Hp} {p fq : Addr} {b : Nat} (h : FeedAt H p fq b) (s : Same H H') : FeedAt H' p fq b := by
  obtain ⟨ns, kvs, i, j, k, h1, h2, h3⟩ := h.ex
  exact ⟨ns, kvs, i, j, k, s _ _ h1, s _ _ h2, h3⟩
/-- another list changes -/
theorem FeedAt.upd {H : Hp} {p fq a : Addr} {b : Nat} {o : HO} (h : FeedAt H p fq b) (h1 : a ≠ p) (h2 : a ≠ fq) : FeedAt (upd H a o) p fq b := by
  obtain ⟨ns, kvs, i, j, k, g1, g2, g3⟩ := h.ex
  exact ⟨ns, kvs, i, j, k, by rw [upd_ne (Ne.symm h1)]; exact g1, by rw [upd_ne (Ne.symm h2)]; exact g2, g3⟩
theorem FeedAt.ne {H : Hp} {p fq a : Addr} {b : Nat} (h : FeedAt H p fq b) (ha : H a = none) : a ≠ p ∧ a ≠ fq := by
  obtain ⟨ns, kvs, i, j, k, g1, g2, g3⟩ := h.ex
  exact ⟨Ne.symm (ne_of_none g1 ha), Ne.symm (ne_of_none g2 ha)⟩
theorem putK_there {kvs : List (Key × V)} {k : Key} {v x : V} (h : valV kvs k = some x) : (putK kvs k v).length = kvs.length := by
  unfold putK
  rw [valV_any, h]
  simp
/-- xs[i], for xs[i] += e -/
theorem get_list {X : Cx} : PGet X (fun o i H Q => ∃ p xs k v, o = .ref p ∧ i = .int k ∧ 0 ≤ k ∧ SqL X.K H p xs ∧ xs[k.toNat]? = some v ∧ Q v H) := by
  intro pins s σ H o i ov iv Q I ro ri h
  obtain ⟨p, xs, k, v, rfl, rfl, h0, hq, he, q⟩ := h
  cases ro
  obtain ⟨t, rfl⟩ := ri
  obtain ⟨its, r, pl, hz⟩ := I.list hq
  obtain ⟨u, eu, ru⟩ := r.get he
  have hl := (List.getElem?_eq_some_iff.mp he).1
  have hn := line63
  exact wpAny_getItem_list pl.isList h0 (by omega) (by simpa using eu) ⟨v, H, I, ru, q⟩
theorem ints_shaped (ns : List Int) : SeqAt.shaped (.list (ns.map PyData.int)) = true := by
  have hf : PyData.canLayAll0 (ns.map PyData.int) = true := by
    induction ns with
    | nil => simp [PyData.canLayAll0]
    | cons n ns ih => simp [PyData.canLayAll0, PyData.canLay0, ih]
  unfold SeqAt.shaped
  rw [show (PyData.list (ns.map PyData.int)).canLay0 = true by simpa [PyData.canLay0] using hf, Bool.true_and, decide_eq_true_eq]
  have : (PyData.list (ns.map PyData.int)).depth ≤ 0 + 1 := depth_list.mpr fun x hx => by
    obtain ⟨z, _, rfl⟩ := List.mem_map.mp hx
    simp [PyData.depth]
  omega
theorem DpAll_ints {K : PySem.W.Frag} {H : Hp} : ∀ ns : List Int, DpAll K H (ns.map V.int) (ns.map PyData.int)
  | [] => .nil
  | n :: ns => .cons (.int n) (DpAll_ints ns)
theorem md {x A : Int} (h : 0 < A) (hA : A ≤ 4294967296) : -(2 ^ 64) < x % A ∧ x % A < 2 ^ 64 := by
  have h1 := Int.emod_nonneg x (by omega : A ≠ 0)
  have h2 := Int.emod_lt_of_pos x h
  constructor <;> omega
theorem powIn {i : Int} (h0 : 0 ≤ i) (h1 : i < 18446744073709551616) : CPow i 5 := by
  refine ⟨by decide, by decide, ?_⟩
  have : (2 : Nat) ^ 64 = 18446744073709551616 := by decide
  omega
section
variable {P : Program} {w : World} {K : PySem.W.Frag} {mg : Str → Option Value} {base : Heap}
def spDraw : Sp := fun vs H Q _ => ∃ (p fq : Addr) (m : Int) (b : Nat), vs = [.ref p, .int m] ∧ FeedAt H p fq b ∧ b ≤ 100000000 ∧ 1 ≤ m ∧ m ≤ 1000000 ∧
  ∀ (r : Int) (H' : Hp), 0 ≤ r → r < m → Same (del H p) (del H' p) → FeedAt H' p fq (b + 1) → Q (.int r) H'
theorem sc_draw : FnScope ["_law_feed_here", "_law_many", "_law_found", "_law_at", "_law_turn", "_law_cells", "_law_cell", "_law_mixed"] ["_law_feed_here", "_law_many"] (defScope (topS 15)) := ⟨rfl, rfl, rfl, by decide +kernel, rfl, by decide +kernel, by decide +kernel⟩
theorem ok_draw {f : Addr} {fd : FuncData} (D : Df K mg "_law_draw" (topS 15) ["_law_feed_here", "_law_many"] f fd) (B : Bt mg) : FnOk P w K mg base CX0 1 f fd ["_law_feed_here", "_law_many"] spDraw := by
  refine D.fn.ok sc_draw (fun vs H Q E h => ?_) (fun cdv A outer s H vs Q E hr h => ?_)
  · obtain ⟨p, qa, m, b, rfl, _⟩ := h
    rfl
  obtain ⟨p, fq, m, b, rfl, hF, hb, hm1, hm2, q⟩ := h
  obtain ⟨ns, kvs, i, j, k, hp, hq, hne, hkl, vc, va, vl, vt, hi, hj, hk, hkb, hn⟩ := hF.ex
  have hu := hr.units
  have hu1 : (A.deeper (envOfC "_law_draw" (defScope (topS 15)) s.heap.objs.size f cdv)).units + 1 < cLine := by omega
  have nd := sc_draw.nd
  refine ⟨_, pss_cons (ps_dput hu1 (pv 0) pe_str (pe_op op_add (pe_dget hu1 (pv 0) pe_str (fun _ _ => rfl)) pe_int) rfl)
    (pss_cons (ps_if (pt_cmpR op_gt (pe_dget hu1 (pv 0) pe_str (fun _ _ => rfl)) pe_int (nomark _))
      (pss_cons (ps_set (i := 2) nd rfl (Or.inl rfl) (pe_op op_mod (pe_dget hu1 (pv 0) pe_str (fun _ _ => rfl)) (pv 1)))
      (pss_cons (ps_dput hu1 (pv 0) pe_str (pe_op op_fdiv (pe_dget hu1 (pv 0) pe_str (fun _ _ => rfl)) (pv 1)) rfl)
      (pss_one (ps_ret (pv 2))))) pss_nil)
    (pss_cons (ps_par3 (i := 3) (j := 4) (l := 5) rfl nd rfl rfl rfl (by decide) (by decide) (by decide) rfl rfl rfl (pa_cons (pe_dget hu1 (pv 0) pe_str (fun _ _ => rfl)) (pa_cons (pe_dget hu1 (pv 0) pe_str (fun _ _ => rfl)) (pa_cons (pe_dget hu1 (pv 0) pe_str (fun _ _ => rfl)) pa_nil))) (by rfl))
    (pss_cons (ps_dput hu1 (pv 0) pe_str (pe_op op_add (pv 3) pe_int) rfl)
    (C8.pss_cut (ps_set (i := 6) nd rfl (Or.inl rfl) (pe_ifExp (pt_cmpR (op_neD hu) (pv 5) (pe_lst pa_nil) (nomark _)) (pe_ix ix_list (pv 5) (pe_op op_mod (pv 3) (pe_callB call_len_seq (by rfl) B.len PySem.boot_len (pa_cons (pv 5) pa_nil))) (fun _ _ => rfl)) pe_int))
    (C8.pss_cut (ps_if (PW.pt (pw_and (pt_cmpR op_ge (pv 6) (pe_op op_pow pe_int pe_int) (nomark _)) (pw_and1 (pt_cmpR op_lt (pv 3) (pe_callB call_len_seq (by rfl) B.len PySem.boot_len (pa_cons (pv 5) pa_nil)) (nomark _)))))
      (pss_cons (ps_dput hu1 (pv 0) pe_str (pe_op op_fdiv (pv 6) (pv 1)) rfl)
      (pss_one (ps_ret (pe_op op_mod (pv 6) (pv 1))))) pss_nil)
    (pss_cons (ps_set (i := 7) nd rfl (Or.inl rfl) (pe_op op_mod (pe_op op_pow (pe_op op_add (pe_op op_add (pe_op op_mod (pv 6) pe_int) (pe_op op_mul (pe_op op_mul pe_int (pv 4)) (pv 4))) pe_int) pe_int) pe_int))
    (pss_one (ps_ret (pe_op op_mod (pe_op op_fdiv (pe_op op_mod (pe_op op_pow (pe_op op_add (pv 7) (pe_op op_mul pe_int (pv 4))) pe_int) pe_int) pe_int) (pv 1)))))))))), ?_⟩
  clear D B hr hu hu1 nd
  have kne : ∀ {x y : Str}, x ≠ y → ¬ (Sum.inr y : Key) = Sum.inr x := fun h e => h (Sum.inr.inj e).symm
  have dg : ∀ {G : Hp} {kv : List (Key × V)} {z : Str} {v : V}, G p = some (.dK kv) → valV kv (Sum.inr z) = some v → DGet G p (.str z) (some v) := fun {G kv z v} h e => by
    have := DGet.k (k := Sum.inr z) h
    rw [e] at this
    exact this
  have cA : ("cells" : Str) ≠ ("at" : Str) := by decide +kernel
  have cL : ("cells" : Str) ≠ ("left" : Str) := by decide +kernel
  have cT : ("cells" : Str) ≠ ("turn" : Str) := by decide +kernel
  have aL : ("at" : Str) ≠ ("left" : Str) := by decide +kernel
  have aT : ("at" : Str) ≠ ("turn" : Str) := by decide +kernel
  have lT : ("left" : Str) ≠ ("turn" : Str) := by decide +kernel
  -- feed["turn"] += 1
  refine ⟨_, rfl, p, _, rfl, dg hp vt, k, 1, rfl, rfl, _, rfl, p, _, rfl, DPut.k (k := Sum.inr "turn") hp (small1000 (by omega)), ?_⟩
  generalize hH1 : upd H p (HO.dK (putK kvs (Sum.inr "turn") (V.int (k + 1)))) = H1
  have hl1 : (putK kvs (Sum.inr "turn") (V.int (k + 1))).length ≤ 4 := by rw [putK_there vt]; exact hkl
  have vc1 : valV (putK kvs (Sum.inr "turn") (V.int (k + 1))) (Sum.inr "cells") = some (.ref fq) := by rw [valV_put, if_neg (kne (Ne.symm cT))]; exact vc
  have va1 : valV (putK kvs (Sum.inr "turn") (V.int (k + 1))) (Sum.inr "at") = some (.int i) := by rw [valV_put, if_neg (kne (Ne.symm aT))]; exact va
  have vl1 : valV (putK kvs (Sum.inr "turn") (V.int (k + 1))) (Sum.inr "left") = some (.int j) := by rw [valV_put, if_neg (kne (Ne.symm lT))]; exact vl
  have vt1 : valV (putK kvs (Sum.inr "turn") (V.int (k + 1))) (Sum.inr "turn") = some (.int (k + 1)) := by rw [valV_put, if_pos rfl]
  have hp1 : H1 p = some (.dK (putK kvs (Sum.inr "turn") (V.int (k + 1)))) := by rw [← hH1]; exact upd_same
  generalize putK kvs (Sum.inr "turn") (V.int (k + 1)) = kv1 at hl1 vc1 va1 vl1 vt1 hp1 hH1
  have hq1 : H1 fq = some (.lst (ns.map V.int)) := by rw [← hH1, upd_ne (Ne.symm hne)]; exact hq
  have d1 : Same (del H p) (del H1 p) := by rw [← hH1]; exact del_upd
  clear hH1 hkl vc va vl vt hp hq
  -- if feed["left"] > 0
  refine ⟨_, rfl, p, _, rfl, dg hp1 vl1, j, 0, rfl, rfl, _, rfl, ?_⟩
  refine ite2 (fun c => ?_) (fun c => ?_)
  · refine ⟨_, rfl, p, _, rfl, dg hp1 vl1, _, rfl, j, m, rfl, rfl, (by show (0 : Int) < m; omega), ?_⟩
    refine ⟨_, rfl, p, _, rfl, dg hp1 vl1, _, rfl, j, m, rfl, rfl, ⟨by omega, by omega⟩, _, rfl, p, _, rfl, DPut.k (k := Sum.inr "left") hp1 (small1000 (by omega)), ?_⟩
    refine ⟨_, rfl, q _ _ (Int.emod_nonneg _ (by omega)) (Int.emod_lt_of_pos _ (by omega)) (d1.trans del_upd) ⟨ns, _, i, j / m, k + 1, upd_same, ?_, hne, by rw [putK_there vl1]; exact hl1, ?_, ?_, ?_, ?_, hi, Int.ediv_nonneg hj (by omega), by omega, by omega, hn⟩⟩
    · rw [upd_ne (Ne.symm hne)]
      exact hq1
    · rw [valV_put, if_neg (kne (Ne.symm cL))]; exact vc1
    · rw [valV_put, if_neg (kne (Ne.symm aL))]; exact va1
    · rw [valV_put, if_pos rfl]
    · rw [valV_put, if_neg (kne lT)]; exact vt1
  -- at, turn, cells
  refine ⟨_, rfl, p, _, rfl, dg hp1 va1, _, rfl, p, _, rfl, dg hp1 vt1, _, rfl, p, _, rfl, dg hp1 vc1, _, _, _, rfl, ?_⟩
  refine ⟨_, rfl, i, 1, rfl, rfl, _, rfl, p, _, rfl, DPut.k (k := Sum.inr "at") hp1 (small1000 (by omega)), ?_⟩
  generalize hH2 : upd H1 p (HO.dK (putK kv1 (Sum.inr "at") (V.int (i + 1)))) = H2
  have hl2 : (putK kv1 (Sum.inr "at") (V.int (i + 1))).length ≤ 4 := by rw [putK_there va1]; exact hl1
  have vc2 : valV (putK kv1 (Sum.inr "at") (V.int (i + 1))) (Sum.inr "cells") = some (.ref fq) := by rw [valV_put, if_neg (kne (Ne.symm cA))]; exact vc1
  have va2 : valV (putK kv1 (Sum.inr "at") (V.int (i + 1))) (Sum.inr "at") = some (.int (i + 1)) := by rw [valV_put, if_pos rfl]
  have vl2 : valV (putK kv1 (Sum.inr "at") (V.int (i + 1))) (Sum.inr "left") = some (.int j) := by rw [valV_put, if_neg (kne aL)]; exact vl1
  have vt2 : valV (putK kv1 (Sum.inr "at") (V.int (i + 1))) (Sum.inr "turn") = some (.int (k + 1)) := by rw [valV_put, if_neg (kne aT)]; exact vt1
  have hp2 : H2 p = some (.dK (putK kv1 (Sum.inr "at") (V.int (i + 1)))) := by rw [← hH2]; exact upd_same
  generalize putK kv1 (Sum.inr "at") (V.int (i + 1)) = kv2 at hl2 vc2 va2 vl2 vt2 hp2 hH2
  have hq2 : H2 fq = some (.lst (ns.map V.int)) := by rw [← hH2, upd_ne (Ne.symm hne)]; exact hq1
  have d2 : Same (del H p) (del H2 p) := by rw [← hH2]; exact d1.trans del_upd
  clear hH2 hl1 vc1 va1 vl1 vt1 hp1 hq1 d1
  -- the cell
  refine ⟨fun σ H' => ∃ cell : Int, σ = [some (.ref p), some (.int m), none, some (.int i), some (.int (k + 1)), some (.ref fq), some (.int cell), none] ∧ Same (del H p) (del H' p) ∧ H' p = some (.dK kv2) ∧ H' fq = some (.lst (ns.map V.int)), ?_, ?_⟩
  · refine ⟨_, rfl, Nat.zero_le _, fun N hN => ?_⟩
    have sN : Same H2 (upd H2 N (.lst [])) := same_new hN
    refine ⟨.list (ns.map PyData.int), .list [], .lst (SqL.of (sN _ _ hq2)) (DpAll_ints _), .lst (SqL.of upd_same) .nil, ints_shaped _, nil_shaped, _, rfl, ?_⟩
    have d3 : Same (del H p) (del (upd H2 N (.lst [])) p) := d2.trans (same_del sN)
    have hp3 := sN _ _ hp2
    have hq3 := sN _ _ hq2
    generalize upd H2 N (.lst []) = H3 at d3 hp3 hq3
    rw [eqv_nil_list]
    refine ite2 (fun c2 => ?_) (fun c2 => ?_)
    · have hne0 : ns.length ≠ 0 := fun e => by
        rw [List.eq_nil_of_length_eq_zero e] at c2
        simp at c2
      have hml : (ns.map V.int).length = ns.length := List.length_map _
      have e1 : 0 ≤ i % ((ns.map V.int).length : Int) := Int.emod_nonneg _ (by rw [hml]; omega)
      have e2 : i % ((ns.map V.int).length : Int) < ((ns.map V.int).length : Int) := Int.emod_lt_of_pos _ (by rw [hml]; omega)
      obtain ⟨t, ht⟩ : ∃ t : Nat, i % ((ns.map V.int).length : Int) = (t : Int) := ⟨_, (Int.toNat_of_nonneg e1).symm⟩
      have ht2 : t < ns.length := by rw [ht, hml] at e2; omega
      have hat : atI (ns.map V.int) (i % ((ns.map V.int).length : Int)) = some (V.int ns[t]) := by
        rw [ht]
        exact atI_nat (by rw [List.getElem?_map, List.getElem?_eq_getElem ht2]; rfl)
      refine ⟨_, rfl, _, rfl, _, rfl, fq, _, rfl, .inl (SqL.of hq3), i, _, rfl, rfl, (by show (0 : Int) < _; rw [hml]; omega), fq, _, _, _, rfl, rfl, SqL.of hq3, hat, ?_⟩
      exact ⟨_, rfl, d3, hp3, hq3⟩
    · exact ⟨_, rfl, d3, hp3, hq3⟩
  rintro σ H3 ⟨cell, rfl, d3, hp3, hq3⟩
  clear d2 hp2 hq2
  refine ⟨fun σ H' => σ = [some (.ref p), some (.int m), none, some (.int i), some (.int (k + 1)), some (.ref fq), some (.int cell), none] ∧ H' = H3, ?_, ?_⟩
  · refine ⟨_, rfl, 10, 18, rfl, rfl, ⟨by decide, by decide, by decide⟩, _, _, rfl, rfl, _, rfl, ?_⟩
    refine ite2 (fun c3 => ?_) (fun c3 => ?_)
    · have c4 := of_decide_eq_true c3
      refine ⟨_, rfl, _, rfl, fq, _, rfl, .inl (SqL.of hq3), _, _, rfl, rfl, _, rfl, ?_⟩
      refine ite2 (fun c5 => ?_) (fun c5 => ?_)
      · refine ⟨_, rfl, _, rfl, _, m, rfl, rfl, ⟨by omega, by omega⟩, _, rfl, p, _, rfl, DPut.k (k := Sum.inr "left") hp3 (small1000 (by omega)), ?_⟩
        refine ⟨_, rfl, _, rfl, _, m, rfl, rfl, (by show (0 : Int) < m; omega), ?_⟩
        refine q _ _ (Int.emod_nonneg _ (by omega)) (Int.emod_lt_of_pos _ (by omega)) (d3.trans del_upd) ⟨ns, _, i + 1, _, k + 1, upd_same, ?_, hne, by rw [putK_there vl2]; exact hl2, ?_, ?_, by rw [valV_put, if_pos rfl], ?_, by omega, Int.ediv_nonneg (Int.le_trans (by decide) c4) (by omega), by omega, by omega, hn⟩
        · rw [upd_ne (Ne.symm hne)]
          exact hq3
        · rw [valV_put, if_neg (kne (Ne.symm cL))]; exact vc2
        · rw [valV_put, if_neg (kne (Ne.symm aL))]; exact va2
        · rw [valV_put, if_neg (kne lT)]; exact vt2
      · exact ⟨rfl, rfl⟩
    · exact iteF ⟨rfl, rfl⟩
  rintro σ H4 ⟨rfl, rfl⟩
  have t1 : 0 ≤ cell % 2147482819 ∧ cell % 2147482819 < 2147482819 := ⟨Int.emod_nonneg _ (by decide), Int.emod_lt_of_pos _ (by decide)⟩
  have k1 : 0 ≤ k + 1 ∧ k + 1 ≤ 100000001 := by omega
  have tt : 0 ≤ 41 * (k + 1) * (k + 1) ∧ 41 * (k + 1) * (k + 1) ≤ 41 * 100000001 * 100000001 := by
    constructor
    · exact Int.mul_nonneg (Int.mul_nonneg (by decide) k1.1) k1.1
    · exact Int.mul_le_mul (Int.mul_le_mul (Int.le_refl _) k1.2 k1.1 (by decide)) k1.2 k1.1 (by decide)
  refine ⟨_, rfl, _, 2147482819, rfl, rfl, (by show (0 : Int) < 2147482819; decide), _, rfl, 41, k + 1, rfl, rfl, .inl ⟨by decide, by decide⟩, _, rfl, _, k + 1, rfl, rfl, .inr ⟨by omega, by omega⟩, _, _, rfl, rfl, _, 167, rfl, rfl, _, 5, rfl, rfl, powIn (by omega) (by omega), _, 2147482817, rfl, rfl, (by show (0 : Int) < 2147482817; decide), ?_⟩
  have t2 : 0 ≤ ((cell % 2147482819 + 41 * (k + 1) * (k + 1) + 167) ^ (5 : Int).toNat) % 2147482817 ∧ ((cell % 2147482819 + 41 * (k + 1) * (k + 1) + 167) ^ (5 : Int).toNat) % 2147482817 < 2147482817 := ⟨Int.emod_nonneg _ (by decide), Int.emod_lt_of_pos _ (by decide)⟩
  refine ⟨_, rfl, _, rfl, 65003, k + 1, rfl, rfl, .inl ⟨by decide, by decide⟩, _, _, rfl, rfl, _, 5, rfl, rfl, powIn (by omega) (by omega), _, 2147482811, rfl, rfl, (by show (0 : Int) < 2147482811; decide), _, 16, rfl, rfl, ⟨by decide, by decide⟩, _, rfl, _, m, rfl, rfl, by show (0 : Int) < m; omega, ?_⟩
  exact q _ _ (Int.emod_nonneg _ (by omega)) (Int.emod_lt_of_pos _ (by omega)) d3 ⟨ns, _, i + 1, j, k + 1, hp3, hq3, hne, hl2, vc2, va2, vl2, vt2, by omega, hj, by omega, by omega, hn⟩
end
end Sw
set_option maxRecDepth 100000
set_option maxHeartbeats 4000000
namespace Sw
open PySem PySem.Spec PyProof.Rows L2
abbrev abc : Str := "abcdefghijklmnopqrstuvwxyz"
theorem abc_list : abc.cps.toList = (List.range 26).map (97 + ·) := by decide +kernel
theorem abc_len : abc.length ≤ sizeLine := by decide +kernel
theorem abc_at {r : Int} (h0 : 0 ≤ r) (h1 : r < 26) : ∃ c, atI abc.cps.toList r = some c ∧ okSign c = true := by
  obtain ⟨n, rfl⟩ : ∃ n : Nat, r = (n : Int) := ⟨r.toNat, (Int.toNat_of_nonneg h0).symm⟩
  have hn : n < 26 := by omega
  refine ⟨97 + n, atI_nat (by rw [abc_list, List.getElem?_map, List.getElem?_range hn]; rfl), ?_⟩
  unfold okSign
  simp
  omega
theorem abc_index : ((List.range 26).all fun k => (Txt.index0 abc ⟨#[97 + k]⟩).isSome) = true := by decide +kernel
theorem abc_found {c : Nat} (h : okSign c = true) : Txt.index0 abc ⟨#[c]⟩ ≠ none := by
  unfold okSign at h
  rw [Bool.and_eq_true, decide_eq_true_eq, decide_eq_true_eq] at h
  have := List.all_eq_true.mp abc_index (c - 97) (List.mem_range.mpr (by omega))
  rw [show 97 + (c - 97) = c by omega] at this
  intro z
  rw [z] at this
  cases this
structure IsWord (z : Str) : Prop where
  lo : 1 ≤ z.length
  hi : z.length ≤ 8
  ok : ∀ c ∈ z.cps.toList, okSign c = true
theorem len_list (z : Str) : z.length = z.cps.toList.length := by simp [Str.length]
theorem app_list (x y : Str) : (x ++ y).cps.toList = x.cps.toList ++ y.cps.toList := by
  show (x.cps ++ y.cps).toList = _
  simp
theorem app_len (x y : Str) : (x ++ y).length = x.length + y.length := by
  rw [len_list, len_list, len_list, app_list, List.length_append]
theorem IsWord.small {z : Str} (h : IsWord z) : z.length ≤ sizeLine := by have := h.hi; rw [sizeLine_eq]; omega
theorem IsWord.ascii {z : Str} (h : IsWord z) : ∀ c ∈ z.cps.toList, c < 128 := fun c hc => by
  have := h.ok c hc
  unfold okSign at this
  rw [Bool.and_eq_true, decide_eq_true_eq, decide_eq_true_eq] at this
  omega
theorem one_sign {c : Nat} (h : okSign c = true) : IsWord ⟨#[c]⟩ := ⟨by show 1 ≤ 1; omega, by show 1 ≤ 8; omega, fun d hd => by
  have : d = c := by simpa using hd
  rw [this]; exact h⟩
theorem IsWord.app {x y : Str} (hx : IsWord x) (hy : ∀ c ∈ y.cps.toList, okSign c = true) (hl : x.length + y.length ≤ 8) : IsWord (x ++ y) := by
  refine ⟨by rw [app_len]; have := hx.lo; omega, by rw [app_len]; exact hl, fun c hc => ?_⟩
  rw [app_list, List.mem_append] at hc
  exact hc.elim (hx.ok c) (hy c)
theorem cutS_list (z : Str) {n : Nat} (hn : n ≤ z.length) : (cutS z none (some (n : Int))).cps.toList = z.cps.toList.take n := by
  unfold cutS
  simp only [HT.sIx_nat, HT.sIx_none]
  rw [Nat.min_eq_left hn]
  simp
theorem cutS_any (z : Str) (n : Nat) : (cutS z none (some (n : Int))).cps.toList = z.cps.toList.take (min n z.length) := by
  unfold cutS
  simp only [HT.sIx_nat, HT.sIx_none]
  simp
theorem mul_a : ∀ n : Nat, n ≤ 7 → MulOk "a" (n : Int) ∧ (Txt.mul "a" (n : Int)).cps.toList = List.replicate n 97
  | 0, _ => ⟨by unfold MulOk; decide +kernel, by decide +kernel⟩
  | 1, _ => ⟨by unfold MulOk; decide +kernel, by decide +kernel⟩
  | 2, _ => ⟨by unfold MulOk; decide +kernel, by decide +kernel⟩
  | 3, _ => ⟨by unfold MulOk; decide +kernel, by decide +kernel⟩
  | 4, _ => ⟨by unfold MulOk; decide +kernel, by decide +kernel⟩
  | 5, _ => ⟨by unfold MulOk; decide +kernel, by decide +kernel⟩
  | 6, _ => ⟨by unfold MulOk; decide +kernel, by decide +kernel⟩
  | 7, _ => ⟨by unfold MulOk; decide +kernel, by decide +kernel⟩
  | n + 8, h => by omega
theorem op_mulS {X : Cx} : OpR X (binaryOp .Mult) (fun x y H Q => ∃ z n, x = .str z ∧ y = .int n ∧ MulOk z n ∧ Q (.str (Txt.mul z n)) H) := by
  intro pins s σ H x y v u Q I rx ry h
  obtain ⟨z, n, rfl, rfl, ok, q⟩ := h
  obtain ⟨t, rfl⟩ := rx
  obtain ⟨t', rfl⟩ := ry
  exact SB.mul ok fun t2 k => ⟨.str _, H, I.tok k, ⟨_, rfl⟩, q⟩
theorem takesNo {X : Cx} : Takes X (fun _ _ _ _ => False) := fun u s' ⟨a, B, sI, pins, σ, H, cls, d, e, I, nb, up, sky, na, os, ag, w⟩ => w.elim
/-! ### the word behind a word -/
def val (l : List Nat) : Nat := l.foldl (fun a c => a * 26 + (c - 97)) 0
theorem val_snoc (l : List Nat) (c : Nat) : val (l ++ [c]) = val l * 26 + (c - 97) := by unfold val; rw [List.foldl_append]; rfl
theorem val_as (l : List Nat) : ∀ k : Nat, val (l ++ List.replicate k 97) = val l * 26 ^ k
  | 0 => by simp
  | k + 1 => by
    rw [List.replicate_succ', ← List.append_assoc, val_snoc, val_as l k, Nat.pow_succ, Nat.mul_assoc]
    rfl
theorem val_zs (l : List Nat) : ∀ k : Nat, val (l ++ List.replicate k 122) + 1 = (val l + 1) * 26 ^ k
  | 0 => by simp
  | k + 1 => by
    have ih := val_zs l k
    rw [List.replicate_succ', ← List.append_assoc, val_snoc, Nat.pow_succ, ← Nat.mul_assoc, ← ih]
    omega
theorem val_from : ∀ (l : List Nat) (a : Nat), (∀ c ∈ l, okSign c = true) → l.foldl (fun a c => a * 26 + (c - 97)) a < (a + 1) * 26 ^ l.length
  | [], a, _ => by simp
  | c :: l, a, h => by
    have h2 := h c List.mem_cons_self
    unfold okSign at h2
    rw [Bool.and_eq_true, decide_eq_true_eq, decide_eq_true_eq] at h2
    have ih := val_from l (a * 26 + (c - 97)) fun d hd => h d (List.mem_cons_of_mem _ hd)
    rw [List.foldl_cons, List.length_cons, Nat.pow_succ, Nat.mul_comm (26 ^ l.length) 26, ← Nat.mul_assoc]
    exact Nat.lt_of_lt_of_le ih (Nat.mul_le_mul_right _ (by omega))
theorem val_lt (l : List Nat) (h : ∀ c ∈ l, okSign c = true) : val l < 26 ^ l.length := by
  have := val_from l 0 h
  rw [Nat.zero_add, Nat.one_mul] at this
  exact this
def Nx (z z' : Str) : Prop := (z.length < 8 ∧ z'.length = z.length + 1) ∨ (z.length = 8 ∧ z'.length = 8 ∧ val z'.cps.toList = (val z.cps.toList + 1) % 26 ^ 8)
theorem nx_of {z : Str} {a c1 c2 : Nat} (hl8 : z.length = 8) (ha : a ≤ 7) (hz : IsWord z) (hd : z.cps.toList.drop (a + 1) = List.replicate (7 - a) 122) (hat : atI z.cps.toList (a : Int) = some c1) (hc : c1 ≠ 122 ∨ a = 0) (hc2 : c2 = 97 + (c1 - 97 + 1) % 26) :
    Nx z (cutS z none (some (a : Int)) ++ ⟨#[c2]⟩ ++ Txt.mul "a" ((7 - a : Nat) : Int)) := by
  obtain ⟨_, ml⟩ := mul_a (7 - a) (by omega)
  have hl : z.cps.toList.length = 8 := by rw [← len_list]; exact hl8
  have h1 : z.cps.toList[a]? = some c1 := by
    have h8 : a < z.cps.toList.length := by omega
    have := atI_nat (List.getElem?_eq_getElem h8)
    rw [this] at hat
    rw [List.getElem?_eq_getElem h8]
    exact hat
  have hok := hz.ok c1 (List.mem_of_getElem? h1)
  unfold okSign at hok
  rw [Bool.and_eq_true, decide_eq_true_eq, decide_eq_true_eq] at hok
  have es : z.cps.toList = z.cps.toList.take a ++ [c1] ++ List.replicate (7 - a) 122 := by
    conv => lhs; rw [← List.take_append_drop (a + 1) z.cps.toList, hd, List.take_succ, h1]
    rfl
  have el : (cutS z none (some (a : Int)) ++ ⟨#[c2]⟩ ++ Txt.mul "a" ((7 - a : Nat) : Int)).cps.toList = z.cps.toList.take a ++ [c2] ++ List.replicate (7 - a) 97 := by rw [app_list, app_list, cutS_list z (by omega), ml]
  refine .inr ⟨hl8, by rw [len_list, el, List.length_append, List.length_append, List.length_take, List.length_replicate, hl, List.length_singleton]; omega, ?_⟩
  have v1 := val_zs (z.cps.toList.take a ++ [c1]) (7 - a)
  rw [← es, val_snoc] at v1
  have v2 := val_lt z.cps.toList hz.ok
  rw [hl] at v2
  rw [el, val_as, val_snoc]
  by_cases h : c1 = 122
  · have a0 : a = 0 := hc.elim (fun z => absurd h z) id
    subst a0
    subst h
    have : c2 = 97 := hc2
    subst this
    rw [v1, List.take_zero]
    decide
  · have e2 : c2 - 97 = c1 - 97 + 1 := by rw [hc2, Nat.mod_eq_of_lt (by omega)]; omega
    rw [e2, ← Nat.add_assoc, ← v1, Nat.mod_eq_of_lt]
    by_cases hm : val z.cps.toList + 1 = 26 ^ 8
    · exfalso
      rw [hm] at v1
      have h3 := val_lt (z.cps.toList.take a) fun d hd => hz.ok d (List.mem_of_mem_take hd)
      rw [List.length_take, Nat.min_eq_left (by omega)] at h3
      have h4 : (val (z.cps.toList.take a) * 26 + (c1 - 97) + 1) < 26 ^ (a + 1) := by rw [Nat.pow_succ]; omega
      have h5 := Nat.mul_lt_mul_of_pos_right h4 (Nat.pow_pos (n := 7 - a) (show 0 < 26 by decide))
      rw [← Nat.pow_add, show a + 1 + (7 - a) = 8 by omega] at h5
      omega
    · omega
theorem abc_ix : ∀ j < 26, Txt.index0 abc ⟨#[97 + j]⟩ = some j ∧ abc.cps.toList[j]? = some (97 + j) := by decide +kernel
theorem after_sign {c1 k c2 : Nat} (h : okSign c1 = true) (hk : Txt.index0 abc ⟨#[c1]⟩ = some k) (h2 : atI abc.cps.toList (((k : Int) + 1) % 26) = some c2) : c2 = 97 + (c1 - 97 + 1) % 26 := by
  unfold okSign at h
  rw [Bool.and_eq_true, decide_eq_true_eq, decide_eq_true_eq] at h
  have e := (abc_ix (c1 - 97) (by omega)).1
  rw [show 97 + (c1 - 97) = c1 by omega, hk] at e
  have ek : k = c1 - 97 := Option.some.inj e
  have e3 := (abc_ix ((c1 - 97 + 1) % 26) (Nat.mod_lt _ (by decide))).2
  have e4 := atI_nat e3
  rw [show ((k : Int) + 1) % 26 = (((c1 - 97 + 1) % 26 : Nat) : Int) by rw [ek]; omega, e4] at h2
  exact (Option.some.inj h2).symm
section
variable {P : Program} {w : World} {K : PySem.W.Frag} {mg : Str → Option Value} {base : Heap}
def spAfter : Sp := fun vs H Q _ => ∃ z : Str, vs = [.str z] ∧ IsWord z ∧ ∀ z', IsWord z' → Nx z z' → Q (.str z') H
end
end Sw
set_option maxRecDepth 100000
set_option maxHeartbeats 4000000
namespace Sw
open PySem PySem.Spec PyProof.Rows L2
theorem flat_strs (zs : List Str) : (zs.map V.str).all flatV = true := by
  rw [List.all_map]
  exact List.all_eq_true.mpr fun _ _ => rfl
/-- u comes t words ahead of z -/
def Bf (t : Nat) (u z : Str) : Prop := (u.length < 8 ∧ u.length < z.length) ∨ (u.length = 8 ∧ z.length = 8 ∧ val z.cps.toList = (val u.cps.toList + t) % 26 ^ 8)
theorem Bf.ne {t : Nat} {u z : Str} (h : Bf t u z) (h1 : 1 ≤ t) (h2 : t ≤ 100) (hu : IsWord u) : z ≠ u := by
  intro e
  subst e
  rcases h with h | ⟨h8, _, h⟩
  · omega
  · have := val_lt z.cps.toList hu.ok
    rw [← len_list, h8] at this
    have e8 : (26 : Nat) ^ 8 = 208827064576 := by decide
    rw [e8] at h this
    omega
theorem Bf.next {t : Nat} {u z z' : Str} (h : Bf t u z) (n : Nx z z') : Bf (t + 1) u z' := by
  rcases h with h | ⟨h8, hz, h⟩
  · rcases n with n | n
    · exact .inl ⟨h.1, by omega⟩
    · exact .inl ⟨h.1, by omega⟩
  · rcases n with n | ⟨_, n8, n⟩
    · omega
    · refine .inr ⟨h8, n8, ?_⟩
      have e8 : (26 : Nat) ^ 8 = 208827064576 := by decide
      rw [e8] at h n ⊢
      omega
theorem Bf.one {z z' : Str} (n : Nx z z') : Bf 1 z z' := by
  rcases n with n | ⟨h8, n8, n⟩
  · exact .inl ⟨n.1, by omega⟩
  · exact .inr ⟨h8, n8, n⟩
/-- i words were tried, all of them there; z is the next -/
structure Tried (zs ws : List Str) (z : Str) (i : Nat) : Prop where
  len : ws.length = i
  nd : ws.Nodup
  sub : ∀ u ∈ ws, u ∈ zs
  bf : ∀ u ∈ ws, ∃ t, 1 ≤ t ∧ t ≤ i ∧ Bf t u z
theorem Tried.nil {zs : List Str} {z : Str} : Tried zs [] z 0 := ⟨rfl, List.nodup_nil, by simp, by simp⟩
theorem Tried.next {zs ws : List Str} {z z' : Str} {i : Nat} (h : Tried zs ws z i) (hi : i < 60) (hw : ∀ u ∈ zs, IsWord u) (hz : IsWord z) (hin : z ∈ zs) (n : Nx z z') : Tried zs (z :: ws) z' (i + 1) := by
  refine ⟨by rw [List.length_cons, h.len], List.nodup_cons.mpr ⟨fun m => ?_, h.nd⟩, fun u hu => ?_, fun u hu => ?_⟩
  · obtain ⟨t, t1, t2, b⟩ := h.bf z m
    exact b.ne t1 (by omega) hz rfl
  · rcases List.mem_cons.mp hu with rfl | hu
    · exact hin
    · exact h.sub u hu
  · rcases List.mem_cons.mp hu with rfl | hu
    · exact ⟨1, Nat.le_refl _, by omega, Bf.one n⟩
    · obtain ⟨t, t1, t2, b⟩ := h.bf u hu
      exact ⟨t + 1, by omega, by omega, b.next n⟩
theorem few_le : ∀ {L xs : List Str}, L.Nodup → (∀ x ∈ L, x ∈ xs) → L.length ≤ xs.length
  | [], xs, _, _ => Nat.zero_le _
  | y :: L, xs, nd, h => by
    rw [List.nodup_cons] at nd
    have hy := h y List.mem_cons_self
    have := few_le (L := L) (xs := xs.erase y) nd.2 fun x hx => (List.mem_erase_of_ne (show x ≠ y from fun e => nd.1 (e ▸ hx))).mpr (h x (List.mem_cons_of_mem _ hx))
    rw [List.length_erase_of_mem hy] at this
    have := List.length_pos_of_mem hy
    rw [List.length_cons]
    omega
theorem Tried.full {zs ws : List Str} {z : Str} (h : Tried zs ws z 60) : ¬ zs.length ≤ 50 := by
  have := few_le h.nd h.sub
  rw [h.len] at this
  omega
theorem inV_strs {z : Str} {zs : List Str} : inV (.str z) (zs.map V.str) = decide (z ∈ zs) := by
  unfold inV
  rw [List.any_map]
  by_cases h : z ∈ zs
  · rw [decide_eq_true h, List.any_eq_true]
    exact ⟨z, h, by simp [eqV]⟩
  · rw [decide_eq_false h, List.any_eq_false]
    intro y hy
    have : y ≠ z := fun e => h (e ▸ hy)
    simp [eqV, this]
theorem notIn_strs {z : Str} {zs : List Str} (h : (if true = true then !inV (.str z) (zs.map V.str) else inV (.str z) (zs.map V.str)) = true) : z ∉ zs := by
  rw [if_pos rfl, inV_strs] at h
  simpa using h
theorem in_strs {z : Str} {zs : List Str} (h : ¬ (if true = true then !inV (.str z) (zs.map V.str) else inV (.str z) (zs.map V.str)) = true) : z ∈ zs := by
  rw [if_pos rfl, inV_strs] at h
  simpa using h
section
variable {P : Program} {w : World} {K : PySem.W.Frag} {mg : Str → Option Value} {base : Heap}
def spWord : Sp := fun vs H Q _ => ∃ (p fq l : Addr) (b : Nat) (zs : List Str), vs = [.ref p, .ref l] ∧ FeedAt H p fq b ∧ b + 20 ≤ 1000000000 ∧ del H p l = some (.lst (zs.map V.str)) ∧ zs.length ≤ 50 ∧ (∀ z ∈ zs, IsWord z) ∧
  ∀ (z : Str) (H' : Hp), IsWord z → z ∉ zs → Same (del H p) (del H' p) → FeedAt H' p fq (b + 12) → Q (.str z) H'
end
end Sw
set_option maxRecDepth 100000
set_option maxHeartbeats 4000000
namespace Sw
open PySem PySem.Spec PyProof.Rows L2
section
variable {P : Program} {w : World} {K : PySem.W.Frag} {mg : Str → Option Value} {base : Heap}
def spGreat : Sp := fun vs H Q _ => ∃ (p fq : Addr) (b : Nat), vs = [.ref p] ∧ FeedAt H p fq b ∧ b + 60 ≤ 1000000000 ∧
  ∀ (i : Int) (H' : Hp), i.natAbs ≤ 10 ^ 199 → Same (del H p) (del H' p) → FeedAt H' p fq (b + 40) → Q (.int i) H'
theorem great_bd {t n : Nat} (h : t < 100 * 1000000 ^ n) (hn : n ≤ 32) : t ≤ 10 ^ 199 := by
  have h1 : (1000000 : Nat) ^ n ≤ 1000000 ^ 32 := Nat.pow_le_pow_right (by decide) hn
  have h2 : 100 * (1000000 : Nat) ^ 32 ≤ 10 ^ 199 := by decide +kernel
  have h3 := Nat.mul_le_mul_left 100 h1
  omega
theorem cutS_sub (z : Str) (lo hi : Option Int) : (∀ c ∈ (cutS z lo hi).cps.toList, c ∈ z.cps.toList) ∧ (cutS z lo hi).length ≤ z.length := by
  unfold cutS
  constructor
  · intro c hc
    exact List.mem_of_mem_drop (List.mem_of_mem_take (by simpa using hc))
  · rw [len_list, len_list]
    simp
    omega
def spSpoilt : Sp := fun vs H Q _ => ∃ (p fq : Addr) (z : Str) (b : Nat), vs = [.ref p, .str z] ∧ FeedAt H p fq b ∧ b + 20 ≤ 1000000000 ∧ IsWord z ∧
  ∀ (x : Str) (H' : Hp), (∀ c ∈ x.cps.toList, c < 128) → x.length ≤ 20 → Same (del H p) (del H' p) → FeedAt H' p fq (b + 3) → Q (.str x) H'
abbrev signsT : Str := " !\"#$&'()*+,-./0123456789:;<=>?@ABCDEFGHIJKLMNOPQRSTUVWXYZ[\\]^_`abcdefghijklmnopqrstuvwxyz{|}~"
theorem signs_ok : signsT.cps.toList.all (fun c => decide (c < 128)) = true ∧ signsT.length = 94 := by decide +kernel
end
end Sw
set_option maxRecDepth 100000
set_option maxHeartbeats 4000000
namespace Sw
open PySem PySem.Spec PyProof.Rows L2
section
variable {P : Program} {w : World} {K : PySem.W.Frag} {mg : Str → Option Value} {base : Heap}
def spFeed (K : PySem.W.Frag) : Sp := fun vs H Q _ => ∃ (a : Addr) (ns : List Int), vs = [.ref a] ∧ SqL K H a (ns.map V.int) ∧ ns.length ≤ 63 ∧
  ∀ (p fq : Addr) (H' : Hp), Same H H' → H p = none → FeedAt H' p fq 0 → Q (.ref p) H'
theorem cut_ints (ns : List Int) (lo hi : Option Int) : ∃ ms : List Int, cutV (ns.map V.int) lo hi = ms.map V.int ∧ ms.length ≤ ns.length := by
  refine ⟨(ns.drop (HT.sIx ns.length 0 lo)).take (HT.sIx ns.length ns.length hi - HT.sIx ns.length 0 lo), ?_, ?_⟩
  · unfold cutV
    rw [List.length_map, List.map_take, List.map_drop]
  · rw [List.length_take, List.length_drop]
    omega
/-- one of OBJECTS, drawn -/
def ObjD (d : PyData) : Prop := ∃ (z : Str) (k : Int), d = .tuple [.str z, .int k] ∧ IsWord z ∧ 1 ≤ k ∧ k ≤ 4
theorem objD_fit {d : PyData} (h : ObjD d) : Fit 4 4 1 344 d := by
  obtain ⟨z, k, rfl, hz, h1, h4⟩ := h
  have := hz.hi
  refine Fit.tup (n := 0) (by show 2 ≤ 4; omega) ?_ (by simp only [wtAll, wt]; omega)
  intro x hx
  rcases List.mem_cons.mp hx with rfl | hx
  · exact ⟨leaf_str.mpr hz.ascii, rfl, by simp [PyData.depth]⟩
  · have : x = .int k := by simpa using hx
    subst this
    exact ⟨by simp only [leaf, decide_eq_true_eq]; omega, rfl, by simp [PyData.depth]⟩
theorem objs_fit {ds : List PyData} (hl : ds.length ≤ 4) (h : ∀ d ∈ ds, ObjD d) : Fit 4 4 2 1400 (.tuple ds) := by
  refine Fit.tup (n := 1) hl (fun x hx => ⟨(objD_fit (h x hx)).lf, (objD_fit (h x hx)).ln, (objD_fit (h x hx)).dp⟩) ?_
  have : ∀ l : List PyData, (∀ d ∈ l, ObjD d) → wtAll l ≤ 346 * l.length := by
    intro l
    induction l with
    | nil => intro _; simp [wtAll]
    | cons x l ih =>
      intro hx
      have h1 := (objD_fit (hx x List.mem_cons_self)).wg
      have h2 := ih fun d hd => hx d (List.mem_cons_of_mem _ hd)
      simp only [wtAll, List.length_cons]
      omega
  have := this ds h
  omega
def spObjs (K : PySem.W.Frag) : Sp := fun vs H Q _ => ∃ (p fq : Addr) (b : Nat), vs = [.ref p] ∧ FeedAt H p fq b ∧ b + 100 ≤ 1000000000 ∧
  ∀ (v : V) (ds : List PyData) (H' : Hp), Dp K (del H' p) v (.tuple ds) → ds.length ≤ 4 → 1 ≤ ds.length → (∀ d ∈ ds, ObjD d) → Same (del H p) (del H' p) → FeedAt H' p fq (b + 60) → Q v H'
end
end Sw
set_option maxRecDepth 100000
set_option maxHeartbeats 4000000
namespace Sw
open PySem PySem.Spec PyProof.Rows L2
/-- what is new in H' -/
def fr (H H' : Hp) : Hp := fun c => match H c with
  | none => H' c
  | some _ => none
theorem fr_some {H H' : Hp} {c : Addr} {o : HO} (h : H c = none) (h' : H' c = some o) : fr H H' c = some o := by unfold fr; rw [h]; exact h'
theorem of_fr {H H' : Hp} {c : Addr} {o : HO} (h : fr H H' c = some o) : H c = none ∧ H' c = some o := by
  unfold fr at h
  cases e : H c with
  | none => rw [e] at h; exact ⟨rfl, h⟩
  | some u => rw [e] at h; cases h
theorem fr_same (H H' : Hp) : Same (fr H H') H' := fun c o e => (of_fr e).2
theorem fr_next {H H1 H2 : Hp} (s : Same H1 H2) : Same (fr H H1) (fr H H2) := fun c o e => fr_some (of_fr e).1 (s _ _ (of_fr e).2)
theorem fr_prev {H H1 H2 : Hp} (s : Same H H1) : Same (fr H1 H2) (fr H H2) := fun c o e => fr_some (s.free (of_fr e).1) (of_fr e).2
theorem fr_del {H H' : Hp} {p : Addr} {u : HO} (hp : H p = some u) : Same (fr H H') (del H' p) := fun c o e => del_some (of_fr e).2 fun z => by
  have := (of_fr e).1
  rw [z, hp] at this
  cases this
/-- displays of constants; a name may stand for one int -/
abbrev Nm := Option (Str × Nat × Int)
def cstL (f : Expr → Option PyData) : List Expr → Option (List PyData)
  | [] => some []
  | e :: es => match f e, cstL f es with
    | some d, some ds => some (d :: ds)
    | _, _ => none
def cst (g : Nm) : Nat → Expr → Option PyData
  | 0, _ => none
  | n + 1, e => match e with
    | .Constant (.int i) _ _ => some (.int i)
    | .Constant (.str x) _ _ => some (.str x)
    | .Constant (.bool b) _ _ => some (.bool b)
    | .Constant .none _ _ => some .none
    | .Tuple es _ _ => if es.length ≤ 1000 then (cstL (cst g n) es).map .tuple else none
    | .List es _ => if es.length ≤ 1000 then (cstL (cst g n) es).map .list else none
    | .UnaryOp .USub a _ => match cst g n a with
      | some (.int i) => some (.int (-i))
      | _ => none
    | .BinOp a .Pow b _ => match cst g n a, cst g n b with
      | some (.int i), some (.int j) => if 0 ≤ j ∧ j ≤ 1000000 ∧ i.natAbs < 2 ^ 64 then some (.int (i ^ j.toNat)) else none
      | _, _ => none
    | .BinOp a .Mult b _ => match cst g n a, cst g n b with
      | some (.int i), some (.int j) => if i.natAbs < 2 ^ 5000 ∧ j.natAbs < 2 ^ 5000 then some (.int (i * j)) else none
      | _, _ => none
    | .Name x _ => match g with
      | some (y, _, v) => if x = y then some (.int v) else none
      | none => none
    | _ => none
def nmAt (g : Nm) (σ : L2.St) : Prop := match g with
  | none => True
  | some (_, i, v) => σ[i]? = some (some (.int v))
def nmOk (g : Nm) (X : Cx) : Prop := match g with
  | none => True
  | some (x, i, _) => X.N[i]? = some x ∧ Vis X.env.scope x ∧ (x == ("__debug__" : Str)) = false ∧ (x == ("__classdict__" : Str)) = false
def tDat (K : PySem.W.Frag) (g : Nm) (d : PyData) : TE := fun σ H Q => nmAt g σ ∧ ∀ v H', Same H H' → Dp K (fr H H') v d → Q v H'
def tDats (K : PySem.W.Frag) (g : Nm) (ds : List PyData) : TA := fun σ H Q => nmAt g σ ∧ ∀ vs H', Same H H' → DpAll K (fr H H') vs ds → Q vs H'
theorem pe_imp {X : Cx} {e : Expr} {t t' : TE} (h : PE X e t) (hi : ∀ σ H Q, t' σ H Q → t σ H Q) : PE X e t' := ⟨fun pins s σ H Q I q => h.run pins s σ H Q I (hi σ H Q q)⟩
theorem pa_imp {X : Cx} {es : List Expr} {t t' : TA} (h : PA X es t) (hi : ∀ σ H Q, t' σ H Q → t σ H Q) : PA X es t' := ⟨fun pos pins s σ H Q I q => h.run pos pins s σ H Q I (hi σ H Q q)⟩
theorem cst_star {g : Nm} {n : Nat} {e : Expr} {es : List Expr} {d : PyData} {env : Env} (h : cst g n e = some d) : starEach (e :: es) env = (false, eval e env) :: starEach es env := by
  cases n with
  | zero => simp [cst] at h
  | succ n => cases e <;> first | rfl | simp [cst] at h
theorem cstL_length {f : Expr → Option PyData} : ∀ {es : List Expr} {ds : List PyData}, cstL f es = some ds → ds.length = es.length
  | [], ds, h => by
    simp [cstL] at h
    subst h
    rfl
  | e :: es, ds, h => by
    simp only [cstL] at h
    cases h1 : f e with
    | none => rw [h1] at h; cases h
    | some d =>
      cases h2 : cstL f es with
      | none => rw [h1, h2] at h; cases h
      | some ds' =>
        rw [h1, h2] at h
        cases h
        rw [List.length_cons, List.length_cons, cstL_length h2]
section
variable {X : Cx} {g : Nm}
theorem pa_cst {f : Expr → Option PyData} (hf : ∀ e d, f e = some d → PE X e (tDat X.K g d)) (hs : ∀ e d es env, f e = some d → starEach (e :: es) env = (false, eval e env) :: starEach es env) :
    ∀ (es : List Expr) (ds : List PyData), cstL f es = some ds → PA X es (tDats X.K g ds)
  | [], ds, h => by
    simp [cstL] at h
    subst h
    exact pa_imp pa_nil fun σ H Q q => q.2 [] H (Same.refl H) .nil
  | e :: es, ds, h => by
    simp only [cstL] at h
    cases h1 : f e with
    | none => rw [h1] at h; cases h
    | some d =>
      cases h2 : cstL f es with
      | none => rw [h1, h2] at h; cases h
      | some ds' =>
        rw [h1, h2] at h
        cases h
        refine pa_imp (pa_cons (hf e d h1) (pa_cst hf hs es ds' h2) (hs e d es X.env h1)) fun σ H Q q => ?_
        refine ⟨q.1, fun v H1 s1 d1 => ⟨q.1, fun vs H2 s2 d2 => ?_⟩⟩
        exact q.2 _ H2 (s1.trans s2) (.cons (Dp_same (fr_next s2) d1) (DpAll_same (fr_prev s1) d2))
theorem pe_cst (ok : nmOk g X) : ∀ (n : Nat) (e : Expr) (d : PyData), cst g n e = some d → PE X e (tDat X.K g d)
  | 0, e, d, h => by simp [cst] at h
  | n + 1, e, d, h => by
    have ih := pe_cst ok n
    cases e with
    | Constant c k p =>
      cases c with
      | int i =>
        simp [cst] at h
        subst h
        exact pe_imp pe_int fun σ H Q q => q.2 _ H (Same.refl H) (.int i)
      | str x =>
        simp [cst] at h
        subst h
        exact pe_imp pe_str fun σ H Q q => q.2 _ H (Same.refl H) (.str x)
      | bool b =>
        simp [cst] at h
        subst h
        exact pe_imp pe_bl fun σ H Q q => q.2 _ H (Same.refl H) (.bl b)
      | none =>
        simp [cst] at h
        subst h
        exact pe_imp pe_non fun σ H Q q => q.2 _ H (Same.refl H) .non
      | _ => simp [cst] at h
    | Tuple es k p =>
      simp only [cst] at h
      split at h
      · rename_i hlen
        cases h2 : cstL (cst g n) es with
        | none => rw [h2] at h; cases h
        | some ds =>
          rw [h2] at h
          cases h
          refine pe_imp (pe_tup (pa_cst ih (fun e d es env h => cst_star h) es ds h2)) fun σ H Q q => ⟨q.1, fun vs H1 s1 d1 => ?_⟩
          have hl := DpAll_len d1
          have hl2 := cstL_length h2
          refine ⟨Nat.le_of_lt (small1000 (by omega)), fun a ha => ?_⟩
          have s2 := same_new (o := .tup vs) ha
          exact q.2 _ _ (s1.trans s2) (.tup (SqT.of (fr_some (s1.free ha) upd_same)) (DpAll_same (fr_next s2) d1))
      · cases h
    | List es p =>
      simp only [cst] at h
      split at h
      · rename_i hlen
        cases h2 : cstL (cst g n) es with
        | none => rw [h2] at h; cases h
        | some ds =>
          rw [h2] at h
          cases h
          refine pe_imp (pe_lst (pa_cst ih (fun e d es env h => cst_star h) es ds h2)) fun σ H Q q => ⟨q.1, fun vs H1 s1 d1 => ?_⟩
          have hl := DpAll_len d1
          have hl2 := cstL_length h2
          refine ⟨Nat.le_of_lt (small1000 (by omega)), fun a ha => ?_⟩
          have s2 := same_new (o := .lst vs) ha
          exact q.2 _ _ (s1.trans s2) (.lst (SqL.of (fr_some (s1.free ha) upd_same)) (DpAll_same (fr_next s2) d1))
      · cases h
    | UnaryOp op a p =>
      cases op with
      | USub =>
        simp only [cst] at h
        split at h
        · rename_i i h1
          cases h
          refine pe_imp (pe_un un_neg (ih a _ h1)) fun σ H Q q => ⟨q.1, fun v H1 s1 d1 => ?_⟩
          cases d1
          exact ⟨i, rfl, q.2 _ H1 s1 (.int _)⟩
        · cases h
      | _ => simp [cst] at h
    | BinOp a op b p =>
      cases op with
      | Pow =>
        simp only [cst] at h
        split at h
        · rename_i i j h1 h2
          split at h
          · rename_i hc
            cases h
            refine pe_imp (pe_op op_pow (ih a _ h1) (ih b _ h2)) fun σ H Q q => ⟨q.1, fun v H1 s1 d1 => ⟨q.1, fun u H2 s2 d2 => ?_⟩⟩
            cases d1
            cases d2
            exact ⟨i, j, rfl, rfl, hc, q.2 _ H2 (s1.trans s2) (.int _)⟩
          · cases h
        · cases h
      | Mult =>
        simp only [cst] at h
        split at h
        · rename_i i j h1 h2
          split at h
          · rename_i hc
            cases h
            refine pe_imp (pe_op op_mulW (ih a _ h1) (ih b _ h2)) fun σ H Q q => ⟨q.1, fun v H1 s1 d1 => ⟨q.1, fun u H2 s2 d2 => ?_⟩⟩
            cases d1
            cases d2
            exact ⟨i, j, rfl, rfl, wide_mul hc.1 hc.2 (by decide) (by decide) (by decide), q.2 _ H2 (s1.trans s2) (.int _)⟩
          · cases h
        · cases h
      | _ => simp [cst] at h
    | Name x p =>
      simp only [cst] at h
      split at h
      · rename_i y i v
        split at h
        · rename_i e
          cases h
          subst e
          obtain ⟨h1, h2, h3, h4⟩ := ok
          refine pe_imp (pe_var (i := i) h1 h2 h3 h4) fun σ H Q q => ⟨_, q.1, q.2 _ H (Same.refl H) (.int v)⟩
        · cases h
      · cases h
    | _ => simp [cst] at h
end
end Sw
set_option maxRecDepth 100000
set_option maxHeartbeats 4000000
namespace Sw
open PySem PySem.Spec PyProof.Rows L2
/-! ### the text's own expressions, by their places -/
def xNo : Expr := .Constant .none 0 ⟨0, 0, 0, 0⟩
def asgOf : Stmt → Expr
  | .Assign _ v _ => v
  | _ => xNo
def retOf : Stmt → Expr
  | .Return (some e) _ => e
  | _ => xNo
def exprOf : Stmt → Expr
  | .Expr e _ => e
  | _ => xNo
def binR : Expr → Expr
  | .BinOp _ _ r _ => r
  | _ => xNo
def arg0 : Expr → Expr
  | .Call _ (a :: _) _ _ => a
  | _ => xNo
def eltsOf : Expr → List Expr
  | .List es _ => es
  | .Tuple es _ _ => es
  | _ => []
def stAt (i j : Nat) : Stmt := (defBody (topS i)).getD j (.Pass ⟨0, 0, 0, 0⟩)
theorem some_of {α : Type} {x : Option α} {d : α} (h : x.isSome = true) : x = some (x.getD d) := by
  cases x with
  | none => cases h
  | some a => rfl
def tupL : PyData → List PyData
  | .tuple ds => ds
  | _ => []
theorem tup_of {d : PyData} (h : isaTup d = true) : d = .tuple (tupL d) := by cases d <;> first | rfl | cases h
def fitB (M l n B : Nat) (d : PyData) : Bool := leaf M d && lens l d && decide (d.depth ≤ n) && decide (wt d ≤ B)
theorem fitB_fit {M l n B : Nat} {d : PyData} (h : fitB M l n B d = true) : Fit M l n B d := by
  unfold fitB at h
  simp only [Bool.and_eq_true, decide_eq_true_eq] at h
  exact ⟨h.1.1.1, h.1.1.2, h.1.2, h.2⟩
theorem allFit {M l n B : Nat} {ds : List PyData} (h : ds.all (fitB M l n B) = true) : ∀ d ∈ ds, Fit M l n B d := fun d hd => fitB_fit (List.all_eq_true.mp h d hd)
/-! ### odd things -/
section
variable {P : Program} {w : World} {K : PySem.W.Frag} {mg : Str → Option Value} {base : Heap}
def spOdd (K : PySem.W.Frag) : Sp := fun vs H Q _ => vs = [] ∧ ∀ (v : V) (ds : List PyData) (H' : Hp), Same H H' → Dp K (fr H H') v (.tuple ds) → ds.length = 22 → (∀ d ∈ ds, Fit (10 ^ 199) 2 2 520 d) → Q v H'
end
end Sw
set_option maxRecDepth 100000
set_option maxHeartbeats 4000000
namespace Sw
open PySem PySem.Spec PyProof.Rows L2
/-! ### ints and bools reckoned with -/
def asInt : PyData → Int
  | .int i => i
  | .bool b => if b = true then 1 else 0
  | _ => 0
section
variable {X : Cx}
def rNum (f : Int → Int → Int) : R2 := fun x y H Q => ∃ j, y = .int j ∧ ((∃ i, x = .int i ∧ Q (.int (f i j)) H) ∨ ∃ b : Bool, x = .bl b ∧ Q (.int (f (if b = true then 1 else 0) j)) H)
theorem op_addB : OpR X (binaryOp .Add) (rNum fun i j => i + j) := by
  intro pins s σ H x y v u Q I rx ry h
  obtain ⟨j, rfl, h⟩ := h
  obtain ⟨t', rfl⟩ := ry
  rcases h with ⟨i, rfl, q⟩ | ⟨b, rfl, q⟩
  · obtain ⟨t, rfl⟩ := rx
    exact add_int ⟨.int _, H, I.tok _, ⟨_, rfl⟩, q⟩
  · cases (show v = Value.bool b from rx)
    exact PySem.IntBool.add_bool_int ⟨.int _, H, I.tok _, ⟨_, rfl⟩, q⟩
theorem op_subB : OpR X (binaryOp .Sub) (rNum fun i j => i - j) := by
  intro pins s σ H x y v u Q I rx ry h
  obtain ⟨j, rfl, h⟩ := h
  obtain ⟨t', rfl⟩ := ry
  rcases h with ⟨i, rfl, q⟩ | ⟨b, rfl, q⟩
  · obtain ⟨t, rfl⟩ := rx
    exact sub_int ⟨.int _, H, I.tok _, ⟨_, rfl⟩, q⟩
  · cases (show v = Value.bool b from rx)
    exact PySem.IntBool.sub_bool_int ⟨.int _, H, I.tok _, ⟨_, rfl⟩, q⟩
theorem gives_neg_bool (b : Bool) : Gives (Builtin.«int.__neg__» ⟨[.bool b], []⟩) (.int (-(if b = true then 1 else 0))) := by
  cases b <;> exact .of_eq rfl
theorem un_negB : UnR X (unaryOp .USub) (fun x H Q => (∃ i, x = .int i ∧ Q (.int (-i)) H) ∨ ∃ b : Bool, x = .bl b ∧ Q (.int (-(if b = true then 1 else 0))) H) := by
  intro pins s σ H x v Q I rx h
  rcases h with ⟨i, rfl, q⟩ | ⟨b, rfl, q⟩
  · obtain ⟨t, rfl⟩ := rx
    exact PyProof.Rows.neg_int ⟨.int _, H, I.tok _, ⟨_, rfl⟩, q⟩
  · cases (show v = Value.bool b from rx)
    exact unaryOp_gives (op := .USub) (T := "bool") rfl rfl PySem.F.slot_bool_neg PySem.F.entry_int_neg (PySem.F.args_int_neg_1 _) (gives_neg_bool b) ⟨.int _, H, I.tok _, ⟨_, rfl⟩, q⟩
end
/-! ### tuples of data: cut and put together -/
def cutD (ds : List PyData) (lo hi : Option Int) : List PyData := (ds.drop (HT.sIx ds.length 0 lo)).take (HT.sIx ds.length ds.length hi - HT.sIx ds.length 0 lo)
theorem DpAll_take {K : PySem.W.Frag} {H : Hp} : ∀ {vs : List V} {ds : List PyData} (n : Nat), DpAll K H vs ds → DpAll K H (vs.take n) (ds.take n)
  | _, _, 0, _ => by simp; exact .nil
  | _, _, _ + 1, .nil => by simp; exact .nil
  | _, _, n + 1, .cons h r => .cons h (DpAll_take n r)
theorem DpAll_drop {K : PySem.W.Frag} {H : Hp} : ∀ {vs : List V} {ds : List PyData} (n : Nat), DpAll K H vs ds → DpAll K H (vs.drop n) (ds.drop n)
  | _, _, 0, h => h
  | _, _, _ + 1, .nil => by simp; exact .nil
  | _, _, n + 1, .cons h r => DpAll_drop n r
theorem cut_dat {K : PySem.W.Frag} {H : Hp} {p a : Addr} {ds : List PyData} {lo hi : Option Int} {Q : VK} (hp : ∃ u, H p = some u) (h : Dp K (del H p) (.ref a) (.tuple ds)) (q : ∀ v H', Same H H' → Dp K (del H' p) v (.tuple (cutD ds lo hi)) → Q v H') : rSlA K (.ref a) lo hi H Q := by
  obtain ⟨u, hp⟩ := hp
  cases h with
  | @tup _ xs _ hx hr =>
    have hl := DpAll_len hr
    refine ⟨a, xs, rfl, sameT (del_same _ _) hx, fun hw => ?_, fun hw t ht => ?_⟩
    · rw [hl] at hw
      have e : cutD ds lo hi = ds := by
        unfold cutD
        rw [hw.1, hw.2]
        simp
      exact q _ H (Same.refl H) (by rw [e]; exact .tup hx hr)
    · have s := same_new (o := .tup (cutV xs lo hi)) ht
      refine q _ _ s (.tup (SqT.of (new_del hp ht)) ?_)
      have r2 := DpAll_same (same_del (p := p) s) hr
      generalize upd H t (.tup (cutV xs lo hi)) = H2 at r2
      unfold cutV cutD
      rw [hl]
      exact DpAll_take _ (DpAll_drop _ r2)
theorem cat_dat {K : PySem.W.Frag} {H : Hp} {p a b : Addr} {ds es : List PyData} {Q : VK} (hp : ∃ u, H p = some u) (ha : Dp K (del H p) (.ref a) (.tuple ds)) (hb : Dp K (del H p) (.ref b) (.tuple es)) (hl : ds.length + es.length ≤ 1000)
    (q : ∀ v H', Same H H' → Dp K (del H' p) v (.tuple (ds ++ es)) → Q v H') : rCatA K (.ref a) (.ref b) H Q := by
  obtain ⟨u, hp⟩ := hp
  cases ha with
  | @tup _ xs _ hx hrx =>
    cases hb with
    | @tup _ ys _ hy hry =>
      have l1 := DpAll_len hrx
      have l2 := DpAll_len hry
      refine ⟨a, b, xs, ys, rfl, rfl, sameT (del_same _ _) hx, sameT (del_same _ _) hy, Nat.le_of_lt (small1000 (by omega)), fun z => ?_, fun _ z => ?_, fun _ _ t ht => ?_⟩
      · have e : ds = [] := List.eq_nil_of_length_eq_zero (by rw [← l1, z]; rfl)
        subst e
        exact q _ H (Same.refl H) (.tup hy hry)
      · have e : es = [] := List.eq_nil_of_length_eq_zero (by rw [← l2, z]; rfl)
        subst e
        rw [List.append_nil] at q
        exact q _ H (Same.refl H) (.tup hx hrx)
      · have s := same_new (o := .tup (xs ++ ys)) ht
        exact q _ _ s (.tup (SqT.of (new_del hp ht)) (DpAll_append (DpAll_same (same_del s) hrx) (DpAll_same (same_del s) hry)))
theorem sIx_at (n d k : Nat) (h : k ≤ n) : HT.sIx n d (some (k : Int)) = k := by rw [HT.sIx_nat]; omega
theorem cutD_to (ds : List PyData) {k : Nat} (h : k ≤ ds.length) : cutD ds none (some (k : Int)) = ds.take k := by
  unfold cutD
  rw [sIx_at _ _ _ h, HT.sIx_none]
  simp
theorem cutD_from (ds : List PyData) {k : Nat} (h : k ≤ ds.length) : cutD ds (some (k : Int)) none = ds.drop k := by
  unfold cutD
  rw [sIx_at _ _ _ h, HT.sIx_none]
  exact List.take_of_length_le (by rw [List.length_drop]; omega)
/-! ### how large what is put together is -/
theorem wtAll_cut (ds : List PyData) {k : Nat} {x : PyData} (h : ds[k]? = some x) : wtAll (ds.take k) + (wt x + 2) + wtAll (ds.drop (k + 1)) = wtAll ds := by
  obtain ⟨hk, e⟩ := List.getElem?_eq_some_iff.mp h
  have e2 : ds = ds.take k ++ x :: ds.drop (k + 1) := by
    rw [← e, List.getElem_cons_drop]
    exact (List.take_append_drop k ds).symm
  conv => rhs; rw [e2]
  rw [wtAll_append]
  simp only [wtAll]
  omega
theorem fit_any {M l n B M' l' n' B' : Nat} {ds es : List PyData} (h : Fit M l (n + 1) B (.tuple ds)) (hM : M ≤ M') (hl : l ≤ l') (hn : n ≤ n') (hm : ∀ x ∈ es, x ∈ ds ∨ (leaf M' x = true ∧ lens l' x = true ∧ x.depth ≤ n')) (hel : es.length ≤ l') (hw : wtAll es + 5 ≤ B') : Fit M' l' (n' + 1) B' (.tuple es) := by
  obtain ⟨h1, h2, h3, h4⟩ := h.inTup
  refine Fit.tup hel (fun x hx => ?_) hw
  rcases hm x hx with hx | hx
  · have := (h4 x hx).mono hM hl (show n + 1 - 1 ≤ n' by omega) (Nat.le_refl _)
    exact ⟨this.lf, this.ln, this.dp⟩
  · exact hx
end Sw
set_option maxRecDepth 100000
set_option maxHeartbeats 4000000
namespace Sw
open PySem PySem.Spec PyProof.Rows L2
section
variable {P : Program} {w : World} {K : PySem.W.Frag} {mg : Str → Option Value} {base : Heap}
/-- n is more than the thing is deep -/
def spBend (K : PySem.W.Frag) (n : Nat) : Sp := fun vs H Q _ => ∃ (p fq : Addr) (v vo : V) (b m M l B : Nat) (d : PyData) (os : List PyData), vs = [.ref p, v, vo] ∧ n = m + 1 ∧ n ≤ 30 ∧ FeedAt H p fq b ∧ b + 10 * n + 10 ≤ 1000000000 ∧
  Dp K (del H p) v d ∧ Dp K (del H p) vo (.tuple os) ∧ os.length = 22 ∧ (∀ o ∈ os, Fit (10 ^ 199) 2 2 520 o) ∧ Fit M l m B d ∧ 10 ^ 199 ≤ M ∧ l ≤ 100 ∧ B ≤ 100000 ∧
  ∀ (v' : V) (d' : PyData) (H' : Hp), Dp K (del H' p) v' d' → Fit (M + 1) (2 * l + 2) (m + 2) (2 * B + 1100) d' → Same (del H p) (del H' p) → FeedAt H' p fq (b + 10 * n) → Q v' H'
theorem cutD_sub (ds : List PyData) (lo hi : Option Int) : (∀ x ∈ cutD ds lo hi, x ∈ ds) ∧ (cutD ds lo hi).length ≤ ds.length ∧ wtAll (cutD ds lo hi) ≤ wtAll ds := by
  unfold cutD
  refine ⟨fun x hx => List.mem_of_mem_drop (List.mem_of_mem_take hx), by rw [List.length_take, List.length_drop]; omega, ?_⟩
  exact Nat.le_trans (wtAll_take _ _) (wtAll_drop _ _)
theorem tup_at {a b : V} {xs : List V} {i : Int} (h0 : 0 ≤ i) {n : Nat} (e : i = (n : Int)) (h : xs[n]? = some a) : atI xs i = some a := by rw [e]; exact atI_nat h
end
end Sw
set_option maxRecDepth 100000
set_option maxHeartbeats 4000000
namespace Sw
open PySem PySem.Spec PyProof.Rows L2
/-- what is new since H0, but for L -/
def nw (H0 : Hp) (L : Addr) (H : Hp) : Hp := del (fr H0 H) L
theorem nw_next {H0 H H' : Hp} {L : Addr} (s : Same H H') : Same (nw H0 L H) (nw H0 L H') := same_del (fr_next s)
theorem nw_sub {H0 H : Hp} {L : Addr} : Same (nw H0 L H) H := fun c o e => fr_same _ _ _ _ (del_same _ _ _ _ e)
theorem nw_new {H0 H : Hp} {L a : Addr} {o u : HO} (s : Same H0 H) (hL : H L = some u) (ha : H a = none) : nw H0 L (upd H a o) a = some o :=
  del_some (fr_some (s.free ha) upd_same) (fun e => by rw [e, hL] at ha; cases ha)
theorem nw_fr {H0 H H' : Hp} {L : Addr} {u : HO} (s : Same H0 H) (hL : H L = some u) : Same (fr H H') (nw H0 L H') := fun c o e =>
  del_some (fr_some (s.free (of_fr e).1) (of_fr e).2) (fun z => by rw [z] at e; rw [(of_fr e).1] at hL; cases hL)
theorem nw_upd {H0 H : Hp} {L : Addr} {o : HO} : Same (nw H0 L H) (nw H0 L (upd H L o)) := fun c x e => by
  obtain ⟨e1, e2⟩ := of_del e
  obtain ⟨e3, e4⟩ := of_fr e1
  exact del_some (fr_some e3 (by rw [upd_ne e2]; exact e4)) e2
theorem cut_nw {K : PySem.W.Frag} {H0 H : Hp} {L a : Addr} {ds : List PyData} {lo hi : Option Int} {Q : VK} {u : HO} (s0 : Same H0 H) (hL : H L = some u) (h : Dp K (nw H0 L H) (.ref a) (.tuple ds)) (q : ∀ v H', Same H H' → Dp K (nw H0 L H') v (.tuple (cutD ds lo hi)) → Q v H') : rSlA K (.ref a) lo hi H Q := by
  cases h with
  | @tup _ xs _ hx hr =>
    have hl := DpAll_len hr
    refine ⟨a, xs, rfl, sameT nw_sub hx, fun hw => ?_, fun hw t ht => ?_⟩
    · rw [hl] at hw
      have e : cutD ds lo hi = ds := by
        unfold cutD
        rw [hw.1, hw.2]
        simp
      exact q _ H (Same.refl H) (by rw [e]; exact .tup hx hr)
    · have s := same_new (o := .tup (cutV xs lo hi)) ht
      refine q _ _ s (.tup (SqT.of (nw_new s0 hL ht)) ?_)
      have r2 := DpAll_same (nw_next (H0 := H0) (L := L) s) hr
      generalize upd H t (.tup (cutV xs lo hi)) = H2 at r2
      unfold cutV cutD
      rw [hl]
      exact DpAll_take _ (DpAll_drop _ r2)
theorem cat_nw {K : PySem.W.Frag} {H0 H : Hp} {L a b : Addr} {ds es : List PyData} {Q : VK} {u : HO} (s0 : Same H0 H) (hL : H L = some u) (ha : Dp K (nw H0 L H) (.ref a) (.tuple ds)) (hb : Dp K (nw H0 L H) (.ref b) (.tuple es)) (hl : ds.length + es.length ≤ 1000)
    (q : ∀ v H', Same H H' → Dp K (nw H0 L H') v (.tuple (ds ++ es)) → Q v H') : rCatA K (.ref a) (.ref b) H Q := by
  cases ha with
  | @tup _ xs _ hx hrx =>
    cases hb with
    | @tup _ ys _ hy hry =>
      have l1 := DpAll_len hrx
      have l2 := DpAll_len hry
      refine ⟨a, b, xs, ys, rfl, rfl, sameT nw_sub hx, sameT nw_sub hy, Nat.le_of_lt (small1000 (by omega)), fun z => ?_, fun _ z => ?_, fun _ _ t ht => ?_⟩
      · have e : ds = [] := List.eq_nil_of_length_eq_zero (by rw [← l1, z]; rfl)
        subst e
        exact q _ H (Same.refl H) (.tup hy hry)
      · have e : es = [] := List.eq_nil_of_length_eq_zero (by rw [← l2, z]; rfl)
        subst e
        rw [List.append_nil] at q
        exact q _ H (Same.refl H) (.tup hx hrx)
      · have s := same_new (o := .tup (xs ++ ys)) ht
        exact q _ _ s (.tup (SqT.of (nw_new s0 hL ht)) (DpAll_append (DpAll_same (nw_next s) hrx) (DpAll_same (nw_next s) hry)))
/-- the list found at L: all of it new since H0 -/
structure FoundAt (K : PySem.W.Frag) (H0 : Hp) (L : Addr) (H : Hp) (vs : List V) (ds : List PyData) : Prop where
  s0 : Same H0 H
  n0 : H0 L = none
  at_ : H L = some (.lst vs)
  dat : DpAll K (nw H0 L H) vs ds
theorem FoundAt.next {K : PySem.W.Frag} {H0 H H' : Hp} {L : Addr} {vs : List V} {ds : List PyData} (F : FoundAt K H0 L H vs ds) (s : Same H H') : FoundAt K H0 L H' vs ds := ⟨F.s0.trans s, F.n0, s _ _ F.at_, DpAll_same (nw_next s) F.dat⟩
theorem FoundAt.more {K : PySem.W.Frag} {H0 H H1 : Hp} {L : Addr} {vs us : List V} {ds es : List PyData} (F : FoundAt K H0 L H vs ds) (s : Same H H1) (h : DpAll K (nw H0 L H1) us es) : FoundAt K H0 L (upd H1 L (.lst (vs ++ us))) (vs ++ us) (ds ++ es) := by
  refine ⟨fun c o e => ?_, F.n0, upd_same, DpAll_append (DpAll_same ((nw_next s).trans nw_upd) F.dat) (DpAll_same nw_upd h)⟩
  rw [upd_ne (ne_of_none e F.n0)]
  exact s _ _ (F.s0 _ _ e)
/-! ### the fixed things, as data -/
abbrev gN : Nm := some ("_law_great_here", 0, 10 ^ 60)
end Sw
set_option maxRecDepth 100000
set_option maxHeartbeats 4000000
namespace Sw
open PySem PySem.Spec PyProof.Rows L2
section
variable {prog : Program} {w : World} {A : Around} {E : Value → Shared → Prop} {s : Shared}
theorem rev_places (n : Nat) : Builtin.Slice.slicePlaces ((n : Int) - 1) (-1) (-1) = n := by
  unfold Builtin.Slice.slicePlaces
  simp
  omega
theorem applied_rev {sl : Addr} {vl vu vs : Value} {n : Nat} {Q : Int × Int × Nat → Shared → Prop} (hs : s.heap.IsSliceOf sl vl vu vs) (pl : IsPart vl none) (pu : IsPart vu none) (ps : IsPart vs (some (-1)))
    (h : Q ((n : Int) - 1, -1, n) s) : wpAny (model prog w) A (Builtin.Slice.sliceApplied (.ref sl) (pure (n : Int))) Q E s := by
  obtain ⟨os, hos, hcs, hds⟩ := id hs
  unfold Builtin.Slice.sliceApplied Builtin.Slice.sliceFields
  refine wpAny_bind (wpAny_bind (wpAny_field hos hds (x := vl) rfl (wpAny_bind (wpAny_field hos hds (x := vu) rfl (wpAny_bind (wpAny_field hos hds (x := vs) rfl (wpAny_pure ?_)))))))
  refine wpAny_bind (HT.slicePart_ ps ?_)
  show wpAny _ _ (if ((-1 : Int) == 0) = true then _ else _) _ _ s
  rw [if_neg (by decide)]
  refine wpAny_bind (HT.slicePart_ pl (wpAny_bind (HT.slicePart_ pu (wpAny_bind (wpAny_pure ?_)))))
  have e : Builtin.Slice.sliceAdjust none none (-1) (n : Int) = ((n : Int) - 1, -1) := by
    unfold Builtin.Slice.sliceAdjust
    simp
  show wpAny _ _ (match Builtin.Slice.sliceAdjust none none (-1) (n : Int) with | (lo, hi) => pure (lo, (-1 : Int), Builtin.Slice.slicePlaces lo hi (-1))) _ _ s
  rw [e]
  show wpAny _ _ (pure ((n : Int) - 1, (-1 : Int), Builtin.Slice.slicePlaces ((n : Int) - 1) (-1) (-1))) _ _ s
  rw [rev_places]
  exact wpAny_pure h
theorem fm_map {α β : Type} (f : α → Option β) (g : α → β) : ∀ l : List α, (∀ k ∈ l, f k = some (g k)) → l.filterMap f = l.map g
  | [], _ => rfl
  | k :: l, h => by
    rw [List.filterMap_cons, h k List.mem_cons_self, List.map_cons]
    dsimp only
    rw [fm_map f g l fun j hj => h j (List.mem_cons_of_mem _ hj)]
theorem rev_pick (xs : Array Value) : ((List.range xs.size).filterMap fun (k : Nat) => xs[(((xs.size : Int) - 1) + (k : Int) * (-1)).toNat]?) = xs.toList.reverse := by
  have e : ((List.range xs.size).filterMap fun (k : Nat) => xs[(((xs.size : Int) - 1) + (k : Int) * (-1)).toNat]?) = (List.range xs.size).map fun k => xs.toList.reverse.getD k .none := by
    refine fm_map _ _ _ fun k hk => ?_
    have hk' : k < xs.size := List.mem_range.mp hk
    have e1 : (((xs.size : Int) - 1) + (k : Int) * (-1)).toNat = xs.size - 1 - k := by omega
    have e2 : xs.size - 1 - k < xs.size := by omega
    rw [e1, Array.getElem?_eq_getElem e2]
    simp [List.getD, List.getElem?_reverse, hk']
  rw [e]
  apply List.ext_getElem?
  intro i
  rw [List.getElem?_map]
  by_cases h : i < xs.size
  · rw [List.getElem?_range h]
    have : i < xs.toList.reverse.length := by simpa using h
    rw [List.getElem?_eq_getElem this]
    simp [List.getD, List.getElem?_eq_getElem this]
  · rw [List.getElem?_eq_none (by simpa using h), List.getElem?_eq_none (by simpa using h)]
    rfl
theorem tuple_rev {t sl : Addr} {items : Array Value} {vl vu vs : Value} {Q : Value → Shared → Prop} (ht : IsTup s.heap t items) (hs : s.heap.IsSliceOf sl vl vu vs) (pl : IsPart vl none) (pu : IsPart vu none) (ps : IsPart vs (some (-1)))
    (h : Q (.ref s.heap.objs.size) { s with heap := s.heap.push { cls := .type "tuple", data := .seq items.toList.reverse.toArray } }) (hsz : items.size ≤ sizeLine) : wpAny (model prog w) A (getItem (.ref t) (.ref sl)) Q E s := by
  obtain ⟨os, hos, hcs, hds⟩ := id hs
  have hTs : s.TypeIs (.ref sl) "slice" := ⟨os, hos, hcs⟩
  have htake : sizeOk (.seq items.toList.reverse.toArray) := by
    show items.toList.reverse.toArray.size ≤ sizeLine
    simpa using hsz
  unfold getItem
  try with_reducible refine wpAny_holding ?_
  first | refine wpAny_bind (wpAny_pure ?_) | skip
  refine wpAny_bind (wpAny_sequenceKey ht.typeIs (by decide) ?_)
  refine wpAny_bind (wpAny_callSpecial?_slot (name := Str.ofString "__getitem__") ht.typeIs PyProof.Rows.slot_tuple_getitem (wpAny_call_entry PyProof.Rows.slot_tuple_getitem ht.typeIs entry_tuple_getitem ?_ (args_tuple_getitem _ _)))
  show wpAny _ _ (Builtin.Tuple.tupleItemsOf (.ref t) >>= _) _ _ s
  refine wpAny_bind (tupleItemsOf_ ht (wpAny_bind (wpAny_typeOf hTs ?_)))
  rw [if_pos (by decide)]
  refine wpAny_bind (applied_rev hs pl pu ps ?_)
  show wpAny _ _ (if ((((items.size : Int) - 1) == 0 && (-1 : Int) == 1 && items.size == items.size) = true) then _ else _) _ _ s
  rw [if_neg (by simp), rev_pick]
  first
    | exact wpAny_bind (m := Builtin.Tuple.tupleExact _) (wpAny_newObj_type (wpAny_pure ⟨_, rfl, wpAny_pure h⟩) htake)
    | exact wpAny_bind (m := Builtin.Tuple.tupleExact _) (wpAny_newObj_type (wpAny_bind (wpAny_pure (wpAny_pure ⟨_, rfl, wpAny_pure h⟩))) htake)
    | exact wpAny_bind (wpAny_bind (m := Builtin.Tuple.tupleExact _) (wpAny_newObj_type (wpAny_pure (wpAny_pure ⟨_, rfl, wpAny_pure h⟩)) htake))
    | exact wpAny_bind (wpAny_bind (m := Builtin.Tuple.tupleExact _) (wpAny_newObj_type (wpAny_pure ⟨_, rfl, wpAny_pure h⟩) htake))
end
section
variable {X : Cx}
/-- t[::-1] -/
def tRevT (K : PySem.W.Frag) (te : TE) : TE := fun σ H Q => te σ H fun x H1 => ∃ a xs, x = .ref a ∧ SqT K H1 a xs ∧ ∀ p, H1 p = none → Q (.ref p) (upd H1 p (.tup xs.reverse))
theorem pe_revT {e : Expr} {te : TE} {k : Nat} {p1 p2 p3 pos : Pos} (he : PE X e te) : PE X (.Subscript e (.Slice none none (some (.UnaryOp .USub (.Constant (.int 1) k p1) p2)) p3) pos) (tRevT X.K te) := by
  refine ⟨fun pins s σ H Q I h => Subscript_ (thn (he.run pins s σ H _ I h) fun v s1 ⟨x, H1, I1, r1, q1⟩ => ?_)⟩
  obtain ⟨a, xs, ex, hx, q⟩ := q1
  subst ex
  cases r1
  have hst : PO X (some (.UnaryOp .USub (.Constant (.int 1) k p1) p2)) (tPart (tUn (rU fun i => .int (-i)) (tC (.int 1)))) := po_some (pe_un un_neg pe_int)
  refine wpAny_Slice (thn (po_none.run pins s1 σ H1 (fun o G => o = none ∧ G = H1) I1 ⟨rfl, rfl⟩) fun vl s2 hl2 => ?_)
  obtain ⟨_, _, I2, pl, rfl, rfl⟩ := hl2
  refine thn (po_none.run pins s2 σ _ (fun o G => o = none ∧ G = _) I2 ⟨rfl, rfl⟩) fun vu s3 hl3 => ?_
  obtain ⟨_, _, I3, pu, rfl, rfl⟩ := hl3
  refine thn (hst.run pins s3 σ _ (fun o G => o = some (-1) ∧ G = _) I3 ⟨1, rfl, -1, rfl, rfl, rfl⟩) fun vs s4 hl4 => ?_
  obtain ⟨_, H4, I4, ps, rfl, rfl⟩ := hl4
  have I5 : Inv X pins σ H4 { s4 with heap := s4.heap.push { cls := .type "slice", data := .fields #[vl, vu, vs] } } := I4.kept (t' := s4.toks) fun b ob q => Heap.get?_push_of_some _ q
  obtain ⟨its, r, ht, hz⟩ := I5.tuple hx
  have hlen := r.length
  show wpAny (model X.prog X.w) X.A (subscriptTail e (.Slice none none (some (.UnaryOp .USub (.Constant (.int 1) k p1) p2)) p3) (.ref a) (.ref s4.heap.objs.size)) (EP X pins σ Q) X.xe { s4 with heap := s4.heap.push { cls := .type "slice", data := .fields #[vl, vu, vs] } }
  refine tail_any (ops := [.ref a, .ref s4.heap.objs.size]) ht.typeIs (PyProof.Rows.slot_tuple_getitem.lookup) ?_ (by with_unfolding_all rfl)
  refine tuple_rev ht (Heap.IsSliceOf.new _ vl vu vs) pl pu ps ?_ (by rw [List.size_toArray]; omega)
  have e : its.toArray.toList.reverse = its.reverse := by simp
  rw [e]
  refine ⟨.ref _, _, I5.laid (t' := s4.toks) (o := .tup xs.reverse) (fun b ob q => Heap.get?_push_of_some _ q) (Nat.le_refl _) ?_, rfl, q _ (I5.hok.fresh (Nat.le_refl _))⟩
  exact ⟨by rw [List.length_reverse]; exact hz, its.reverse, r.reverse, ⟨_, Heap.get?_push_size _ rfl, rfl, _, rfl⟩⟩
end
end Sw
set_option maxRecDepth 100000
set_option maxHeartbeats 4000000
namespace Sw
open PySem PySem.Spec PyProof.Rows L2
mutual
/-- a long list is no part of data whose lists are short -/
theorem Dp_off {K : PySem.W.Frag} {G : Hp} {T : Addr} {us : List V} {l : Nat} (hT : G T = some (.lst us)) (hl : l < us.length) : ∀ {v : V} {d : PyData}, Dp K G v d → lens l d = true → Dp K (del G T) v d
  | _, _, .non, _ => .non
  | _, _, .bl b, _ => .bl b
  | _, _, .int i, _ => .int i
  | _, _, .str x, _ => .str x
  | _, _, .lst (a := a) (xs := xs) (ds := ds) h r, hf => by
    have hf' : ds.length ≤ l ∧ lensAll l ds = true := by simpa [lens] using hf
    have hlen := DpAll_len r
    refine .lst ?_ (DpAll_off hT hl r hf'.2)
    rcases h with (h | ⟨o, h⟩) | h
    · refine .inl (.inl (del_some h fun e => ?_))
      rw [e, hT] at h
      cases h
      omega
    · refine .inl (.inr ⟨o, del_some h fun e => ?_⟩)
      rw [e, hT] at h
      cases h
    · exact .inr h
  | _, _, .tup (a := a) (xs := xs) (ds := ds) h r, hf => by
    have hf' : ds.length ≤ l ∧ lensAll l ds = true := by simpa [lens] using hf
    refine .tup ?_ (DpAll_off hT hl r hf'.2)
    rcases h with (h | ⟨o, h⟩) | h
    · refine .inl (.inl (del_some h fun e => ?_))
      rw [e, hT] at h
      cases h
    · refine .inl (.inr ⟨o, del_some h fun e => ?_⟩)
      rw [e, hT] at h
      cases h
    · exact .inr h
theorem DpAll_off {K : PySem.W.Frag} {G : Hp} {T : Addr} {us : List V} {l : Nat} (hT : G T = some (.lst us)) (hl : l < us.length) : ∀ {vs : List V} {ds : List PyData}, DpAll K G vs ds → lensAll l ds = true → DpAll K (del G T) vs ds
  | _, _, .nil, _ => .nil
  | _, _, .cons (d := d) (ds := ds) h r, hf => by
    have hf' : lens l d = true ∧ lensAll l ds = true := by simpa [lensAll] using hf
    exact .cons (Dp_off hT hl h hf'.1) (DpAll_off hT hl r hf'.2)
end
/-- what repr asks of data -/
theorem repr_of {M l n B : Nat} {d : PyData} (h : Fit M l n B d) (hM : M ≤ 10 ^ 200) (hn : n ≤ 60) (hB : B ≤ 16777216) : d.showable = true ∧ d.hasDict = false ∧ d.depth ≤ 60 ∧ d.shown.length ≤ sizeLine := by
  have e1 : M < 2 ^ 1920 := Nat.lt_of_le_of_lt hM (by decide +kernel)
  have e2 : M < 10 ^ 240 := Nat.lt_of_le_of_lt hM (by decide +kernel)
  refine ⟨leaf_shows e1 d h.lf, leaf_noDict d h.lf, Nat.le_trans h.dp hn, ?_⟩
  have h1 := shown_wt e2 d h.lf
  have h2 := h.wg
  rw [sizeLine_eq]
  omega
/-- things as they are told to the looks -/
abbrev FitT (d : PyData) : Prop := Fit (10 ^ 199 + 2) 60 50 20000 d
theorem list_fit {ds : List PyData} (h : ∀ d ∈ ds, FitT d) (hl : ds.length ≤ 400) : Fit (10 ^ 199 + 2) 400 51 16000000 (.list ds) := by
  have hw : ∀ l : List PyData, (∀ d ∈ l, FitT d) → wtAll l ≤ 20002 * l.length := by
    intro l
    induction l with
    | nil => intro _; simp [wtAll]
    | cons x l ih =>
      intro hx
      have h1 := (hx x List.mem_cons_self).wg
      have h2 := ih fun d hd => hx d (List.mem_cons_of_mem _ hd)
      simp only [wtAll, List.length_cons]
      omega
  have := hw ds h
  refine Fit.lst (n := 50) hl (fun x hx => ?_) (by omega)
  have := (h x hx).mono (Nat.le_refl _) (show 60 ≤ 400 by omega) (Nat.le_refl _) (Nat.le_refl _)
  exact ⟨this.lf, this.ln, this.dp⟩
end Sw
set_option maxRecDepth 100000
set_option maxHeartbeats 4000000
namespace Sw
open PySem PySem.Spec PyProof.Rows L2
/-- the things while they grow: T holds them, p and fq are the feed's -/
structure LI (K : PySem.W.Frag) (p fq T : Addr) (vo : V) (os : List PyData) (b : Nat) (H : Hp) (us : List V) (ds : List PyData) : Prop where
  feed : FeedAt H p fq b
  at_ : H T = some (.lst us)
  np : T ≠ p
  nq : T ≠ fq
  dat : DpAll K (del (del H p) T) us ds
  odd : Dp K (del (del H p) T) vo (.tuple os)
  long : 56 ≤ us.length
  fit : ∀ d ∈ ds, FitT d
section
variable {K : PySem.W.Frag} {p fq T : Addr} {vo : V} {os : List PyData} {b : Nat} {H H' : Hp} {us : List V} {ds : List PyData}
theorem LI.next {b' : Nat} (I : LI K p fq T vo os b H us ds) (s : Same (del H p) (del H' p)) (F : FeedAt H' p fq b') : LI K p fq T vo os b' H' us ds :=
  ⟨F, (of_del (s _ _ (del_some I.at_ I.np))).1, I.np, I.nq, DpAll_same (same_del s) I.dat, Dp_same (same_del s) I.odd, I.long, I.fit⟩
theorem LI.lay (I : LI K p fq T vo os b H us ds) (s : Same H H') : LI K p fq T vo os b H' us ds := I.next (same_del s) (I.feed.same s)
theorem LI.mono {c : Nat} (I : LI K p fq T vo os b H us ds) (h : b ≤ c) : LI K p fq T vo os c H us ds := ⟨I.feed.mono h, I.at_, I.np, I.nq, I.dat, I.odd, I.long, I.fit⟩
theorem LI.off (I : LI K p fq T vo os b H us ds) {v : V} {d : PyData} (h : Dp K (del H p) v d) {M l n B : Nat} (hf : Fit M l n B d) (hl : l < 56) : Dp K (del (del H p) T) v d :=
  Dp_off (l := l) (del_some I.at_ I.np) (Nat.lt_of_lt_of_le hl I.long) h hf.ln
theorem LI.new (I : LI K p fq T vo os b H us ds) {a : Addr} {o : HO} (ha : H a = none) : del (del (upd H a o) p) T a = some o :=
  del_some (del_some upd_same (I.feed.ne ha).1) (Ne.symm (ne_of_none I.at_ ha))
theorem LI.more (I : LI K p fq T vo os b H us ds) {ws : List V} {es : List PyData} (h : DpAll K (del (del H p) T) ws es) (hf : ∀ d ∈ es, FitT d) : LI K p fq T vo os b (upd H T (.lst (us ++ ws))) (us ++ ws) (ds ++ es) := by
  have s : Same (del (del H p) T) (del (del (upd H T (.lst (us ++ ws))) p) T) := fun c o e => by
    obtain ⟨e1, e2⟩ := of_del e
    obtain ⟨e3, e4⟩ := of_del e1
    exact del_some (del_some (by rw [upd_ne e2]; exact e3) e4) e2
  refine ⟨I.feed.upd I.np I.nq, upd_same, I.np, I.nq, DpAll_same s (DpAll_append I.dat h), Dp_same s I.odd, ?_, fun d hd => (List.mem_append.mp hd).elim (I.fit d) (hf d)⟩
  have := I.long
  rw [List.length_append]
  omega
end
/-- objects, few -/
theorem objs_wt : ∀ l : List PyData, (∀ d ∈ l, ObjD d) → wtAll l ≤ 346 * l.length
  | [], _ => by simp [wtAll]
  | x :: l, h => by
    have h1 := (objD_fit (h x List.mem_cons_self)).wg
    have h2 := objs_wt l fun d hd => h d (List.mem_cons_of_mem _ hd)
    simp only [wtAll, List.length_cons]
    omega
theorem objs_any {ds : List PyData} (hl : ds.length ≤ 8) (h : ∀ d ∈ ds, ObjD d) : FitT (.tuple ds) ∧ FitT (.list ds) := by
  have hw := objs_wt ds h
  have hx : ∀ x ∈ ds, leaf (10 ^ 199 + 2) x = true ∧ lens 60 x = true ∧ x.depth ≤ 49 := fun x hx => by
    have := (objD_fit (h x hx)).mono (M' := 10 ^ 199 + 2) (l' := 60) (n' := 49) (B' := 344) (show 4 ≤ 10 ^ 199 + 2 by decide +kernel) (by omega) (by omega) (Nat.le_refl _)
    exact ⟨this.lf, this.ln, this.dp⟩
  exact ⟨Fit.tup (n := 49) (by omega) hx (by omega), Fit.lst (n := 49) (by omega) hx (by omega)⟩
theorem DpAll_reverse {K : PySem.W.Frag} {H : Hp} : ∀ {vs : List V} {ds : List PyData}, DpAll K H vs ds → DpAll K H vs.reverse ds.reverse
  | _, _, .nil => .nil
  | _, _, .cons h r => by
    rw [List.reverse_cons, List.reverse_cons]
    exact DpAll_append (DpAll_reverse r) (.cons h .nil)
abbrev eight : Str := "abcdefgh"
theorem eight_len : eight.length = 8 := by decide +kernel
theorem eight_ok : ∀ c ∈ eight.cps.toList, c < 128 := by
  have : eight.cps.toList.all (fun c => decide (c < 128)) = true := by decide +kernel
  exact fun c hc => by simpa using List.all_eq_true.mp this c hc
theorem app_ok {x y : Str} (hx : ∀ c ∈ x.cps.toList, c < 128) (hy : ∀ c ∈ y.cps.toList, c < 128) : ∀ c ∈ (x ++ y).cps.toList, c < 128 := fun c hc => by
  rw [app_list] at hc
  exact (List.mem_append.mp hc).elim (hx c) (hy c)
theorem a_ok : ∀ c ∈ (Str.ofString "a").cps.toList, c < 128 := fun c hc => by
  have : c = 97 := by simpa using (show c ∈ [97] from hc)
  omega
/-- four answers, as data -/
theorem four_fit (a b c d : Bool) : Fit 0 4 1 100 (.tuple [.bool a, .bool b, .bool c, .bool d]) := by
  refine Fit.tup (n := 0) (by show 4 ≤ 4; omega) (fun x hx => ?_) (by simp only [wtAll, wt]; omega)
  simp only [List.mem_cons, List.not_mem_nil, or_false] at hx
  rcases hx with rfl | rfl | rfl | rfl <;> exact ⟨rfl, rfl, by simp [PyData.depth]⟩
end Sw
set_option maxRecDepth 100000
set_option maxHeartbeats 4000000
namespace Sw
open PySem PySem.Spec PyProof.Rows L2
/-! ### tuples with nothing beside their items -/
abbrev tupO (its : List Value) : Obj := { cls := .type "tuple", data := .seq its.toArray }
def TupF (H : Hp) (a : Addr) (xs : List V) : Prop := ∃ its, H a = some (.frz (tupO its) (.tup xs))
theorem TupF.sq {K : PySem.W.Frag} {H : Hp} {a : Addr} {xs : List V} (h : TupF H a xs) : SqT K H a xs := .inl (.inr ⟨_, h.choose_spec⟩)
theorem TupF.same {H H' : Hp} {a : Addr} {xs : List V} (s : Same H H') (h : TupF H a xs) : TupF H' a xs := ⟨_, s _ _ h.choose_spec⟩
section
variable {X : Cx}
/-- tuple(list), the new one as it is laid -/
def rTupF (K : PySem.W.Frag) : List V → Hp → VK → Prop := fun vs H Q => ∃ p ys, vs = [.ref p] ∧ SqL K H p ys ∧ ∀ l its, H l = none → Q (.ref l) (upd H l (.frz (tupO its) (.tup ys)))
theorem call_tupF : CallR X (.type "tuple") (rTupF X.K) := by
  intro pins s σ H xs us Q I r h
  obtain ⟨p, ys, rfl, hq, q⟩ := h
  rw [Vals.ref1 r]
  obtain ⟨its, rv, pl, hz⟩ := I.list hq
  have hlen := rv.length
  refine call_tuple_list pl.isList (fun h' kp => ?_) (by rw [List.size_toArray]; omega)
  have J : Inv X pins σ H { s with heap := h' } := I.kept (t' := s.toks) kp
  refine ⟨.ref h'.objs.size, _, J.laid (t' := s.toks) (o := .frz (tupO its) (.tup ys)) (fun b o e => Heap.get?_push_of_some _ e) (Nat.le_refl _) ⟨Heap.get?_push_size _ rfl, hz, its, rv, IsTup.new _ _⟩, rfl, q _ its (J.hok.fresh (Nat.le_refl _))⟩
/-- pairs as they lie in the heap -/
theorem lie_pairs {pins : List (Addr × Obj)} {σ : L2.St} {H : Hp} {s : Shared} (I : Inv X pins σ H s) : ∀ {ps : List Addr} {kvs : List (Key × V)}, Paired (fun p kv => SqT X.K H p [kV kv.1, kv.2]) ps kvs →
    ∃ (prs : List (Key × Value)) (qs : List (Value × Value)), KV kvs prs ∧ prs.length = ps.length ∧ qs.length = ps.length ∧
      ∀ (j : Nat) (k v : Value), qs[j]? = some (k, v) → ∃ b key, ps[j]? = some b ∧ prs[j]? = some (key, v) ∧ keyIs key k = true ∧ IsTup s.heap b #[k, v]
  | _, _, .nil => ⟨[], [], .nil, rfl, rfl, fun j k v e => by simp at e⟩
  | _, _, .cons (a := p) (b := kv) h t => by
    obtain ⟨prs, qs, r, l1, l2, hp⟩ := lie_pairs I t
    obtain ⟨its, rv, ht, _⟩ := I.tuple h
    obtain ⟨u, y, ei, ru, ry⟩ := vals2 rv
    subst ei
    refine ⟨(kv.1, y) :: prs, (u, y) :: qs, .cons ⟨rfl, ry⟩ r, by rw [List.length_cons, l1, List.length_cons], by rw [List.length_cons, l2, List.length_cons], fun j k v e => ?_⟩
    cases j with
    | zero =>
      have e' : (u, y) = (k, v) := Option.some.inj e
      cases e'
      exact ⟨p, kv.1, rfl, rfl, kV_is (P := X.prog) (w := X.w) ru, ht⟩
    | succ j => exact hp j k v (by simpa using e)
/-- dict(t) of a tuple of pairs -/
def rDictT (K : PySem.W.Frag) : List V → Hp → VK → Prop := fun vs H Q => ∃ (a : Addr) (ps : List Addr) (kvs : List (Key × V)), vs = [.ref a] ∧ TupF H a (ps.map V.ref) ∧ Paired (fun p kv => SqT K H p [kV kv.1, kv.2]) ps kvs ∧
  ∀ p, H p = none → Q (.ref p) (upd H p (.dK (mergeK [] kvs)))
theorem call_dictT (hc : X.calm = true) : CallR X (.type "dict") (rDictT X.K) := by
  intro pins s σ H xs us Q I r h
  obtain ⟨a, ps, kvs, rfl, ⟨its, hF⟩, hp, q⟩ := h
  rw [Vals.ref1 r]
  obtain ⟨e1, hz, its', rv, e2⟩ := I.hok a _ hF
  obtain ⟨prs, qs, rel, l1, l2, hpr⟩ := lie_pairs I hp
  have ei := refs_at rv
  have eits : its' = its := by
    obtain ⟨o, ho, _, n, hd⟩ := e2
    rw [e1] at ho
    cases ho
    injection hd with hd1 _
    simpa using (congrArg Array.toList hd1).symm
  rw [List.length_map] at hz
  refine PySem.call_dict_pairs (knd := mixKind X.prog X.w) (kvs := prs) (PairArg.tuple a its.toArray (fun j => ps.getD j 0) qs) (I.ok.hd hc) ⟨⟨_, _, e1, rfl, rfl, rfl⟩, ?_, ?_⟩ ⟨by rw [l1, l2], ?_⟩ (by omega) fun h' tk hd' k => ?_
  · rw [List.size_toArray, ← eits, ei, List.length_map, l2]
  · intro j k v e
    obtain ⟨b, key, h1, h2, h3, h4⟩ := hpr j k v e
    have eb : ps.getD j 0 = b := by simp [List.getD, h1]
    refine ⟨?_, .inl (by dsimp only; rw [eb]; exact h4)⟩
    dsimp only
    rw [eb, ← eits, ei]
    simp [h1]
  · intro j k v e
    obtain ⟨b, key, h1, h2, h3, h4⟩ := hpr j k v e
    exact ⟨key, h2, h3⟩
  · have hm : (s.heap.objs.size == sysModules) = false := beq_eq_false_iff_ne.mpr (Nat.ne_of_gt I.big)
    have hlen : (mergeK [] kvs).length ≤ sizeLine := by
      have z := length_mergeK kvs []
      rw [List.length_nil, Nat.zero_add, rel.length, l1] at z
      omega
    refine ⟨.ref s.heap.objs.size, _, I.laid (t' := tk) (o := .dK (mergeK [] kvs)) (fun b o e => k b o (by simp) e) (Nat.le_refl _) ⟨hlen, hm, merged [] prs, KV.merge rel .nil, hd'⟩, rfl, q _ (I.hok.fresh (Nat.le_refl _))⟩
end
end Sw
set_option maxRecDepth 100000
set_option maxHeartbeats 4000000
namespace Sw
open PySem PySem.Spec PyProof.Rows L2
section
variable {P : Program} {w : World} {A : Around} {E : Value → Shared → Prop} {s : Shared}
theorem call_set_txtsT {l : Addr} {items : Array Value} (xs : List Str) {Q : Value → Shared → Prop} (hh : A.handled = none) (hl : s.heap.IsTuple l items) (hit : StrsAre items.toList xs) (few : xs.length + 1 < scanBound)
    (h : ∀ (h' : Heap) (tk : Nat) L, TxtSet w h' s.heap.objs.size L → Met xs xs.length L → (∀ b o, s.heap.get? b = some o → h'.get? b = some o) → Q (.ref s.heap.objs.size) { s with heap := h', toks := tk }) :
    wpAny (model P w) A (call (.type "set") [.ref l]) Q E s := by
  have isz : items.size = xs.length := by have := hit.length; simpa using this
  obtain ⟨c, tl, hmro⟩ := F.called_set.mro
  have hmade := F.called_set.made
  have hsub := F.called_set.sub
  refine wpAny_call (codeAny_of_tree ?_)
  show wpAny _ _ (callAny (.type "set") _) _ _ _
  refine wpAny_pure ⟨Code.quiet_builtin _ (by decide +kernel), codeAny_builtin F.entry_type_call ?_⟩
  rw [Around.under_plain (weight_type_call_type "set" [.ref l] []) rfl]
  have h1 := F.called_set.notType
  have h2 := F.called_set.canCreate
  have hct := F.typeCall_set_1 (.ref l)
  repeat (any_goals (first | assumption | wp_step))
  refine codeAny_mono (code_set_led1 (.ref l) (E := E) (Q₁ := fun obj s1 => obj = .ref s.heap.objs.size ∧ s1 = { s with heap := s.heap.push (newSetO w) }) ⟨rfl, rfl⟩) ?_
  intro r s1 hr
  cases r with
  | error e => exact hr
  | ok fl =>
    cases fl with
    | ret obj =>
      obtain ⟨rfl, rfl⟩ := hr
      have hS : (s.heap.push (newSetO w)).get? s.heap.objs.size = some (newSetO w) := Heap.get?_push_size _ rfl
      have hT : Shared.TypeIs { s with heap := s.heap.push (newSetO w) } (.ref s.heap.objs.size) "set" := ⟨_, hS, rfl⟩
      have hli := F.called_set.init.lookup
      have hbi := F.called_set.init.bind (.ref s.heap.objs.size)
      repeat (any_goals (first | assumption | wp_step))
      refine codeAny_mono (codeAny_call_builtin (R := wants (fun r s2 => r = .none ∧ ∃ h' tk L, s2 = { s with heap := h', toks := tk } ∧ TxtSet w h' s.heap.objs.size L ∧ Met xs xs.length L ∧
          (∀ b o, s.heap.get? b = some o → h'.get? b = some o)) E) F.called_set.init.plain F.entry_set_init (check_set_init_1 hT ?_)) ?_
      · obtain ⟨ol, hol, hcl, nl, hdl⟩ := hl
        obtain ⟨ocls, odict, odata, oslots⟩ := ol
        simp only at hcl hdl
        subst hcl
        subst hdl
        have hol' : (s.heap.push (newSetO w)).get? l = some { cls := .type "tuple", dict := odict, data := .seq items nl, slots := oslots } := Heap.get?_push_of_some _ hol
        have hsls := F.sub_tuple_set
        have hslf := F.sub_tuple_frozenset
        have hne : (Value.type "tuple" == Value.type "dict") = false := by decide
        have hl1 : (s.heap.push (newSetO w)).IsTuple l items := ⟨_, hol', rfl, nl, rfl⟩
        unfold Builtin.«set.__init__» noKeywords Builtin.Frozenset.updateFrom
        generalize hPI : pyIter = PI
        wp_walk
        subst hPI
        refine wpAny_pyIter_tuple hl1 (wpAny_bind (wpAny_runValue ?_))
        have hlS : l < s.heap.objs.size := Heap.lt_size hol
        have zp : (s.heap.push (newSetO w)).objs.size = s.heap.objs.size + 1 := Heap.size_push ..
        have neI : l ≠ (s.heap.push (newSetO w)).objs.size := by rw [zp]; exact Nat.ne_of_lt (Nat.lt_succ_of_lt hlS)
        have nS : s.heap.objs.size ∉ [(s.heap.push (newSetO w)).objs.size, l] := by
          rw [zp]
          simp only [List.mem_cons, List.not_mem_nil, or_false, not_or]
          exact ⟨Nat.ne_of_lt (Nat.lt_succ_self _), Nat.ne_of_gt hlS⟩
        have hval : ∀ (i : Nat) (v : Value), items[i]? = some v → ∃ x t, xs[i]? = some x ∧ v = .str x t := fun i v hv => by
          obtain ⟨y, t, e1, e2⟩ := hit.item i v (by rw [Array.getElem?_toList]; exact hv)
          exact ⟨y, t, e2, e1⟩
        refine txt_update ((Walks.tuple (by simp [hh]) _ l neI items).toS) s.heap.objs.size nS xs isz (by omega) hval (items.size - 0) 0 _ (by omega) (Nat.zero_le _)
          ⟨⟨_, Heap.get?_push_size _ rfl, rfl, rfl⟩, (hl1.push _)⟩ ⟨[], txt_fresh (Heap.get?_push_of_some _ hS), Nat.le_refl _, by simp⟩ ?_
        intro s' L hm hS' g'
        obtain ⟨h', g2, d', tk', os'⟩ := s'
        have eg : g2 = s.gens := hm.gens
        have ed : d' = s.drawn := hm.drawn
        have eo : os' = s.os := hm.os
        subst eg ed eo
        show wpAny _ _ _ _ _ _
        refine wpAny_pure ?_
        show wpAny _ _ (ret Value.none) _ _ _
        rw [isz] at g'
        refine wpAny_pure ⟨rfl, h', tk', L, rfl, hS', g', fun c o e => ?_⟩
        have lc : c < s.heap.objs.size := Heap.lt_size e
        refine hm.heap c o ?_ (Heap.get?_push_of_some _ (Heap.get?_push_of_some _ e))
        simp only [List.mem_cons, List.not_mem_nil, or_false, not_or]
        refine ⟨Nat.ne_of_lt lc, ?_⟩
        rw [zp]
        exact Nat.ne_of_lt (Nat.lt_succ_of_lt lc)
      · intro r2 s2 hr2
        cases r2 with
        | error e => exact hr2
        | ok fl2 =>
          cases fl2 with
          | ret r =>
            obtain ⟨rfl, h', tk, L, rfl, hS', g', hk'⟩ := hr2
            repeat (any_goals (first | assumption | wp_step))
            exact h _ _ _ hS' g' hk'
          | _ => exact hr2.elim
    | _ => exact hr.elim
end
end Sw
set_option maxRecDepth 100000
set_option maxHeartbeats 4000000
namespace Sw
open PySem PySem.Spec PyProof.Rows L2
section
variable {X : Cx}
/-- set(t) of a tuple of texts -/
def rSetST (K : PySem.W.Frag) (w : World) : List V → Hp → VK → Prop := fun vs H Q => ∃ (l : Addr) (xs : List Str), vs = [.ref l] ∧ SqT K H l (xs.map V.str) ∧ xs.length ≤ 1000 ∧
  ∀ a L, H a = none → L.length ≤ xs.length → (∀ x, x ∈ L ↔ x ∈ xs) → L.Nodup → Q (.ref a) (upd H a (SetSO w a L))
theorem TxtSet.nodup {w : World} {h : Heap} {a : Addr} {L : List Str} (R : TxtSet w h a L) : L.Nodup := by
  obtain ⟨_, _, _, _, _, _, _, _, nd, _⟩ := R
  exact nd
theorem cr_setST (hc : X.calm = true) : CallR X (.type "set") (rSetST X.K X.w) := by
  intro pins s σ H vs us Q I r h
  obtain ⟨l, xs, rfl, hl, hn, q⟩ := h
  obtain ⟨its, rv, hp, _⟩ := I.tuple hl
  rw [Vals.ref1 r]
  refine call_set_txtsT xs (I.ok.hd hc) hp (by simpa using rv.strs) (by unfold scanBound; omega) ?_
  intro h' tk L hS g k
  have hf : H s.heap.objs.size = none := I.hok.fresh (Nat.le_refl _)
  refine ⟨.ref s.heap.objs.size, _, I.laid (t' := tk) (o := SetSO X.w s.heap.objs.size L) k (Nat.le_refl _) (setSO_ok hS), rfl, q _ L hf g.1 ?_ hS.nodup⟩
  intro x
  have := g.2 x
  rwa [List.take_length] at this
/-- len of a set of texts -/
def rLenSS (w : World) : List V → Hp → VK → Prop := fun vs H Q => ∃ (a : Addr) (L : List Str), vs = [.ref a] ∧ H a = some (SetSO w a L) ∧ Q (.int (L.length : Nat)) H
theorem cr_lenSS : CallR X (.builtin "len") (rLenSS X.w) := by
  intro pins s σ H vs us Q I r h
  obtain ⟨a, L, rfl, ha, q⟩ := h
  rw [Vals.ref1 r]
  obtain ⟨o, es, ep, t, ho, hex, hd, hp, nd, hb, hf, _⟩ : TxtSet X.w s.heap a L := (I.hok a _ ha).1
  have hl : es.size = L.length := by have := hp.length; simpa using this
  refine call_len_set ho hex hd hf (by unfold scanBound at hb; omega) ⟨.int L.length, H, I.tok _, ⟨_, by rw [hl]⟩, q⟩
end
theorem nodup_le : ∀ {L xs : List Str}, L.Nodup → (∀ x ∈ L, x ∈ xs) → L.length ≤ xs.length
  | [], xs, _, _ => Nat.zero_le _
  | y :: L, xs, nd, h => by
    rw [List.nodup_cons] at nd
    have hy := h y List.mem_cons_self
    have := nodup_le (L := L) (xs := xs.erase y) nd.2 fun x hx => (List.mem_erase_of_ne (show x ≠ y from fun e => nd.1 (e ▸ hx))).mpr (h x (List.mem_cons_of_mem _ hx))
    rw [List.length_erase_of_mem hy] at this
    have := List.length_pos_of_mem hy
    rw [List.length_cons]
    omega
theorem twice_of : ∀ {xs : List Str}, ¬ xs.Nodup → ∃ x ∈ xs, x ∈ xs.erase x
  | [], h => absurd List.nodup_nil h
  | y :: xs, h => by
    by_cases hy : y ∈ xs
    · exact ⟨y, List.mem_cons_self, by rw [List.erase_cons_head]; exact hy⟩
    · obtain ⟨x, hx, hx2⟩ := twice_of (xs := xs) fun nd => h (List.nodup_cons.mpr ⟨hy, nd⟩)
      have ne : x ≠ y := fun e => hy (e ▸ hx)
      refine ⟨x, List.mem_cons_of_mem _ hx, ?_⟩
      rw [List.erase_cons_tail (by simpa using Ne.symm ne)]
      exact List.mem_cons_of_mem _ hx2
/-- as many in the set as in the list: none twice -/
theorem nodup_iff {L xs : List Str} (nd : L.Nodup) (hl : L.length ≤ xs.length) (h : ∀ x, x ∈ L ↔ x ∈ xs) : L.length = xs.length ↔ xs.Nodup := by
  constructor
  · intro e
    refine Decidable.byContradiction fun hx => ?_
    obtain ⟨x, hx1, hx2⟩ := twice_of hx
    have := nodup_le (L := L) (xs := xs.erase x) nd fun z hz => by
      by_cases ez : z = x
      · rw [ez]; exact hx2
      · exact (List.mem_erase_of_ne ez).mpr ((h z).mp hz)
    rw [List.length_erase_of_mem hx1] at this
    have := List.length_pos_of_mem hx1
    omega
  · intro hx
    have := nodup_le hx fun z hz => (h z).mpr hz
    omega
end Sw
set_option maxRecDepth 100000
set_option maxHeartbeats 4000000
namespace Sw
open PySem PySem.Spec PyProof.Rows L2
/-! ### pairs of a text and an int, in their order -/
def ltSI (p q : Str × Int) : Bool := if p.1 = q.1 then decide (p.2 < q.2) else decide (p.1.cps.toList < q.1.cps.toList)
theorem ltSI_iff {p q : Str × Int} : ltSI p q = true ↔ LtS p.1 q.1 ∨ (p.1 = q.1 ∧ p.2 < q.2) := by
  unfold ltSI
  by_cases e : p.1 = q.1
  · rw [if_pos e, decide_eq_true_eq]
    exact ⟨fun h => .inr ⟨e, h⟩, fun h => h.elim (fun z => by rw [e] at z; exact absurd z LtS.irr) (·.2)⟩
  · rw [if_neg e, decide_eq_true_eq]
    exact ⟨fun h => .inl h, fun h => h.elim id fun z => absurd z.1 e⟩
theorem ltSI_no {p q : Str × Int} : ltSI p q = false ↔ ¬ (LtS p.1 q.1 ∨ (p.1 = q.1 ∧ p.2 < q.2)) := by
  rw [← ltSI_iff]
  cases ltSI p q <;> simp
theorem tri (a b : Str) : LtS a b ∨ a = b ∨ LtS b a := by
  by_cases h1 : a.cps.toList < b.cps.toList
  · exact .inl h1
  by_cases h2 : b.cps.toList < a.cps.toList
  · exact .inr (.inr h2)
  have e : a.cps.toList = b.cps.toList := List.le_antisymm (List.not_lt.mp h2) (List.not_lt.mp h1)
  cases a; cases b
  exact .inr (.inl (by simpa using congrArg List.toArray e))
theorem ltSI_swo {α : Type} (k : α → Str × Int) : SrtO.Swo fun x y => ltSI (k x) (k y) := by
  refine ⟨fun x y h => ?_, fun x y z h1 h2 => ?_⟩
  · rw [ltSI_no]
    rcases ltSI_iff.mp h with a | ⟨a, b⟩
    · rintro (c | ⟨c, _⟩)
      · exact LtS.irr (a.trans c)
      · rw [c] at a; exact LtS.irr a
    · rintro (c | ⟨_, c⟩)
      · rw [a] at c; exact LtS.irr c
      · omega
  · rw [ltSI_no] at h1 h2 ⊢
    rcases tri (k x).1 (k y).1 with a | a | a
    · rcases tri (k y).1 (k z).1 with b | b | b
      · rintro (c | ⟨c, _⟩)
        · exact LtS.irr ((a.trans b).trans c)
        · rw [← c] at a; exact LtS.irr (a.trans b)
      · rintro (c | ⟨c, _⟩)
        · rw [b] at a; exact LtS.irr (a.trans c)
        · rw [b, c] at a; exact LtS.irr a
      · exact absurd (.inl b) h2
    · rcases tri (k y).1 (k z).1 with b | b | b
      · rintro (c | ⟨c, _⟩)
        · rw [a] at c; exact LtS.irr (b.trans c)
        · rw [c, a] at b; exact LtS.irr b
      · rintro (c | ⟨_, c⟩)
        · rw [a, b] at c; exact LtS.irr c
        · have e1 : ¬ (k y).2 < (k x).2 := fun q => h1 (.inr ⟨a.symm, q⟩)
          have e2 : ¬ (k z).2 < (k y).2 := fun q => h2 (.inr ⟨b.symm, q⟩)
          omega
      · exact absurd (.inl b) h2
    · exact absurd (.inl a) h1
def PairSI (h : Heap) (v : Value) (x : Str) (y : Int) : Prop := ∃ a o t u n, v = .ref a ∧ h.get? a = some o ∧ o.cls = .type "tuple" ∧ o.data = .seq #[.str x t, .int y u] n
theorem PairSI.keeps {h h' : Heap} {v : Value} {x : Str} {y : Int} (p : PairSI h v x y) (k : ∀ b o, h.get? b = some o → o.cls = .type "tuple" → h'.get? b = some o) : PairSI h' v x y := by
  obtain ⟨a, o, t, u, n, e, ho, hc, hd⟩ := p
  exact ⟨a, o, t, u, n, e, k _ _ ho hc, hc, hd⟩
section
variable {prog : Program} {w : World} {A : Around} {E : Value → Shared → Prop} {s : Shared}
theorem cmpSI {vs : List Value} {k : Value → Str × Int} (hp : ∀ v ∈ vs, PairSI s.heap v (k v).1 (k v).2) : SrtO.Cmp prog w A s (tuples' true) (fun p => p.1 ∈ vs) (SrtO.lt2 fun v u => ltSI (k v) (k u)) := by
  intro p q hm hm'
  have h1 := hp _ hm
  have h2 := hp _ hm'
  show wpAny (model prog w) A (keyLt' (tuples' true) p.1 q.1) (fun r s' => s' = s ∧ r = ltSI (k p.1) (k q.1)) (fun _ _ => False) s
  unfold ltSI
  generalize (k p.1).1 = x at h1 ⊢
  generalize (k p.1).2 = y at h1 ⊢
  generalize (k q.1).1 = x' at h2 ⊢
  generalize (k q.1).2 = y' at h2 ⊢
  obtain ⟨a, o, t, u, n, e, ho, hc, hd⟩ := h1
  obtain ⟨a', o', t', u', n', e', ho', hc', hd'⟩ := h2
  rw [e, e']
  refine PySem.W.kat_lt ho hd ho' hd' ?_
  show PySem.W.KatLex prog w A true (decide (2 < 2)) _ [(.str x t, .str x' t'), (.int y u, .int y' u')] 0 s
  refine PySem.W.kat_cons (SeqAt.EqAt.str_str x t x' t' prog w _ _ ?_)
  refine PySem.W.kat_go (fun e1 => ?_) (fun e1 => ?_)
  · have ex : x = x' := by simpa using e1
    refine PySem.W.kat_yes (PySem.W.kat_cons (SeqAt.EqAt.int_int y u y' u' prog w _ _ ?_))
    refine PySem.W.kat_go (fun e2 => ?_) (fun e2 => ?_)
    · have ey : y = y' := by simpa using e2
      refine PySem.W.kat_yes (PySem.W.kat_nil ⟨rfl, ?_⟩)
      rw [if_pos ex, ey]
      exact (decide_eq_false (Int.lt_irrefl _)).symm
    · refine PySem.W.kat_no (PySem.W.kat_one _ _ (PyProof.Rows.lt_int ?_))
      exact (show s = s ∧ decide (y < y') = _ from ⟨rfl, (if_pos ex).symm⟩)
  · have ex : ¬ x = x' := by simpa using e1
    exact PySem.W.kat_no (oneLt_str ⟨rfl, (if_neg ex).symm⟩)
theorem firstsSI {h : Heap} : ∀ {vs : List Value}, (∀ v ∈ vs, ∃ x y, PairSI h v x y) → ∃ fs : List Value, PySem.W.KatTups h vs fs ∧ fs.length = vs.length ∧ ∀ f ∈ fs, ∃ x t, f = Value.str x t
  | [], _ => ⟨[], PySem.W.KatTups.nil, rfl, fun _ hm => by simp at hm⟩
  | v :: vs, hp => by
    obtain ⟨fs, h1, h2, h3⟩ := firstsSI (vs := vs) fun v' hm => hp v' (List.mem_cons_of_mem _ hm)
    obtain ⟨x, y, a, o, t, u, n, e, ho, hc, hd⟩ := hp v List.mem_cons_self
    subst e
    refine ⟨.str x t :: fs, PySem.W.KatTups.cons ho hc hd rfl h1, by rw [List.length_cons, h2, List.length_cons], fun f hm => ?_⟩
    rcases List.mem_cons.mp hm with rfl | hm
    · exact ⟨x, t, rfl⟩
    · exact h3 f hm
theorem sortableSI {a : Addr} {vs : List Value} {k : Value → Str × Int} (h0 : 0 < vs.length) (hp : ∀ v ∈ vs, PairSI s.heap v (k v).1 (k v).2) (ha : ∀ o, s.heap.get? a = some o → o.cls ≠ .type "tuple") : SrtO.SortableO prog w A s a vs fun v u => ltSI (k v) (k u) := by
  intro h' keep
  have hp' : ∀ v ∈ vs, PairSI h' v (k v).1 (k v).2 := fun v hm => (hp v hm).keeps fun b o e c => keep b o (fun z => by subst z; exact ha o e c) e
  obtain ⟨fs, h1, h2, h3⟩ := firstsSI fun v hm => ⟨_, _, hp' v hm⟩
  refine ⟨tuples' true, fun Q E hq => ?_, cmpSI hp'⟩
  refine PySem.W.kat_kind (T := .type "str") h1 (by omega) (fun f hm => ?_) (by rfl) ?_
  · obtain ⟨x, t, rfl⟩ := h3 f hm
    exact PySem.W.Looks.now
  · rw [show (Value.type "str" != Value.type "tuple") = true by decide]
    exact hq
end
section
variable {X : Cx}
/-- sorted(xs) of pairs of a text and an int -/
def rSortedSI (K : PySem.W.Frag) : List V → Hp → VK → Prop := fun vs H Q => ∃ (a : Addr) (xs : List V) (k : V → Str × Int), vs = [V.ref a] ∧ SqL K H a xs ∧ (∀ x ∈ xs, ∃ t, x = V.ref t ∧ SqT K H t [.str (k x).1, .int (k x).2]) ∧
  ∀ ys p, SrtO.Srtd (fun x y => ltSI (k x) (k y)) ys → ys.Perm xs → H p = none → Q (.ref p) (upd H p (.lst ys))
theorem cr_sortedSI : CallR X (.builtin "sorted") (rSortedSI X.K) := by
  intro pins s σ H vs us Q I r h
  obtain ⟨a, xs, k, rfl, hs, hx, q⟩ := h
  rw [Vals.ref1 r]
  obtain ⟨its, rv, hl, hz⟩ := I.list hs
  obtain ⟨e1, e2⟩ := refs_back rv fun x m => by
    obtain ⟨t, e, _⟩ := hx x m
    exact ⟨t, e⟩
  have hP : ∀ v ∈ its, PairSI s.heap v (k (backV v)).1 (k (backV v)).2 := fun v hv => by
    obtain ⟨t, rfl⟩ := e2 v hv
    have hm : V.ref t ∈ xs := by rw [e1]; exact List.mem_map.mpr ⟨_, hv, rfl⟩
    obtain ⟨t', e, ht⟩ := hx _ hm
    cases e
    obtain ⟨its2, r2, ⟨o, ho, hc, n, hd⟩, _⟩ := I.tuple ht
    obtain ⟨u1, u2, rfl, ri, rj⟩ := vals2 r2
    obtain ⟨t1, rfl⟩ := ri
    obtain ⟨t2, rfl⟩ := rj
    exact ⟨t, o, t1, t2, n, rfl, ho, hc, hd⟩
  refine SrtO.sorted_ord (ltSI_swo fun v => k (backV v)) hl.isList (by rw [← rv.length]; exact hz) (fun h2 h₁ a ha kk => ?_) fun out hs hb => ?_
  · refine sortableSI (k := fun v => k (backV v)) (s := { s with heap := h₁ }) (by omega) (fun v hm => (hP v hm).keeps fun b o e _ => (kk b o e).2) fun o e => ?_
    have e' : some o = some (seqObj "list" its.toArray 0) := e.symm.trans ha
    cases e'
    intro c
    exact absurd (Value.type.inj c) (by decide)
  · have h3 : ∀ u ∈ out, ∃ a, u = Value.ref a := fun u hu => e2 u (hb.perm.mem_iff.mp hu)
    obtain ⟨n, hn⟩ := sortedAll_at s.heap its out.toArray
    have pm : (out.map backV).Perm xs := by rw [e1]; exact hb.perm.map _
    refine ⟨.ref _, upd H (s.heap.objs.size + 1) (.lst (out.map backV)), I.laid (t' := s.toks) (fun b o e => sortedAll_old e) (Nat.le_succ _) ⟨?_, out, n, vals_back h3, hn⟩, rfl, q _ _ (SrtO.srtd_map (f := backV) (lt := fun x y => ltSI (k x) (k y)) hs) pm (I.hok.fresh (Nat.le_succ _))⟩
    rw [pm.length_eq]
    exact hz
end
end Sw
set_option maxRecDepth 100000
set_option maxHeartbeats 4000000
namespace Sw
open PySem PySem.Spec PyProof.Rows L2
/-! ### OBJECTS and CODE, as they lie -/
structure ObjsAt (K : PySem.W.Frag) (H : Hp) (v : V) (zs : List (Str × Int)) : Prop where
  ex : ∃ (a : Addr) (ps : List Addr), v = .ref a ∧ TupF H a (ps.map V.ref) ∧ Paired (fun p (z : Str × Int) => SqT K H p [.str z.1, .int z.2]) ps zs
  few : 1 ≤ zs.length ∧ zs.length ≤ 4
  wd : ∀ z ∈ zs, IsWord z.1 ∧ 1 ≤ z.2 ∧ z.2 ≤ 4
  asc : (zs.map (·.1)).Pairwise LtS
theorem paired_same {K : PySem.W.Frag} {H H' : Hp} (s : Same H H') : ∀ {ps : List Addr} {zs : List (Str × Int)}, Paired (fun p (z : Str × Int) => SqT K H p [.str z.1, .int z.2]) ps zs → Paired (fun p (z : Str × Int) => SqT K H' p [.str z.1, .int z.2]) ps zs
  | _, _, .nil => .nil
  | _, _, .cons h t => .cons (sameT s h) (paired_same s t)
theorem ObjsAt.same {K : PySem.W.Frag} {H H' : Hp} {v : V} {zs : List (Str × Int)} (h : ObjsAt K H v zs) (s : Same H H') : ObjsAt K H' v zs := by
  obtain ⟨a, ps, e, hf, hp⟩ := h.ex
  exact ⟨⟨a, ps, e, hf.same s, paired_same s hp⟩, h.few, h.wd, h.asc⟩
theorem asc_nodup {zs : List Str} (h : zs.Pairwise LtS) : zs.Nodup := h.imp fun {a b} hab e => by
  rw [e] at hab
  exact LtS.irr hab
structure CodeAt (K : PySem.W.Frag) (H : Hp) (v vo : V) (zs : List (Str × Int)) : Prop where
  ex : ∃ (c : Addr) (vr : V), v = .ref c ∧ SqT K H c [vo, vr]
  ob : ObjsAt K H vo zs
theorem CodeAt.same {K : PySem.W.Frag} {H H' : Hp} {v vo : V} {zs : List (Str × Int)} (h : CodeAt K H v vo zs) (s : Same H H') : CodeAt K H' v vo zs := by
  obtain ⟨c, vr, e, hc⟩ := h.ex
  exact ⟨⟨c, vr, e, sameT s hc⟩, h.ob.same s⟩
/-! ### dict(OBJECTS) -/
def sz (zs : List (Str × Int)) (z : Str) : Option Int := (zs.find? fun p => decide (p.1 = z)).map (·.2)
def kvO (zs : List (Str × Int)) : List (Key × V) := zs.map fun p => (Sum.inr p.1, V.int p.2)
theorem val_merge {k : Key} : ∀ (kvs acc : List (Key × V)), (kvs.map (·.1)).Nodup → valV (mergeK acc kvs) k = (valV kvs k).or (valV acc k)
  | [], acc, _ => by rw [valV_nil]; rfl
  | p :: r, acc, nd => by
    rw [List.map_cons, List.nodup_cons] at nd
    have ih := val_merge (k := k) r (putK acc p.1 p.2) nd.2
    show valV (mergeK (putK acc p.1 p.2) r) k = _
    rw [ih, valV_put]
    by_cases e : p.1 = k
    · rw [valV_pos e, if_pos e.symm]
      have hn : valV r k = none := by
        cases hv : valV r k with
        | none => rfl
        | some x =>
          exfalso
          apply nd.1
          unfold valV at hv
          cases hf : r.find? fun kv => decide (kv.1 = k) with
          | none => rw [hf] at hv; cases hv
          | some y =>
            have h1 := List.find?_some hf
            have h2 := List.mem_of_find?_eq_some hf
            rw [decide_eq_true_eq] at h1
            rw [e, ← h1]
            exact List.mem_map_of_mem h2
      rw [hn]
      rfl
    · rw [valV_neg e, if_neg (Ne.symm e)]
theorem val_kvO (zs : List (Str × Int)) (z : Str) : valV (kvO zs) (Sum.inr z) = (sz zs z).map V.int := by
  induction zs with
  | nil => rfl
  | cons p r ih =>
    unfold kvO sz at *
    rw [List.map_cons]
    by_cases e : p.1 = z
    · rw [valV_pos (by rw [e]), List.find?_cons_of_pos (by simpa using e)]
      rfl
    · rw [valV_neg (fun h => e (Sum.inr.inj h)), List.find?_cons_of_neg (by simpa using e)]
      exact ih
theorem val_sizes {zs : List (Str × Int)} (h : (zs.map (·.1)).Pairwise LtS) (z : Str) : valV (mergeK [] (kvO zs)) (Sum.inr z) = (sz zs z).map V.int := by
  have nd := asc_nodup h
  rw [val_merge (kvO zs) [] ?_, valV_nil, val_kvO]
  · cases (sz zs z).map V.int <;> rfl
  · have e : (kvO zs).map (·.1) = (zs.map (·.1)).map Sum.inr := by
      unfold kvO
      rw [List.map_map, List.map_map]
      rfl
    rw [e]
    exact List.Pairwise.map _ (fun a b hab e => hab (Sum.inr.inj e)) nd
theorem paired_kvO {K : PySem.W.Frag} {H : Hp} : ∀ {ps : List Addr} {zs : List (Str × Int)}, Paired (fun p (z : Str × Int) => SqT K H p [.str z.1, .int z.2]) ps zs → Paired (fun p (kv : Key × V) => SqT K H p [kV kv.1, kv.2]) ps (kvO zs)
  | _, _, .nil => .nil
  | _, _, .cons h t => .cons h (paired_kvO t)
/-- the dict of OBJECTS at d -/
def SizesAt (H : Hp) (d : Addr) (zs : List (Str × Int)) : Prop := H d = some (.dK (mergeK [] (kvO zs)))
theorem dict_objs {K : PySem.W.Frag} {H : Hp} {v : V} {zs : List (Str × Int)} {Q : VK} (h : ObjsAt K H v zs) (q : ∀ d H', H d = none → Same H H' → SizesAt H' d zs → Q (.ref d) H') : rDictT K [v] H Q := by
  obtain ⟨a, ps, rfl, hf, hp⟩ := h.ex
  exact ⟨a, ps, kvO zs, rfl, hf, paired_kvO hp, fun p hp => q p _ hp (same_new hp) upd_same⟩
theorem sizes_get {H : Hp} {d : Addr} {zs : List (Str × Int)} (h : SizesAt H d zs) (ha : (zs.map (·.1)).Pairwise LtS) (z : Str) : DGet H d (.str z) ((sz zs z).map V.int) := by
  have := DGet.k (k := Sum.inr z) h
  rw [val_sizes ha] at this
  exact this
/-! ### looks at operands and addresses, on data -/
def within (d : PyData) (m : Int) : Bool := match d with
  | .int i => decide (0 ≤ i) && decide (i < m)
  | _ => true
def strL0 : PyData → Str
  | .str z => z
  | _ => Str.empty
def unlike (zs : List (Str × Int)) : PyData → Bool
  | .tuple ds => !ds.isEmpty && ds.all (fun d => dWord d && (sz zs (strL0 d)).isSome) && decide ((ds.map strL0).Nodup)
  | _ => false
def addr (zs : List (Str × Int)) : PyData → Bool
  | .tuple [.tuple os, p, i] => unlike zs (.tuple os) && dOper p && dOper i && within p os.length && os.all fun d => within i ((sz zs (strL0 d)).getD 0)
  | _ => false
end Sw
set_option maxRecDepth 100000
set_option maxHeartbeats 4000000
namespace Sw
open PySem PySem.Spec PyProof.Rows L2
section
variable {P : Program} {w : World} {K : PySem.W.Frag} {mg : Str → Option Value} {base : Heap}
def spWithin (K : PySem.W.Frag) : Sp := fun vs H Q _ => ∃ (v : V) (d : PyData) (m : Int), vs = [v, .int m] ∧ Dp K H v d ∧ dOper d = true ∧ (∃ M, Fit M 60 60 1000000 d) ∧ ∀ H', Same H H' → Q (.bl (within d m)) H'
def spUnlike (K : PySem.W.Frag) : Sp := fun vs H Q _ => ∃ (c vo v : V) (zs : List (Str × Int)) (d : PyData), vs = [c, v] ∧ CodeAt K H c vo zs ∧ Dp K H v d ∧ (∃ M, Fit M 60 60 1000000 d) ∧ ∀ H', Same H H' → Q (.bl (unlike zs d)) H'
theorem DpAll_words {K : PySem.W.Frag} {H : Hp} : ∀ {xs : List V} {ds : List PyData}, DpAll K H xs ds → ds.all dWord = true → xs = (ds.map strL0).map V.str
  | _, _, .nil, _ => rfl
  | _, _, .cons (d := d) h r, e => by
    rw [List.all_cons, Bool.and_eq_true] at e
    rw [List.map_cons, List.map_cons, ← DpAll_words r e.2]
    cases d with
    | str z => cases h; rfl
    | _ => exact absurd e.1 (by simp [dWord])
end
end Sw
set_option maxRecDepth 100000
set_option maxHeartbeats 4000000
namespace Sw
open PySem PySem.Spec PyProof.Rows L2
theorem addr3 (zs : List (Str × Int)) (d0 p i : PyData) : addr zs (.tuple [d0, p, i]) = (unlike zs d0 && dOper p && dOper i && within p (tupL d0).length && (tupL d0).all fun d => within i ((sz zs (strL0 d)).getD 0)) := by
  cases d0 <;> simp [addr, unlike, tupL]
theorem addrN {zs : List (Str × Int)} {ds : List PyData} (h : ds.length ≠ 3) : addr zs (.tuple ds) = false := by
  match ds, h with
  | [], _ => rfl
  | [a], _ => cases a <;> rfl
  | [a, _], _ => cases a <;> rfl
  | [_, _, _], h => exact absurd rfl h
  | a :: _ :: _ :: _ :: _, _ => cases a <;> rfl
theorem three {α : Type} {l : List α} (h : l.length = 3) : ∃ a b c, l = [a, b, c] := by
  match l, h with
  | [a, b, c], _ => exact ⟨a, b, c, rfl⟩
theorem unlike_tup {zs : List (Str × Int)} {d : PyData} (h : unlike zs d = true) : ∃ ds, d = .tuple ds ∧ (∀ x ∈ ds, ∃ z k, x = .str z ∧ dWord x = true ∧ sz zs z = some k) ∧ (ds.map strL0).Nodup ∧ ds ≠ [] := by
  cases d with
  | tuple ds =>
    have h' : (!ds.isEmpty && (ds.all fun d => dWord d && (sz zs (strL0 d)).isSome) && decide ((ds.map strL0).Nodup)) = true := h
    rw [Bool.and_eq_true, Bool.and_eq_true, decide_eq_true_eq, List.all_eq_true] at h'
    refine ⟨ds, rfl, fun x hx => ?_, h'.2, fun e => by rw [e] at h'; simp at h'⟩
    have hw := h'.1.2 x hx
    rw [Bool.and_eq_true] at hw
    cases x with
    | str z =>
      obtain ⟨k, hk⟩ := Option.isSome_iff_exists.mp hw.2
      exact ⟨z, k, rfl, hw.1, hk⟩
    | _ => exact absurd hw.1 (by simp [dWord])
  | _ => cases h
section
variable {P : Program} {w : World} {K : PySem.W.Frag} {mg : Str → Option Value} {base : Heap}
def spAddr (K : PySem.W.Frag) : Sp := fun vs H Q _ => ∃ (c vo v : V) (zs : List (Str × Int)) (d : PyData), vs = [c, v] ∧ CodeAt K H c vo zs ∧ Dp K H v d ∧ (∃ M, Fit M 60 60 1000000 d) ∧ ∀ H', Same H H' → Q (.bl (addr zs d)) H'
end
end Sw
set_option maxRecDepth 100000
set_option maxHeartbeats 4000000
namespace Sw
open PySem PySem.Spec PyProof.Rows L2
/-- a walk's turns, whatever is done at each -/
theorem out_it {J : It} {n : Nat} {G : Hp → Prop} {Y : Nat → Hp → V → Hp → Prop} (w : Walk J n G Y) {Body : (Hp → Prop) → V → Hp → Prop} {H0 : Hp} {Qd : Hp → Prop} (Pv : Nat → Hp → Prop) (h0 : Pv 0 H0) (hG : ∀ i H, i ≤ n → Pv i H → G H)
    (hs : ∀ i x H H', i < n → Pv i H → Y i H x H' → Body (Pv (i + 1)) x H') (hd : ∀ H, Pv n H → Qd H) :
    ∃ W : Nat → Nat → Hp → Prop, (∃ m, W 0 m H0) ∧ ∀ i m H, W i m H → (J.stop i H ∧ Qd H) ∨ (J.go i H ∧ ∃ Nx : Hp → Prop, (∀ H', Nx H' → ∃ m', m' < m ∧ W (i + 1) m' H') ∧ ∀ x H', J.yld i H x H' → Body Nx x H') := by
  refine ⟨fun i m H => m = n - i ∧ i ≤ n ∧ Pv i H, ⟨n, by simp, Nat.zero_le _, h0⟩, ?_⟩
  rintro i m H ⟨rfl, hi, p⟩
  have g := hG i H hi p
  by_cases lt : i < n
  · exact .inr ⟨w.goes i H lt g, Pv (i + 1), fun H' p' => ⟨n - (i + 1), by omega, rfl, lt, p'⟩, fun x H' y => hs i x H H' lt p (w.yields i H x H' lt g y)⟩
  · obtain rfl : i = n := by omega
    exact .inl ⟨w.stops H g, hd H p⟩
/-- what an operand may be, by how many there are -/
def chs (d : PyData) (m : Int) : List Int := match d with
  | .int i => [i]
  | _ => (List.range m.toNat).map fun (k : Nat) => (k : Int)
def cellD (c : Str × Int) : PyData := .tuple [.str c.1, .int c.2]
theorem sz_mem {zs : List (Str × Int)} {z : Str} {k : Int} (h : sz zs z = some k) : (z, k) ∈ zs := by
  unfold sz at h
  cases hf : zs.find? fun p => decide (p.1 = z) with
  | none => rw [hf] at h; cases h
  | some y =>
    rw [hf] at h
    have h1 := List.find?_some hf
    have h2 := List.mem_of_find?_eq_some hf
    rw [decide_eq_true_eq] at h1
    have h3 : y.2 = k := Option.some.inj h
    rw [← h1, ← h3]
    exact h2
theorem addr_parts {zs : List (Str × Int)} {d : PyData} (h : addr zs d = true) : ∃ os p i, d = .tuple [.tuple os, p, i] ∧ (∀ x ∈ os, ∃ z k, x = .str z ∧ dWord x = true ∧ sz zs z = some k) ∧ (os.map strL0).Nodup ∧ os ≠ [] ∧ dOper p = true ∧ dOper i = true ∧
    within p os.length = true ∧ ∀ x ∈ os, within i ((sz zs (strL0 x)).getD 0) = true := by
  cases d with
  | tuple ds =>
    by_cases h3 : ds.length = 3
    · obtain ⟨d0, p, i, rfl⟩ := three h3
      rw [addr3, Bool.and_eq_true, Bool.and_eq_true, Bool.and_eq_true, Bool.and_eq_true, List.all_eq_true] at h
      obtain ⟨os, rfl, h1, h2, h4⟩ := unlike_tup h.1.1.1.1
      exact ⟨os, p, i, rfl, h1, h2, h4, h.1.1.1.2, h.1.1.2, h.1.2, h.2⟩
    · rw [addrN h3] at h; cases h
  | _ => cases h
theorem chs_in {d : PyData} {n : Nat} (ho : dOper d = true) (h : within d n = true) : ∀ k ∈ chs d n, ∃ j : Nat, k = (j : Int) ∧ j < n := by
  intro k hk
  cases d with
  | int i =>
    have hk' : k = i := by simpa [chs] using hk
    have h' : (decide (0 ≤ i) && decide (i < (n : Int))) = true := h
    rw [Bool.and_eq_true, decide_eq_true_eq, decide_eq_true_eq] at h'
    exact ⟨i.toNat, by omega, by omega⟩
  | str z =>
    obtain ⟨j, hj, rfl⟩ := List.mem_map.mp (show k ∈ (List.range (n : Int).toNat).map fun (k : Nat) => (k : Int) from hk)
    exact ⟨j, rfl, by have := List.mem_range.mp hj; omega⟩
  | _ => cases ho
theorem chs_len {d : PyData} {m : Int} (h : 1 ≤ m) : ((chs d m).length : Int) ≤ m := by
  cases d with
  | int i => show ((1 : Nat) : Int) ≤ m; omega
  | _ => show (((List.range m.toNat).map fun (k : Nat) => (k : Int)).length : Int) ≤ m; rw [List.length_map, List.length_range]; omega
/-- the list's items are tuples of a text and an int -/
def CellsAt (H : Hp) : List V → List (Str × Int) → Prop := Paired fun v c => ∃ t, v = .ref t ∧ H t = some (.tup [.str c.1, .int c.2])
theorem CellsAt.imp {H H' : Hp} : ∀ {vs : List V} {cs : List (Str × Int)}, CellsAt H vs cs → (∀ t xs, H t = some (.tup xs) → H' t = some (.tup xs)) → CellsAt H' vs cs
  | _, _, .nil, _ => .nil
  | _, _, .cons ⟨t, e, h⟩ r, k => .cons ⟨t, e, k _ _ h⟩ (CellsAt.imp r k)
theorem CellsAt.snoc {H : Hp} {t : Addr} {c : Str × Int} (h : H t = some (.tup [.str c.1, .int c.2])) : ∀ {vs : List V} {cs : List (Str × Int)}, CellsAt H vs cs → CellsAt H (vs ++ [.ref t]) (cs ++ [c])
  | _, _, .nil => .cons ⟨t, rfl, h⟩ .nil
  | _, _, .cons a r => .cons a (CellsAt.snoc h r)
/-- the cell that lies at a value -/
def cellOf (H : Hp) : V → Str × Int
  | .ref t => match H t with
    | some (.tup [.str a, .int b]) => (a, b)
    | _ => (Str.empty, 0)
  | _ => (Str.empty, 0)
theorem CellsAt.all {H : Hp} : ∀ {vs : List V} {cs : List (Str × Int)}, CellsAt H vs cs → vs.map (cellOf H) = cs ∧ ∀ x ∈ vs, ∃ t, x = V.ref t ∧ H t = some (.tup [.str (cellOf H x).1, .int (cellOf H x).2])
  | _, _, .nil => ⟨rfl, fun x hx => by cases hx⟩
  | _, _, .cons (b := c) ⟨t, e, h⟩ r => by
    obtain ⟨i1, i2⟩ := CellsAt.all r
    subst e
    have ec : cellOf H (.ref t) = c := by simp only [cellOf]; rw [h]
    refine ⟨by rw [List.map_cons, i1, ec], fun x hx => ?_⟩
    rcases List.mem_cons.mp hx with rfl | hx
    · exact ⟨t, rfl, by rw [ec]; exact h⟩
    · exact i2 x hx
theorem DpAll_cells {K : PySem.W.Frag} {H : Hp} {k : V → Str × Int} : ∀ {ys : List V}, (∀ x ∈ ys, ∃ t, x = V.ref t ∧ SqT K H t [.str (k x).1, .int (k x).2]) → DpAll K H ys ((ys.map k).map cellD)
  | [], _ => .nil
  | y :: ys, h => by
    obtain ⟨t, e, ht⟩ := h y List.mem_cons_self
    refine .cons ?_ (DpAll_cells fun x hx => h x (List.mem_cons_of_mem _ hx))
    generalize k y = c at ht
    subst e
    exact .tup ht (.cons (.str _) (.cons (.int _) .nil))
section
variable {P : Program} {w : World} {K : PySem.W.Frag} {mg : Str → Option Value} {base : Heap}
def spChoices (K : PySem.W.Frag) : Sp := fun vs H Q _ => ∃ (v : V) (d : PyData) (m : Int), vs = [v, .int m] ∧ Dp K H v d ∧ dOper d = true ∧ (∃ M, Fit M 60 60 1000000 d) ∧ 0 ≤ m ∧ m ≤ 1000 ∧
  ∀ L H', Same H H' → H L = none → H' L = some (.lst ((chs d m).map V.int)) → Q (.ref L) H'
def pickL (os : List PyData) (p : PyData) : List Str := (chs p os.length).map fun k => strL0 (os.getD k.toNat .none)
def faceL (zs : List (Str × Int)) : PyData → List (Str × Int)
  | .tuple [.tuple os, p, i] => (pickL os p).flatMap fun z => (chs i ((sz zs z).getD 0)).map fun k => (z, k)
  | _ => []
def spFace (K : PySem.W.Frag) : Sp := fun vs H Q _ => ∃ (c vo v : V) (zs : List (Str × Int)) (d : PyData), vs = [c, v] ∧ CodeAt K H c vo zs ∧ Dp K H v d ∧ (∃ M, Fit M 60 60 1000000 d) ∧ addr zs d = true ∧
  ∀ v' H' cs, Same H H' → Dp K H' v' (.tuple (cs.map cellD)) → SrtO.Srtd ltSI cs → cs.Perm (faceL zs d) → cs.length ≤ 240 → Q v' H'
end
end Sw
set_option maxRecDepth 100000
set_option maxHeartbeats 4000000
namespace Sw
open PySem PySem.Spec PyProof.Rows L2
theorem paired_get {α β : Type} {R : α → β → Prop} : ∀ {l : List α} {m : List β} {n : Nat} {a : α}, Paired R l m → l[n]? = some a → ∃ b, m[n]? = some b ∧ R a b
  | _, _, _, _, .nil, e => by simp at e
  | _, _, 0, _, .cons h _, e => by simp at e; subst e; exact ⟨_, rfl, h⟩
  | _, _, n + 1, a, .cons _ t, e => by
    obtain ⟨b, h1, h2⟩ := paired_get (n := n) (a := a) t (by simpa using e)
    exact ⟨b, by simpa using h1, h2⟩
section
variable {P : Program} {w : World} {K : PySem.W.Frag} {mg : Str → Option Value} {base : Heap}
def spSure (K : PySem.W.Frag) : Sp := fun vs H Q _ => ∃ (c vo v : V) (zs : List (Str × Int)) (d : PyData), vs = [c, v] ∧ CodeAt K H c vo zs ∧ Dp K H v d ∧ (∃ M, Fit M 60 60 1000000 d) ∧ addr zs d = true ∧
  ∀ H', Same H H' → Q (.bl (decide ((faceL zs d).length = 1))) H'
theorem int_one {n : Nat} : decide (V.int (n : Int) = V.int 1) = decide (n = 1) := by
  by_cases h : n = 1
  · subst h; simp
  · have : ¬ (V.int (n : Int) = V.int 1) := fun z => h (by injection z with z; omega)
    simp [h, this]
/-- pick or index is a NAME -/
def named : PyData → Bool
  | .tuple [_, p, i] => isaStr p || isaStr i
  | _ => false
def spFault (K : PySem.W.Frag) : Sp := fun vs H Q _ => ∃ (v : V) (zs : List (Str × Int)) (d : PyData), vs = [v] ∧ Dp K H v d ∧ (∃ M, Fit M 60 60 1000000 d) ∧ addr zs d = true ∧ ∀ H', Same H H' → Q (.bl (named d)) H'
theorem oper_word {d : PyData} (h : dOper d = true) : dWord d = isaStr d := by
  cases d with
  | str z =>
    unfold dOper at h
    rw [show dNum (.str z) = false from rfl, Bool.false_or] at h
    exact h
  | _ => first | rfl | cases h
/-- all CELLS of OBJECTS, in their order -/
def cellsL (zs : List (Str × Int)) : List (Str × Int) := zs.flatMap fun p => (List.range p.2.toNat).map fun (k : Nat) => (p.1, (k : Int))
def spCells (K : PySem.W.Frag) : Sp := fun vs H Q _ => ∃ (c vo : V) (zs : List (Str × Int)), vs = [c] ∧ CodeAt K H c vo zs ∧ ∀ v' H', Same H H' → Dp K H' v' (.tuple ((cellsL zs).map cellD)) → Q v' H'
end
end Sw
set_option maxRecDepth 100000
set_option maxHeartbeats 4000000
namespace Sw
open PySem PySem.Spec PyProof.Rows L2
theorem pw_of_sorted {ys : List Str} (hs : sortedS ys = true) (nd : ys.Nodup) : ys.Pairwise LtS := by
  cases ys with
  | nil => exact .nil
  | cons p r => exact sorted_pw p r hs nd
/-- pairs that lie in the abstract heap itself -/
def LiePs (H : Hp) : List Addr → List (Str × Int) → Prop := Paired fun t (z : Str × Int) => H t = some (.tup [.str z.1, .int z.2])
theorem LiePs.imp {H H' : Hp} : ∀ {ps : List Addr} {zs : List (Str × Int)}, LiePs H ps zs → (∀ t xs, H t = some (.tup xs) → H' t = some (.tup xs)) → LiePs H' ps zs
  | _, _, .nil, _ => .nil
  | _, _, .cons h r, k => .cons (k _ _ h) (LiePs.imp r k)
theorem LiePs.snoc {H : Hp} {t : Addr} {c : Str × Int} (h : H t = some (.tup [.str c.1, .int c.2])) : ∀ {ps : List Addr} {zs : List (Str × Int)}, LiePs H ps zs → LiePs H (ps ++ [t]) (zs ++ [c])
  | _, _, .nil => .cons h .nil
  | _, _, .cons a r => .cons a (LiePs.snoc h r)
theorem LiePs.sq {K : PySem.W.Frag} {H : Hp} : ∀ {ps : List Addr} {zs : List (Str × Int)}, LiePs H ps zs → Paired (fun p (z : Str × Int) => SqT K H p [.str z.1, .int z.2]) ps zs
  | _, _, .nil => .nil
  | _, _, .cons h r => .cons (SqT.of h) (LiePs.sq r)
section
variable {P : Program} {w : World} {K : PySem.W.Frag} {mg : Str → Option Value} {base : Heap}
def spObjsF (K : PySem.W.Frag) : Sp := fun vs H Q _ => ∃ (p fq : Addr) (b : Nat), vs = [.ref p] ∧ FeedAt H p fq b ∧ b + 100 ≤ 1000000000 ∧
  ∀ (v : V) (zs : List (Str × Int)) (H' : Hp), ObjsAt K (del H' p) v zs → Same (del H p) (del H' p) → FeedAt H' p fq (b + 60) → Q v H'
end
end Sw
set_option maxRecDepth 100000
set_option maxHeartbeats 4000000
namespace Sw
open PySem PySem.Spec PyProof.Rows L2
theorem CellsAt.app {H : Hp} {us : List V} {ds : List (Str × Int)} (h : CellsAt H us ds) : ∀ {vs : List V} {cs : List (Str × Int)}, CellsAt H vs cs → CellsAt H (vs ++ us) (cs ++ ds)
  | _, _, .nil => h
  | _, _, .cons a r => .cons a (CellsAt.app h r)
/-- x is True, x is False, x a bool -/
def rIsB : R2 := fun x y H Q => ∃ a b : Bool, x = .bl a ∧ y = .bl b ∧ Q (.bl (decide (a = b))) H
theorem op_isB {X : Cx} : OpR X (compareOp .Is) rIsB := by
  intro pins s σ H x y v u Q I rx ry h
  obtain ⟨a, b, rfl, rfl, q⟩ := h
  cases (show u = Value.bool b from ry)
  cases (show v = Value.bool a from rx)
  by_cases e : a = b
  · subst e
    exact wpAny_is_self rfl ⟨.bl true, H, I, rfl, by simpa using q⟩
  · exact wpAny_is_other rfl (fun z => e (Value.bool.inj z)) ⟨.bl false, H, I, rfl, by simpa [e] using q⟩
section
variable {P : Program} {w : World} {K : PySem.W.Frag} {mg : Str → Option Value} {base : Heap}
def spSame : Sp := fun vs H Q _ => ∃ a b : Bool, vs = [.bl a, .bl b] ∧ Q (.bl (decide (a = b))) H
def spLCells (K : PySem.W.Frag) : Sp := fun vs H Q _ => ∃ (v : V) (zs : List (Str × Int)), vs = [v] ∧ ObjsAt K H v zs ∧ ∀ L H' us, Same H H' → H L = none → H' L = some (.lst us) → CellsAt H' us (cellsL zs) → us.length ≤ 16 → Q (.ref L) H'
end
end Sw
set_option maxRecDepth 100000
set_option maxHeartbeats 4000000
namespace Sw
open PySem PySem.Spec PyProof.Rows L2
section
variable {X : Cx}
/-- range(n), as a value -/
theorem cr_range1 : CallR X (.type "range") (fun vs H Q => ∃ n, vs = [V.int n] ∧ ∀ a, H a = none → Q (.ref a) (upd H a (.rng 0 n))) := by
  intro pins s σ H vs us Q I r h
  obtain ⟨n, rfl, q⟩ := h
  obtain ⟨u, rfl, rx⟩ := vals1 r
  obtain ⟨t, rfl⟩ := rx
  refine call_range_1 ⟨.ref s.heap.objs.size, _, I.laid (t' := _) (o := .rng 0 n) (fun b o e => Heap.get?_push_of_some _ e) (Nat.le_refl _) ⟨_, _, _, Heap.get?_push_size _ rfl⟩, rfl, q _ (I.hok.fresh (Nat.le_refl _))⟩
/-- i not in r -/
theorem op_notIn_rng : OpR X (compareOp .NotIn) (fun x y H Q => ∃ i a lo hi, x = V.int i ∧ y = V.ref a ∧ H a = some (.rng lo hi) ∧ Q (.bl (!decide (lo ≤ i ∧ i < hi))) H) := by
  intro pins s σ H x y v u Q I rx ry h
  obtain ⟨i, a, lo, hi, rfl, rfl, ha, q⟩ := h
  obtain ⟨k, rfl⟩ := rx
  obtain rfl : u = Value.ref a := ry
  obtain ⟨t1, t2, t3, ho⟩ := I.hok a _ ha
  show wpAny _ _ (do return Value.bool (!(← contains (Value.ref a) (Value.int i k)))) _ _ s
  refine wpAny_bind (wpAny_contains_slot (T := "range") ⟨_, ho, rfl⟩ F.slot_range_contains (call_meets F.slot_range_contains ⟨_, ho, rfl⟩ F.entry_range_contains (F.args_range_contains_2 _ _) (q_contains a lo hi i t1 t2 t3 k) ⟨ho, wpAny_truthy_bool (wpAny_pure ⟨.bl _, H, I, rfl, ?_⟩)⟩))
  rw [place1]
  exact q
/-- t.index(z), t a tuple as it was laid -/
def tIdxF (to : TE) (t : TA) : TE := fun σ H Q => to σ H fun x H1 => ∃ (a : Addr) (ys : List Str), x = .ref a ∧ TupF H1 a (ys.map V.str) ∧ t σ H1 fun vs H2 => ∃ z j, vs = [.str z] ∧ TupF H2 a (ys.map V.str) ∧ ys[j]? = some z ∧ (∀ m, m < j → ys[m]? ≠ some z) ∧ Q (.int (j : Nat)) H2
theorem pe_idxF {o e : Expr} {to : TE} {t : TA} {apos cpos : Pos} (ho : PE X o to) (ha : PA X [e] t) (hbase : attributeBase o "index" X.env (eval o X.env) = eval o X.env := by rfl)
    (hfew : ((backTo cpos (starEach [e] X.env)).all (fun x => !x.1) && (backToKw cpos (keywordEach [] X.env)).all (fun x => x.1.isSome) && decide (([e] : List Expr).length + ([] : List Keyword).length + (if ([] : List Keyword).isEmpty then 0 else 1) < 30)) = true := by rfl)
    (hline : (apos.endLine == cpos.line) = true := by rfl) (hs : starEach [e] X.env = (false, eval e X.env) :: starEach [] X.env := by rfl) (hplain : (backTo cpos (starEach [] X.env)).any (·.1) = false := by rfl) :
    PE X (.Call (.Attribute o "index" apos) [e] [] cpos) (tIdxF to t) := by
  refine ⟨fun pins s σ H Q I h => wpAny_Call_method_late hbase hfew hline rfl (thn (ho.run pins s σ H _ I h) fun v s1 ⟨x, H1, I1, r1, a, ys, ex, hF, q1⟩ => ?_)⟩
  subst ex
  cases r1
  obtain ⟨its, hfr⟩ := hF
  obtain ⟨e1, _⟩ := I1.hok a _ hfr
  refine ⟨"tuple", "tuple.index", PySem.F.plainAttrs_tuple, PySem.F.slot_tuple_index, PySem.F.type_tuple_index, ⟨_, e1, rfl⟩, fun b eb => by cases eb; exact ⟨_, e1, rfl⟩, ?_⟩
  have hA := ha.run cpos pins s1 σ H1 _ I1 q1
  rw [hs] at hA ⊢
  refine Calls.callWith_builtin (by show (false || (backTo cpos (starEach [] X.env)).any (·.1)) = false; rw [hplain]; rfl) (Calls.evalArgs_plain (thn hA fun us s2 ⟨vs, H2, I2, r2, z, j, ev, hF2, hj, hm, q2⟩ => ?_))
  exact mt_tup_index pins s2 σ H2 (.ref a) vs (.ref a) us Q I2 rfl r2 ⟨a, ys, z, j, rfl, ev, hF2.sq, hj, hm, q2⟩
end
end Sw
set_option maxRecDepth 100000
set_option maxHeartbeats 4000000
namespace Sw
open PySem PySem.Spec PyProof.Rows L2
theorem CellsAt.cast {H : Hp} {us us' : List V} {cs cs' : List (Str × Int)} (h : CellsAt H us cs) (e1 : us = us') (e2 : cs = cs') : CellsAt H us' cs' := e1 ▸ e2 ▸ h
/-- an ADDRESS, as the law lays it -/
structure AddrAt (K : PySem.W.Frag) (H : Hp) (v : V) (zs : List (Str × Int)) (ws : List Str) (p ix : PyData) : Prop where
  ex : ∃ (a a0 : Addr) (x1 x2 : V), v = .ref a ∧ SqT K H a [.ref a0, x1, x2] ∧ TupF H a0 (ws.map V.str) ∧ Dp K H x1 p ∧ Dp K H x2 ix
  ok : addr zs (.tuple [.tuple (ws.map PyData.str), p, ix]) = true
theorem AddrAt.same {K : PySem.W.Frag} {H H' : Hp} {v : V} {zs : List (Str × Int)} {ws : List Str} {p ix : PyData} (h : AddrAt K H v zs ws p ix) (s : Same H H') : AddrAt K H' v zs ws p ix := by
  obtain ⟨a, a0, x1, x2, e, h1, h2, h3, h4⟩ := h.ex
  exact ⟨⟨a, a0, x1, x2, e, sameT s h1, h2.same s, Dp_same s h3, Dp_same s h4⟩, h.ok⟩
def intIs (d : PyData) (i : Int) : Bool := match d with
  | .int j => decide (j = i)
  | _ => false
def pos : List Str → Str → Nat
  | [], _ => 0
  | y :: ys, z => if y = z then 0 else pos ys z + 1
theorem pos_at {z : Str} : ∀ {ws : List Str}, z ∈ ws → ws[pos ws z]? = some z ∧ ∀ m, m < pos ws z → ws[m]? ≠ some z
  | [], h => by cases h
  | y :: ys, h => by
    unfold pos
    by_cases e : y = z
    · rw [if_pos e]
      exact ⟨by simpa using e, fun m hm => absurd hm (Nat.not_lt_zero _)⟩
    · rw [if_neg e]
      have hm : z ∈ ys := (List.mem_cons.mp h).elim (fun q => absurd q.symm e) id
      obtain ⟨h1, h2⟩ := pos_at hm
      refine ⟨by simpa using h1, fun m hlt => ?_⟩
      cases m with
      | zero => simpa using e
      | succ m => simpa using h2 m (by omega)
def inFace (ws : List Str) (p ix : PyData) (c : Str × Int) : Bool := decide (c.1 ∈ ws) && (isaStr p || intIs p (pos ws c.1 : Nat)) && (isaStr ix || intIs ix c.2)
def lface (zs : List (Str × Int)) (ws : List Str) (p ix : PyData) : List (Str × Int) := (cellsL zs).filter (inFace ws p ix)
section
variable {P : Program} {w : World} {K : PySem.W.Frag} {mg : Str → Option Value} {base : Heap}
def spLFace (K : PySem.W.Frag) : Sp := fun vs H Q _ => ∃ (vo va : V) (zs : List (Str × Int)) (ws : List Str) (p ix : PyData), vs = [vo, va] ∧ ObjsAt K H vo zs ∧ AddrAt K H va zs ws p ix ∧ ∀ v' H', Same H H' → Dp K H' v' (.tuple ((lface zs ws p ix).map cellD)) → Q v' H'
end
end Sw
set_option maxRecDepth 100000
set_option maxHeartbeats 4000000
namespace Sw
open PySem PySem.Spec PyProof.Rows L2
/-! ### the law's face is the program's -/
theorem ltSI_irr {a : Str × Int} : ltSI a a = false := by
  rw [ltSI_no]
  rintro (h | ⟨_, h⟩)
  · exact LtS.irr h
  · omega
theorem ltSI_trans {a b c : Str × Int} (h1 : ltSI a b = true) (h2 : ltSI b c = true) : ltSI a c = true := by
  rw [ltSI_iff] at h1 h2 ⊢
  rcases h1 with h1 | ⟨e1, h1⟩
  · rcases h2 with h2 | ⟨e2, h2⟩
    · exact .inl (h1.trans h2)
    · exact .inl (e2 ▸ h1)
  · rcases h2 with h2 | ⟨e2, h2⟩
    · exact .inl (e1 ▸ h2)
    · exact .inr ⟨e1.trans e2, by omega⟩
theorem up_unique : ∀ {ys zs : List (Str × Int)}, ys.Pairwise (fun a b => ltSI a b = true) → zs.Pairwise (fun a b => ltSI a b = true) → (∀ x, x ∈ ys ↔ x ∈ zs) → ys = zs
  | [], [], _, _, _ => rfl
  | [], z :: zs, _, _, h => absurd ((h z).mpr List.mem_cons_self) List.not_mem_nil
  | y :: ys, [], _, _, h => absurd ((h y).mp List.mem_cons_self) List.not_mem_nil
  | y :: ys, z :: zs, h1, h2, h => by
    obtain ⟨a1, a2⟩ := List.pairwise_cons.mp h1
    obtain ⟨b1, b2⟩ := List.pairwise_cons.mp h2
    have no : ∀ {a : Str × Int}, ¬ ltSI a a = true := fun {a} q => by rw [ltSI_irr] at q; cases q
    have e : y = z := by
      rcases List.mem_cons.mp ((h y).mp List.mem_cons_self) with e | m1
      · exact e
      · rcases List.mem_cons.mp ((h z).mpr List.mem_cons_self) with e | m2
        · exact e.symm
        · exact absurd (ltSI_trans (b1 y m1) (a1 z m2)) no
    subst e
    rw [up_unique a2 b2]
    intro x
    constructor
    · intro hx
      rcases List.mem_cons.mp ((h x).mp (List.mem_cons_of_mem _ hx)) with e | m
      · subst e
        exact absurd (a1 x hx) no
      · exact m
    · intro hx
      rcases List.mem_cons.mp ((h x).mpr (List.mem_cons_of_mem _ hx)) with e | m
      · subst e
        exact absurd (b1 x hx) no
      · exact m
theorem up_of {cs : List (Str × Int)} (hs : SrtO.Srtd ltSI cs) (nd : cs.Nodup) : cs.Pairwise fun a b => ltSI a b = true := by
  have h := List.Pairwise.and hs nd
  refine h.imp fun {a b} hab => ?_
  obtain ⟨h1, h2⟩ := hab
  rw [ltSI_no] at h1
  rw [ltSI_iff]
  rcases tri a.1 b.1 with q | q | q
  · exact .inl q
  · refine .inr ⟨q, ?_⟩
    have n1 : ¬ b.2 < a.2 := fun z => h1 (.inr ⟨q.symm, z⟩)
    have n2 : a.2 ≠ b.2 := fun z => h2 (by cases a; cases b; exact Prod.ext q z)
    omega
  · exact absurd (.inl q) h1
theorem cellsL_up {zs : List (Str × Int)} (h : (zs.map (·.1)).Pairwise LtS) : (cellsL zs).Pairwise fun a b => ltSI a b = true := by
  unfold cellsL
  rw [List.pairwise_flatMap]
  refine ⟨fun p _ => ?_, ?_⟩
  · rw [List.pairwise_map]
    exact List.pairwise_lt_range.imp fun {a b} hab => by
      rw [ltSI_iff]
      exact .inr ⟨rfl, by show (a : Int) < (b : Int); omega⟩
  · rw [List.pairwise_map] at h
    refine h.imp fun {a b} hab x hx y hy => ?_
    obtain ⟨i, _, rfl⟩ := List.mem_map.mp hx
    obtain ⟨j, _, rfl⟩ := List.mem_map.mp hy
    rw [ltSI_iff]
    exact .inl hab
theorem mem_cells {zs : List (Str × Int)} {z : Str} {k : Int} : (z, k) ∈ cellsL zs ↔ ∃ m, (z, m) ∈ zs ∧ 0 ≤ k ∧ k < m := by
  unfold cellsL
  rw [List.mem_flatMap]
  constructor
  · rintro ⟨p, hp, hm⟩
    obtain ⟨j, hj, e⟩ := List.mem_map.mp hm
    have := List.mem_range.mp hj
    cases e
    exact ⟨p.2, hp, by omega, by omega⟩
  · rintro ⟨m, hm, h0, h1⟩
    exact ⟨(z, m), hm, List.mem_map.mpr ⟨k.toNat, List.mem_range.mpr (by show k.toNat < m.toNat; omega), by show (z, ((k.toNat : Nat) : Int)) = (z, k); rw [Int.toNat_of_nonneg h0]⟩⟩
theorem sz_of {zs : List (Str × Int)} (h : (zs.map (·.1)).Pairwise LtS) : ∀ {z : Str} {m : Int}, (z, m) ∈ zs → sz zs z = some m := by
  intro z m hm
  induction zs with
  | nil => cases hm
  | cons p r ih =>
    rw [List.map_cons, List.pairwise_cons] at h
    unfold sz
    rcases List.mem_cons.mp hm with e | hr
    · subst e
      rw [List.find?_cons_of_pos (by simp)]
      rfl
    · have : p.1 ≠ z := fun e => LtS.irr (e ▸ h.1 z (List.mem_map_of_mem (f := fun (q : Str × Int) => q.1) hr))
      rw [List.find?_cons_of_neg (by simpa using this)]
      exact ih h.2 hr
theorem getD_strs (ws : List Str) (j : Nat) (hj : j < ws.length) : strL0 ((ws.map PyData.str).getD j .none) = ws[j] := by
  rw [List.getD, List.getElem?_map, List.getElem?_eq_getElem hj]
  rfl
theorem pos_of {ws : List Str} (nd : ws.Nodup) {j : Nat} (hj : j < ws.length) : pos ws ws[j] = j := by
  obtain ⟨h1, _⟩ := pos_at (List.getElem_mem hj)
  obtain ⟨h2, h3⟩ := List.getElem?_eq_some_iff.mp h1
  have pw := List.pairwise_iff_getElem.mp nd
  rcases Nat.lt_trichotomy (pos ws ws[j]) j with q | q | q
  · exact absurd h3 (pw _ _ h2 hj q)
  · exact q
  · exact absurd h3.symm (pw _ _ hj h2 q)
theorem mem_pick {ws : List Str} {p : PyData} (nd : ws.Nodup) (ho : dOper p = true) (hw : within p (ws.length : Nat) = true) {z : Str} : z ∈ pickL (ws.map PyData.str) p ↔ z ∈ ws ∧ (isaStr p || intIs p (pos ws z : Nat)) = true := by
  unfold pickL
  rw [List.length_map, List.mem_map]
  constructor
  · rintro ⟨k, hk, rfl⟩
    obtain ⟨j, rfl, hj⟩ := chs_in ho hw k hk
    rw [Int.toNat_natCast, getD_strs ws j hj]
    refine ⟨List.getElem_mem hj, ?_⟩
    cases p with
    | int i =>
      have e : (j : Int) = i := by simpa [chs] using hk
      show (false || decide (i = _)) = true
      rw [pos_of nd hj, ← e]
      simp
    | str y => rfl
    | _ => cases ho
  · rintro ⟨hz, hp⟩
    obtain ⟨h1, _⟩ := pos_at hz
    obtain ⟨h2, h3⟩ := List.getElem?_eq_some_iff.mp h1
    refine ⟨(pos ws z : Nat), ?_, by rw [Int.toNat_natCast, getD_strs ws _ h2, h3]⟩
    cases p with
    | int i =>
      have e : i = (pos ws z : Nat) := by
        have : (false || decide (i = ((pos ws z : Nat) : Int))) = true := hp
        simpa using this
      rw [← e]
      simp [chs]
    | str y =>
      show _ ∈ (List.range ((ws.length : Nat) : Int).toNat).map fun (k : Nat) => (k : Int)
      exact List.mem_map.mpr ⟨_, List.mem_range.mpr (by omega), rfl⟩
    | _ => cases ho
theorem mem_chs {ix : PyData} {m k : Int} (hm : 1 ≤ m) (ho : dOper ix = true) (hw : within ix m = true) : k ∈ chs ix m ↔ 0 ≤ k ∧ k < m ∧ (isaStr ix || intIs ix k) = true := by
  cases ix with
  | int i =>
    have h' : (decide (0 ≤ i) && decide (i < m)) = true := hw
    rw [Bool.and_eq_true, decide_eq_true_eq, decide_eq_true_eq] at h'
    show k ∈ [i] ↔ 0 ≤ k ∧ k < m ∧ (false || decide (i = k)) = true
    simp
    constructor
    · rintro rfl; exact ⟨h'.1, h'.2, rfl⟩
    · rintro ⟨_, _, e⟩; exact e.symm
  | str y =>
    show k ∈ (List.range m.toNat).map (fun (k : Nat) => (k : Int)) ↔ 0 ≤ k ∧ k < m ∧ true = true
    rw [List.mem_map]
    constructor
    · rintro ⟨j, hj, rfl⟩
      have := List.mem_range.mp hj
      exact ⟨by omega, by omega, rfl⟩
    · rintro ⟨h0, h1, _⟩
      exact ⟨k.toNat, List.mem_range.mpr (by omega), Int.toNat_of_nonneg h0⟩
  | _ => cases ho
theorem chs_nodup (d : PyData) (m : Int) : (chs d m).Nodup := by
  cases d with
  | int i => show [i].Nodup; simp
  | _ =>
    show ((List.range m.toNat).map fun (k : Nat) => (k : Int)).Nodup
    exact List.Pairwise.map _ (fun a b hab e => hab (by omega)) List.nodup_range
theorem pick_nodup {ws : List Str} {p : PyData} (nd : ws.Nodup) (ho : dOper p = true) (hw : within p (ws.length : Nat) = true) : (pickL (ws.map PyData.str) p).Nodup := by
  unfold pickL
  rw [List.length_map]
  have hin := chs_in ho hw
  have hn := chs_nodup p (ws.length : Nat)
  generalize chs p (ws.length : Nat) = l at hin hn
  show List.Pairwise _ _
  rw [List.pairwise_map]
  refine List.Pairwise.imp_of_mem (fun {a b} ha hb hab e => ?_) hn
  obtain ⟨i, rfl, hi⟩ := hin a ha
  obtain ⟨j, rfl, hj⟩ := hin b hb
  rw [Int.toNat_natCast, Int.toNat_natCast, getD_strs ws i hi, getD_strs ws j hj] at e
  have h1 := pos_of nd hi
  have h2 := pos_of nd hj
  rw [e, h2] at h1
  exact hab (by rw [h1])
/-- the program's face, sorted, is the law's -/
theorem face_is {zs : List (Str × Int)} {ws : List Str} {p ix : PyData} {cs : List (Str × Int)} (hasc : (zs.map (·.1)).Pairwise LtS) (hwd : ∀ z ∈ zs, 1 ≤ z.2) (hA : addr zs (.tuple [.tuple (ws.map PyData.str), p, ix]) = true)
    (hs : SrtO.Srtd ltSI cs) (hpm : cs.Perm (faceL zs (.tuple [.tuple (ws.map PyData.str), p, ix]))) : cs = lface zs ws p ix := by
  obtain ⟨os', p', ix', e', hw, hnd, hne, hp, hi, hwp, hwi⟩ := addr_parts hA
  cases e'
  have esl : (ws.map PyData.str).map strL0 = ws := by rw [List.map_map]; exact List.map_id' ws
  rw [esl] at hnd
  rw [List.length_map] at hwp
  have hkz : ∀ z ∈ ws, ∃ m, sz zs z = some m ∧ 1 ≤ m ∧ within ix m = true := fun z hz => by
    obtain ⟨y, m, e, _, hm⟩ := hw (.str z) (List.mem_map_of_mem hz)
    cases e
    have h2 := hwi (.str z) (List.mem_map_of_mem hz)
    rw [show strL0 (.str z) = z from rfl, hm] at h2
    exact ⟨m, hm, hwd _ (sz_mem hm), h2⟩
  have hndF : (faceL zs (.tuple [.tuple (ws.map PyData.str), p, ix])).Nodup := by
    show (List.flatMap _ _).Pairwise _
    rw [List.pairwise_flatMap]
    refine ⟨fun z _ => List.Pairwise.map _ (fun a b hab e => hab (Prod.mk.inj e).2) (chs_nodup _ _), (pick_nodup hnd hp hwp).imp fun {a b} hab x hx y hy e => ?_⟩
    obtain ⟨i, _, rfl⟩ := List.mem_map.mp hx
    obtain ⟨j, _, rfl⟩ := List.mem_map.mp hy
    exact hab (Prod.mk.inj e).1
  refine up_unique (up_of hs (hpm.nodup_iff.mpr hndF)) ((cellsL_up hasc).filter _) fun c => ?_
  rw [hpm.mem_iff]
  obtain ⟨z, k⟩ := c
  show (z, k) ∈ (pickL (ws.map PyData.str) p).flatMap (fun z => (chs ix ((sz zs z).getD 0)).map fun k => (z, k)) ↔ (z, k) ∈ (cellsL zs).filter (inFace ws p ix)
  rw [List.mem_flatMap, List.mem_filter, mem_cells]
  constructor
  · rintro ⟨y, hy, hm⟩
    obtain ⟨k', hk, e⟩ := List.mem_map.mp hm
    cases e
    obtain ⟨hz, hpp⟩ := (mem_pick hnd hp hwp).mp hy
    obtain ⟨m, hm, h1, hwm⟩ := hkz z hz
    rw [hm] at hk
    obtain ⟨k0, k1, kk⟩ := (mem_chs h1 hi hwm).mp hk
    refine ⟨⟨m, sz_mem hm, k0, k1⟩, ?_⟩
    unfold inFace
    rw [show decide ((z, k).1 ∈ ws) = true by simpa using hz, hpp, kk]
    rfl
  · rintro ⟨⟨m, hm, k0, k1⟩, hf⟩
    unfold inFace at hf
    rw [Bool.and_eq_true, Bool.and_eq_true, decide_eq_true_eq] at hf
    obtain ⟨m', hm', h1, hwm⟩ := hkz z hf.1.1
    have e := sz_of hasc hm
    rw [hm'] at e
    cases e
    refine ⟨z, (mem_pick hnd hp hwp).mpr ⟨hf.1.1, hf.1.2⟩, List.mem_map.mpr ⟨k, ?_, rfl⟩⟩
    rw [hm']
    exact (mem_chs h1 hi hwm).mpr ⟨k0, k1, hf.2⟩
end Sw
set_option maxRecDepth 100000
set_option maxHeartbeats 4000000
namespace Sw
open PySem PySem.Spec PyProof.Rows L2
theorem sz_isSome {zs : List (Str × Int)} {z : Str} : (sz zs z).isSome = decide (z ∈ zs.map (·.1)) := by
  induction zs with
  | nil => rfl
  | cons p r ih =>
    unfold sz at *
    by_cases e : p.1 = z
    · rw [List.find?_cons_of_pos (by simpa using e)]
      simp [e]
    · rw [List.find?_cons_of_neg (by simpa using e), ih]
      simp [Ne.symm e]
theorem DpAll_pick {K : PySem.W.Frag} {H : Hp} {vs : List V} {ds : List PyData} (h : DpAll K H vs ds) : ∀ l : List Nat, (∀ i ∈ l, i < vs.length) → DpAll K H (l.map fun i => vs.getD i .non) (l.map fun i => ds.getD i .none)
  | [], _ => .nil
  | i :: l, hl => by
    have hi := hl i List.mem_cons_self
    obtain ⟨d, h1, h2⟩ := DpAll_get h (List.getElem?_eq_getElem hi)
    refine .cons ?_ (DpAll_pick h l fun j hj => hl j (List.mem_cons_of_mem _ hj))
    show Dp K H (vs.getD i .non) (ds.getD i .none)
    rw [show vs.getD i .non = vs[i] by simp [List.getD, hi], show ds.getD i .none = d by simp [List.getD, h1]]
    exact h2
def okW (zs : List (Str × Int)) (d : PyData) : Bool := dWord d && (sz zs (strL0 d)).isSome
theorem unlike_eq {zs : List (Str × Int)} {ds : List PyData} (h : ds ≠ []) : unlike zs (.tuple ds) = (ds.all (okW zs) && decide ((ds.map strL0).Nodup)) := by
  show (!ds.isEmpty && (ds.all fun d => dWord d && (sz zs (strL0 d)).isSome) && decide ((ds.map strL0).Nodup)) = _
  cases ds with
  | nil => exact absurd rfl h
  | cons _ _ => rfl
/-- the sizes of those objects that are named -/
def sizesOf (zs : List (Str × Int)) (ws : List Str) : List Int := (zs.filter fun p => decide (p.1 ∈ ws)).map (·.2)
theorem all_within {zs : List (Str × Int)} {ds : List PyData} {j m : Int} (ha : (zs.map (·.1)).Pairwise LtS) (hok : ds.all (okW zs) = true) (hm : m ∈ sizesOf zs (ds.map strL0)) (hle : ∀ y ∈ sizesOf zs (ds.map strL0), m ≤ y) :
    (ds.all fun d => within (.int j) ((sz zs (strL0 d)).getD 0)) = (decide (0 ≤ j) && decide (j < m)) := by
  obtain ⟨p, hp, hp2⟩ := List.mem_map.mp hm
  obtain ⟨hp3, hp4⟩ := List.mem_filter.mp hp
  rw [decide_eq_true_eq] at hp4
  obtain ⟨d, hd, hd2⟩ := List.mem_map.mp hp4
  rw [List.all_eq_true] at hok
  have hz : sz zs p.1 = some p.2 := sz_of ha hp3
  rw [Bool.eq_iff_iff, List.all_eq_true]
  constructor
  · intro h
    have := h d hd
    rw [hd2, hz, Option.getD_some, hp2] at this
    exact this
  · intro h e he
    have h' : 0 ≤ j ∧ j < m := by simpa using h
    have o := hok e he
    unfold okW at o
    rw [Bool.and_eq_true] at o
    obtain ⟨k, hk⟩ := Option.isSome_iff_exists.mp o.2
    have hk2 : k ∈ sizesOf zs (ds.map strL0) := List.mem_map.mpr ⟨(strL0 e, k), List.mem_filter.mpr ⟨sz_mem hk, by rw [decide_eq_true_eq]; exact List.mem_map_of_mem he⟩, rfl⟩
    have := hle k hk2
    rw [hk, Option.getD_some]
    show (decide (0 ≤ j) && decide (j < k)) = true
    rw [decide_eq_true h'.1, decide_eq_true (by omega)]
    rfl
theorem sizes_some {zs : List (Str × Int)} {ds : List PyData} (hok : ds.all (okW zs) = true) (hne : ds ≠ []) : 0 < (sizesOf zs (ds.map strL0)).length := by
  cases ds with
  | nil => exact absurd rfl hne
  | cons d r =>
    rw [List.all_eq_true] at hok
    have o := hok d List.mem_cons_self
    unfold okW at o
    rw [Bool.and_eq_true] at o
    obtain ⟨k, hk⟩ := Option.isSome_iff_exists.mp o.2
    have : k ∈ sizesOf zs ((d :: r).map strL0) := List.mem_map.mpr ⟨(strL0 d, k), List.mem_filter.mpr ⟨sz_mem hk, by simp⟩, rfl⟩
    exact List.length_pos_of_mem this
theorem bools_shaped (a b : Bool) : SeqAt.shaped (.list [.bool a, .bool b]) = true := by cases a <;> cases b <;> decide +kernel
theorem bools_eq (a b : Bool) : PyData.eqv (.list [.bool a, .bool b]) (.list [.bool false, .bool false]) = (!a && !b) := by cases a <;> cases b <;> decide +kernel
abbrev N27 : List Str := ["_law_objects_here", "_law_thing", "_law_words", "_law_pick", "_law_index", "_law_least", "_law_far", "_law_word_here", "_law_pair", "_law_size"]
abbrev scPair : Scope := { kind := .function, names := [(".0", .local), ("_law_pair", .local)], isGenerator := false, isCoroutine := false }
section
variable {P : Program} {w : World} {K : PySem.W.Frag} {mg : Str → Option Value} {base : Heap}
def spAddressed (K : PySem.W.Frag) : Sp := fun vs H Q _ => ∃ (vo v : V) (zs : List (Str × Int)) (d : PyData), vs = [vo, v] ∧ ObjsAt K H vo zs ∧ Dp K H v d ∧ (∃ M, Fit M 60 60 1000000 d) ∧ ∀ H', Same H H' → Q (.bl (addr zs d)) H'
end
end Sw
set_option maxRecDepth 100000
set_option maxHeartbeats 4000000
namespace Sw
open PySem PySem.Spec PyProof.Rows L2
/-- an OPERAND that picks one of n -/
def Picks (d : PyData) (n : Int) : Prop := (∃ i, d = .int i ∧ 0 ≤ i ∧ i < n) ∨ ∃ z, d = .str z ∧ wordS z = true
theorem Picks.oper {d : PyData} {n : Int} (h : Picks d n) : dOper d = true ∧ ∀ m, n ≤ m → within d m = true := by
  rcases h with ⟨i, rfl, h0, h1⟩ | ⟨z, rfl, hz⟩
  · refine ⟨rfl, fun m hm => ?_⟩
    show (decide (0 ≤ i) && decide (i < m)) = true
    rw [decide_eq_true h0, decide_eq_true (by omega)]
    rfl
  · refine ⟨?_, fun _ _ => rfl⟩
    unfold dOper
    rw [show dWord (.str z) = true from hz, Bool.or_true]
theorem addr_mk {zs : List (Str × Int)} {ws : List Str} {p ix : PyData} {m : Int} (hne : ws ≠ []) (hnd : ws.Nodup) (hok : ∀ z ∈ ws, wordS z = true ∧ ∃ k, sz zs z = some k ∧ m ≤ k) (hp : Picks p ws.length) (hi : Picks ix m) :
    addr zs (.tuple [.tuple (ws.map PyData.str), p, ix]) = true := by
  have hs : (ws.map PyData.str).map strL0 = ws := by
    rw [List.map_map]
    exact (List.map_congr_left fun a _ => rfl).trans (List.map_id _)
  rw [addr3, unlike_eq (by simpa using hne), hs, decide_eq_true hnd, hp.oper.1, hi.oper.1]
  have e1 : ((ws.map PyData.str).all (okW zs)) = true := List.all_eq_true.mpr fun d hd => by
    obtain ⟨z, hz, rfl⟩ := List.mem_map.mp hd
    obtain ⟨h1, k, h2, _⟩ := hok z hz
    unfold okW
    rw [show dWord (.str z) = true from h1, show strL0 (.str z) = z from rfl, h2]
    rfl
  have e2 : ((ws.map PyData.str).all fun d => within ix ((sz zs (strL0 d)).getD 0)) = true := List.all_eq_true.mpr fun d hd => by
    obtain ⟨z, hz, rfl⟩ := List.mem_map.mp hd
    obtain ⟨h1, k, h2, h3⟩ := hok z hz
    rw [show strL0 (.str z) = z from rfl, h2]
    exact hi.oper.2 k h3
  rw [e1, show tupL (.tuple (ws.map PyData.str)) = ws.map PyData.str from rfl, e2, hp.oper.2 _ (by rw [List.length_map]; exact Int.le_refl _)]
  rfl
theorem two_at {x y : V} {r : Int} (h0 : 0 ≤ r) (h1 : r < 2) : atI [x, y] r = some (if r = 0 then x else y) := by
  have : r = 0 ∨ r = 1 := by omega
  rcases this with rfl | rfl
  · exact atI_nat (j := 0) rfl
  · exact atI_nat (j := 1) rfl
theorem erase_map {α β : Type} (f : α → β) : ∀ (l : List α) (k : Nat), (l.map f).eraseIdx k = (l.eraseIdx k).map f
  | [], _ => by simp
  | _ :: _, 0 => rfl
  | x :: l, k + 1 => by simp [List.eraseIdx_cons_succ, erase_map f l k]
theorem IsWord.look {z : Str} (h : IsWord z) : wordS z = true := by
  unfold wordS
  rw [decide_eq_true h.lo, decide_eq_true h.hi, List.all_eq_true.mpr h.ok]
  rfl
theorem seq_at {n k : Nat} (h : k < n) : seqIndex? (k : Int) n = some k := by
  unfold seqIndex?
  have h1 : ¬ (k : Int) < 0 := by omega
  simp [h1, h]
theorem erase_perm {α : Type} : ∀ {l : List α} {k : Nat} {y : α}, l[k]? = some y → (y :: l.eraseIdx k).Perm l
  | [], _, _, h => by simp at h
  | x :: l, 0, y, h => by
    have : x = y := by simpa using h
    subst this
    exact List.Perm.refl _
  | x :: l, k + 1, y, h => by
    have := erase_perm (l := l) (k := k) (y := y) (by simpa using h)
    rw [List.eraseIdx_cons_succ]
    exact (List.Perm.swap x y _).trans (this.cons x)
/-- a list of texts and the feed, while draws go on -/
structure LA (p fq S : Addr) (H : Hp) (us : List Str) (c : Nat) (H' : Hp) : Prop where
  sm : Same (del H p) (del H' p)
  fd : FeedAt H' p fq c
  at_ : H' S = some (.lst (us.map V.str))
  np : S ≠ p
theorem LA.lay {p fq S : Addr} {H H1 H2 : Hp} {us : List Str} {c : Nat} (h : LA p fq S H us c H1) (s : Same H1 H2) : LA p fq S H us c H2 := ⟨h.sm.trans (same_del s), h.fd.same s, s _ _ h.at_, h.np⟩
theorem LA.next {p fq S : Addr} {H H1 H2 : Hp} {us : List Str} {c c2 : Nat} (h : LA p fq S H us c H1) (s : Same (del H1 p) (del H2 p)) (F : FeedAt H2 p fq c2) : LA p fq S H us c2 H2 := ⟨h.sm.trans s, F, (of_del (s _ _ (del_some h.at_ h.np))).1, h.np⟩
theorem LA.mono {p fq S : Addr} {H H1 : Hp} {us : List Str} {c c2 : Nat} (h : LA p fq S H us c H1) (hc : c ≤ c2) : LA p fq S H us c2 H1 := ⟨h.sm, h.fd.mono hc, h.at_, h.np⟩
abbrev zI : Str := "i"
abbrev zJ : Str := "j"
abbrev zP : Str := "p"
theorem zI_ok : wordS zI = true := by decide +kernel
theorem zJ_ok : wordS zJ = true := by decide +kernel
theorem zP_ok : wordS zP = true := by decide +kernel
abbrev N26 : List Str := ["_law_feed_here", "_law_objects_here", "_law_rest", "_law_some", "_law_k", "_law_least", "_law_pick", "_law_index", "_law_word_here", "_law_size"]
/-- what a draw and two draws choose -/
def chV (r3 r2 r1 : Int) (a b : Str) : V := if r3 = 0 then .int r1 else if r2 = 0 then .str a else .str b
def chD (r3 r2 r1 : Int) (a b : Str) : PyData := if r3 = 0 then .int r1 else if r2 = 0 then .str a else .str b
theorem chD_at {K : PySem.W.Frag} {H : Hp} {r3 r2 r1 : Int} {a b : Str} : Dp K H (chV r3 r2 r1 a b) (chD r3 r2 r1 a b) := by
  unfold chV chD
  by_cases h3 : r3 = 0
  · rw [if_pos h3, if_pos h3]; exact .int _
  · rw [if_neg h3, if_neg h3]
    by_cases h2 : r2 = 0
    · rw [if_pos h2, if_pos h2]; exact .str _
    · rw [if_neg h2, if_neg h2]; exact .str _
theorem chD_picks {r3 r2 r1 n : Int} {a b : Str} (h0 : 0 ≤ r1) (h1 : r1 < n) (ha : wordS a = true) (hb : wordS b = true) : Picks (chD r3 r2 r1 a b) n := by
  unfold chD
  by_cases h3 : r3 = 0
  · rw [if_pos h3]; exact .inl ⟨_, rfl, h0, h1⟩
  · rw [if_neg h3]
    by_cases h2 : r2 = 0
    · rw [if_pos h2]; exact .inr ⟨_, rfl, ha⟩
    · rw [if_neg h2]; exact .inr ⟨_, rfl, hb⟩
theorem two_ch {r3 r2 r1 : Int} {a b : Str} (h0 : 0 ≤ r3) (h1 : r3 < 2) : atI [.int r1, if r2 = 0 then .str a else .str b] r3 = some (chV r3 r2 r1 a b) := two_at h0 h1
section
variable {P : Program} {w : World} {K : PySem.W.Frag} {mg : Str → Option Value} {base : Heap}
def spLAddr (K : PySem.W.Frag) : Sp := fun vs H Q _ => ∃ (p fq : Addr) (vo : V) (zs : List (Str × Int)) (b : Nat), vs = [.ref p, vo] ∧ FeedAt H p fq b ∧ b + 100 ≤ 1000000000 ∧ ObjsAt K (del H p) vo zs ∧
  ∀ (v : V) (ws : List Str) (pd ix : PyData) (H' : Hp), AddrAt K (del H' p) v zs ws pd ix → Same (del H p) (del H' p) → FeedAt H' p fq (b + 20) → Q v H'
end
end Sw
set_option maxRecDepth 100000
set_option maxHeartbeats 4000000
namespace Sw
open PySem PySem.Spec PyProof.Rows L2
/-! ### displays with names in them: data in a part of the heap -/
/-- W is a part of the heap that grows with it; G tells where one stands -/
structure Dc (W : L2.St → Hp → Hp) (G : L2.St → Hp → Prop) : Prop where
  mono : ∀ {σ : L2.St} {H H' : Hp}, Same H H' → Same (W σ H) (W σ H')
  sub : ∀ {σ : L2.St} {H : Hp}, Same (W σ H) H
  keep : ∀ {σ : L2.St} {H H' : Hp}, G σ H → Same H H' → G σ H'
  new : ∀ {σ : L2.St} {H : Hp} {a : Addr} {o : HO}, G σ H → H a = none → W σ (upd H a o) a = some o
def tD (K : PySem.W.Frag) (W : L2.St → Hp → Hp) (G : L2.St → Hp → Prop) (d : PyData) : TE := fun σ H Q => G σ H ∧ ∀ v H', Same H H' → Dp K (W σ H') v d → Q v H'
def tDs (K : PySem.W.Frag) (W : L2.St → Hp → Hp) (G : L2.St → Hp → Prop) (ds : List PyData) : TA := fun σ H Q => G σ H ∧ ∀ vs H', Same H H' → DpAll K (W σ H') vs ds → Q vs H'
section
variable {X : Cx} {K : PySem.W.Frag} {W : L2.St → Hp → Hp} {G : L2.St → Hp → Prop}
theorem pd_var {e : Expr} {i : Nat} {d : PyData} (he : PE X e (tVar i)) (h : ∀ σ H, G σ H → ∃ v, σ[i]? = some (some v) ∧ Dp K (W σ H) v d) : PE X e (tD K W G d) :=
  pe_imp he fun σ H Q q => by
    obtain ⟨v, h1, h2⟩ := h σ H q.1
    exact ⟨v, h1, q.2 v H (Same.refl H) h2⟩
theorem pd_int {i : Int} {k : Nat} {pos : Pos} : PE X (.Constant (.int i) k pos) (tD K W G (.int i)) := pe_imp pe_int fun σ H Q q => q.2 _ H (Same.refl H) (.int i)
theorem pd_str {z : Str} {k : Nat} {pos : Pos} : PE X (.Constant (.str z) k pos) (tD K W G (.str z)) := pe_imp pe_str fun σ H Q q => q.2 _ H (Same.refl H) (.str z)
theorem pd_bl {b : Bool} {k : Nat} {pos : Pos} : PE X (.Constant (.bool b) k pos) (tD K W G (.bool b)) := pe_imp pe_bl fun σ H Q q => q.2 _ H (Same.refl H) (.bl b)
theorem pd_non {k : Nat} {pos : Pos} : PE X (.Constant .none k pos) (tD K W G .none) := pe_imp pe_non fun σ H Q q => q.2 _ H (Same.refl H) .non
theorem pd_neg {e : Expr} {i : Int} {pos : Pos} (he : PE X e (tD K W G (.int i))) : PE X (.UnaryOp .USub e pos) (tD K W G (.int (-i))) :=
  pe_imp (pe_un un_neg he) fun σ H Q q => ⟨q.1, fun v H1 s1 d1 => by cases d1; exact ⟨i, rfl, q.2 _ H1 s1 (.int _)⟩⟩
theorem pd_sub (C : Dc W G) {a b : Expr} {i j : Int} {pos : Pos} (ha : PE X a (tD K W G (.int i))) (hb : PE X b (tD K W G (.int j))) : PE X (.BinOp a .Sub b pos) (tD K W G (.int (i - j))) :=
  pe_imp (pe_op op_sub ha hb) fun σ H Q q => ⟨q.1, fun v H1 s1 d1 => ⟨C.keep q.1 s1, fun u H2 s2 d2 => by cases d1; cases d2; exact ⟨i, j, rfl, rfl, q.2 _ H2 (s1.trans s2) (.int _)⟩⟩⟩
theorem pds_nil : PA X [] (tDs K W G []) := pa_imp pa_nil fun σ H Q q => q.2 [] H (Same.refl H) .nil
theorem pds_cons (C : Dc W G) {e : Expr} {es : List Expr} {d : PyData} {ds : List PyData} (he : PE X e (tD K W G d)) (hes : PA X es (tDs K W G ds)) (hs : starEach (e :: es) X.env = (false, eval e X.env) :: starEach es X.env := by rfl) : PA X (e :: es) (tDs K W G (d :: ds)) :=
  pa_imp (pa_cons he hes hs) fun σ H Q q => ⟨q.1, fun v H1 s1 d1 => ⟨C.keep q.1 s1, fun vs H2 s2 d2 => q.2 _ H2 (s1.trans s2) (.cons (Dp_same (C.mono s2) d1) d2)⟩⟩
theorem pd_tup (C : Dc W G) {es : List Expr} {ds : List PyData} {k : Nat} {pos : Pos} (h : PA X es (tDs K W G ds)) (hl : Nat.ble ds.length 1000 = true := by rfl) : PE X (.Tuple es k pos) (tD K W G (.tuple ds)) :=
  pe_imp (pe_tup h) fun σ H Q q => ⟨q.1, fun vs H1 s1 d1 => ⟨by have := DpAll_len d1; have := Nat.le_of_ble_eq_true hl; exact Nat.le_of_lt (small1000 (by omega)), fun a ha => by
    have s2 := same_new (o := .tup vs) ha
    exact q.2 _ _ (s1.trans s2) (.tup (SqT.of (C.new (C.keep q.1 s1) ha)) (DpAll_same (C.mono s2) d1))⟩⟩
theorem pd_lst (C : Dc W G) {es : List Expr} {ds : List PyData} {pos : Pos} (h : PA X es (tDs K W G ds)) (hl : Nat.ble ds.length 1000 = true := by rfl) : PE X (.List es pos) (tD K W G (.list ds)) :=
  pe_imp (pe_lst h) fun σ H Q q => ⟨q.1, fun vs H1 s1 d1 => ⟨by have := DpAll_len d1; have := Nat.le_of_ble_eq_true hl; exact Nat.le_of_lt (small1000 (by omega)), fun a ha => by
    have s2 := same_new (o := .lst vs) ha
    exact q.2 _ _ (s1.trans s2) (.lst (SqL.of (C.new (C.keep q.1 s1) ha)) (DpAll_same (C.mono s2) d1))⟩⟩
/-- len(t), by the rule for the call -/
theorem pd_len {e : Expr} {ds : List PyData} {c p : Pos} (hg : Gl X "len") (hm : X.mg "len" = none) (C : Dc W G) (hK : X.K = K) (he : PE X e (tD K W G (.tuple ds))) (hs : starEach [e] X.env = (false, eval e X.env) :: starEach [] X.env := by rfl) : PE X (.Call (.Name "len" p) [e] [] c) (tD K W G (.int (ds.length : Nat))) := by
  subst hK
  refine pe_imp (pe_callB call_len_seq hg hm PySem.boot_len (pa_cons he pa_nil hs) (by decide) (by decide) hs rfl) fun σ H Q q => ⟨q.1, fun v H1 s1 d1 => ?_⟩
  cases d1 with
  | @tup a xs _ hx hr =>
    refine ⟨a, xs, rfl, .inr (sameT C.sub hx), ?_⟩
    rw [DpAll_len hr]
    exact q.2 _ H1 s1 (.int _)
/-- a + b of tuples -/
theorem pd_cat (C : Dc W G) (hK : X.K = K) {a b : Expr} {ds es : List PyData} {pos : Pos} (ha : PE X a (tD K W G (.tuple ds))) (hb : PE X b (tD K W G (.tuple es))) (hl : ds.length + es.length ≤ 1000) : PE X (.BinOp a .Add b pos) (tD K W G (.tuple (ds ++ es))) := by
  subst hK
  refine pe_imp (pe_op op_catA ha hb) fun σ H Q q => ⟨q.1, fun v H1 s1 d1 => ⟨C.keep q.1 s1, fun u H2 s2 d2 => ?_⟩⟩
  have d1' := Dp_same (C.mono s2) d1
  have s02 := s1.trans s2
  cases d1' with
  | @tup a1 xs _ hx hrx =>
    cases d2 with
    | @tup a2 ys _ hy hry =>
      have l1 := DpAll_len hrx
      have l2 := DpAll_len hry
      refine ⟨a1, a2, xs, ys, rfl, rfl, sameT C.sub hx, sameT C.sub hy, Nat.le_of_lt (small1000 (by omega)), fun z => ?_, fun _ z => ?_, fun _ _ t ht => ?_⟩
      · have e : ds = [] := List.eq_nil_of_length_eq_zero (by rw [← l1, z]; rfl)
        subst e
        exact q.2 _ H2 s02 (.tup hy hry)
      · have e : es = [] := List.eq_nil_of_length_eq_zero (by rw [← l2, z]; rfl)
        subst e
        have q2 := q.2
        rw [List.append_nil] at q2
        exact q2 _ H2 s02 (.tup hx hrx)
      · have s3 := same_new (o := .tup (xs ++ ys)) ht
        exact q.2 _ _ (s02.trans s3) (.tup (SqT.of (C.new (C.keep q.1 s02) ht)) (DpAll_append (DpAll_same (C.mono s3) hrx) (DpAll_same (C.mono s3) hry)))
/-- a[:n] of a tuple -/
theorem pd_to (C : Dc W G) (hK : X.K = K) {a : Expr} {ds : List PyData} {n : Int} {k : Nat} {p1 p2 pos : Pos} (ha : PE X a (tD K W G (.tuple ds))) : PE X (.Subscript a (.Slice none (some (.Constant (.int n) k p1)) none p2) pos) (tD K W G (.tuple (cutD ds none (some n)))) := by
  subst hK
  refine pe_imp (pe_slice sl_tupA ha po_none (po_some pe_int)) fun σ H Q q => ⟨q.1, fun v H1 s1 d1 => ?_⟩
  cases d1 with
  | @tup a1 xs _ hx hrx =>
    have hl := DpAll_len hrx
    refine ⟨n, rfl, a1, xs, rfl, sameT C.sub hx, fun hw => ?_, fun hw t ht => ?_⟩
    · rw [hl] at hw
      have e : cutD ds none (some n) = ds := by
        unfold cutD
        rw [hw.1, hw.2]
        simp
      have q2 := q.2
      rw [e] at q2
      exact q2 _ H1 s1 (.tup hx hrx)
    · have s := same_new (o := .tup (cutV xs none (some n))) ht
      refine q.2 _ _ (s1.trans s) (.tup (SqT.of (C.new (C.keep q.1 s1) ht)) ?_)
      have r2 := DpAll_same (C.mono s) hrx
      generalize upd H1 t (.tup (cutV xs none (some n))) = H2 at r2
      unfold cutV cutD
      rw [hl]
      exact DpAll_take _ (DpAll_drop _ r2)
/-- a[::-1] of a tuple -/
theorem pd_rev (C : Dc W G) (hK : X.K = K) {a : Expr} {ds : List PyData} {k : Nat} {p1 p2 p3 pos : Pos} (ha : PE X a (tD K W G (.tuple ds))) : PE X (.Subscript a (.Slice none none (some (.UnaryOp .USub (.Constant (.int 1) k p1) p2)) p3) pos) (tD K W G (.tuple ds.reverse)) := by
  subst hK
  refine pe_imp (pe_revT ha) fun σ H Q q => ⟨q.1, fun v H1 s1 d1 => ?_⟩
  cases d1 with
  | @tup a1 xs _ hx hrx =>
    refine ⟨a1, xs, rfl, sameT C.sub hx, fun t ht => ?_⟩
    have s := same_new (o := .tup xs.reverse) ht
    exact q.2 _ _ (s1.trans s) (.tup (SqT.of (C.new (C.keep q.1 s1) ht)) (DpAll_reverse (DpAll_same (C.mono s) hrx)))
end
/-- parts of the heap -/
theorem dc_fr {H0 : Hp} {g : L2.St → Hp → Prop} (hk : ∀ {σ H H'}, g σ H → Same H H' → g σ H') : Dc (fun _ H => fr H0 H) (fun σ H => Same H0 H ∧ g σ H) :=
  ⟨fun s => fr_next s, fr_same _ _, fun h s => ⟨h.1.trans s, hk h.2 s⟩, fun h ha => fr_some (h.1.free ha) upd_same⟩
theorem dc_nw {H0 : Hp} {L : L2.St → Addr} {g : L2.St → Hp → Prop} (hk : ∀ {σ H H'}, g σ H → Same H H' → g σ H') : Dc (fun σ H => nw H0 (L σ) H) (fun σ H => (Same H0 H ∧ ∃ u, H (L σ) = some u) ∧ g σ H) :=
  ⟨fun s => nw_next s, nw_sub, fun h s => ⟨⟨h.1.1.trans s, by obtain ⟨u, hu⟩ := h.1.2; exact ⟨u, s _ _ hu⟩⟩, hk h.2 s⟩, fun h ha => by obtain ⟨u, hu⟩ := h.1.2; exact nw_new h.1.1 hu ha⟩
theorem dc_del2 {p : Addr} {L : L2.St → Addr} {g : L2.St → Hp → Prop} (hk : ∀ {σ H H'}, g σ H → Same H H' → g σ H') : Dc (fun σ H => del (del H p) (L σ)) (fun σ H => ((∃ u, H p = some u) ∧ ∃ u, H (L σ) = some u) ∧ g σ H) :=
  ⟨fun s => same_del (same_del s), (del_same _ _).trans (del_same _ _), fun h s => ⟨⟨by obtain ⟨u, hu⟩ := h.1.1; exact ⟨u, s _ _ hu⟩, by obtain ⟨u, hu⟩ := h.1.2; exact ⟨u, s _ _ hu⟩⟩, hk h.2 s⟩, fun h ha => by
    obtain ⟨⟨u, hu⟩, ⟨u2, hu2⟩⟩ := h.1
    exact del_some (new_del hu ha) (fun e => by rw [e, hu2] at ha; cases ha)⟩
theorem dc_del {p : Addr} {g : L2.St → Hp → Prop} (hk : ∀ {σ H H'}, g σ H → Same H H' → g σ H') : Dc (fun _ H => del H p) (fun σ H => (∃ u, H p = some u) ∧ g σ H) :=
  ⟨fun s => same_del s, del_same _ _, fun h s => ⟨by obtain ⟨u, hu⟩ := h.1; exact ⟨u, s _ _ hu⟩, hk h.2 s⟩, fun h ha => by
    obtain ⟨u, hu⟩ := h.1
    exact new_del hu ha⟩
/-- the place that a slot holds -/
def refAt (i : Nat) (σ : L2.St) : Addr := match σ[i]? with
  | some (some (.ref a)) => a
  | _ => 0
end Sw
set_option maxRecDepth 100000
set_option maxHeartbeats 4000000
namespace Sw
open PySem PySem.Spec PyProof.Rows L2
theorem word_of {z : Str} (h : wordS z = true) : IsWord z := by
  unfold wordS at h
  rw [Bool.and_eq_true, Bool.and_eq_true, decide_eq_true_eq, decide_eq_true_eq] at h
  exact ⟨h.1.1, h.1.2, fun c hc => List.all_eq_true.mp h.2 c hc⟩
abbrev Sm (d : PyData) : Prop := Fit (10 ^ 199) 22 2 900 d
abbrev FitN (d : PyData) : Prop := Fit (10 ^ 199 + 2) 22 10 7000 d
theorem sm_int {i : Int} (h : i.natAbs ≤ 10) : Sm (.int i) := Fit.int (Nat.le_trans h (by decide +kernel)) (by omega)
theorem sm_str {z : Str} (h : IsWord z) : Sm (.str z) := Fit.str h.ascii (by have := h.hi; omega)
theorem strs_wt : ∀ l : List Str, (∀ z ∈ l, IsWord z) → wtAll (l.map PyData.str) ≤ 87 * l.length
  | [], _ => by simp [wtAll]
  | x :: l, h => by
    have h1 := (h x List.mem_cons_self).hi
    have h2 := strs_wt l fun d hd => h d (List.mem_cons_of_mem _ hd)
    simp only [List.map_cons, wtAll, wt, List.length_cons]
    omega
theorem sm_strs {l : List Str} (h : ∀ z ∈ l, IsWord z) (hl : l.length ≤ 10) : Sm (.tuple (l.map PyData.str)) := by
  have hw := strs_wt l h
  refine Fit.tup (n := 1) (by rw [List.length_map]; omega) (fun x hx => ?_) (by omega)
  obtain ⟨z, hz, rfl⟩ := List.mem_map.mp hx
  have := sm_str (h z hz)
  exact ⟨this.lf, this.ln, by simp [PyData.depth]⟩
theorem tri_fit {a b c : PyData} (ha : Sm a) (hb : Sm b) (hc : Sm c) : FitN (.tuple [a, b, c]) := by
  have h1 := ha.wg
  have h2 := hb.wg
  have h3 := hc.wg
  have : Fit (10 ^ 199) 22 10 7000 (.tuple [a, b, c]) := Fit.tup (n := 9) (by show 3 ≤ 22; omega) (fun x hx => by
    simp only [List.mem_cons, List.not_mem_nil, or_false] at hx
    rcases hx with rfl | rfl | rfl
    · exact ⟨ha.lf, ha.ln, Nat.le_trans ha.dp (by omega)⟩
    · exact ⟨hb.lf, hb.ln, Nat.le_trans hb.dp (by omega)⟩
    · exact ⟨hc.lf, hc.ln, Nat.le_trans hc.dp (by omega)⟩) (by simp only [wtAll]; omega)
  exact this.mono (by omega) (Nat.le_refl _) (Nat.le_refl _) (Nat.le_refl _)
/-- what an ADDRESS is like -/
structure AddrF (ws : List Str) (p ix : PyData) : Prop where
  lo : 1 ≤ ws.length
  hi : ws.length ≤ 4
  nd : ws.Nodup
  wd : ∀ z ∈ ws, IsWord z
  sp : Sm p
  si : Sm ix
  fit : Fit (10 ^ 199) 4 2 900 (.tuple [.tuple (ws.map PyData.str), p, ix])
theorem oper_sm {d : PyData} {m : Int} (ho : dOper d = true) (hw : within d m = true) (hm : m ≤ 4) : Sm d ∧ Fit (10 ^ 199) 4 0 250 d := by
  cases d with
  | int i =>
    have h' : (decide (0 ≤ i) && decide (i < m)) = true := hw
    rw [Bool.and_eq_true, decide_eq_true_eq, decide_eq_true_eq] at h'
    exact ⟨sm_int (by omega), Fit.int (Nat.le_trans (show i.natAbs ≤ 10 by omega) (by decide +kernel)) (by omega)⟩
  | str z =>
    have hz : IsWord z := word_of (by
      unfold dOper at ho
      rw [show dNum (.str z) = false from rfl, Bool.false_or] at ho
      exact ho)
    exact ⟨sm_str hz, Fit.str hz.ascii (by have := hz.hi; omega)⟩
  | _ => cases ho
theorem AddrAt.facts {K : PySem.W.Frag} {H : Hp} {v vo : V} {zs : List (Str × Int)} {ws : List Str} {p ix : PyData} (h : AddrAt K H v zs ws p ix) (hO : ObjsAt K H vo zs) : AddrF ws p ix := by
  obtain ⟨os', p', ix', e', hw, hnd, hne, hp, hi, hwp, hwi⟩ := addr_parts h.ok
  cases e'
  have hs : (ws.map PyData.str).map strL0 = ws := by
    rw [List.map_map]
    exact (List.map_congr_left fun a _ => rfl).trans (List.map_id _)
  rw [hs] at hnd
  have hm : ∀ z ∈ ws, IsWord z ∧ ∃ k, sz zs z = some k ∧ k ≤ 4 ∧ z ∈ zs.map (·.1) := fun z hz => by
    obtain ⟨z', k, e, hd, hk⟩ := hw (.str z) (List.mem_map_of_mem hz)
    cases e
    have hz2 := sz_mem hk
    exact ⟨word_of hd, k, hk, (hO.wd _ hz2).2.2, List.mem_map_of_mem hz2⟩
  have h4 : ws.length ≤ 4 := by
    have := nodup_le hnd fun z hz => (hm z hz).2.choose_spec.2.2
    rw [List.length_map] at this
    have := hO.few
    omega
  have h1 : 1 ≤ ws.length := by
    cases ws with
    | nil => exact absurd rfl hne
    | cons _ _ => simp
  have sp := oper_sm hp hwp (by rw [List.length_map]; omega)
  have si : Sm ix ∧ Fit (10 ^ 199) 4 0 250 ix := by
    cases ws with
    | nil => exact absurd rfl hne
    | cons z r =>
      obtain ⟨_, k, hk, hk4, _⟩ := hm z List.mem_cons_self
      have := hwi (.str z) (List.mem_map_of_mem List.mem_cons_self)
      rw [show strL0 (.str z) = z from rfl, hk] at this
      exact oper_sm hi this hk4
  refine ⟨h1, h4, hnd, fun z hz => (hm z hz).1, sp.1, si.1, ?_⟩
  have hwt := strs_wt ws fun z hz => (hm z hz).1
  have wp := sp.2.wg
  have wi := si.2.wg
  refine Fit.tup (n := 1) (by show 3 ≤ 4; omega) (fun x hx => ?_) (by simp only [wtAll, wt]; omega)
  simp only [List.mem_cons, List.not_mem_nil, or_false] at hx
  rcases hx with rfl | rfl | rfl
  · have : Fit (10 ^ 199) 4 1 900 (.tuple (ws.map PyData.str)) := Fit.tup (n := 0) (by rw [List.length_map]; omega) (fun x hx => by
      obtain ⟨z, hz, rfl⟩ := List.mem_map.mp hx
      have := sm_str (hm z hz).1
      exact ⟨this.lf, rfl, by simp [PyData.depth]⟩) (by omega)
    exact ⟨this.lf, this.ln, this.dp⟩
  · exact ⟨sp.2.lf, sp.2.ln, Nat.le_trans sp.2.dp (by omega)⟩
  · exact ⟨si.2.lf, si.2.ln, Nat.le_trans si.2.dp (by omega)⟩
end Sw
set_option maxRecDepth 100000
set_option maxHeartbeats 4000000
namespace Sw
open PySem PySem.Spec PyProof.Rows L2
/-- f(e), f's promise kept where no repr is under way -/
theorem pe_callG {X : Cx} {k : Nat} {f : Addr} {fd : FuncData} {ps : List Str} {sp : Sp} {x : Str} {p pos : Pos} {e : Expr} {es : List Expr} {t : TA} {E : XK} (hG : X.A.guards = some []) (F : FnG X.prog X.w X.K X.mg X.base k f fd ps sp) (hr : Room k X.A) (hg : Gl X x) (hm : X.mg x = some (.ref f)) (hk : PySem.W.keepIn X.K (.ref f) = true) (hb : Binds X.K fd ps []) (hx : Passes CX0 X E)
    (ha : PA X (e :: es) t) (hdb : (x == ("__debug__" : Str)) = false := by decide) (he : starEach (e :: es) X.env = (false, eval e X.env) :: starEach es X.env := by rfl) (hpl : (backTo pos (starEach es X.env)).any (·.1) = false := by rfl) :
    PE X (.Call (.Name x p) (e :: es) [] pos) (tCall sp [] E t) := by
  refine ⟨fun pins s σ H Q I h => ?_⟩
  refine wpAny_Call_Name_kw (ld_glob I hg hm ?_ hdb)
  refine PySem.W.callWith_K (h₀ := X.base) I.ok.mod.kin hk (thn (ha.run pos pins s σ H _ I h) fun us s1 ⟨vs, H1, I1, r, q⟩ => ⟨I1.kIn, ?_⟩) he hpl
  have r2 : Vals (vs ++ []) (us ++ []) := r.append .nil
  have hl : (us ++ []).length = ps.length := by rw [← r2.length]; exact F.size _ _ _ _ q
  refine wpAny_call (codeAny_mono (F.goes X.A X.stack s1 H1 ⟨us, []⟩ (us ++ []) (vs ++ []) Q E hG hr I1.env0 (hb s1 us I1.kIn hl) r2 q) fun r s' hq => ?_)
  cases r with
  | error e => exact hx pins σ H1 s1 e s' I1 hq
  | ok fl =>
    cases fl with
    | ret u => exact I1.after hq
    | next => exact False.elim hq
    | brk => exact False.elim hq
    | cont => exact False.elim hq
theorem cells_fit {cs : List (Str × Int)} (h : ∀ c ∈ cs, IsWord c.1 ∧ 0 ≤ c.2 ∧ c.2 ≤ 4) (hl : cs.length ≤ 16) : Fit (10 ^ 199) 60 2 6000 (.tuple (cs.map cellD)) := by
  have hw : ∀ l : List (Str × Int), (∀ c ∈ l, IsWord c.1 ∧ 0 ≤ c.2 ∧ c.2 ≤ 4) → wtAll (l.map cellD) ≤ 350 * l.length := by
    intro l
    induction l with
    | nil => intro _; simp [wtAll]
    | cons x l ih =>
      intro hx
      have h1 := (hx x List.mem_cons_self).1.hi
      have h2 := ih fun d hd => hx d (List.mem_cons_of_mem _ hd)
      simp only [List.map_cons, wtAll, List.length_cons, cellD, wt] at *
      omega
  have := hw cs h
  refine Fit.tup (n := 1) (by rw [List.length_map]; omega) (fun x hx => ?_) (by omega)
  obtain ⟨c, hc, rfl⟩ := List.mem_map.mp hx
  obtain ⟨h1, h2, h3⟩ := h c hc
  have : Fit (10 ^ 199) 60 1 350 (cellD c) := Fit.tup (n := 0) (by show 2 ≤ 60; omega) (fun y hy => by
    simp only [List.mem_cons, List.not_mem_nil, or_false] at hy
    rcases hy with rfl | rfl
    · exact ⟨leaf_str.mpr h1.ascii, rfl, by simp [PyData.depth]⟩
    · exact ⟨by simp only [leaf, decide_eq_true_eq]; exact Nat.le_trans (show c.2.natAbs ≤ 10 by omega) (by decide +kernel), rfl, by simp [PyData.depth]⟩) (by have := h1.hi; simp only [wtAll, wt]; omega)
  exact ⟨this.lf, this.ln, this.dp⟩
theorem cells_len {zs : List (Str × Int)} (hl : zs.length ≤ 4) (h : ∀ z ∈ zs, z.2 ≤ 4) : (cellsL zs).length ≤ 16 := by
  have : ∀ l : List (Str × Int), (∀ z ∈ l, z.2 ≤ 4) → (cellsL l).length ≤ 4 * l.length := by
    intro l
    induction l with
    | nil => intro _; simp [cellsL]
    | cons x l ih =>
      intro hx
      have h1 := hx x List.mem_cons_self
      have h2 := ih fun d hd => hx d (List.mem_cons_of_mem _ hd)
      unfold cellsL at *
      rw [List.flatMap_cons, List.length_append, List.length_map, List.length_range, List.length_cons]
      omega
  have := this zs h
  omega
theorem cells_wd {zs : List (Str × Int)} (h : ∀ z ∈ zs, IsWord z.1 ∧ 1 ≤ z.2 ∧ z.2 ≤ 4) : ∀ c ∈ cellsL zs, IsWord c.1 ∧ 0 ≤ c.2 ∧ c.2 ≤ 4 := fun c hc => by
  obtain ⟨z, k⟩ := c
  obtain ⟨m, hm, h1, h2⟩ := mem_cells.mp hc
  obtain ⟨w1, w2, w3⟩ := h _ hm
  exact ⟨w1, h1, by dsimp only at *; omega⟩
theorem told_fit {cs : List (Str × Int)} (h : ∀ c ∈ cs, IsWord c.1 ∧ 0 ≤ c.2 ∧ c.2 ≤ 4) (hl : cs.length ≤ 16) (a b d : Bool) : Fit (10 ^ 199) 60 3 7000 (.tuple [.bool a, .tuple (cs.map cellD), .bool b, .bool d]) := by
  have hc := cells_fit h hl
  have := hc.wg
  refine Fit.tup (n := 2) (by show 4 ≤ 60; omega) (fun x hx => ?_) (by simp only [wtAll, wt] at *; omega)
  simp only [List.mem_cons, List.not_mem_nil, or_false] at hx
  rcases hx with rfl | rfl | rfl | rfl
  · exact ⟨rfl, rfl, by simp [PyData.depth]⟩
  · exact ⟨hc.lf, hc.ln, hc.dp⟩
  · exact ⟨rfl, rfl, by simp [PyData.depth]⟩
  · exact ⟨rfl, rfl, by simp [PyData.depth]⟩
section
variable {P : Program} {w : World} {K : PySem.W.Frag} {mg : Str → Option Value} {base : Heap}
def spRight (K : PySem.W.Frag) : Sp := fun vs H Q _ => ∃ (vc vo va : V) (zs : List (Str × Int)) (ws : List Str) (pd ix : PyData), vs = [vc, vo, va] ∧ CodeAt K H vc vo zs ∧ AddrAt K H va zs ws pd ix ∧ ∀ H', Same H H' → Q (.bl true) H'
end
end Sw
set_option maxRecDepth 100000
set_option maxHeartbeats 4000000
namespace Sw
open PySem PySem.Spec PyProof.Rows L2
/-- the routines, as data -/
abbrev rtD : PyData := .tuple [.tuple [.str (Str.ofString "main"), .tuple [.tuple [.tuple [], .tuple [.str (Str.ofString "back")]]]]]
theorem paired_dat {K : PySem.W.Frag} {H : Hp} : ∀ {ps : List Addr} {zs : List (Str × Int)}, Paired (fun p (z : Str × Int) => SqT K H p [.str z.1, .int z.2]) ps zs → DpAll K H (ps.map V.ref) (zs.map cellD)
  | _, _, .nil => .nil
  | _, _, .cons h t => .cons (.tup h (.cons (.str _) (.cons (.int _) .nil))) (paired_dat t)
theorem ObjsAt.dat {K : PySem.W.Frag} {H : Hp} {v : V} {zs : List (Str × Int)} (h : ObjsAt K H v zs) : Dp K H v (.tuple (zs.map cellD)) := by
  obtain ⟨a, ps, rfl, hf, hp⟩ := h.ex
  exact .tup hf.sq (paired_dat hp)
theorem dc_delS {L : L2.St → Addr} : Dc (fun σ H => del H (L σ)) (fun σ H => ∃ u, H (L σ) = some u) :=
  ⟨fun s => same_del s, del_same _ _, fun h s => by obtain ⟨u, hu⟩ := h; exact ⟨u, s _ _ hu⟩, fun h ha => by
    obtain ⟨u, hu⟩ := h
    exact new_del hu ha⟩
/-- the things while they grow, with the code beside -/
structure LJ (K : PySem.W.Frag) (p fq T : Addr) (C : Addr) (vo vr : V) (zs : List (Str × Int)) (b : Nat) (H : Hp) (us : List V) (ds : List PyData) : Prop where
  feed : FeedAt H p fq b
  at_ : H T = some (.lst us)
  np : T ≠ p
  nq : T ≠ fq
  dat : DpAll K (del (del H p) T) us ds
  cd : SqT K (del (del H p) T) C [vo, vr]
  ob : ObjsAt K (del (del H p) T) vo zs
  rt : Dp K (del (del H p) T) vr rtD
  long : 34 ≤ us.length
  fit : ∀ d ∈ ds, FitN d
section
variable {K : PySem.W.Frag} {p fq T C : Addr} {vo vr : V} {zs : List (Str × Int)} {b : Nat} {H H' : Hp} {us : List V} {ds : List PyData}
theorem LJ.next {b' : Nat} (I : LJ K p fq T C vo vr zs b H us ds) (s : Same (del H p) (del H' p)) (F : FeedAt H' p fq b') : LJ K p fq T C vo vr zs b' H' us ds :=
  ⟨F, (of_del (s _ _ (del_some I.at_ I.np))).1, I.np, I.nq, DpAll_same (same_del s) I.dat, sameT (same_del s) I.cd, I.ob.same (same_del s), Dp_same (same_del s) I.rt, I.long, I.fit⟩
theorem LJ.lay (I : LJ K p fq T C vo vr zs b H us ds) (s : Same H H') : LJ K p fq T C vo vr zs b H' us ds := I.next (same_del s) (I.feed.same s)
theorem LJ.mono {c : Nat} (I : LJ K p fq T C vo vr zs b H us ds) (h : b ≤ c) : LJ K p fq T C vo vr zs c H us ds := ⟨I.feed.mono h, I.at_, I.np, I.nq, I.dat, I.cd, I.ob, I.rt, I.long, I.fit⟩
theorem LJ.code (I : LJ K p fq T C vo vr zs b H us ds) : CodeAt K H (.ref C) vo zs := ⟨⟨C, vr, rfl, sameT ((del_same _ _).trans (del_same _ _)) I.cd⟩, I.ob.same ((del_same _ _).trans (del_same _ _))⟩
theorem LJ.obp (I : LJ K p fq T C vo vr zs b H us ds) : ObjsAt K (del H p) vo zs := I.ob.same (del_same _ _)
theorem DpAll_offN {K : PySem.W.Frag} {G : Hp} {T : Addr} {us vs : List V} {ds : List PyData} (hT : G T = some (.lst us)) (hl : 22 < us.length) (h : DpAll K G vs ds) (hf : ∀ d ∈ ds, FitN d) : DpAll K (del G T) vs ds :=
  DpAll_off hT hl h (lensAll_iff.mpr fun d hd => (hf d hd).ln)
theorem LJ.more (I : LJ K p fq T C vo vr zs b H us ds) {ws : List V} {es : List PyData} (h : DpAll K (del H p) ws es) (hf : ∀ d ∈ es, FitN d) : LJ K p fq T C vo vr zs b (upd H T (.lst (us ++ ws))) (us ++ ws) (ds ++ es) := by
  have h2 := DpAll_offN (del_some I.at_ I.np) (by have := I.long; omega) h hf
  have s : Same (del (del H p) T) (del (del (upd H T (.lst (us ++ ws))) p) T) := fun c o e => by
    obtain ⟨e1, e2⟩ := of_del e
    obtain ⟨e3, e4⟩ := of_del e1
    exact del_some (del_some (by rw [upd_ne e2]; exact e3) e4) e2
  refine ⟨I.feed.upd I.np I.nq, upd_same, I.np, I.nq, DpAll_same s (DpAll_append I.dat h2), sameT s I.cd, I.ob.same s, Dp_same s I.rt, ?_, fun d hd => (List.mem_append.mp hd).elim (I.fit d) (hf d)⟩
  have := I.long
  rw [List.length_append]
  omega
theorem LJ.told (I : LJ K p fq T C vo vr zs b H us ds) : Dp K H (.ref C) (.tuple [.tuple (zs.map cellD), rtD]) ∧ Dp K H (.ref T) (.list ds) := by
  have s : Same (del (del H p) T) H := (del_same _ _).trans (del_same _ _)
  exact ⟨.tup (sameT s I.cd) (.cons (I.ob.same s).dat (.cons (Dp_same s I.rt) .nil)), .lst (SqL.of I.at_) (DpAll_same s I.dat)⟩
theorem wt_le {ds : List PyData} {B : Nat} (h : ∀ d ∈ ds, wt d ≤ B) : wtAll ds ≤ (B + 2) * ds.length := by
  induction ds with
  | nil => simp [wtAll]
  | cons x l ih =>
    have h1 := h x List.mem_cons_self
    have h2 := ih fun d hd => h d (List.mem_cons_of_mem _ hd)
    simp only [wtAll, List.length_cons, Nat.mul_add, Nat.mul_one]
    omega
theorem rt_fit : Fit 0 60 10 1000 rtD := fitB_fit (by decide +kernel)
theorem pair_fit {M n : Nat} {a b : PyData} {B1 B2 B : Nat} (ha : Fit M 400 n B1 a) (hb : Fit M 400 n B2 b) (h : B1 + B2 + 9 ≤ B) : Fit M 400 (n + 1) B (.tuple [a, b]) := by
  have h1 := ha.wg
  have h2 := hb.wg
  refine Fit.tup (n := n) (Nat.le_of_ble_eq_true rfl) (fun x hx => ?_) (by simp only [wtAll]; omega)
  simp only [List.mem_cons, List.not_mem_nil, or_false] at hx
  rcases hx with rfl | rfl
  · exact ⟨ha.lf, ha.ln, ha.dp⟩
  · exact ⟨hb.lf, hb.ln, hb.dp⟩
theorem all_fitM {M : Nat} {zs : List (Str × Int)} {ds : List PyData} (h2 : Fit M 60 2 6000 (.tuple (zs.map cellD))) (hf : ∀ d ∈ ds, Fit M 22 10 7000 d) (hl : ds.length ≤ 200) : Fit M 400 53 16000000 (.tuple [.tuple [.tuple (zs.map cellD), rtD], .list ds]) := by
  have w1 := wt_le (B := 7000) (fun d hd => (hf d hd).wg)
  have h1 : Fit M 400 11 1500000 (.list ds) := Fit.lst (n := 10) (by omega) (fun x hx => by
    have := (hf x hx).mono (Nat.le_refl _) (show 22 ≤ 400 by omega) (Nat.le_refl _) (Nat.le_refl _)
    exact ⟨this.lf, this.ln, this.dp⟩) (by omega)
  have h4 := pair_fit (h2.mono (n' := 10) (B' := 6000) (Nat.le_refl _) (show 60 ≤ 400 by omega) (by omega) (Nat.le_refl _)) (rt_fit.mono (M' := M) (n' := 10) (B' := 1000) (Nat.zero_le _) (show 60 ≤ 400 by omega) (Nat.le_refl _) (Nat.le_refl _)) (show 6000 + 1000 + 9 ≤ 8000 by omega)
  have h5 := pair_fit h4 h1 (show 8000 + 1500000 + 9 ≤ 16000000 by omega)
  exact h5.mono (Nat.le_refl _) (Nat.le_refl _) (by omega) (Nat.le_refl _)
theorem all_fit (I : LJ K p fq T C vo vr zs b H us ds) (hl : ds.length ≤ 200) : Fit (10 ^ 199 + 2) 400 53 16000000 (.tuple [.tuple [.tuple (zs.map cellD), rtD], .list ds]) := by
  have few := I.ob.few
  have wd := I.ob.wd
  have h2 := cells_fit (cs := zs) (fun c hc => ⟨(wd c hc).1, by have := (wd c hc).2; omega, by have := (wd c hc).2; omega⟩) (by omega)
  exact all_fitM (h2.mono (Nat.le_add_right _ _) (Nat.le_refl _) (Nat.le_refl _) (Nat.le_refl _)) I.fit hl
end
end Sw
set_option maxRecDepth 100000
set_option maxHeartbeats 4000000
namespace Sw
open PySem PySem.Spec PyProof.Rows L2
/-! ### expressions that draw: what they give is data of a kind, and so many draws are gone -/
abbrev DP := PyData → Prop
def tQ (K : PySem.W.Frag) (p fq : Addr) (G : L2.St → Hp → Prop) (n : Nat) (Φ : DP) : TE := fun σ H Q => ∃ b, FeedAt H p fq b ∧ b + n ≤ 100000000 ∧ G σ H ∧ ∀ v H' d, Same (del H p) (del H' p) → FeedAt H' p fq (b + n) → Dp K (del H' p) v d → Φ d → Q v H'
/-- an int from 0 on, below n -/
def R (n : Int) : DP := fun d => ∃ r : Int, d = .int r ∧ 0 ≤ r ∧ r < n
def fitsP : List DP → List PyData → Prop
  | [], [] => True
  | Φ :: Φs, d :: ds => Φ d ∧ fitsP Φs ds
  | _, _ => False
theorem fitsP_len : ∀ {Φs : List DP} {ds : List PyData}, fitsP Φs ds → ds.length = Φs.length
  | [], [], _ => rfl
  | _ :: _, _ :: _, h => by rw [List.length_cons, List.length_cons, fitsP_len h.2]
  | [], _ :: _, h => h.elim
  | _ :: _, [], h => h.elim
/-- one of these kinds -/
def anyP : List DP → PyData → Prop
  | [], _ => False
  | Φ :: Φs, d => Φ d ∨ anyP Φs d
theorem fitsP_get : ∀ {Φs : List DP} {ds : List PyData} {i : Nat} {d : PyData}, fitsP Φs ds → ds[i]? = some d → anyP Φs d
  | [], [], _, _, _, e => by simp at e
  | Φ :: Φs, x :: ds, 0, d, h, e => by
    have : x = d := by simpa using e
    exact .inl (this ▸ h.1)
  | Φ :: Φs, x :: ds, i + 1, d, h, e => .inr (fitsP_get (i := i) (d := d) h.2 (by simpa using e))
  | [], _ :: _, _, _, h, _ => h.elim
  | _ :: _, [], _, _, h, _ => h.elim
def tQs (K : PySem.W.Frag) (p fq : Addr) (G : L2.St → Hp → Prop) (n : Nat) (Φs : List DP) : TA := fun σ H Q => ∃ b, FeedAt H p fq b ∧ b + n ≤ 100000000 ∧ G σ H ∧ ∀ vs H' ds, Same (del H p) (del H' p) → FeedAt H' p fq (b + n) → DpAll K (del H' p) vs ds → fitsP Φs ds → Q vs H'
/-- what is known stays as the feed goes on -/
structure Stb (p : Addr) (G : L2.St → Hp → Prop) : Prop where
  go : ∀ {σ : L2.St} {H H' : Hp}, G σ H → Same (del H p) (del H' p) → G σ H'
section
variable {X : Cx} {K : PySem.W.Frag} {p fq : Addr} {G : L2.St → Hp → Prop}
theorem pq_imp {e : Expr} {n m : Nat} {Φ Ψ : DP} (h : PE X e (tQ K p fq G n Φ)) (hn : n ≤ m) (hi : ∀ d, Φ d → Ψ d) : PE X e (tQ K p fq G m Ψ) :=
  pe_imp h fun σ H Q ⟨b, F, hb, g, q⟩ => ⟨b, F, by omega, g, fun v H' d s F' dd hd => q v H' d s (F'.mono (by omega)) dd (hi d hd)⟩
theorem pq_var {e : Expr} {i : Nat} {Φ : DP} (he : PE X e (tVar i)) (h : ∀ σ H, G σ H → ∃ v d, σ[i]? = some (some v) ∧ Dp K (del H p) v d ∧ Φ d) : PE X e (tQ K p fq G 0 Φ) :=
  pe_imp he fun σ H Q ⟨b, F, hb, g, q⟩ => by
    obtain ⟨v, d, h1, h2, h3⟩ := h σ H g
    exact ⟨v, h1, q v H d (Same.refl _) F h2 h3⟩
theorem pq_int {i : Int} {k : Nat} {pos : Pos} : PE X (.Constant (.int i) k pos) (tQ K p fq G 0 fun d => d = .int i) := pe_imp pe_int fun σ H Q ⟨b, F, hb, g, q⟩ => q _ H _ (Same.refl _) F (.int i) rfl
theorem pq_str {z : Str} {k : Nat} {pos : Pos} : PE X (.Constant (.str z) k pos) (tQ K p fq G 0 fun d => d = .str z) := pe_imp pe_str fun σ H Q ⟨b, F, hb, g, q⟩ => q _ H _ (Same.refl _) F (.str z) rfl
theorem pq_neg {e : Expr} {n : Nat} {i : Int} {pos : Pos} (he : PE X e (tQ K p fq G n fun d => d = .int i)) : PE X (.UnaryOp .USub e pos) (tQ K p fq G n fun d => d = .int (-i)) :=
  pe_imp (pe_un un_neg he) fun σ H Q ⟨b, F, hb, g, q⟩ => ⟨b, F, hb, g, fun v H' d s F' dd hd => by
    subst hd
    cases dd
    exact ⟨i, rfl, q _ H' _ s F' (.int _) rfl⟩⟩
/-- a - c, a + c, c written -/
theorem pq_subC {e : Expr} {n : Nat} {Φ : DP} {c : Int} {k : Nat} {p1 pos : Pos} (he : PE X e (tQ K p fq G n Φ)) (hΦ : ∀ d, Φ d → ∃ i, d = .int i) : PE X (.BinOp e .Sub (.Constant (.int c) k p1) pos) (tQ K p fq G n fun d => ∃ i, Φ (.int i) ∧ d = .int (i - c)) :=
  pe_imp (pe_op op_sub he pe_int) fun σ H Q ⟨b, F, hb, g, q⟩ => ⟨b, F, hb, g, fun v H' d s F' dd hd => by
    obtain ⟨i, rfl⟩ := hΦ d hd
    cases dd
    exact ⟨i, c, rfl, rfl, q _ H' _ s F' (.int _) ⟨i, hd, rfl⟩⟩⟩
theorem pqs_nil : PA X [] (tQs K p fq G 0 []) := pa_imp pa_nil fun σ H Q ⟨b, F, hb, g, q⟩ => q [] H [] (Same.refl _) F .nil trivial
theorem pqs_cons (C : Stb p G) {e : Expr} {es : List Expr} {n m : Nat} {Φ : DP} {Φs : List DP} (he : PE X e (tQ K p fq G n Φ)) (hes : PA X es (tQs K p fq G m Φs)) (hs : starEach (e :: es) X.env = (false, eval e X.env) :: starEach es X.env := by rfl) : PA X (e :: es) (tQs K p fq G (n + m) (Φ :: Φs)) :=
  pa_imp (pa_cons he hes hs) fun σ H Q ⟨b, F, hb, g, q⟩ => ⟨b, F, by omega, g, fun v H1 d s1 F1 d1 h1 => ⟨b + n, F1, by omega, C.go g s1, fun vs H2 ds s2 F2 d2 h2 => q _ H2 _ (s1.trans s2) (F2.mono (by omega)) (.cons (Dp_same s2 d1) d2) ⟨h1, h2⟩⟩⟩
theorem pq_tup {es : List Expr} {n : Nat} {Φs : List DP} {k : Nat} {pos : Pos} (h : PA X es (tQs K p fq G n Φs)) (hl : Nat.ble Φs.length 1000 = true := by rfl) : PE X (.Tuple es k pos) (tQ K p fq G n fun d => ∃ ds, d = .tuple ds ∧ fitsP Φs ds) :=
  pe_imp (pe_tup h) fun σ H Q ⟨b, F, hb, g, q⟩ => ⟨b, F, hb, g, fun vs H1 ds s1 F1 d1 h1 => ⟨by have := DpAll_len d1; have := fitsP_len h1; have := Nat.le_of_ble_eq_true hl; exact Nat.le_of_lt (small1000 (by omega)), fun a ha => by
    have s2 := same_new (o := .tup vs) ha
    obtain ⟨u, hu⟩ := F1.there
    exact q _ _ _ (s1.trans (same_del s2)) (F1.same s2) (.tup (SqT.of (new_del hu ha)) (DpAll_same (same_del s2) d1)) ⟨ds, rfl, h1⟩⟩⟩
theorem pq_lst {es : List Expr} {n : Nat} {Φs : List DP} {pos : Pos} (h : PA X es (tQs K p fq G n Φs)) (hl : Nat.ble Φs.length 1000 = true := by rfl) : PE X (.List es pos) (tQ K p fq G n fun d => ∃ ds, d = .list ds ∧ fitsP Φs ds) :=
  pe_imp (pe_lst h) fun σ H Q ⟨b, F, hb, g, q⟩ => ⟨b, F, hb, g, fun vs H1 ds s1 F1 d1 h1 => ⟨by have := DpAll_len d1; have := fitsP_len h1; have := Nat.le_of_ble_eq_true hl; exact Nat.le_of_lt (small1000 (by omega)), fun a ha => by
    have s2 := same_new (o := .lst vs) ha
    obtain ⟨u, hu⟩ := F1.there
    exact q _ _ _ (s1.trans (same_del s2)) (F1.same s2) (.lst (SqL.of (new_del hu ha)) (DpAll_same (same_del s2) d1)) ⟨ds, rfl, h1⟩⟩⟩
/-- [..][i] -/
theorem pq_pick (C : Stb p G) (hK : X.K = K) {es : List Expr} {ei : Expr} {n m : Nat} {L : Int} {Φs : List DP} {p1 pos : Pos} (h : PA X es (tQs K p fq G n Φs)) (hi : PE X ei (tQ K p fq G m (R L))) (hs : PlainIx ei) (hL : L.toNat = Φs.length := by rfl)
    (hl : Nat.ble Φs.length 1000 = true := by rfl) : PE X (.Subscript (.List es p1) ei pos) (tQ K p fq G (n + m) (anyP Φs)) := by
  subst hK
  refine pe_imp (pe_ix ix_list (pe_lst h) hi hs) fun σ H Q ⟨b, F, hb, g, q⟩ => ⟨b, F, by omega, g, fun vs H1 ds s1 F1 d1 h1 => ?_⟩
  have l1 := DpAll_len d1
  have l2 := fitsP_len h1
  have l3 := Nat.le_of_ble_eq_true hl
  refine ⟨Nat.le_of_lt (small1000 (by omega)), fun a ha => ?_⟩
  have s2 := same_new (o := .lst vs) ha
  obtain ⟨u, hu⟩ := F1.there
  have hL := new_del (o := .lst vs) hu ha
  refine ⟨b + n, F1.same s2, by omega, C.go g (s1.trans (same_del s2)), fun v H2 d s3 F2 dd ⟨r, hd, r0, r1⟩ => ?_⟩
  subst hd
  cases dd
  obtain ⟨j, rfl⟩ : ∃ j : Nat, r = (j : Int) := ⟨r.toNat, (Int.toNat_of_nonneg r0).symm⟩
  have hj : j < vs.length := by omega
  have dA := DpAll_same ((same_del (p := p) s2).trans s3) d1
  obtain ⟨dj, e1, e2⟩ := DpAll_get dA (List.getElem?_eq_getElem hj)
  exact ⟨a, vs, _, _, rfl, rfl, SqL.of (of_del (s3 _ _ hL)).1, atI_nat (List.getElem?_eq_getElem hj), q _ _ _ ((s1.trans (same_del s2)).trans s3) (F2.mono (by omega)) e2 (fitsP_get h1 e1)⟩
/-- a draw of so many, written -/
theorem pq_draw {e : Expr} {E : XK} {m : Int} (h0 : ∀ σ H, G σ H → σ[0]? = some (some (.ref p))) (he : PE X e (tCall spDraw [] E (tCons (tVar 0) (tCons (tC (.int m)) tNil)))) (hm1 : 1 ≤ m) (hm2 : m ≤ 1000000) : PE X e (tQ K p fq G 1 (R m)) :=
  pe_imp he fun σ H Q ⟨b, F, hb, g, q⟩ => ⟨_, h0 σ H g, p, fq, m, b, rfl, F, by omega, hm1, hm2, fun r H' r0 r1 s1 F1 => q _ H' _ s1 F1 (.int r) ⟨r, rfl, r0, r1⟩⟩
/-- a draw of as many as an expression tells -/
theorem pq_drawE (C : Stb p G) {e : Expr} {E : XK} {n : Nat} {Ψ : Int → Prop} (h0 : ∀ σ H, G σ H → σ[0]? = some (some (.ref p))) (he : PE X e (tCall spDraw [] E (tCons (tVar 0) (tCons (tQ K p fq G n fun d => ∃ m : Int, d = .int m ∧ 1 ≤ m ∧ m ≤ 1000000 ∧ Ψ m) tNil)))) : PE X e (tQ K p fq G (n + 1) fun d => ∃ r m : Int, d = .int r ∧ 0 ≤ r ∧ r < m ∧ Ψ m) :=
  pe_imp he fun σ H Q ⟨b, F, hb, g, q⟩ => ⟨_, h0 σ H g, b, F, by omega, g, fun v H1 d s1 F1 dd ⟨m, hd, m1, m2, hΨ⟩ => by
    subst hd
    cases dd
    exact ⟨p, fq, m, b + n, rfl, F1, by omega, m1, m2, fun r H' r0 r1 s2 F2 => q _ H' _ (s1.trans s2) (F2.mono (by omega)) (.int r) ⟨r, m, rfl, r0, r1, hΨ⟩⟩⟩
/-- a if t else c, t either way -/
theorem pq_ifAny {a c t : Expr} {n m : Nat} {tt : TT} {Φ Ψ : DP} {pos : Pos} (ht : PT X t tt) (hany : ∀ σ H (Q : Bool → Hp → Prop), G σ H → (∀ b, Q b H) → tt σ H Q) (ha : PE X a (tQ K p fq G n Φ)) (hc : PE X c (tQ K p fq G m Ψ)) : PE X (.IfExp t a c pos) (tQ K p fq G (n + m) fun d => Φ d ∨ Ψ d) :=
  pe_imp (pe_ifExp ht ha hc) fun σ H Q ⟨b, F, hb, g, q⟩ => hany σ H _ g fun bb => by
    cases bb with
    | true => exact iteT ⟨b, F, by omega, g, fun v H' d s F' dd hd => q v H' d s (F'.mono (by omega)) dd (.inl hd)⟩
    | false => exact iteF ⟨b, F, by omega, g, fun v H' d s F' dd hd => q v H' d s (F'.mono (by omega)) dd (.inr hd)⟩
end
/-- a def of the feed alone that gives data of a kind -/
def spG (K : PySem.W.Frag) (n : Nat) (Φ : DP) : Sp := fun vs H Q _ => ∃ (p fq : Addr) (b : Nat), vs = [.ref p] ∧ FeedAt H p fq b ∧ b + n ≤ 100000000 ∧ ∀ v H' d, Same (del H p) (del H' p) → FeedAt H' p fq (b + n) → Dp K (del H' p) v d → Φ d → Q v H'
theorem pq_call1 {X : Cx} {K : PySem.W.Frag} {p fq : Addr} {G : L2.St → Hp → Prop} {e : Expr} {E : XK} {n : Nat} {Φ : DP} (h0 : ∀ σ H, G σ H → σ[0]? = some (some (.ref p))) (he : PE X e (tCall (spG K n Φ) [] E (tCons (tVar 0) tNil))) : PE X e (tQ K p fq G n Φ) :=
  pe_imp he fun σ H Q ⟨b, F, hb, g, q⟩ => ⟨_, h0 σ H g, p, fq, b, rfl, F, hb, q⟩
end Sw
set_option maxRecDepth 100000
set_option maxHeartbeats 4000000
namespace Sw
open PySem PySem.Spec PyProof.Rows L2
theorem cut_ints' (ns : List Int) (lo hi : Option Int) : ∃ ms : List Int, cutV (ns.map V.int) lo hi = ms.map V.int ∧ ms.length ≤ ns.length := by
  refine ⟨(ns.drop (HT.sIx ns.length 0 lo)).take (HT.sIx ns.length ns.length hi - HT.sIx ns.length 0 lo), ?_, ?_⟩
  · unfold cutV
    rw [List.length_map, List.map_take, List.map_drop]
  · rw [List.length_take, List.length_drop]
    omega
abbrev rest0 : List Str := ["a", "ab", "b", "zz", "abcdefgh"]
theorem rest0_ok : rest0.Nodup ∧ ∀ z ∈ rest0, IsWord z := by
  refine ⟨by decide +kernel, fun z hz => word_of ?_⟩
  have : rest0.all wordS = true := by decide +kernel
  exact List.all_eq_true.mp this z hz
section
variable {P : Program} {w : World} {K : PySem.W.Frag} {mg : Str → Option Value} {base : Heap}
def spFeedB (K : PySem.W.Frag) : Sp := fun vs H Q _ => ∃ (a : Addr) (ns : List Int), vs = [.ref a] ∧ SqL K H a (ns.map V.int) ∧ ns.length ≤ 63 ∧
  ∀ (p fq : Addr) (H' : Hp), Same H H' → H p = none → FeedAt H' p fq 0 → Q (.ref p) H'
theorem sc_feed : FnScope ["_law_script"] ["_law_script"] (defScope (topS 14)) := ⟨rfl, rfl, rfl, by decide +kernel, rfl, by decide +kernel, by decide +kernel⟩
theorem ok_feed {f : Addr} {fd : FuncData} (D : Df K mg "_law_feed" (topS 14) ["_law_script"] f fd) (B : Bt mg) : FnOk P w K mg base CX0 1 f fd ["_law_script"] (spFeedB K) := by
  refine D.fn.ok sc_feed (fun vs H Q E h => ?_) (fun cdv A outer s H vs Q E hr h => ?_)
  · obtain ⟨a, ns, rfl, _⟩ := h
    rfl
  obtain ⟨a, ns, rfl, hS, hn, q⟩ := h
  refine ⟨_, pss_one (ps_ret (pe_disp (pps_cons pe_str (pe_callTy call_list_of (by rfl) B.list (by decide +kernel) (pa_cons (pe_slice sl_list (pv 0) po_none (po_some pe_int)) pa_nil)) (pps_cons pe_str pe_int (pps_cons pe_str pe_int (pps_cons pe_str pe_int pps_nil)))) (by rfl) (by rfl) (by simp) (by decide))), ?_⟩
  obtain ⟨ms, e, hm⟩ := cut_ints' ns none (some 63)
  intro p hp
  have s0 := same_new (o := .dK []) hp
  refine ⟨_, rfl, 63, rfl, a, _, rfl, s0.seq hS, fun c hc => ⟨c, _, rfl, .inl (SqL.of upd_same), fun l hl => ?_⟩⟩
  have s1 := same_new (o := .lst (cutV (ns.map V.int) none (some 63))) hc
  have s2 := same_new (o := .lst (cutV (ns.map V.int) none (some 63))) hl
  have hp2 : upd (upd (upd H p (.dK [])) c (.lst (cutV (ns.map V.int) none (some 63)))) l (.lst (cutV (ns.map V.int) none (some 63))) p = some (.dK []) := (s1.trans s2) _ _ upd_same
  have hl2 : upd (upd (upd H p (.dK [])) c (.lst (cutV (ns.map V.int) none (some 63)))) l (.lst (cutV (ns.map V.int) none (some 63))) l = some (.lst (ms.map V.int)) := by rw [upd_same, e]
  have sH := s0.trans (s1.trans s2)
  generalize upd (upd (upd H p (.dK [])) c (.lst (cutV (ns.map V.int) none (some 63)))) l (.lst (cutV (ns.map V.int) none (some 63))) = H2 at hp2 hl2 sH
  have npl : p ≠ l := fun z => by rw [z, hl2] at hp2; cases hp2
  refine ⟨hp2, [(Sum.inr "cells", .ref l), (Sum.inr "at", .int 0), (Sum.inr "left", .int 0), (Sum.inr "turn", .int 0)], rfl, by show 4 ≤ 15; decide, ?_⟩
  have nk : (([(Sum.inr "cells", .ref l), (Sum.inr "at", .int 0), (Sum.inr "left", .int 0), (Sum.inr "turn", .int 0)] : List (Key × V)).map (·.1)).Nodup := by
    show ([Sum.inr "cells", Sum.inr "at", Sum.inr "left", Sum.inr "turn"] : List Key).Nodup
    decide +kernel
  have vm : ∀ (z : Str) (v : V), valV ([(Sum.inr "cells", .ref l), (Sum.inr "at", .int 0), (Sum.inr "left", .int 0), (Sum.inr "turn", .int 0)] : List (Key × V)) (Sum.inr z) = some v → valV (mergeK [] [(Sum.inr "cells", .ref l), (Sum.inr "at", .int 0), (Sum.inr "left", .int 0), (Sum.inr "turn", .int 0)]) (Sum.inr z) = some v := fun z v h => by
    rw [val_merge _ _ nk, h]
    rfl
  have k1 : ¬ (Sum.inr ("cells" : Str) : Key) = Sum.inr ("at" : Str) := by decide +kernel
  have k2 : ¬ (Sum.inr ("cells" : Str) : Key) = Sum.inr ("left" : Str) := by decide +kernel
  have k3 : ¬ (Sum.inr ("cells" : Str) : Key) = Sum.inr ("turn" : Str) := by decide +kernel
  have k4 : ¬ (Sum.inr ("at" : Str) : Key) = Sum.inr ("left" : Str) := by decide +kernel
  have k5 : ¬ (Sum.inr ("at" : Str) : Key) = Sum.inr ("turn" : Str) := by decide +kernel
  have k6 : ¬ (Sum.inr ("left" : Str) : Key) = Sum.inr ("turn" : Str) := by decide +kernel
  refine q p l _ (fun c' o e' => ?_) hp ⟨ms, _, 0, 0, 0, upd_same, by rw [upd_ne (Ne.symm npl)]; exact hl2, npl, ?_, vm _ _ (valV_pos rfl), vm _ _ ((valV_neg k1).trans (valV_pos rfl)), vm _ _ ((valV_neg k2).trans ((valV_neg k4).trans (valV_pos rfl))), vm _ _ ((valV_neg k3).trans ((valV_neg k5).trans ((valV_neg k6).trans (valV_pos rfl)))), by decide, by decide, by decide, by decide, by omega⟩
  · rw [upd_ne (ne_of_none e' hp)]
    exact sH _ _ e'
  · have := length_mergeK ([(Sum.inr "cells", .ref l), (Sum.inr "at", .int 0), (Sum.inr "left", .int 0), (Sum.inr "turn", .int 0)] : List (Key × V)) []
    exact this
def spObjsB (K : PySem.W.Frag) : Sp := fun vs H Q _ => ∃ (p fq : Addr) (b : Nat), vs = [.ref p] ∧ FeedAt H p fq b ∧ b + 20 ≤ 100000000 ∧
  ∀ (v : V) (zs : List (Str × Int)) (H' : Hp), ObjsAt K (del H' p) v zs → Same (del H p) (del H' p) → FeedAt H' p fq (b + 20) → Q v H'
theorem sc_objsB : FnScope ["_law_feed_here", "_law_rest", "_law_found", "_law_k"] ["_law_feed_here"] (defScope (topS 16)) := ⟨rfl, rfl, rfl, by decide +kernel, rfl, by decide +kernel, by decide +kernel⟩
theorem ok_objsB {f f1 : Addr} {fd fd1 : FuncData} (D : Df K mg "_law_objects" (topS 16) ["_law_feed_here"] f fd) (DD : Df K mg "_law_draw" (topS 15) ["_law_feed_here", "_law_many"] f1 fd1) (B : Bt mg)
    (GD : FnOk P w K mg base CX0 1 f1 fd1 ["_law_feed_here", "_law_many"] spDraw) : FnOk P w K mg base CX0 2 f fd ["_law_feed_here"] (spObjsB K) := by
  refine D.fn.ok sc_objsB (fun vs H Q E h => ?_) (fun cdv A outer s H vs Q E hr h => ?_)
  · obtain ⟨p, fq, b, rfl, _⟩ := h
    rfl
  obtain ⟨p, fq, b, rfl, hF, hb, q⟩ := h
  have nd := sc_objsB.nd
  refine ⟨_, pss_cons (ps_par (i := 1) (j := 2) rfl nd rfl rfl (by decide) rfl rfl (pa_cons (pe_lst (pa_cons pe_str (pa_cons pe_str (pa_cons pe_str (pa_cons pe_str (pa_cons pe_str pa_nil)))))) (pa_cons (pe_lst pa_nil) pa_nil)) (by rfl))
    (pss_cons (ps_for PassesOwn.never rfl (pi_range1 (by rfl) B.range (pa_cons (pe_op op_add pe_int (pe_call GD hr (by rfl) DD.gl DD.fn.kp DD.bd .nil pass0 (pa_cons (pv 0) (pa_cons pe_int pa_nil)))) pa_nil)) (pg_name (i := 3) nd rfl (Or.inl rfl))
      (pss_one (ps_expr (pe_bm PySem.F.plainAttrs_list PySem.F.slot_list_append PySem.F.type_list_append mt_append (pv 2) (pa_cons (pe_tup (pa_cons (pe_bm PySem.F.plainAttrs_list PySem.F.slot_list_pop PySem.F.type_list_pop mt_popAt (pv 1) (pa_cons (pe_call GD hr (by rfl) DD.gl DD.fn.kp DD.bd .nil pass0 (pa_cons (pv 0) (pa_cons (pe_callB call_len_seq (by rfl) B.len PySem.boot_len (pa_cons (pv 1) pa_nil)) pa_nil))) pa_nil)) (pa_cons (pe_op op_add pe_int (pe_call GD hr (by rfl) DD.gl DD.fn.kp DD.bd .nil pass0 (pa_cons (pv 0) (pa_cons pe_int pa_nil)))) pa_nil))) pa_nil)))))
    (pss_one (ps_ret (pe_callTy call_tupF (by rfl) B.tuple (by decide +kernel) (pa_cons (pe_callB cr_sortedSI (by rfl) B.sorted (by decide +kernel) (pa_cons (pv 2) pa_nil)) pa_nil))))), ?_⟩
  clear GD DD D B hr
  have h5 : ∀ x ∈ rest0, IsWord x := rest0_ok.2
  refine ⟨by show 5 ≤ sizeLine; decide, fun R hR => ⟨Nat.zero_le _, fun F0 hF0 => ⟨_, _, rfl, ?_⟩⟩⟩
  have s1 := same_new (o := .lst [V.str "a", V.str "ab", V.str "b", V.str "zz", V.str "abcdefgh"]) hR
  have s2 := same_new (o := .lst []) hF0
  have hR2 : upd (upd H R (.lst [V.str "a", V.str "ab", V.str "b", V.str "zz", V.str "abcdefgh"])) F0 (.lst []) R = some (.lst (rest0.map V.str)) := s2 _ _ upd_same
  have hF2 : upd (upd H R (.lst [V.str "a", V.str "ab", V.str "b", V.str "zz", V.str "abcdefgh"])) F0 (.lst []) F0 = some (.lst []) := upd_same
  have s02 := s1.trans s2
  obtain ⟨nRp, nRq⟩ := hF.ne hR
  obtain ⟨nFp, nFq⟩ := (hF.same s1).ne hF0
  have hF00 : H F0 = none := s1.free hF0
  have nFR : F0 ≠ R := Ne.symm (ne_of_none (show upd H R (.lst [V.str "a", V.str "ab", V.str "b", V.str "zz", V.str "abcdefgh"]) R = some _ from upd_same) hF0)
  have hFd := hF.same s02
  generalize upd (upd H R (.lst [V.str "a", V.str "ab", V.str "b", V.str "zz", V.str "abcdefgh"])) F0 (.lst []) = H2 at hR2 hF2 s02 hFd
  clear s1 s2
  refine ⟨_, rfl, p, fq, 3, b, rfl, hFd, by omega, by decide, by decide, fun r H3 r0 r1 s3 F3 => ⟨_, _, rfl, rfl, ?_⟩⟩
  refine ⟨1 + r, rfl, by omega, by omega, for_range (lo := 0) (n := (1 + r).toNat) (fun i σ H' => ∃ (ps : List Addr) (zs : List (Str × Int)) (rs : List Str) (k : Option V), σ = [some (.ref p), some (.ref R), some (.ref F0), k] ∧ Same (del H p) (del H' p) ∧ FeedAt H' p fq (b + 1 + 2 * i) ∧ H' R = some (.lst (rs.map V.str)) ∧ H' F0 = some (.lst (ps.map V.ref)) ∧ ps.length = i ∧ LiePs (del H' p) ps zs ∧ (zs.map (·.1) ++ rs).Perm rest0 ∧ ∀ z ∈ zs, 1 ≤ z.2 ∧ z.2 ≤ 4)
    ⟨[], [], rest0, none, rfl, (same_del s02).trans s3, F3, (of_del (s3 _ _ (del_some hR2 nRp))).1, (of_del (s3 _ _ (del_some hF2 nFp))).1, rfl, .nil, List.Perm.refl _, by simp⟩ ?_ ?_⟩
  · rintro i σ H4 hi ⟨ps, zs, rs, k, rfl, S4, F4, hR4, hF4, hl4, L4, pm4, w4⟩
    have hzl : zs.length = i := by have := L4.length; omega
    have hlen : rs.length + i = 5 := by
      have := pm4.length_eq
      rw [List.length_append, List.length_map] at this
      have e5 : rest0.length = 5 := rfl
      omega
    refine ⟨_, rfl, .inl ⟨rfl, _, SqL.of hF4⟩, _, rfl, .inl ⟨rfl, _, SqL.of hR4⟩, _, rfl, _, rfl, R, _, rfl, .inl (SqL.of hR4), p, fq, _, _, rfl, F4, by omega, by rw [List.length_map]; omega, by rw [List.length_map]; omega, fun r5 H5 a0 a1 s5 F5 => ?_⟩
    rw [List.length_map] at a1
    obtain ⟨k5, rfl⟩ : ∃ k : Nat, r5 = (k : Int) := ⟨r5.toNat, (Int.toNat_of_nonneg a0).symm⟩
    have hk : k5 < rs.length := by omega
    have hR5 : H5 R = some (.lst (rs.map V.str)) := (of_del (s5 _ _ (del_some hR4 nRp))).1
    have hF5 : H5 F0 = some (.lst (ps.map V.ref)) := (of_del (s5 _ _ (del_some hF4 nFp))).1
    refine ⟨R, _, (k5 : Int), k5, .str rs[k5], rfl, rfl, hR5, by omega, by omega, seq_at (by rw [List.length_map]; exact hk), by rw [List.getElem?_map, List.getElem?_eq_getElem hk]; rfl, ?_⟩
    have e6 : upd H5 R (.lst ((rs.map V.str).eraseIdx k5)) R = some (.lst ((rs.eraseIdx k5).map V.str)) := by rw [upd_same, erase_map]
    have hF6 : upd H5 R (.lst ((rs.map V.str).eraseIdx k5)) F0 = some (.lst (ps.map V.ref)) := by rw [upd_ne nFR]; exact hF5
    have F6 : FeedAt (upd H5 R (.lst ((rs.map V.str).eraseIdx k5))) p fq (b + 1 + 2 * i + 1) := F5.upd nRp nRq
    have s6 : Same (del (del H4 p) R) (del (del (upd H5 R (.lst ((rs.map V.str).eraseIdx k5))) p) R) := fun c o e => by
      obtain ⟨e1, e2⟩ := of_del e
      have e3 := s5 _ _ e1
      obtain ⟨e4, e5⟩ := of_del e3
      exact del_some (del_some (by rw [upd_ne e2]; exact e4) e5) e2
    generalize upd H5 R (.lst ((rs.map V.str).eraseIdx k5)) = H6 at e6 hF6 F6 s6
    refine ⟨_, rfl, p, fq, 3, _, rfl, F6, by omega, by decide, by decide, fun r7 H7 b0 b1 s7 F7 => ⟨_, _, rfl, rfl, by show 2 ≤ sizeLine; decide, fun T hT => ?_⟩⟩
    have hR7 : H7 R = some (.lst ((rs.eraseIdx k5).map V.str)) := (of_del (s7 _ _ (del_some e6 nRp))).1
    have hF7 : H7 F0 = some (.lst (ps.map V.ref)) := (of_del (s7 _ _ (del_some hF6 nFp))).1
    obtain ⟨nTp, nTq⟩ := F7.ne hT
    have s8 := same_new (o := .tup [.str rs[k5], .int (1 + r7)]) hT
    have hT8 : upd H7 T (.tup [.str rs[k5], .int (1 + r7)]) T = some (.tup [.str rs[k5], .int (1 + r7)]) := upd_same
    have hF8 := s8 _ _ hF7
    have hR8 := s8 _ _ hR7
    have F8 := F7.same s8
    have s48 : Same (del (del H4 p) R) (del (del (upd H7 T (.tup [.str rs[k5], .int (1 + r7)])) p) R) := s6.trans (same_del (s7.trans (same_del s8)))
    generalize upd H7 T (.tup [.str rs[k5], .int (1 + r7)]) = H8 at s8 hT8 hF8 hR8 F8 s48
    have nTF : T ≠ F0 := fun z => by rw [z, hF8] at hT8; cases hT8
    have s9 : ∀ t xs, del H4 p t = some (.tup xs) → del (upd H8 F0 (.lst (ps.map V.ref ++ [.ref T]))) p t = some (.tup xs) := fun t xs h => by
      have n1 : t ≠ R := fun z => by rw [z, del_some hR4 nRp] at h; cases h
      have n2 : t ≠ F0 := fun z => by rw [z, del_some hF4 nFp] at h; cases h
      obtain ⟨h1, h2⟩ := of_del (s48 _ _ (del_some h n1))
      obtain ⟨h3, h4⟩ := of_del h1
      exact del_some (by rw [upd_ne n2]; exact h3) h4
    refine ⟨F0, ps.map V.ref, .ref T, rfl, rfl, hF8, by rw [List.length_map]; exact small1000 (by omega), ps ++ [T], zs ++ [(rs[k5], 1 + r7)], rs.eraseIdx k5, _, rfl, fun c o e => ?_, (F8.upd nFp nFq).mono (by omega), ?_, by rw [upd_same, List.map_append]; rfl, by rw [List.length_append, hl4]; rfl, ?_, ?_, ?_⟩
    · obtain ⟨e1, e2⟩ := of_del e
      have n1 : c ≠ R := ne_of_none e1 hR
      have n2 : c ≠ F0 := ne_of_none e1 hF00
      obtain ⟨h1, h2⟩ := of_del (s48 _ _ (del_some (S4 _ _ e) n1))
      exact del_some (by rw [upd_ne n2]; exact (of_del h1).1) e2
    · rw [upd_ne (Ne.symm nFR)]
      exact hR8
    · exact LiePs.snoc (c := (rs[k5], 1 + r7)) (del_some (by rw [upd_ne nTF]; exact hT8) nTp) (L4.imp s9)
    · refine List.Perm.trans ?_ pm4
      rw [List.map_append, List.append_assoc]
      exact List.Perm.append_left _ (erase_perm (List.getElem?_eq_getElem hk))
    · intro d hd
      rcases List.mem_append.mp hd with hd | hd
      · exact w4 d hd
      · rw [List.mem_singleton.mp hd]
        show 1 ≤ 1 + r7 ∧ 1 + r7 ≤ 4
        omega
  rintro σ H4 ⟨ps, zs, rs, k, rfl, S4, F4, hR4, hF4, hl4, L4, pm4, w4⟩
  have hzl : zs.length = ps.length := L4.length.symm
  have hz1 : 1 ≤ zs.length := by omega
  have hz5 : zs.length ≤ 4 := by omega
  have nd4 : (zs.map (·.1)).Nodup := (List.nodup_append.mp (pm4.nodup_iff.mpr rest0_ok.1)).1
  have wd4 : ∀ z ∈ zs, IsWord z.1 := fun z hz => h5 _ (pm4.mem_iff.mp (List.mem_append_left _ (List.mem_map_of_mem hz)))
  have cs4 : CellsAt (del H4 p) (ps.map V.ref) zs := by
    have : ∀ {ps : List Addr} {zs : List (Str × Int)}, LiePs (del H4 p) ps zs → CellsAt (del H4 p) (ps.map V.ref) zs := by
      intro ps zs h
      induction h with
      | nil => exact .nil
      | cons a r ih => exact .cons ⟨_, rfl, a⟩ ih
    exact this L4
  obtain ⟨em, hall⟩ := cs4.all
  refine ⟨_, rfl, F0, ps.map V.ref, cellOf (del H4 p), rfl, SqL.of hF4, fun x hx => ?_, fun ys S hsr pm hS => ?_⟩
  · obtain ⟨t, e, h⟩ := hall x hx
    exact ⟨t, e, SqT.of (of_del h).1⟩
  obtain ⟨nSp, nSq⟩ := F4.ne hS
  have s5 := same_new (o := .lst ys) hS
  refine ⟨S, ys, rfl, SqL.of upd_same, fun T its hT => ?_⟩
  have F5 := F4.same s5
  obtain ⟨nTp, nTq⟩ := F5.ne hT
  have s6 := same_new (o := .frz (tupO its) (.tup ys)) hT
  have pmz : (ys.map (cellOf (del H4 p))).Perm zs := by rw [← em]; exact pm.map _
  have yrefs : ∃ qs : List Addr, ys = qs.map V.ref ∧ Paired (fun t (z : Str × Int) => del H4 p t = some (.tup [.str z.1, .int z.2])) qs (ys.map (cellOf (del H4 p))) := by
    have hall' : ∀ x ∈ ys, ∃ t, x = V.ref t ∧ del H4 p t = some (.tup [.str (cellOf (del H4 p) x).1, .int (cellOf (del H4 p) x).2]) := fun x hx => hall x (pm.mem_iff.mp hx)
    clear pmz hsr pm s5 s6 hS hT F5
    induction ys with
    | nil => exact ⟨[], rfl, .nil⟩
    | cons y ys ih =>
      obtain ⟨t, e, h⟩ := hall' y List.mem_cons_self
      obtain ⟨qs, e2, h2⟩ := ih fun x hx => hall' x (List.mem_cons_of_mem _ hx)
      refine ⟨t :: qs, by rw [List.map_cons, ← e2, e], ?_⟩
      rw [List.map_cons]
      exact .cons h h2
  obtain ⟨qs, eq, hq⟩ := yrefs
  have ndz : (ys.map (cellOf (del H4 p))).Nodup := pmz.nodup_iff.mpr (List.Pairwise.of_map (fun z : Str × Int => z.1) (fun _ _ h e => h (congrArg _ e)) nd4)
  have up := up_of (SrtO.srtd_map (f := cellOf (del H4 p)) (lt := ltSI) hsr) ndz
  generalize hzz : ys.map (cellOf (del H4 p)) = zz at pmz hq ndz up
  have ndf : (zz.map (·.1)).Nodup := (pmz.map _).nodup_iff.mpr nd4
  have asc : (zz.map (·.1)).Pairwise LtS := by
    rw [List.pairwise_map]
    have h2 : zz.Pairwise fun a b => a.1 ≠ b.1 := List.pairwise_map.mp ndf
    refine (up.and h2).imp fun {a b} h => ?_
    rcases ltSI_iff.mp h.1 with h1 | ⟨h1, _⟩
    · exact h1
    · exact absurd h1 h.2
  have sF := s5.trans s6
  subst eq
  refine q (.ref T) zz _ ⟨⟨T, qs, rfl, ⟨its, del_some upd_same nTp⟩, ?_⟩, ⟨by rw [pmz.length_eq]; exact hz1, by rw [pmz.length_eq]; exact hz5⟩, fun z hz => ⟨wd4 z (pmz.mem_iff.mp hz), w4 z (pmz.mem_iff.mp hz)⟩, asc⟩ (S4.trans (same_del sF)) ((F4.same sF).mono (by omega))
  exact (LiePs.imp (show LiePs (del H4 p) qs zz from hq) fun t xs h => same_del sF _ _ h).sq
end
end Sw
set_option maxRecDepth 100000
set_option maxHeartbeats 4000000
namespace Sw
open PySem PySem.Spec PyProof.Rows L2
section
variable {X : Cx} {K : PySem.W.Frag} {p fq : Addr} {G : L2.St → Hp → Prop}
theorem pq_modC {e : Expr} {n : Nat} {Φ : DP} {c : Int} {k : Nat} {p1 pos : Pos} (he : PE X e (tQ K p fq G n Φ)) (hΦ : ∀ d, Φ d → ∃ i, d = .int i) (hc : 0 < c) : PE X (.BinOp e .Mod (.Constant (.int c) k p1) pos) (tQ K p fq G n (R c)) :=
  pe_imp (pe_op op_mod he pe_int) fun σ H Q ⟨b, F, hb, g, q⟩ => ⟨b, F, hb, g, fun v H' d s F' dd hd => by
    obtain ⟨i, rfl⟩ := hΦ d hd
    cases dd
    exact ⟨i, c, rfl, rfl, hc, q _ H' _ s F' (.int _) ⟨_, rfl, Int.emod_nonneg _ (by omega), Int.emod_lt_of_pos _ hc⟩⟩⟩
/-- len of a list in a slot -/
theorem pq_lenV {e : Expr} {i : Nat} {n : Nat} {t : TA} (he : PE X e (tCB (fun vs H Q => ∃ p xs, vs = [.ref p] ∧ (SqL X.K H p xs ∨ SqT X.K H p xs) ∧ Q (.int (xs.length : Nat)) H) (tCons (tVar i) tNil))) (h : ∀ σ H, G σ H → ∃ (a : Addr) (xs : List V), σ[i]? = some (some (.ref a)) ∧ (SqL X.K H a xs ∨ SqT X.K H a xs) ∧ xs.length = n) : PE X e (tQ K p fq G 0 fun d => d = .int (n : Nat)) :=
  pe_imp he fun σ H Q ⟨b, F, hb, g, q⟩ => by
    obtain ⟨a, xs, h1, h2, h3⟩ := h σ H g
    exact ⟨_, h1, a, xs, rfl, h2, h3 ▸ q _ H _ (Same.refl _) F (.int _) rfl⟩
end
/-- an OPERAND of small size -/
def OperD (d : PyData) : Prop := (∃ i : Int, d = .int i ∧ i.natAbs ≤ 10) ∨ ∃ z, d = .str z ∧ IsWord z
theorem OperD.sm {d : PyData} (h : OperD d) : Sm d := by
  rcases h with ⟨i, rfl, hi⟩ | ⟨z, rfl, hz⟩
  · exact sm_int hi
  · exact sm_str hz
def smallW : List Str := ["i", "j", "x", "xx", "q", "f", "ff", "main", "a", "ab", "b"]
theorem smallW_ok {z : Str} (h : z ∈ smallW) : IsWord z := by
  refine word_of ?_
  have : smallW.all wordS = true := by decide +kernel
  exact List.all_eq_true.mp this z h
section
variable {P : Program} {w : World} {K : PySem.W.Frag} {mg : Str → Option Value} {base : Heap}
def gOp (p : Addr) : L2.St → Hp → Prop := fun σ _ => σ[0]? = some (some (V.ref p)) ∧ (∃ r : Int, σ[1]? = some (some (.int r)) ∧ 0 ≤ r ∧ r < 5) ∧ ∃ r : Int, σ[2]? = some (some (.int r)) ∧ 0 ≤ r ∧ r < 5
def gF (p : Addr) : L2.St → Hp → Prop := fun σ _ => σ[0]? = some (some (V.ref p))
theorem sc_operB : FnScope ["_law_feed_here", "_law_way", "_law_small"] ["_law_feed_here"] (defScope (topS 18)) := ⟨rfl, rfl, rfl, by decide +kernel, rfl, by decide +kernel, by decide +kernel⟩
theorem ok_operB {f f1 : Addr} {fd fd1 : FuncData} (D : Df K mg "_law_operand" (topS 18) ["_law_feed_here"] f fd) (DD : Df K mg "_law_draw" (topS 15) ["_law_feed_here", "_law_many"] f1 fd1)
    (GD : FnOk P w K mg base CX0 1 f1 fd1 ["_law_feed_here", "_law_many"] spDraw) : FnOk P w K mg base CX0 2 f fd ["_law_feed_here"] (spG K 2 OperD) := by
  refine D.fn.ok sc_operB (fun vs H Q E h => ?_) (fun cdv A outer s H vs Q E hr h => ?_)
  · obtain ⟨p, fq, b, rfl, _⟩ := h
    rfl
  obtain ⟨p, fq, b, rfl, hF, hb, q⟩ := h
  have nd := sc_operB.nd
  have C0 : Stb p (gF p) := ⟨fun h _ => h⟩
  have C1 : Stb p (gOp p) := ⟨fun h _ => h⟩
  have hw : ∀ (σ : L2.St) (H : Hp), gOp p σ H → ∃ v d, σ[1]? = some (some v) ∧ Dp K (del H p) v d ∧ R 5 d := fun σ H g => by
    obtain ⟨r, e, r0, r1⟩ := g.2.1
    exact ⟨_, _, e, .int r, r, rfl, r0, r1⟩
  have hs : ∀ (σ : L2.St) (H : Hp), gOp p σ H → ∃ v d, σ[2]? = some (some v) ∧ Dp K (del H p) v d ∧ R 5 d := fun σ H g => by
    obtain ⟨r, e, r0, r1⟩ := g.2.2
    exact ⟨_, _, e, .int r, r, rfl, r0, r1⟩
  refine ⟨_, pss_cons (ps_par (i := 1) (j := 2) rfl nd rfl rfl (by decide) rfl rfl (pqs_cons (K := K) (fq := fq) C0 (pq_draw (fun _ _ g => g) (pe_call GD hr (by rfl) DD.gl DD.fn.kp DD.bd .nil pass0 (pa_cons (pv 0) (pa_cons pe_int pa_nil))) (by decide) (by decide)) (pqs_cons C0 (pq_draw (fun _ _ g => g) (pe_call GD hr (by rfl) DD.gl DD.fn.kp DD.bd .nil pass0 (pa_cons (pv 0) (pa_cons pe_int pa_nil))) (by decide) (by decide)) pqs_nil)) (by rfl))
    (pss_one (ps_ret (pq_pick (K := K) (fq := fq) C1 rfl (pqs_cons C1 (pq_pick C1 rfl (pqs_cons C1 pq_str (pqs_cons C1 pq_str (pqs_cons C1 pq_str (pqs_cons C1 pq_str (pqs_cons C1 pq_str pqs_nil))))) (pq_var (Φ := R 5) (pv 2) hs) (fun _ _ => rfl))
      (pqs_cons C1 (pq_pick C1 rfl (pqs_cons C1 pq_str (pqs_cons C1 pq_str (pqs_cons C1 pq_str (pqs_cons C1 pq_str (pqs_cons C1 pq_str pqs_nil))))) (pq_var (Φ := R 5) (pv 2) hs) (fun _ _ => rfl))
      (pqs_cons C1 (pq_subC (Φ := R 5) (pq_var (Φ := R 5) (pv 2) hs) (fun d h => ⟨h.choose, h.choose_spec.1⟩)) (pqs_cons C1 (pq_var (Φ := R 5) (pv 2) hs) (pqs_cons C1 (pq_neg pq_int) pqs_nil))))) (pq_var (Φ := R 5) (pv 1) hw) (fun _ _ => rfl)))), ?_⟩
  clear GD DD D hr nd
  refine ⟨b, hF, by omega, rfl, fun vs H1 ds s1 F1 d1 f1 => ?_⟩
  match ds, f1 with
  | [x, y], ⟨⟨r, ex, r0, r1⟩, ⟨r2, ey, r20, r21⟩, _⟩ =>
  subst ex ey
  cases d1 with
  | cons h1 t1 =>
  cases t1 with
  | cons h2 t2 =>
  cases t2
  cases h1
  cases h2
  refine ⟨_, _, rfl, b + 2, F1.mono (by omega), by omega, ⟨rfl, ⟨r, rfl, r0, r1⟩, r2, rfl, r20, r21⟩, fun v H2 d s2 F2 dd hd => ?_⟩
  refine q v H2 d (s1.trans s2) (F2.mono (by omega)) dd ?_
  have inW : ∀ z : Str, z ∈ smallW → OperD (.str z) := fun z hz => .inr ⟨z, rfl, smallW_ok hz⟩
  rcases hd with hd | hd | hd | hd | hd | hd
  · rcases hd with hd | hd | hd | hd | hd | hd
    · rw [hd]; exact inW _ (by decide +kernel)
    · rw [hd]; exact inW _ (by decide +kernel)
    · rw [hd]; exact inW _ (by decide +kernel)
    · rw [hd]; exact inW _ (by decide +kernel)
    · rw [hd]; exact inW _ (by decide +kernel)
    · exact hd.elim
  · rcases hd with hd | hd | hd | hd | hd | hd
    · rw [hd]; exact inW _ (by decide +kernel)
    · rw [hd]; exact inW _ (by decide +kernel)
    · rw [hd]; exact inW _ (by decide +kernel)
    · rw [hd]; exact inW _ (by decide +kernel)
    · rw [hd]; exact inW _ (by decide +kernel)
    · exact hd.elim
  · obtain ⟨i, ⟨r', e', h0, h1⟩, rfl⟩ := hd
    cases e'
    exact .inl ⟨_, rfl, by omega⟩
  · obtain ⟨i, rfl, h0, h1⟩ := hd
    exact .inl ⟨_, rfl, by omega⟩
  · rw [hd]
    exact .inl ⟨_, rfl, by decide⟩
  · exact hd.elim
end
end Sw
set_option maxRecDepth 100000
set_option maxHeartbeats 4000000
namespace Sw
open PySem PySem.Spec PyProof.Rows L2
abbrev N17 : List Str := ["_law_feed_here", "_law_objects_here", "_law_rest", "_law_some", "_law_k", "_law_least", "_law_pick", "_law_index", "_law_called", "_law_way", "_law_own", "_law_size"]
theorem addr_facts {zs : List (Str × Int)} {ws : List Str} {p ix : PyData} (hok : addr zs (.tuple [.tuple (ws.map PyData.str), p, ix]) = true) (few : 1 ≤ zs.length ∧ zs.length ≤ 4) (wd : ∀ z ∈ zs, IsWord z.1 ∧ 1 ≤ z.2 ∧ z.2 ≤ 4) : AddrF ws p ix := by
  obtain ⟨os', p', ix', e', hw, hnd, hne, hp, hi, hwp, hwi⟩ := addr_parts hok
  cases e'
  have hs : (ws.map PyData.str).map strL0 = ws := by
    rw [List.map_map]
    exact (List.map_congr_left fun a _ => rfl).trans (List.map_id _)
  rw [hs] at hnd
  have hm : ∀ z ∈ ws, IsWord z ∧ ∃ k, sz zs z = some k ∧ k ≤ 4 ∧ z ∈ zs.map (·.1) := fun z hz => by
    obtain ⟨z', k, e, hd, hk⟩ := hw (.str z) (List.mem_map_of_mem hz)
    cases e
    have hz2 := sz_mem hk
    exact ⟨word_of hd, k, hk, (wd _ hz2).2.2, List.mem_map_of_mem hz2⟩
  have h4 : ws.length ≤ 4 := by
    have := nodup_le hnd fun z hz => (hm z hz).2.choose_spec.2.2
    rw [List.length_map] at this
    have := few
    omega
  have h1 : 1 ≤ ws.length := by
    cases ws with
    | nil => exact absurd rfl hne
    | cons _ _ => simp
  have sp := oper_sm hp hwp (by rw [List.length_map]; omega)
  have si : Sm ix ∧ Fit (10 ^ 199) 4 0 250 ix := by
    cases ws with
    | nil => exact absurd rfl hne
    | cons z r =>
      obtain ⟨_, k, hk, hk4, _⟩ := hm z List.mem_cons_self
      have := hwi (.str z) (List.mem_map_of_mem List.mem_cons_self)
      rw [show strL0 (.str z) = z from rfl, hk] at this
      exact oper_sm hi this hk4
  refine ⟨h1, h4, hnd, fun z hz => (hm z hz).1, sp.1, si.1, ?_⟩
  have hwt := strs_wt ws fun z hz => (hm z hz).1
  have wp := sp.2.wg
  have wi := si.2.wg
  refine Fit.tup (n := 1) (by show 3 ≤ 4; omega) (fun x hx => ?_) (by simp only [wtAll, wt]; omega)
  simp only [List.mem_cons, List.not_mem_nil, or_false] at hx
  rcases hx with rfl | rfl | rfl
  · have : Fit (10 ^ 199) 4 1 900 (.tuple (ws.map PyData.str)) := Fit.tup (n := 0) (by rw [List.length_map]; omega) (fun x hx => by
      obtain ⟨z, hz, rfl⟩ := List.mem_map.mp hx
      have := sm_str (hm z hz).1
      exact ⟨this.lf, rfl, by simp [PyData.depth]⟩) (by omega)
    exact ⟨this.lf, this.ln, this.dp⟩
  · exact ⟨sp.2.lf, sp.2.ln, Nat.le_trans sp.2.dp (by omega)⟩
  · exact ⟨si.2.lf, si.2.ln, Nat.le_trans si.2.dp (by omega)⟩
/-- an ADDRESS of OBJECTS, of small size -/
def AddrD (zs : List (Str × Int)) (d : PyData) : Prop := ∃ ws p ix, d = .tuple [.tuple (ws.map PyData.str), p, ix] ∧ addr zs d = true ∧ AddrF ws p ix
section
variable {P : Program} {w : World} {K : PySem.W.Frag} {mg : Str → Option Value} {base : Heap}
def spWhere (K : PySem.W.Frag) : Sp := fun vs H Q _ => ∃ (p fq : Addr) (vo : V) (zs : List (Str × Int)) (b : Nat), vs = [.ref p, vo] ∧ FeedAt H p fq b ∧ b + 20 ≤ 100000000 ∧ ObjsAt K (del H p) vo zs ∧
  ∀ (v : V) (H' : Hp) (d : PyData), Same (del H p) (del H' p) → FeedAt H' p fq (b + 20) → Dp K (del H' p) v d → AddrD zs d → Q v H'
theorem sc_where : FnScope N17 ["_law_feed_here", "_law_objects_here"] (defScope (topS 17)) := ⟨rfl, rfl, rfl, by decide +kernel, rfl, by decide +kernel, by decide +kernel⟩
theorem ok_where {f f1 : Addr} {fd fd1 : FuncData} (D : Df K mg "_law_where" (topS 17) ["_law_feed_here", "_law_objects_here"] f fd) (DD : Df K mg "_law_draw" (topS 15) ["_law_feed_here", "_law_many"] f1 fd1) (B : Bt mg) (bD : mg "dict" = none) (bMin : mg "min" = none)
    (GD : FnOk P w K mg base CX0 1 f1 fd1 ["_law_feed_here", "_law_many"] spDraw) : FnOk P w K mg base CX0 2 f fd ["_law_feed_here", "_law_objects_here"] (spWhere K) := by
  refine D.fn.ok sc_where (fun vs H Q E h => ?_) (fun cdv A outer s H vs Q E hr h => ?_)
  · obtain ⟨p, fq, vo, zs, b, rfl, _⟩ := h
    rfl
  obtain ⟨p, fq, vo, zs, b, rfl, hF, hb, hO, q⟩ := h
  have nd := sc_where.nd
  have C0 : Stb p (gF p) := ⟨fun h _ => h⟩
  refine ⟨_, pss_cons (ps_par (i := 2) (j := 3) rfl nd rfl rfl (by decide) rfl rfl (pa_cons (pe_lc (own := [("_law_own", 10), ("_law_size", 11)]) (g := gTup K 2 (gCons (gName 10) (gCons (gName 11) gNil))) (tt := tYes) rfl nd (pi_tup (pv 1))
        (blkOk_by (N := N17) (sc := defScope (topS 17)) (by decide +kernel)) (fun _ _ _ _ _ => pg_tup rfl (pgs_cons (pg_name (i := 10) nd rfl (Or.inl rfl)) (pgs_cons (pg_name (i := 11) nd rfl (Or.inl rfl)) pgs_nil)))
        (fun _ _ _ _ _ => pts_nil) (fun _ _ _ _ _ => pv 10)) (pa_cons (pe_lst pa_nil) pa_nil)) (by rfl))
    (C8.pss_cut (ps_for PassesOwn.never rfl (pi_range1 (by rfl) B.range (pa_cons (pe_op op_add pe_int (pe_call GD hr (by rfl) DD.gl DD.fn.kp DD.bd .nil pass0 (pa_cons (pv 0) (pa_cons (pe_callB (call_min2 rfl) (by rfl) bMin (by decide +kernel) (pa_cons pe_int (pa_cons (pe_callB call_len_seq (by rfl) B.len PySem.boot_len (pa_cons (pv 2) pa_nil)) pa_nil))) pa_nil)))) pa_nil)) (pg_name (i := 4) nd rfl (Or.inl rfl))
      (pss_one (ps_expr (pe_bm PySem.F.plainAttrs_list PySem.F.slot_list_append PySem.F.type_list_append mt_append (pv 3) (pa_cons (pe_bm PySem.F.plainAttrs_list PySem.F.slot_list_pop PySem.F.type_list_pop mt_popAt (pv 2) (pa_cons (pe_call GD hr (by rfl) DD.gl DD.fn.kp DD.bd .nil pass0 (pa_cons (pv 0) (pa_cons (pe_callB call_len_seq (by rfl) B.len PySem.boot_len (pa_cons (pv 2) pa_nil)) pa_nil))) pa_nil)) pa_nil)))))
    (pss_cons (ps_set (i := 5) nd rfl (Or.inl rfl) (pe_callB (cr_min rfl) (by rfl) bMin (by decide +kernel) (pa_cons (pe_lc (own := [("_law_own", 10)]) (g := gName 10) (tt := tYes) rfl nd (pi_list (pv 3))
        (blkOk_by (N := N17) (sc := defScope (topS 17)) (by decide +kernel)) (fun _ _ _ _ _ => pg_name (i := 10) nd rfl (Or.inl rfl)) (fun _ _ _ _ _ => pts_nil)
        (fun _ _ _ _ _ => pe_dget (by have h := hu_of hr; exact h) (pe_callTy (r := rDictT K) (call_dictT rfl) (by rfl) bD (by decide +kernel) (pa_cons (pv 1) pa_nil)) (pv 10) (fun _ _ => rfl))) pa_nil)))
    (pss_cons (ps_par (i := 6) (j := 7) rfl nd rfl rfl (by decide) rfl rfl (pa_cons (pe_call GD hr (by rfl) DD.gl DD.fn.kp DD.bd .nil pass0 (pa_cons (pv 0) (pa_cons (pe_callB call_len_seq (by rfl) B.len PySem.boot_len (pa_cons (pv 3) pa_nil)) pa_nil))) (pa_cons (pe_call GD hr (by rfl) DD.gl DD.fn.kp DD.bd .nil pass0 (pa_cons (pv 0) (pa_cons (pv 5) pa_nil))) pa_nil)) (by rfl))
    (pss_cons (ps_set (i := 8) nd rfl (Or.inl rfl) (pq_pick (K := K) (fq := fq) C0 rfl (pqs_cons C0 pq_str (pqs_cons C0 pq_str (pqs_cons C0 pq_str pqs_nil))) (pq_draw (m := 3) (fun _ _ g => g) (pe_call GD hr (by rfl) DD.gl DD.fn.kp DD.bd .nil pass0 (pa_cons (pv 0) (pa_cons pe_int pa_nil))) (by decide) (by decide)) (fun _ _ => rfl)))
    (pss_cons (ps_set (i := 9) nd rfl (Or.inl rfl) (pe_call GD hr (by rfl) DD.gl DD.fn.kp DD.bd .nil pass0 (pa_cons (pv 0) (pa_cons pe_int pa_nil))))
    (pss_one (ps_ret (pe_tup (pa_cons (pe_callTy call_tuple_of (by rfl) B.tuple (by decide +kernel) (pa_cons (pv 3) pa_nil)) (pa_cons (pe_ifExp (PW.pt (pw_and (pt_cmpR op_eq (pv 9) pe_int (nomark _)) (pw_and1 (pt_cmpR op_gt (pe_callB call_len_seq (by rfl) B.len PySem.boot_len (pa_cons (pv 3) pa_nil)) pe_int (nomark _))))) (pv 8) (pv 6)) (pa_cons (pe_ifExp (pt_cmpR op_lt (pv 9) pe_int (nomark _)) (pe_ix ix_list (pe_lst (pa_cons pe_str (pa_cons pe_str pa_nil))) (pe_op op_mod (pv 9) pe_int) (fun _ _ => rfl)) (pv 7)) pa_nil))))))))))), ?_⟩
  clear GD DD D B bD bMin hr
  have hO1 := hO.same (del_same H p)
  obtain ⟨ao, ps, ev, hfo, hpo⟩ := hO1.ex
  subst ev
  have hlp : ps.length = zs.length := hpo.length
  have few := hO.few
  have hwd := hO.wd
  have hasc := hO.asc
  have hsq : SqT K H ao (ps.map V.ref) := hfo.sq
  refine ⟨_, rfl, ao, rfl, ⟨_, hsq⟩, fun R hR => lc_it (walk_tup (xs := ps.map V.ref)) (fun n H' => Same H H' ∧ H' R = some (.lst (((zs.take n).map (·.1)).map V.str)))
    ⟨same_new hR, upd_same⟩ (fun n H' _ h => sameT h.1 hsq) ?_ ?_⟩
  · rintro n x H2 H3 hn ⟨s2, hv2⟩ ⟨rfl, hxn⟩
    rw [List.length_map] at hn
    rw [List.getElem?_map, List.getElem?_eq_getElem hn] at hxn
    have hxn' : V.ref ps[n] = x := Option.some.inj hxn
    subst hxn'
    obtain ⟨zk, hzk, hsz⟩ := paired_get hpo (List.getElem?_eq_getElem hn)
    refine ⟨_, _, rfl, sameT s2 hsz, rfl, _, _, rfl, _, _, rfl, rfl, rfl, ?_⟩
    unfold tYes
    dsimp only
    rw [if_pos rfl]
    refine ⟨_, rfl, _, hv2, small1000 (by rw [List.length_map, List.length_map, List.length_take]; omega), fun c o e => ?_, ?_⟩
    · rw [upd_ne (ne_of_none e hR)]
      exact s2 _ _ e
    · rw [upd_same, List.take_succ, hzk]
      simp
  rintro H1 ⟨s1, hR1⟩
  rw [List.length_map, hlp, List.take_length] at hR1
  refine ⟨Nat.zero_le _, fun S hS => ⟨_, _, rfl, ?_⟩⟩
  have s2 := same_new (o := .lst []) hS
  have nSR : S ≠ R := Ne.symm (ne_of_none hR1 hS)
  obtain ⟨nRp, nRq⟩ := hF.ne hR
  obtain ⟨nSp, nSq⟩ := (hF.same s1).ne hS
  have hS0 : H S = none := s1.free hS
  have hR2 := s2 _ _ hR1
  have hS2 : upd H1 S (.lst []) S = some (.lst []) := upd_same
  have s02 := s1.trans s2
  generalize upd H1 S (.lst []) = H2 at s2 hR2 hS2 s02
  clear hR1 s1 s2
  refine ⟨fun σ H' => ∃ (us : List Str) (k : Option V), σ = [some (.ref p), some (.ref ao), some (.ref R), some (.ref S), k, none, none, none, none, none, none, none] ∧ LA p fq S H us (b + 6) H' ∧ us ≠ [] ∧ us.Nodup ∧ us.length ≤ 4 ∧ (∀ z ∈ us, z ∈ zs.map (·.1)), ?_, ?_⟩
  · refine ⟨_, rfl, _, rfl, R, _, rfl, .inl (SqL.of hR2), 2, _, rfl, p, fq, _, b, rfl, hF.same s02, by omega, ?_, ?_, fun r H3 r0 r1 s3 F3 => ⟨_, _, rfl, rfl, ?_⟩⟩
    · rw [List.length_map, List.length_map]; split <;> omega
    · rw [List.length_map, List.length_map]; split <;> omega
    rw [List.length_map, List.length_map] at r1
    have r2 : r < 2 ∧ r < (zs.length : Int) := by split at r1 <;> omega
    refine ⟨1 + r, rfl, by omega, by omega, for_range (lo := 0) (n := (1 + r).toNat) (fun i σ H' => ∃ (us rs : List Str) (k : Option V), σ = [some (.ref p), some (.ref ao), some (.ref R), some (.ref S), k, none, none, none, none, none, none, none] ∧ LA p fq S H us (b + 1 + i) H' ∧ H' R = some (.lst (rs.map V.str)) ∧ us.length = i ∧ (us ++ rs).Perm (zs.map (·.1)))
      ⟨[], zs.map (·.1), none, rfl, ⟨(same_del s02).trans s3, F3, (of_del (s3 _ _ (del_some hS2 nSp))).1, nSp⟩, (of_del (s3 _ _ (del_some hR2 nRp))).1, rfl, List.Perm.refl _⟩ ?_ ?_⟩
    · rintro i σ H4 hi ⟨us, rs, k, rfl, L4, hR4, hl4, pm4⟩
      have hlen : rs.length + i = zs.length := by
        have := pm4.length_eq
        rw [List.length_append, List.length_map] at this
        omega
      refine ⟨_, rfl, .inl ⟨rfl, _, SqL.of L4.at_⟩, _, rfl, .inl ⟨rfl, _, SqL.of hR4⟩, _, rfl, _, rfl, R, _, rfl, .inl (SqL.of hR4), p, fq, _, _, rfl, L4.fd, by omega, by rw [List.length_map]; omega, by rw [List.length_map]; omega, fun r5 H5 a0 a1 s5 F5 => ?_⟩
      rw [List.length_map] at a1
      obtain ⟨k5, rfl⟩ : ∃ k : Nat, r5 = (k : Int) := ⟨r5.toNat, (Int.toNat_of_nonneg a0).symm⟩
      have hk : k5 < rs.length := by omega
      have L5 := L4.next s5 F5
      have hR5 : H5 R = some (.lst (rs.map V.str)) := (of_del (s5 _ _ (del_some hR4 nRp))).1
      refine ⟨R, _, (k5 : Int), k5, .str rs[k5], rfl, rfl, hR5, by omega, by omega, seq_at (by rw [List.length_map]; exact hk), by rw [List.getElem?_map, List.getElem?_eq_getElem hk]; rfl, ?_⟩
      have hS6 : upd H5 R (.lst ((rs.map V.str).eraseIdx k5)) S = some (.lst (us.map V.str)) := by rw [upd_ne nSR]; exact L5.at_
      refine ⟨S, us.map V.str, .str rs[k5], rfl, rfl, hS6, by rw [List.length_map]; exact small1000 (by omega), us ++ [rs[k5]], rs.eraseIdx k5, _, rfl, ⟨fun c o e => ?_, (F5.upd nRp nRq).upd nSp nSq |>.mono (by omega), by rw [upd_same, List.map_append]; rfl, nSp⟩, ?_, by rw [List.length_append, hl4]; rfl, ?_⟩
      · obtain ⟨e1, e2⟩ := of_del e
        have nc : c ≠ S := ne_of_none e1 hS0
        have nc2 : c ≠ R := ne_of_none e1 hR
        refine del_some ?_ e2
        rw [upd_ne nc, upd_ne nc2]
        exact (of_del (L5.sm _ _ e)).1
      · rw [upd_ne (Ne.symm nSR), upd_same, erase_map]
      · refine List.Perm.trans ?_ pm4
        rw [List.append_assoc]
        exact List.Perm.append_left us (erase_perm (List.getElem?_eq_getElem hk))
    · rintro σ H4 ⟨us, rs, k, rfl, L4, hR4, hl4, pm4⟩
      have hlen : rs.length + us.length = zs.length := by
        have := pm4.length_eq
        rw [List.length_append, List.length_map] at this
        omega
      refine ⟨us, k, rfl, L4.mono (by omega), fun e => by rw [e] at hl4; simp at hl4; omega, ?_, by omega, fun z hz => pm4.mem_iff.mp (List.mem_append_left _ hz)⟩
      have := pm4.nodup_iff.mpr (asc_nodup hasc)
      exact (List.nodup_append.mp this).1
  rintro σ H4 ⟨us, k, rfl, L4, hne, hnd, hl4, hmem⟩
  have hok : ∀ z ∈ us, wordS z = true ∧ ∃ m, sz zs z = some m ∧ 1 ≤ m ∧ m ≤ 4 := fun z hz => by
    obtain ⟨pz, hp1, hp2⟩ := List.mem_map.mp (hmem z hz)
    obtain ⟨w1, w2, w3⟩ := hwd pz hp1
    refine ⟨hp2 ▸ w1.look, pz.2, ?_, w2, w3⟩
    rw [← hp2]
    exact sz_of hasc hp1
  refine ⟨_, rfl, S, rfl, ⟨_, SqL.of L4.at_⟩, fun L hL => lc_map (walk_list (xs := us.map V.str)) (fun j => V.int ((sz zs (us.getD j Str.empty)).getD 0)) hL (fun _ h => SqL.of (h _ _ L4.at_)) (big_size (by rw [List.length_map]; omega)) ?_ ?_⟩
  · intro j y H5 Q5 hj hy hs5 q5
    rw [List.length_map] at hj
    rw [List.getElem?_map, List.getElem?_eq_getElem hj] at hy
    have hy' : V.str us[j] = y := Option.some.inj hy
    subst hy'
    obtain ⟨_, m, hm, _, _⟩ := hok us[j] (List.getElem_mem hj)
    rw [show us.getD j Str.empty = us[j] by simp [List.getD, hj], hm] at q5
    have hO5 := (hO.same L4.sm).same ((del_same _ _).trans hs5)
    obtain ⟨ao5, ps5, ev5, hfo5, hpo5⟩ := hO5.ex
    cases ev5
    refine ⟨_, rfl, ao, ps5, kvO zs, rfl, hfo5, paired_kvO hpo5, fun dd hdd => ?_⟩
    have hg := sizes_get (H := upd H5 dd (.dK (mergeK [] (kvO zs)))) (d := dd) (zs := zs) upd_same hasc us[j]
    rw [hm] at hg
    exact ⟨_, rfl, dd, _, rfl, hg, q5 _ (same_new hdd)⟩
  intro H5 s5 hL5
  have eL : (List.range (us.map V.str).length).map (fun j => V.int ((sz zs (us.getD j Str.empty)).getD 0)) = (us.map fun z => (sz zs z).getD 0).map V.int := by
    apply List.ext_getElem?
    intro j
    simp only [List.getElem?_map]
    by_cases h : j < us.length
    · rw [List.getElem?_range (by rw [List.length_map]; omega), List.getElem?_eq_getElem h]
      simp [List.getD, h]
    · rw [List.getElem?_eq_none (by simp; omega), List.getElem?_eq_none (by omega)]
      rfl
  rw [eL] at hL5
  have hul : 1 ≤ us.length := by
    cases us with
    | nil => exact absurd rfl hne
    | cons _ _ => simp
  refine ⟨L, _, rfl, SqL.of hL5, by rw [List.length_map]; omega, fun m hm hle => ?_⟩
  have L5 := L4.lay s5
  obtain ⟨zm, hzm, ezm⟩ := List.mem_map.mp hm
  have hm14 : 1 ≤ m ∧ m ≤ 4 := by
    obtain ⟨_, m2, e2, h1, h2⟩ := hok zm hzm
    rw [e2] at ezm
    have : m2 = m := ezm
    omega
  have hok2 : ∀ z ∈ us, wordS z = true ∧ ∃ k, sz zs z = some k ∧ m ≤ k := fun z hz => by
    obtain ⟨h0, m2, e2, _, _⟩ := hok z hz
    have := hle _ (List.mem_map_of_mem (f := fun z => (sz zs z).getD 0) hz)
    rw [e2] at this
    exact ⟨h0, m2, e2, this⟩
  clear hL5 eL hm hle hzm ezm hL s5 L4 hok
  -- pick, index
  refine ⟨_, rfl, _, rfl, S, _, rfl, .inl (SqL.of L5.at_), p, fq, _, _, rfl, L5.fd, by omega, by rw [List.length_map]; omega, by rw [List.length_map]; omega, fun r1 H6 a10 a11 s6 F6 => ?_⟩
  rw [List.length_map] at a11
  have L6 := L5.next s6 F6
  refine ⟨_, rfl, _, rfl, p, fq, m, _, rfl, L6.fd, by omega, by omega, by omega, fun r2 H7 a20 a21 s7 F7 => ⟨_, _, rfl, ?_⟩⟩
  have L7 := L6.next s7 F7
  refine ⟨_, L7.fd, by omega, rfl, fun vc H8 dc s8 F8 dvc hdc => ?_⟩
  have L8 := L7.next s8 F8
  obtain ⟨zc, hzc, evc⟩ : ∃ zc : Str, IsWord zc ∧ vc = .str zc := by
    rcases hdc with hd | hd | hd | hd
    · subst hd; cases dvc; exact ⟨_, word_of (by decide +kernel), rfl⟩
    · subst hd; cases dvc; exact ⟨_, word_of (by decide +kernel), rfl⟩
    · subst hd; cases dvc; exact ⟨_, word_of (by decide +kernel), rfl⟩
    · exact hd.elim
  subst evc
  clear dvc hdc
  refine ⟨_, rfl, p, fq, 6, _, rfl, L8.fd, by omega, by decide, by decide, fun r3 H9 a30 a31 s9 F9 => ?_⟩
  have L9 := L8.next s9 F9
  clear L5 L6 L7 L8 s6 s7 s8 s9 F6 F7 F8 F9
  refine ⟨_, rfl, S, _, rfl, .inl ⟨SqL.of L9.at_, fun T hT => ?_⟩⟩
  have t10 := same_new (o := .tup (us.map V.str)) hT
  have L10 := L9.lay t10
  have hT10 : del (upd H9 T (.tup (us.map V.str))) p T = some (.tup (us.map V.str)) := del_some upd_same (L9.fd.ne hT).1
  generalize upd H9 T (.tup (us.map V.str)) = H10 at t10 L10 hT10
  clear L9 t10 hT
  have fin : ∀ (xp xi : V) (dp di : PyData) (H' : Hp), Same H10 H' → (∀ W : Hp, Dp K W xp dp) → (∀ W : Hp, Dp K W xi di) → Picks dp us.length → Picks di m → ∀ T9, H' T9 = none → Q (.ref T9) (upd H' T9 (.tup [.ref T, xp, xi])) := fun xp xi dp di H' sH hp hi pp pi T9 hT9 => by
    have L11 := L10.lay sH
    have t12 := same_new (o := .tup [.ref T, xp, xi]) hT9
    have L12 := L11.lay t12
    have ha := addr_mk (zs := zs) hne hnd hok2 pp pi
    have dW : Dp K (del (upd H' T9 (.tup [.ref T, xp, xi])) p) (.ref T) (.tuple (us.map PyData.str)) := .tup (SqT.of ((same_del sH).trans (same_del t12) _ _ hT10)) (DpAll_strs us)
    have AD : AddrF us dp di := addr_facts ha hO.few hO.wd
    exact q (.ref T9) _ _ L12.sm (L12.fd.mono (by omega)) (.tup (SqT.of (del_some upd_same (L11.fd.ne hT9).1)) (.cons dW (.cons (hp _) (.cons (hi _) .nil)))) ⟨us, dp, di, rfl, ha, AD⟩
  refine ⟨_, rfl, rfl, _, rfl, ?_⟩
  refine ite2 (fun _ => ?_) (fun _ => ?_)
  · refine ⟨_, rfl, S, _, rfl, .inl (SqL.of L10.at_), _, _, rfl, rfl, _, rfl, ?_⟩
    refine ite2 (fun _ => ?_) (fun _ => ?_)
    · refine ⟨_, rfl, ?_⟩
      refine ⟨_, rfl, _, _, rfl, rfl, _, rfl, ?_⟩
      refine ite2 (fun _ => ?_) (fun _ => ?_)
      · refine ⟨by show 2 ≤ sizeLine; decide, fun L hL => ⟨_, rfl, _, _, rfl, rfl, (by show (0 : Int) < 2; decide), L, _, _, _, rfl, rfl, SqL.of upd_same, two_at (Int.emod_nonneg _ (by decide)) (Int.emod_lt_of_pos _ (by decide)), by show 3 ≤ sizeLine; decide, fun T9 hT9 => ?_⟩⟩
        by_cases he : r3 % 2 = 0
        · rw [if_pos he]
          exact fin _ _ _ (.str zI) _ (same_new hL) (fun W => .str zc) (fun W => .str _) (.inr ⟨_, rfl, hzc.look⟩) (.inr ⟨_, rfl, zI_ok⟩) T9 hT9
        · rw [if_neg he]
          exact fin _ _ _ (.str "x") _ (same_new hL) (fun W => .str zc) (fun W => .str _) (.inr ⟨_, rfl, hzc.look⟩) (.inr ⟨_, rfl, by decide +kernel⟩) T9 hT9
      · exact ⟨_, rfl, by show 3 ≤ sizeLine; decide, fun T9 hT9 => fin _ _ _ (.int r2) _ (Same.refl _) (fun W => .str zc) (fun W => .int _) (.inr ⟨_, rfl, hzc.look⟩) (.inl ⟨_, rfl, a20, a21⟩) T9 hT9⟩
    · refine ⟨_, rfl, ?_⟩
      refine ⟨_, rfl, _, _, rfl, rfl, _, rfl, ?_⟩
      refine ite2 (fun _ => ?_) (fun _ => ?_)
      · refine ⟨by show 2 ≤ sizeLine; decide, fun L hL => ⟨_, rfl, _, _, rfl, rfl, (by show (0 : Int) < 2; decide), L, _, _, _, rfl, rfl, SqL.of upd_same, two_at (Int.emod_nonneg _ (by decide)) (Int.emod_lt_of_pos _ (by decide)), by show 3 ≤ sizeLine; decide, fun T9 hT9 => ?_⟩⟩
        by_cases he : r3 % 2 = 0
        · rw [if_pos he]
          exact fin _ _ _ (.str zI) _ (same_new hL) (fun W => .int r1) (fun W => .str _) (.inl ⟨_, rfl, a10, a11⟩) (.inr ⟨_, rfl, zI_ok⟩) T9 hT9
        · rw [if_neg he]
          exact fin _ _ _ (.str "x") _ (same_new hL) (fun W => .int r1) (fun W => .str _) (.inl ⟨_, rfl, a10, a11⟩) (.inr ⟨_, rfl, by decide +kernel⟩) T9 hT9
      · exact ⟨_, rfl, by show 3 ≤ sizeLine; decide, fun T9 hT9 => fin _ _ _ (.int r2) _ (Same.refl _) (fun W => .int r1) (fun W => .int _) (.inl ⟨_, rfl, a10, a11⟩) (.inl ⟨_, rfl, a20, a21⟩) T9 hT9⟩
  · refine iteF ⟨_, rfl, ?_⟩
    refine ⟨_, rfl, _, _, rfl, rfl, _, rfl, ?_⟩
    refine ite2 (fun _ => ?_) (fun _ => ?_)
    · refine ⟨by show 2 ≤ sizeLine; decide, fun L hL => ⟨_, rfl, _, _, rfl, rfl, (by show (0 : Int) < 2; decide), L, _, _, _, rfl, rfl, SqL.of upd_same, two_at (Int.emod_nonneg _ (by decide)) (Int.emod_lt_of_pos _ (by decide)), by show 3 ≤ sizeLine; decide, fun T9 hT9 => ?_⟩⟩
      by_cases he : r3 % 2 = 0
      · rw [if_pos he]
        exact fin _ _ _ (.str zI) _ (same_new hL) (fun W => .int r1) (fun W => .str _) (.inl ⟨_, rfl, a10, a11⟩) (.inr ⟨_, rfl, zI_ok⟩) T9 hT9
      · rw [if_neg he]
        exact fin _ _ _ (.str "x") _ (same_new hL) (fun W => .int r1) (fun W => .str _) (.inl ⟨_, rfl, a10, a11⟩) (.inr ⟨_, rfl, by decide +kernel⟩) T9 hT9
    · exact ⟨_, rfl, by show 3 ≤ sizeLine; decide, fun T9 hT9 => fin _ _ _ (.int r2) _ (Same.refl _) (fun W => .int r1) (fun W => .int _) (.inl ⟨_, rfl, a10, a11⟩) (.inl ⟨_, rfl, a20, a21⟩) T9 hT9⟩
end
end Sw
set_option maxRecDepth 100000
set_option maxHeartbeats 4000000
namespace Sw
open PySem PySem.Spec PyProof.Rows L2
def signW : List Str := ["+", "-", "<", "*"]
/-- a ROW, as it is drawn -/
def RowD (zs : List (Str × Int)) (cs : List Str) (d : PyData) : Prop :=
  (∃ x y, AddrD zs x ∧ OperD y ∧ d = .tuple [.str "store", x, y]) ∨ (∃ n x, IsWord n ∧ AddrD zs x ∧ d = .tuple [.str "load", .str n, x]) ∨
  (∃ n s a b, IsWord n ∧ s ∈ signW ∧ OperD a ∧ OperD b ∧ d = .tuple [.str "set", .str n, .str s, a, b]) ∨ (∃ c, c ∈ cs ∧ d = .tuple [.str "call", .str c]) ∨
  (∃ a, OperD a ∧ d = .tuple [.str "need", a]) ∨ (∃ x, AddrD zs x ∧ d = .tuple [.str "touch", x]) ∨ ∃ a, OperD a ∧ d = .tuple [.str "tell", a]
/-- parts of a small thing -/
abbrev Pt (d : PyData) : Prop := Fit (10 ^ 199) 8 2 900 d
theorem OperD.pt {d : PyData} (h : OperD d) : Pt d := by
  rcases h with ⟨i, rfl, hi⟩ | ⟨z, rfl, hz⟩
  · exact Fit.int (Nat.le_trans hi (by decide +kernel)) (by omega)
  · exact Fit.str hz.ascii (by have := hz.hi; omega)
theorem AddrD.pt {zs : List (Str × Int)} {d : PyData} (h : AddrD zs d) : Pt d := by
  obtain ⟨ws, p, ix, rfl, _, hf⟩ := h
  exact hf.fit.mono (Nat.le_refl _) (by omega) (Nat.le_refl _) (Nat.le_refl _)
theorem word_pt {z : Str} (h : IsWord z) : Pt (.str z) := Fit.str h.ascii (by have := h.hi; omega)
def plainW : List Str := ["store", "load", "set", "call", "need", "touch", "tell", "+", "-", "<", "*", "go", "if", "back"]
theorem plain_pt {z : Str} (h : z ∈ plainW) : Pt (.str z) := by
  have h1 : plainW.all (fun z => z.cps.toList.all (fun c => decide (c < 128)) && decide (10 * z.length + 5 ≤ 900)) = true := by decide +kernel
  have h2 := List.all_eq_true.mp h1 z h
  rw [Bool.and_eq_true, decide_eq_true_eq, List.all_eq_true] at h2
  exact Fit.str (fun c hc => of_decide_eq_true (h2.1 c hc)) h2.2
theorem pts_fit {ds : List PyData} (h : ∀ d ∈ ds, Pt d) (hl : ds.length ≤ 8) : Fit (10 ^ 199) 8 3 7300 (.tuple ds) := by
  have hw := wt_le (B := 900) (fun d hd => (h d hd).wg)
  have : 902 * ds.length ≤ 902 * 8 := Nat.mul_le_mul_left _ hl
  exact Fit.tup (n := 2) hl (fun x hx => ⟨(h x hx).lf, (h x hx).ln, (h x hx).dp⟩) (by omega)
theorem RowD.fit {zs : List (Str × Int)} {cs : List Str} {d : PyData} (h : RowD zs cs d) (hc : ∀ c ∈ cs, IsWord c) : Fit (10 ^ 199) 8 3 7300 d := by
  have pl : ∀ z : Str, z ∈ plainW → Pt (.str z) := fun z hz => plain_pt hz
  rcases h with ⟨x, y, hx, hy, rfl⟩ | ⟨n, x, hn, hx, rfl⟩ | ⟨n, s, a, b, hn, hs, ha, hb, rfl⟩ | ⟨c, hcc, rfl⟩ | ⟨a, ha, rfl⟩ | ⟨x, hx, rfl⟩ | ⟨a, ha, rfl⟩
  · refine pts_fit (fun d hd => ?_) (Nat.le_of_ble_eq_true rfl)
    simp only [List.mem_cons, List.not_mem_nil, or_false] at hd
    rcases hd with rfl | rfl | rfl
    · exact pl _ (by decide +kernel)
    · exact hx.pt
    · exact hy.pt
  · refine pts_fit (fun d hd => ?_) (Nat.le_of_ble_eq_true rfl)
    simp only [List.mem_cons, List.not_mem_nil, or_false] at hd
    rcases hd with rfl | rfl | rfl
    · exact pl _ (by decide +kernel)
    · exact word_pt hn
    · exact hx.pt
  · refine pts_fit (fun d hd => ?_) (Nat.le_of_ble_eq_true rfl)
    simp only [List.mem_cons, List.not_mem_nil, or_false] at hd
    rcases hd with rfl | rfl | rfl | rfl | rfl
    · exact pl _ (by decide +kernel)
    · exact word_pt hn
    · refine pl _ ?_
      have : signW.all (fun z => decide (z ∈ plainW)) = true := by decide +kernel
      exact of_decide_eq_true (List.all_eq_true.mp this s hs)
    · exact ha.pt
    · exact hb.pt
  · refine pts_fit (fun d hd => ?_) (Nat.le_of_ble_eq_true rfl)
    simp only [List.mem_cons, List.not_mem_nil, or_false] at hd
    rcases hd with rfl | rfl
    · exact pl _ (by decide +kernel)
    · exact word_pt (hc c hcc)
  · refine pts_fit (fun d hd => ?_) (Nat.le_of_ble_eq_true rfl)
    simp only [List.mem_cons, List.not_mem_nil, or_false] at hd
    rcases hd with rfl | rfl
    · exact pl _ (by decide +kernel)
    · exact ha.pt
  · refine pts_fit (fun d hd => ?_) (Nat.le_of_ble_eq_true rfl)
    simp only [List.mem_cons, List.not_mem_nil, or_false] at hd
    rcases hd with rfl | rfl
    · exact pl _ (by decide +kernel)
    · exact hx.pt
  · refine pts_fit (fun d hd => ?_) (Nat.le_of_ble_eq_true rfl)
    simp only [List.mem_cons, List.not_mem_nil, or_false] at hd
    rcases hd with rfl | rfl
    · exact pl _ (by decide +kernel)
    · exact ha.pt
theorem pq_callW {X : Cx} {K : PySem.W.Frag} {p fq : Addr} {G : L2.St → Hp → Prop} {e : Expr} {E : XK} {zs : List (Str × Int)} (h : ∀ σ H, G σ H → σ[0]? = some (some (.ref p)) ∧ ∃ vo, σ[1]? = some (some vo) ∧ ObjsAt K (del H p) vo zs) (he : PE X e (tCall (spWhere K) [] E (tCons (tVar 0) (tCons (tVar 1) tNil)))) : PE X e (tQ K p fq G 20 (AddrD zs)) :=
  pe_imp he fun σ H Q ⟨b, F, hb, g, q⟩ => by
    obtain ⟨h0, vo, h1, hO⟩ := h σ H g
    exact ⟨_, h0, vo, h1, p, fq, vo, zs, b, rfl, F, hb, hO, q⟩
/-- a slot holds data of a kind -/
def Hd (K : PySem.W.Frag) (p : Addr) (i : Nat) (Φ : DP) (σ : L2.St) (H : Hp) : Prop := ∃ v d, σ[i]? = some (some v) ∧ Dp K (del H p) v d ∧ Φ d
theorem Hd.go {K : PySem.W.Frag} {p : Addr} {i : Nat} {Φ : DP} {σ : L2.St} {H H' : Hp} (h : Hd K p i Φ σ H) (s : Same (del H p) (del H' p)) : Hd K p i Φ σ H' := by
  obtain ⟨v, d, h1, h2, h3⟩ := h
  exact ⟨v, d, h1, Dp_same s h2, h3⟩
def WordD : DP := fun d => ∃ z, d = .str z ∧ IsWord z
def SignD : DP := fun d => ∃ z, d = .str z ∧ z ∈ signW
/-- in a row: before, and with the parts -/
def gR0 (K : PySem.W.Frag) (p : Addr) (zs : List (Str × Int)) : L2.St → Hp → Prop := fun σ H => σ[0]? = some (some (.ref p)) ∧ ∃ vo, σ[1]? = some (some vo) ∧ ObjsAt K (del H p) vo zs
def gR1 (K : PySem.W.Frag) (p : Addr) (zs : List (Str × Int)) : L2.St → Hp → Prop := fun σ H => σ[0]? = some (some (.ref p)) ∧ (∃ r : Int, σ[3]? = some (some (.int r))) ∧ Hd K p 4 WordD σ H ∧ Hd K p 5 (AddrD zs) σ H ∧ Hd K p 6 OperD σ H ∧ Hd K p 7 OperD σ H
def gR2 (K : PySem.W.Frag) (p : Addr) (zs : List (Str × Int)) : L2.St → Hp → Prop := fun σ H => gR1 K p zs σ H ∧ Hd K p 8 SignD σ H
section
variable {P : Program} {w : World} {K : PySem.W.Frag} {mg : Str → Option Value} {base : Heap}
def spRowB (K : PySem.W.Frag) : Sp := fun vs H Q _ => ∃ (p fq L : Addr) (vo : V) (zs : List (Str × Int)) (cs : List Str) (b : Nat), vs = [.ref p, vo, .ref L] ∧ FeedAt H p fq b ∧ b + 40 ≤ 100000000 ∧ ObjsAt K (del H p) vo zs ∧ del H p L = some (.lst (cs.map V.str)) ∧ cs.length ≤ 4 ∧ (∀ c ∈ cs, IsWord c) ∧
  ∀ (v : V) (H' : Hp) (d : PyData), Same (del H p) (del H' p) → FeedAt H' p fq (b + 40) → Dp K (del H' p) v d → RowD zs cs d → Q v H'
abbrev N19 : List Str := ["_law_feed_here", "_law_objects_here", "_law_called", "_law_way", "_law_own", "_law_where_here", "_law_one", "_law_other", "_law_word"]
theorem sc_rowB : FnScope N19 ["_law_feed_here", "_law_objects_here", "_law_called"] (defScope (topS 19)) := ⟨rfl, rfl, rfl, by decide +kernel, rfl, by decide +kernel, by decide +kernel⟩
theorem ok_rowB {f f1 f2 f3 : Addr} {fd fd1 fd2 fd3 : FuncData} (D : Df K mg "_law_row" (topS 19) ["_law_feed_here", "_law_objects_here", "_law_called"] f fd) (DD : Df K mg "_law_draw" (topS 15) ["_law_feed_here", "_law_many"] f1 fd1) (DW : Df K mg "_law_where" (topS 17) ["_law_feed_here", "_law_objects_here"] f2 fd2) (DO : Df K mg "_law_operand" (topS 18) ["_law_feed_here"] f3 fd3) (B : Bt mg)
    (GD : FnOk P w K mg base CX0 1 f1 fd1 ["_law_feed_here", "_law_many"] spDraw) (GW : FnOk P w K mg base CX0 2 f2 fd2 ["_law_feed_here", "_law_objects_here"] (spWhere K)) (GO : FnOk P w K mg base CX0 2 f3 fd3 ["_law_feed_here"] (spG K 2 OperD)) : FnOk P w K mg base CX0 3 f fd ["_law_feed_here", "_law_objects_here", "_law_called"] (spRowB K) := by
  refine D.fn.ok sc_rowB (fun vs H Q E h => ?_) (fun cdv A outer s H vs Q E hr h => ?_)
  · obtain ⟨p, fq, L, vo, zs, cs, b, rfl, _⟩ := h
    rfl
  obtain ⟨p, fq, L, vo, zs, cs, b, rfl, hF, hb, hO, hL, hcl, hcw, q⟩ := h
  have nd := sc_rowB.nd
  have hu := hr.units
  have hr1 : Room 1 _ := hr.mono (by decide)
  have C0 : Stb p (gF p) := ⟨fun h _ => h⟩
  have CR0 : Stb p (gR0 K p zs) := ⟨fun h s => ⟨h.1, h.2.choose, h.2.choose_spec.1, h.2.choose_spec.2.same s⟩⟩
  have CR1 : Stb p (gR1 K p zs) := ⟨fun h s => ⟨h.1, h.2.1, h.2.2.1.go s, h.2.2.2.1.go s, h.2.2.2.2.1.go s, h.2.2.2.2.2.go s⟩⟩
  have CR2 : Stb p (gR2 K p zs) := ⟨fun h s => ⟨CR1.go h.1 s, h.2.go s⟩⟩
  have own1 : ∀ σ H, gR1 K p zs σ H → ∃ v d, σ[4]? = some (some v) ∧ Dp K (del H p) v d ∧ WordD d := fun _ _ g => g.2.2.1
  have whe1 : ∀ σ H, gR1 K p zs σ H → ∃ v d, σ[5]? = some (some v) ∧ Dp K (del H p) v d ∧ AddrD zs d := fun _ _ g => g.2.2.2.1
  have one1 : ∀ σ H, gR1 K p zs σ H → ∃ v d, σ[6]? = some (some v) ∧ Dp K (del H p) v d ∧ OperD d := fun _ _ g => g.2.2.2.2.1
  have own2 : ∀ σ H, gR2 K p zs σ H → ∃ v d, σ[4]? = some (some v) ∧ Dp K (del H p) v d ∧ WordD d := fun _ _ g => g.1.2.2.1
  have one2 : ∀ σ H, gR2 K p zs σ H → ∃ v d, σ[6]? = some (some v) ∧ Dp K (del H p) v d ∧ OperD d := fun _ _ g => g.1.2.2.2.2.1
  have oth2 : ∀ σ H, gR2 K p zs σ H → ∃ v d, σ[7]? = some (some v) ∧ Dp K (del H p) v d ∧ OperD d := fun _ _ g => g.1.2.2.2.2.2
  have sig2 : ∀ σ H, gR2 K p zs σ H → ∃ v d, σ[8]? = some (some v) ∧ Dp K (del H p) v d ∧ SignD d := fun _ _ g => g.2
  have any2 : ∀ σ H (Q : Bool → Hp → Prop), gR2 K p zs σ H → (∀ b, Q b H) → ∃ v, σ[8]? = some (some v) ∧ scal v (.str (Str.ofString "*")) = true ∧ ∃ b, V.bl (!decide (v = .str (Str.ofString "*"))) = .bl b ∧ Q b H := fun σ H Q g q => by
    obtain ⟨v, d, e, hd, z, rfl, hz⟩ := g.2
    cases hd
    exact ⟨_, e, rfl, _, rfl, q _⟩
  have any1 : ∀ σ H (Q : Bool → Hp → Prop), gR1 K p zs σ H → (∀ b, Q b H) → ∃ v, σ[3]? = some (some v) ∧ ∃ i j : Int, v = .int i ∧ V.int 13 = .int j ∧ ∃ b, V.bl (decide (i < j)) = .bl b ∧ Q b H := fun σ H Q g q => by
    obtain ⟨r, e⟩ := g.2.1
    exact ⟨_, e, r, 13, rfl, rfl, _, rfl, q _⟩
  refine ⟨_, pss_cons (ps_par (i := 3) (j := 4) rfl nd rfl rfl (by decide) rfl rfl (pqs_cons (K := K) (fq := fq) C0 (pq_draw (m := 14) (fun _ _ g => g) (pe_call GD hr1 (by rfl) DD.gl DD.fn.kp DD.bd .nil pass0 (pa_cons (pv 0) (pa_cons pe_int pa_nil))) (by decide) (by decide)) (pqs_cons C0 (pq_pick C0 rfl (pqs_cons C0 pq_str (pqs_cons C0 pq_str (pqs_cons C0 pq_str pqs_nil))) (pq_draw (m := 3) (fun _ _ g => g) (pe_call GD hr1 (by rfl) DD.gl DD.fn.kp DD.bd .nil pass0 (pa_cons (pv 0) (pa_cons pe_int pa_nil))) (by decide) (by decide)) (fun _ _ => rfl)) pqs_nil)) (by rfl))
    (pss_cons (ps_par3 (i := 5) (j := 6) (l := 7) rfl nd rfl rfl rfl (by decide) (by decide) (by decide) rfl rfl rfl (pqs_cons (K := K) (fq := fq) CR0 (pq_callW (fun _ _ g => g) (pe_call GW hr (by rfl) DW.gl DW.fn.kp DW.bd .nil pass0 (pa_cons (pv 0) (pa_cons (pv 1) pa_nil)))) (pqs_cons CR0 (pq_call1 (fun _ _ g => g.1) (pe_call GO hr (by rfl) DO.gl DO.fn.kp DO.bd .nil pass0 (pa_cons (pv 0) pa_nil))) (pqs_cons CR0 (pq_call1 (fun _ _ g => g.1) (pe_call GO hr (by rfl) DO.gl DO.fn.kp DO.bd .nil pass0 (pa_cons (pv 0) pa_nil))) pqs_nil))) (by rfl))
    (pss_cons (ps_if (pt_cmpR op_lt (pv 3) pe_int (nomark _)) (pss_one (ps_ret (pq_tup (K := K) (fq := fq) (pqs_cons CR1 pq_str (pqs_cons CR1 (pq_var (Φ := AddrD zs) (pv 5) whe1) (pqs_cons CR1 (pq_var (Φ := OperD) (pv 6) one1) pqs_nil)))))) pss_nil)
    (pss_cons (ps_if (pt_cmpR op_lt (pv 3) pe_int (nomark _)) (pss_one (ps_ret (pq_tup (K := K) (fq := fq) (pqs_cons CR1 pq_str (pqs_cons CR1 (pq_var (Φ := WordD) (pv 4) own1) (pqs_cons CR1 (pq_var (Φ := AddrD zs) (pv 5) whe1) pqs_nil)))))) pss_nil)
    (pss_cons (ps_if (pt_cmpR op_lt (pv 3) pe_int (nomark _))
      (pss_cons (ps_set (i := 8) nd rfl (Or.inl rfl) (pq_pick (K := K) (fq := fq) CR1 rfl (pqs_cons CR1 pq_str (pqs_cons CR1 pq_str (pqs_cons CR1 pq_str (pqs_cons CR1 pq_str pqs_nil)))) (pq_draw (m := 4) (fun _ _ g => g.1) (pe_call GD hr1 (by rfl) DD.gl DD.fn.kp DD.bd .nil pass0 (pa_cons (pv 0) (pa_cons pe_int pa_nil))) (by decide) (by decide)) (fun _ _ => rfl)))
      (pss_one (ps_ret (pq_tup (K := K) (fq := fq) (pqs_cons CR2 pq_str (pqs_cons CR2 (pq_var (Φ := WordD) (pv 4) own2) (pqs_cons CR2 (pq_var (Φ := SignD) (pv 8) sig2) (pqs_cons CR2 (pq_var (Φ := OperD) (pv 6) one2) (pqs_cons CR2 (pq_ifAny (pt_cmpR op_ne (pv 8) pe_str (nomark _)) any2 (pq_var (Φ := OperD) (pv 7) oth2) (pq_pick CR2 rfl (pqs_cons CR2 (pq_neg pq_int) (pqs_cons CR2 pq_int (pqs_cons CR2 pq_int (pqs_cons CR2 pq_int pqs_nil)))) (pq_draw (m := 4) (fun _ _ g => g.1.1) (pe_call GD hr1 (by rfl) DD.gl DD.fn.kp DD.bd .nil pass0 (pa_cons (pv 0) (pa_cons pe_int pa_nil))) (by decide) (by decide)) (fun _ _ => rfl))) pqs_nil))))))))) pss_nil)
    (C8.pss_cut (ps_if (PW.pt (pw_and (pt_cmpR op_eq (pv 3) pe_int (nomark _)) (pw_and1 (pt_cmpR (op_neD hu) (pv 2) (pe_lst pa_nil) (nomark _)))))
      (pss_one (ps_ret (pe_tup (pa_cons pe_str (pa_cons (pe_ix ix_list (pv 2) (pe_call GD hr1 (by rfl) DD.gl DD.fn.kp DD.bd .nil pass0 (pa_cons (pv 0) (pa_cons (pe_callB call_len_seq (by rfl) B.len PySem.boot_len (pa_cons (pv 2) pa_nil)) pa_nil))) (fun _ _ => rfl)) pa_nil))))) pss_nil)
    (pss_cons (ps_if (pt_cmpR op_eq (pv 3) pe_int (nomark _)) (pss_one (ps_ret (pq_pick (K := K) (fq := fq) CR1 rfl (pqs_cons CR1 (pq_tup (pqs_cons CR1 pq_str (pqs_cons CR1 (pq_var (Φ := OperD) (pv 6) one1) pqs_nil))) (pqs_cons CR1 (pq_tup (pqs_cons CR1 pq_str (pqs_cons CR1 pq_int pqs_nil))) (pqs_cons CR1 (pq_tup (pqs_cons CR1 pq_str (pqs_cons CR1 (pq_var (Φ := AddrD zs) (pv 5) whe1) pqs_nil))) pqs_nil))) (pq_draw (m := 3) (fun _ _ g => g.1) (pe_call GD hr1 (by rfl) DD.gl DD.fn.kp DD.bd .nil pass0 (pa_cons (pv 0) (pa_cons pe_int pa_nil))) (by decide) (by decide)) (fun _ _ => rfl)))) pss_nil)
    (pss_one (ps_ret (pq_ifAny (K := K) (fq := fq) (pt_cmpR op_lt (pv 3) pe_int (nomark _)) any1 (pq_tup (pqs_cons CR1 pq_str (pqs_cons CR1 (pq_var (Φ := OperD) (pv 6) one1) pqs_nil))) (pq_tup (pqs_cons CR1 pq_str (pqs_cons CR1 (pq_var (Φ := AddrD zs) (pv 5) whe1) pqs_nil)))))))))))), ?_⟩
  clear own1 whe1 one1 own2 one2 oth2 sig2 any1 any2 GD DD GW DW GO DO D B hr hr1 nd hu
  refine ⟨b, hF, by omega, rfl, fun vs H1 ds s1 F1 d1 f1 => ?_⟩
  match ds, f1 with
  | [x, y], ⟨⟨r, ex, r0, r1⟩, hy, _⟩ =>
  subst ex
  obtain ⟨zo, ey, hzo⟩ : ∃ zo : Str, y = .str zo ∧ IsWord zo := by
    rcases hy with hd | hd | hd | hd
    · exact ⟨_, hd, word_of (by decide +kernel)⟩
    · exact ⟨_, hd, word_of (by decide +kernel)⟩
    · exact ⟨_, hd, word_of (by decide +kernel)⟩
    · exact hd.elim
  subst ey
  cases d1 with
  | cons h1 t1 =>
  cases t1 with
  | cons h2 t2 =>
  cases t2
  cases h1
  cases h2
  refine ⟨_, _, rfl, _, F1, by omega, ⟨rfl, vo, rfl, hO.same s1⟩, fun vs H2 ds s2 F2 d2 f2 => ?_⟩
  match ds, f2 with
  | [dw, e1, e2], ⟨hw, ho1, ho2, _⟩ =>
  cases d2 with
  | @cons vw _ _ _ g1 t1 =>
  cases t1 with
  | @cons v1 _ _ _ g2 t2 =>
  cases t2 with
  | @cons v2 _ _ _ g3 t3 =>
  cases t3
  refine ⟨_, _, _, rfl, ?_⟩
  have s12 := s1.trans s2
  have F2' : FeedAt H2 p fq (b + 30) := F2.mono (by omega)
  have gg : gR1 K p zs [some (.ref p), some vo, some (.ref L), some (.int r), some (.str zo), some vw, some v1, some v2, none] H2 := ⟨rfl, ⟨r, rfl⟩, ⟨_, _, rfl, .str zo, zo, rfl, hzo⟩, ⟨vw, dw, rfl, g1, hw⟩, ⟨v1, e1, rfl, g2, ho1⟩, ⟨v2, e2, rfl, g3, ho2⟩⟩
  have hL2 := s12 _ _ hL
  have fin : ∀ (v : V) (H' : Hp) (d : PyData), Same (del H2 p) (del H' p) → FeedAt H' p fq (b + 40) → Dp K (del H' p) v d → RowD zs cs d → Q v H' := fun v H' d s F dd hd => q v H' d (s12.trans s) F dd hd
  clear q s1 s2 s12 F1 F2 hy g1 g2 g3 hO hF hL
  -- store
  refine ⟨_, rfl, _, _, rfl, rfl, _, rfl, ?_⟩
  refine ite2 (fun _ => ?_) (fun _ => ?_)
  · refine ⟨_, F2', by omega, gg, fun v H' d s F dd hd => fin v H' d s (F.mono (by omega)) dd ?_⟩
    obtain ⟨ds, rfl, hf⟩ := hd
    match ds, hf with
    | [x, y, z], ⟨hx, hy, hz, _⟩ => exact .inl ⟨y, z, hy, hz, by rw [hx]⟩
  -- load
  refine ⟨_, rfl, _, _, rfl, rfl, _, rfl, ?_⟩
  refine ite2 (fun _ => ?_) (fun _ => ?_)
  · refine ⟨_, F2', by omega, gg, fun v H' d s F dd hd => fin v H' d s (F.mono (by omega)) dd ?_⟩
    obtain ⟨ds, rfl, hf⟩ := hd
    match ds, hf with
    | [x, y, z], ⟨hx, ⟨n, hn, hn2⟩, hz, _⟩ => exact .inr (.inl ⟨n, z, hn2, hz, by rw [hx, hn]⟩)
  -- set
  refine ⟨_, rfl, _, _, rfl, rfl, _, rfl, ?_⟩
  refine ite2 (fun _ => ?_) (fun _ => ?_)
  · refine ⟨_, F2', by omega, gg, fun v8 H8 d8 s8 F8 dd8 hd8 => ?_⟩
    obtain ⟨zs8, e8, hz8⟩ : ∃ z : Str, d8 = .str z ∧ z ∈ signW := by
      rcases hd8 with hd | hd | hd | hd | hd
      · exact ⟨_, hd, by decide +kernel⟩
      · exact ⟨_, hd, by decide +kernel⟩
      · exact ⟨_, hd, by decide +kernel⟩
      · exact ⟨_, hd, by decide +kernel⟩
      · exact hd.elim
    subst e8
    cases dd8
    have gg8 := CR1.go gg s8
    refine ⟨_, F8, by omega, ⟨⟨rfl, ⟨r, rfl⟩, gg8.2.2.1, gg8.2.2.2.1, gg8.2.2.2.2.1, gg8.2.2.2.2.2⟩, ⟨_, _, rfl, .str zs8, zs8, rfl, hz8⟩⟩, fun v H' d s F dd hd => fin v H' d (s8.trans s) (F.mono (by omega)) dd ?_⟩
    obtain ⟨ds, rfl, hf⟩ := hd
    match ds, hf with
    | [x, y, z, u, t], ⟨hx, ⟨n, hn, hn2⟩, ⟨sg, hs, hs2⟩, hu, ht, _⟩ =>
      refine .inr (.inr (.inl ⟨n, sg, u, t, hn2, hs2, hu, ?_, by rw [hx, hn, hs]⟩))
      rcases ht with ht | ht | ht | ht | ht | ht
      · exact ht
      · rw [ht]; exact .inl ⟨_, rfl, by decide⟩
      · rw [ht]; exact .inl ⟨_, rfl, by decide⟩
      · rw [ht]; exact .inl ⟨_, rfl, by decide⟩
      · rw [ht]; exact .inl ⟨_, rfl, by decide⟩
      · exact ht.elim
  -- call
  have nLp := (of_del hL2).2
  refine ⟨fun σ H' => σ = [some (.ref p), some vo, some (.ref L), some (.int r), some (.str zo), some vw, some v1, some v2, none] ∧ Same H2 H', ?_, ?_⟩
  · refine ⟨_, rfl, rfl, _, rfl, ?_⟩
    refine ite2 (fun _ => ?_) (fun _ => iteF ⟨rfl, Same.refl _⟩)
    refine ⟨_, rfl, Nat.zero_le _, fun N hN => ?_⟩
    have sN := same_new (o := .lst []) hN
    refine ⟨.list (cs.map PyData.str), .list [], .lst (SqL.of (sN _ _ (of_del hL2).1)) (DpAll_strs _), .lst (SqL.of upd_same) .nil, strs_shaped (fun z hz => (hcw z hz).ascii), nil_shaped, _, rfl, ?_⟩
    have FN := F2'.same sN
    have hLN := sN _ _ (of_del hL2).1
    generalize upd H2 N (.lst []) = H3 at sN FN hLN
    rw [eqv_nil_list]
    refine ite2 (fun c => ?_) (fun c => ⟨rfl, sN⟩)
    have hc1 : 1 ≤ cs.length := by
      cases cs with
      | nil => simp at c
      | cons _ _ => simp
    refine ⟨_, rfl, _, rfl, _, rfl, L, _, rfl, .inl (SqL.of hLN), p, fq, _, _, rfl, FN, by omega, by rw [List.length_map]; omega, by rw [List.length_map]; omega, fun r5 H5 a0 a1 s5 F5 => ?_⟩
    rw [List.length_map] at a1
    obtain ⟨k5, rfl⟩ : ∃ k : Nat, r5 = (k : Int) := ⟨r5.toNat, (Int.toNat_of_nonneg a0).symm⟩
    have hk : k5 < cs.length := by omega
    have hL5 : H5 L = some (.lst (cs.map V.str)) := (of_del (s5 _ _ (del_some hLN nLp))).1
    refine ⟨L, _, _, _, rfl, rfl, SqL.of hL5, atI_nat (by rw [List.getElem?_map, List.getElem?_eq_getElem hk]; rfl), by show 2 ≤ sizeLine; decide, fun T hT => ?_⟩
    have sT := same_new (o := .tup [.str (Str.ofString "call"), .str cs[k5]]) hT
    obtain ⟨u5, hp5⟩ := F5.there
    exact fin _ _ (.tuple [.str "call", .str cs[k5]]) (((same_del sN).trans s5).trans (same_del sT)) ((F5.same sT).mono (by omega)) (.tup (SqT.of (new_del hp5 hT)) (.cons (.str _) (.cons (.str _) .nil))) (.inr (.inr (.inr (.inl ⟨_, List.getElem_mem hk, rfl⟩))))
  rintro σ H3 ⟨rfl, s3⟩
  have gg3 := CR1.go gg (same_del s3)
  have F3 := F2'.same s3
  -- need, touch
  refine ⟨_, rfl, rfl, _, rfl, ?_⟩
  refine ite2 (fun _ => ?_) (fun _ => ?_)
  · refine ⟨_, F3, by omega, gg3, fun v H' d s F dd hd => fin v H' d ((same_del s3).trans s) (F.mono (by omega)) dd ?_⟩
    rcases hd with hd | hd | hd | hd
    · obtain ⟨ds, rfl, hf⟩ := hd
      match ds, hf with
      | [x, y], ⟨hx, hy, _⟩ => exact .inr (.inr (.inr (.inr (.inl ⟨y, hy, by rw [hx]⟩))))
    · obtain ⟨ds, rfl, hf⟩ := hd
      match ds, hf with
      | [x, y], ⟨hx, hy, _⟩ => exact .inr (.inr (.inr (.inr (.inl ⟨y, by rw [hy]; exact .inl ⟨_, rfl, by decide⟩, by rw [hx]⟩))))
    · obtain ⟨ds, rfl, hf⟩ := hd
      match ds, hf with
      | [x, y], ⟨hx, hy, _⟩ => exact .inr (.inr (.inr (.inr (.inr (.inl ⟨y, hy, by rw [hx]⟩)))))
    · exact hd.elim
  -- tell, touch
  refine ⟨_, F3, by omega, gg3, fun v H' d s F dd hd => fin v H' d ((same_del s3).trans s) (F.mono (by omega)) dd ?_⟩
  rcases hd with hd | hd
  · obtain ⟨ds, rfl, hf⟩ := hd
    match ds, hf with
    | [x, y], ⟨hx, hy, _⟩ => exact .inr (.inr (.inr (.inr (.inr (.inr ⟨y, hy, by rw [hx]⟩)))))
  · obtain ⟨ds, rfl, hf⟩ := hd
    match ds, hf with
    | [x, y], ⟨hx, hy, _⟩ => exact .inr (.inr (.inr (.inr (.inr (.inl ⟨y, hy, by rw [hx]⟩)))))
end
end Sw
set_option maxRecDepth 100000
set_option maxHeartbeats 4000000
namespace Sw
open PySem PySem.Spec PyProof.Rows L2
/-! ### data without lists stand in the tuples of the heap -/
mutual
def noL : PyData → Bool
  | .list _ => false
  | .dict _ => false
  | .tuple xs => noLAll xs
  | _ => true
def noLAll : List PyData → Bool
  | [] => true
  | x :: xs => noL x && noLAll xs
end
theorem noLAll_iff : ∀ {xs : List PyData}, noLAll xs = true ↔ ∀ x ∈ xs, noL x = true
  | [] => by simp [noLAll]
  | x :: xs => by simp [noLAll, noLAll_iff (xs := xs)]
/-- the heap's tuples, and what is locked -/
def tps (H : Hp) : Hp := fun c => match H c with
  | some (.tup xs) => some (.tup xs)
  | some (.frz o u) => some (.frz o u)
  | _ => none
theorem tps_sub {H : Hp} : Same (tps H) H := fun c o e => by
  unfold tps at e
  split at e
  · rename_i xs h; cases e; exact h
  · rename_i o' u h; cases e; exact h
  · cases e
theorem tps_tup {H : Hp} {c : Addr} {xs : List V} (h : H c = some (.tup xs)) : tps H c = some (.tup xs) := by unfold tps; rw [h]
theorem tps_frz {H : Hp} {c : Addr} {o : Obj} {u : HO} (h : H c = some (.frz o u)) : tps H c = some (.frz o u) := by unfold tps; rw [h]
theorem tps_same {H H' : Hp} (s : Same H H') : Same (tps H) (tps H') := fun c o e => by
  have h := tps_sub _ _ e
  have h' := s _ _ h
  unfold tps at e ⊢
  rw [h] at e
  rw [h']
  exact e
/-- a list changes: the tuples stay -/
theorem tps_lst {H : Hp} {F : Addr} {xs ys : List V} (hF : H F = some (.lst xs)) : Same (tps H) (tps (upd H F (.lst ys))) := fun c o e => by
  have h := tps_sub _ _ e
  have nc : c ≠ F := fun z => by
    rw [z] at e
    unfold tps at e
    rw [hF] at e
    cases e
  have h' : upd H F (.lst ys) c = some o := by rw [upd_ne nc]; exact h
  unfold tps at e ⊢
  rw [h] at e
  rw [h']
  exact e
theorem tps_del {H : Hp} {p : Addr} : Same (tps (del H p)) (del (tps H) p) := fun c o e => by
  obtain ⟨h1, h2⟩ := of_del (tps_sub _ _ e)
  refine del_some ?_ h2
  unfold tps at e ⊢
  rw [show del H p c = some o from del_some h1 h2] at e
  rw [h1]
  exact e
theorem sqt_tps {K : PySem.W.Frag} {H : Hp} {a : Addr} {xs : List V} (h : SqT K H a xs) : SqT K (tps H) a xs := by
  rcases h with (h | ⟨o, h⟩) | h
  · exact .inl (.inl (tps_tup h))
  · exact .inl (.inr ⟨o, tps_frz h⟩)
  · exact .inr h
mutual
theorem Dp_tps {K : PySem.W.Frag} {H : Hp} : ∀ {v : V} {d : PyData}, Dp K H v d → noL d = true → Dp K (tps H) v d
  | _, _, .non, _ => .non
  | _, _, .bl b, _ => .bl b
  | _, _, .int i, _ => .int i
  | _, _, .str x, _ => .str x
  | _, _, .lst h r, e => by simp [noL] at e
  | _, _, .tup h r, e => .tup (sqt_tps h) (DpAll_tps r (by simpa [noL] using e))
theorem DpAll_tps {K : PySem.W.Frag} {H : Hp} : ∀ {vs : List V} {ds : List PyData}, DpAll K H vs ds → noLAll ds = true → DpAll K (tps H) vs ds
  | _, _, .nil, _ => .nil
  | _, _, .cons (d := d) (ds := ds) h r, e => by
    have e' : noL d = true ∧ noLAll ds = true := by simpa [noLAll] using e
    exact .cons (Dp_tps h e'.1) (DpAll_tps r e'.2)
end
theorem paired_tps {K : PySem.W.Frag} {H : Hp} : ∀ {ps : List Addr} {zs : List (Str × Int)}, Paired (fun p (z : Str × Int) => SqT K H p [.str z.1, .int z.2]) ps zs → Paired (fun p (z : Str × Int) => SqT K (tps H) p [.str z.1, .int z.2]) ps zs
  | _, _, .nil => .nil
  | _, _, .cons a r => .cons (sqt_tps a) (paired_tps r)
theorem ObjsAt.tps {K : PySem.W.Frag} {H : Hp} {v : V} {zs : List (Str × Int)} (h : ObjsAt K H v zs) : ObjsAt K (Sw.tps H) v zs := by
  obtain ⟨a, ps, e, ⟨its, hf⟩, hp⟩ := h.ex
  exact ⟨⟨a, ps, e, ⟨its, tps_frz hf⟩, paired_tps hp⟩, h.few, h.wd, h.asc⟩
theorem OperD.noL {d : PyData} (h : OperD d) : Sw.noL d = true := by
  rcases h with ⟨i, rfl, _⟩ | ⟨z, rfl, _⟩ <;> rfl
theorem AddrD.noL {zs : List (Str × Int)} {d : PyData} (h : AddrD zs d) : Sw.noL d = true := by
  obtain ⟨ws, p, ix, rfl, ha, _⟩ := h
  obtain ⟨os', p', ix', e', _, _, _, hp, hi, _, _⟩ := addr_parts ha
  cases e'
  have op : ∀ x : PyData, dOper x = true → Sw.noL x = true := fun x hx => by cases x <;> first | rfl | cases hx
  have hw : Sw.noL (.tuple (ws.map PyData.str)) = true := by
    simp only [Sw.noL]
    exact noLAll_iff.mpr fun x hx => by
      obtain ⟨z, _, rfl⟩ := List.mem_map.mp hx
      rfl
  simp [Sw.noL, noLAll, op p hp, op ix hi, hw] at *
  exact hw
theorem RowD.noL {zs : List (Str × Int)} {cs : List Str} {d : PyData} (h : RowD zs cs d) : Sw.noL d = true := by
  rcases h with ⟨x, y, hx, hy, rfl⟩ | ⟨n, x, hn, hx, rfl⟩ | ⟨n, s, a, b, hn, hs, ha, hb, rfl⟩ | ⟨c, hcc, rfl⟩ | ⟨a, ha, rfl⟩ | ⟨x, hx, rfl⟩ | ⟨a, ha, rfl⟩
  · simp [Sw.noL, noLAll, hx.noL, hy.noL]
  · simp [Sw.noL, noLAll, hx.noL]
  · simp [Sw.noL, noLAll, ha.noL, hb.noL]
  · simp [Sw.noL, noLAll]
  · simp [Sw.noL, noLAll, ha.noL]
  · simp [Sw.noL, noLAll, hx.noL]
  · simp [Sw.noL, noLAll, ha.noL]
/-! ### ENDS, BLOCKS, routines, as they are drawn -/
def EndD (m : Int) (d : PyData) : Prop := (∃ i : Int, 0 ≤ i ∧ i < m ∧ d = .tuple [.str "go", .int i]) ∨ (∃ (a : PyData) (i j : Int), OperD a ∧ 0 ≤ i ∧ i < m ∧ 0 ≤ j ∧ j < m ∧ d = .tuple [.str "if", a, .int i, .int j]) ∨ d = .tuple [.str "back"]
def BlkD (zs : List (Str × Int)) (cs : List Str) (m : Int) (d : PyData) : Prop := ∃ rows e, d = .tuple [.tuple rows, e] ∧ rows.length ≤ 3 ∧ (∀ r ∈ rows, RowD zs cs r) ∧ EndD m e
def RtnD (zs : List (Str × Int)) (cs : List Str) (n : Str) (d : PyData) : Prop := ∃ bs : List PyData, d = .tuple [.str n, .tuple bs] ∧ 1 ≤ bs.length ∧ bs.length ≤ 3 ∧ ∀ b ∈ bs, BlkD zs cs bs.length b
theorem EndD.noL {m : Int} {d : PyData} (h : EndD m d) : Sw.noL d = true := by
  rcases h with ⟨i, _, _, rfl⟩ | ⟨a, i, j, ha, _, _, _, _, rfl⟩ | rfl
  · rfl
  · simp [Sw.noL, noLAll, ha.noL]
  · rfl
theorem BlkD.noL {zs : List (Str × Int)} {cs : List Str} {m : Int} {d : PyData} (h : BlkD zs cs m d) : Sw.noL d = true := by
  obtain ⟨rows, e, rfl, _, hr, he⟩ := h
  have : noLAll rows = true := noLAll_iff.mpr fun r hr' => (hr r hr').noL
  simp [Sw.noL, noLAll, this, he.noL]
theorem RtnD.noL {zs : List (Str × Int)} {cs : List Str} {n : Str} {d : PyData} (h : RtnD zs cs n d) : Sw.noL d = true := by
  obtain ⟨bs, rfl, _, _, hb⟩ := h
  have : noLAll bs = true := noLAll_iff.mpr fun r hr' => (hb r hr').noL
  simp [Sw.noL, noLAll, this]
theorem EndD.fit {m : Int} {d : PyData} (h : EndD m d) (hm : m ≤ 10) : Fit (10 ^ 199) 8 3 7300 d := by
  have pl : ∀ z : Str, z ∈ plainW → Pt (.str z) := fun z hz => plain_pt hz
  have pi : ∀ i : Int, 0 ≤ i → i < m → Pt (.int i) := fun i h0 h1 => OperD.pt (.inl ⟨i, rfl, by omega⟩)
  rcases h with ⟨i, i0, i1, rfl⟩ | ⟨a, i, j, ha, i0, i1, j0, j1, rfl⟩ | rfl
  · refine pts_fit (fun d hd => ?_) (Nat.le_of_ble_eq_true rfl)
    simp only [List.mem_cons, List.not_mem_nil, or_false] at hd
    rcases hd with rfl | rfl
    · exact pl _ (by decide +kernel)
    · exact pi i i0 i1
  · refine pts_fit (fun d hd => ?_) (Nat.le_of_ble_eq_true rfl)
    simp only [List.mem_cons, List.not_mem_nil, or_false] at hd
    rcases hd with rfl | rfl | rfl | rfl
    · exact pl _ (by decide +kernel)
    · exact ha.pt
    · exact pi i i0 i1
    · exact pi j j0 j1
  · refine pts_fit (fun d hd => ?_) (Nat.le_of_ble_eq_true rfl)
    simp only [List.mem_cons, List.not_mem_nil, or_false] at hd
    rcases hd with rfl
    exact pl _ (by decide +kernel)
theorem BlkD.fit {zs : List (Str × Int)} {cs : List Str} {m : Int} {d : PyData} (h : BlkD zs cs m d) (hm : m ≤ 10) (hc : ∀ c ∈ cs, IsWord c) : Fit (10 ^ 199) 8 5 30000 d := by
  obtain ⟨rows, e, rfl, hl, hr, he⟩ := h
  have hw := wt_le (B := 7300) (fun r hr' => ((hr r hr').fit hc).wg)
  have : 7302 * rows.length ≤ 7302 * 3 := Nat.mul_le_mul_left _ hl
  have h1 : Fit (10 ^ 199) 8 4 22000 (.tuple rows) := Fit.tup (n := 3) (by omega) (fun x hx => ⟨((hr x hx).fit hc).lf, ((hr x hx).fit hc).ln, ((hr x hx).fit hc).dp⟩) (by omega)
  have h2 := he.fit hm
  have w1 := h1.wg
  have w2 := h2.wg
  refine Fit.tup (n := 4) (Nat.le_of_ble_eq_true rfl) (fun x hx => ?_) (by simp only [wtAll]; omega)
  simp only [List.mem_cons, List.not_mem_nil, or_false] at hx
  rcases hx with rfl | rfl
  · exact ⟨h1.lf, h1.ln, h1.dp⟩
  · exact ⟨h2.lf, h2.ln, Nat.le_trans h2.dp (by omega)⟩
theorem RtnD.fit {zs : List (Str × Int)} {cs : List Str} {n : Str} {d : PyData} (h : RtnD zs cs n d) (hn : IsWord n) (hc : ∀ c ∈ cs, IsWord c) : Fit (10 ^ 199) 8 7 100000 d := by
  obtain ⟨bs, rfl, _, hl, hb⟩ := h
  have hw := wt_le (B := 30000) (fun r hr' => ((hb r hr').fit (by omega) hc).wg)
  have : 30002 * bs.length ≤ 30002 * 3 := Nat.mul_le_mul_left _ hl
  have h1 : Fit (10 ^ 199) 8 6 95000 (.tuple bs) := Fit.tup (n := 5) (by omega) (fun x hx => ⟨((hb x hx).fit (by omega) hc).lf, ((hb x hx).fit (by omega) hc).ln, ((hb x hx).fit (by omega) hc).dp⟩) (by omega)
  have h2 := word_pt hn
  have w1 := h1.wg
  have w2 := h2.wg
  refine Fit.tup (n := 6) (Nat.le_of_ble_eq_true rfl) (fun x hx => ?_) (by simp only [wtAll]; omega)
  simp only [List.mem_cons, List.not_mem_nil, or_false] at hx
  rcases hx with rfl | rfl
  · exact ⟨h2.lf, h2.ln, Nat.le_trans h2.dp (by omega)⟩
  · exact ⟨h1.lf, h1.ln, h1.dp⟩
end Sw
set_option maxRecDepth 100000
set_option maxHeartbeats 4000000
namespace Sw
open PySem PySem.Spec PyProof.Rows L2
abbrev N20 : List Str := ["_law_feed_here", "_law_objects_here", "_law_called", "_law_found", "_law_routine", "_law_many", "_law_blocks", "_law_block", "_law_rows", "_law_way", "_law_one", "_law_other", "_law_end", "_law_k"]
/-! ### lists that grow, of data without lists -/
structure GL (K : PySem.W.Frag) (p fq L : Addr) (H : Hp) (vs : List V) (ds : List PyData) : Prop where
  at_ : H L = some (.lst vs)
  dat : DpAll K (tps (del H p)) vs ds
  np : L ≠ p
  nq : L ≠ fq
section
variable {K : PySem.W.Frag} {p fq L : Addr} {H H' : Hp} {vs : List V} {ds : List PyData}
theorem GL.next (h : GL K p fq L H vs ds) (s : Same (del H p) (del H' p)) : GL K p fq L H' vs ds := ⟨(of_del (s _ _ (del_some h.at_ h.np))).1, DpAll_same (tps_same s) h.dat, h.np, h.nq⟩
theorem GL.lay (h : GL K p fq L H vs ds) (s : Same H H') : GL K p fq L H' vs ds := h.next (same_del s)
theorem del_lst {L' : Addr} {xs ys : List V} (hL : H L' = some (.lst xs)) (np : L' ≠ p) : Same (tps (del H p)) (tps (del (upd H L' (.lst ys)) p)) := by
  have e : del (upd H L' (.lst ys)) p = upd (del H p) L' (.lst ys) := by
    funext c
    show (if c = p then none else (if c = L' then some (.lst ys) else H c)) = if c = L' then some (.lst ys) else (if c = p then none else H c)
    by_cases h1 : c = p
    · rw [if_pos h1, if_neg (fun z => np (z.symm.trans h1)), if_pos h1]
    · rw [if_neg h1, if_neg h1]
  rw [e]
  exact tps_lst (del_some hL np)
theorem GL.other {L' : Addr} {xs ys : List V} (h : GL K p fq L H vs ds) (hL : H L' = some (.lst xs)) (np : L' ≠ p) (ne : L ≠ L') : GL K p fq L (upd H L' (.lst ys)) vs ds :=
  ⟨by rw [upd_ne ne]; exact h.at_, DpAll_same (del_lst hL np) h.dat, h.np, h.nq⟩
theorem GL.push {v : V} {d : PyData} (h : GL K p fq L H vs ds) (hd : Dp K (del H p) v d) (hn : noL d = true) : GL K p fq L (upd H L (.lst (vs ++ [v]))) (vs ++ [v]) (ds ++ [d]) :=
  ⟨upd_same, DpAll_same (del_lst h.at_ h.np) (DpAll_append h.dat (.cons (Dp_tps hd hn) .nil)), h.np, h.nq⟩
end
/-- while a plan is drawn -/
structure PL (K : PySem.W.Frag) (p fq : Addr) (H0 : Hp) (Lc F : Addr) (vo : V) (zs : List (Str × Int)) (cs : List Str) (b : Nat) (H : Hp) (fs : List V) (rds : List PyData) : Prop where
  sm : Same (del H0 p) (del H p)
  fd : FeedAt H p fq b
  ob : ObjsAt K (tps (del H p)) vo zs
  cl : H Lc = some (.lst (cs.map V.str))
  gf : GL K p fq F H fs rds
  nc : Lc ≠ p
  nfc : F ≠ Lc
  n0 : H0 F = none
section
variable {K : PySem.W.Frag} {p fq Lc F : Addr} {H0 H H' : Hp} {vo : V} {zs : List (Str × Int)} {cs : List Str} {b b' : Nat} {fs : List V} {rds : List PyData}
theorem PL.next (h : PL K p fq H0 Lc F vo zs cs b H fs rds) (s : Same (del H p) (del H' p)) (F' : FeedAt H' p fq b') : PL K p fq H0 Lc F vo zs cs b' H' fs rds :=
  ⟨h.sm.trans s, F', h.ob.same (tps_same s), (of_del (s _ _ (del_some h.cl h.nc))).1, h.gf.next s, h.nc, h.nfc, h.n0⟩
theorem PL.lay (h : PL K p fq H0 Lc F vo zs cs b H fs rds) (s : Same H H') : PL K p fq H0 Lc F vo zs cs b H' fs rds := h.next (same_del s) (h.fd.same s)
theorem PL.mono (h : PL K p fq H0 Lc F vo zs cs b H fs rds) (hb : b ≤ b') : PL K p fq H0 Lc F vo zs cs b' H fs rds := ⟨h.sm, h.fd.mono hb, h.ob, h.cl, h.gf, h.nc, h.nfc, h.n0⟩
theorem PL.other {L' : Addr} {xs ys : List V} (h : PL K p fq H0 Lc F vo zs cs b H fs rds) (hL : H L' = some (.lst xs)) (np : L' ≠ p) (nq : L' ≠ fq) (n1 : L' ≠ Lc) (n2 : L' ≠ F) (n3 : H0 L' = none) : PL K p fq H0 Lc F vo zs cs b (upd H L' (.lst ys)) fs rds :=
  ⟨fun c o e => by
    obtain ⟨e1, e2⟩ := of_del e
    exact del_some (by rw [upd_ne (ne_of_none e1 n3)]; exact (of_del (h.sm _ _ e)).1) e2, h.fd.upd np nq, h.ob.same (del_lst hL np), by rw [upd_ne (Ne.symm n1)]; exact h.cl, h.gf.other hL np (Ne.symm n2), h.nc, h.nfc, h.n0⟩
theorem PL.push {v : V} {d : PyData} (h : PL K p fq H0 Lc F vo zs cs b H fs rds) (hd : Dp K (del H p) v d) (hn : noL d = true) : PL K p fq H0 Lc F vo zs cs b (upd H F (.lst (fs ++ [v]))) (fs ++ [v]) (rds ++ [d]) :=
  ⟨fun c o e => by
    obtain ⟨e1, e2⟩ := of_del e
    exact del_some (by rw [upd_ne (ne_of_none e1 h.n0)]; exact (of_del (h.sm _ _ e)).1) e2, h.fd.upd h.gf.np h.gf.nq, h.ob.same (del_lst h.gf.at_ h.gf.np), by rw [upd_ne (Ne.symm h.nfc)]; exact h.cl, h.gf.push hd hn, h.nc, h.nfc, h.n0⟩
end
/-- while a routine of it is drawn -/
structure BL (K : PySem.W.Frag) (p fq : Addr) (H0 : Hp) (Lc F Lx Bk : Addr) (vo : V) (zs : List (Str × Int)) (cs : List Str) (xl : List V) (b : Nat) (H : Hp) (fs : List V) (rds : List PyData) (bs : List V) (bds : List PyData) : Prop where
  pl : PL K p fq H0 Lc F vo zs cs b H fs rds
  lx : H Lx = some (.lst xl)
  bk : GL K p fq Bk H bs bds
  xp : Lx ≠ p
  xb : Lx ≠ Bk
  bc : Bk ≠ Lc
  bf : Bk ≠ F
  b0 : H0 Bk = none
section
variable {K : PySem.W.Frag} {p fq Lc F Lx Bk : Addr} {H0 H H' : Hp} {vo : V} {zs : List (Str × Int)} {cs : List Str} {xl : List V} {b b' : Nat} {fs bs : List V} {rds bds : List PyData}
theorem BL.next (h : BL K p fq H0 Lc F Lx Bk vo zs cs xl b H fs rds bs bds) (s : Same (del H p) (del H' p)) (F' : FeedAt H' p fq b') : BL K p fq H0 Lc F Lx Bk vo zs cs xl b' H' fs rds bs bds :=
  ⟨h.pl.next s F', (of_del (s _ _ (del_some h.lx h.xp))).1, h.bk.next s, h.xp, h.xb, h.bc, h.bf, h.b0⟩
theorem BL.lay (h : BL K p fq H0 Lc F Lx Bk vo zs cs xl b H fs rds bs bds) (s : Same H H') : BL K p fq H0 Lc F Lx Bk vo zs cs xl b H' fs rds bs bds := h.next (same_del s) (h.pl.fd.same s)
theorem BL.mono (h : BL K p fq H0 Lc F Lx Bk vo zs cs xl b H fs rds bs bds) (hb : b ≤ b') : BL K p fq H0 Lc F Lx Bk vo zs cs xl b' H fs rds bs bds := ⟨h.pl.mono hb, h.lx, h.bk, h.xp, h.xb, h.bc, h.bf, h.b0⟩
theorem BL.push {v : V} {d : PyData} (h : BL K p fq H0 Lc F Lx Bk vo zs cs xl b H fs rds bs bds) (hd : Dp K (del H p) v d) (hn : noL d = true) : BL K p fq H0 Lc F Lx Bk vo zs cs xl b (upd H Bk (.lst (bs ++ [v]))) fs rds (bs ++ [v]) (bds ++ [d]) :=
  ⟨h.pl.other h.bk.at_ h.bk.np h.bk.nq h.bc h.bf h.b0, by rw [upd_ne h.xb]; exact h.lx, h.bk.push hd hn, h.xp, h.xb, h.bc, h.bf, h.b0⟩
end
theorem cut_ff {r : Int} (h0 : 0 ≤ r) (h1 : r < 3) : ∃ cs : List Str, cutV [V.str "f", V.str "ff"] none (some r) = cs.map V.str ∧ (cs = [] ∨ cs = [("f" : Str)] ∨ cs = [("f" : Str), "ff"]) := by
  have : r = 0 ∨ r = 1 ∨ r = 2 := by omega
  rcases this with rfl | rfl | rfl
  · exact ⟨[], rfl, .inl rfl⟩
  · exact ⟨["f"], rfl, .inr (.inl rfl)⟩
  · exact ⟨["f", "ff"], rfl, .inr (.inr rfl)⟩
theorem cs_ok {cs : List Str} (h : cs = [] ∨ cs = [("f" : Str)] ∨ cs = [("f" : Str), "ff"]) : cs.length ≤ 2 ∧ (∀ c ∈ cs, IsWord c) ∧ ∀ n ∈ cs ++ [("main" : Str)], IsWord n := by
  have hw : ∀ z : Str, z ∈ smallW → IsWord z := fun z hz => smallW_ok hz
  have hf : IsWord "f" := hw _ (by decide +kernel)
  have hff : IsWord "ff" := hw _ (by decide +kernel)
  have hm : IsWord "main" := hw _ (by decide +kernel)
  rcases h with rfl | rfl | rfl
  · exact ⟨by decide, by simp, by simp [hm]⟩
  · exact ⟨by decide, by simp [hf], by simp [hf, hm]⟩
  · exact ⟨by decide, by simp [hf, hff], by simp [hf, hff, hm]⟩
theorem fitsP_snoc : ∀ {Φs : List DP} {ds : List PyData} {Φ : DP} {d : PyData}, fitsP Φs ds → Φ d → fitsP (Φs ++ [Φ]) (ds ++ [d])
  | [], [], _, _, _, h => ⟨h, trivial⟩
  | _ :: _, _ :: _, _, _, h, h2 => ⟨h.1, fitsP_snoc h.2 h2⟩
  | [], _ :: _, _, _, h, _ => h.elim
  | _ :: _, [], _, _, h, _ => h.elim
theorem four_at {a b c d : V} {r : Int} (h0 : 0 ≤ r) (h1 : r < 4) : ∃ v, atI [a, b, c, d] r = some v ∧ (v = a ∨ v = b ∨ v = c ∨ v = d) := by
  have : r = 0 ∨ r = 1 ∨ r = 2 ∨ r = 3 := by omega
  rcases this with rfl | rfl | rfl | rfl
  · exact ⟨a, atI_nat (j := 0) rfl, .inl rfl⟩
  · exact ⟨b, atI_nat (j := 1) rfl, .inr (.inl rfl)⟩
  · exact ⟨c, atI_nat (j := 2) rfl, .inr (.inr (.inl rfl))⟩
  · exact ⟨d, atI_nat (j := 3) rfl, .inr (.inr (.inr rfl))⟩
theorem pq_callO {X : Cx} {K : PySem.W.Frag} {p fq : Addr} {G : L2.St → Hp → Prop} {e : Expr} {E : XK} {zs : List (Str × Int)} {cs : List Str} (h : ∀ σ H, G σ H → σ[0]? = some (some (.ref p)) ∧ (∃ vo, σ[1]? = some (some vo) ∧ ObjsAt K (del H p) vo zs) ∧ ∃ L, σ[2]? = some (some (.ref L)) ∧ del H p L = some (.lst (cs.map V.str)) ∧ cs.length ≤ 4 ∧ ∀ c ∈ cs, IsWord c) (he : PE X e (tCall (spRowB K) [] E (tCons (tVar 0) (tCons (tVar 1) (tCons (tVar 2) tNil))))) : PE X e (tQ K p fq G 40 (RowD zs cs)) :=
  pe_imp he fun σ H Q ⟨b, F, hb, g, q⟩ => by
    obtain ⟨h0, ⟨vo, h1, hO⟩, L, h2, hL, hl, hc⟩ := h σ H g
    exact ⟨_, h0, vo, h1, _, h2, p, fq, L, vo, zs, cs, b, rfl, F, hb, hO, hL, hl, hc, q⟩
section
variable {P : Program} {w : World} {K : PySem.W.Frag} {mg : Str → Option Value} {base : Heap}
/-- a plan: CODE as it is drawn -/
structure PlanAt (K : PySem.W.Frag) (H : Hp) (v : V) (zs : List (Str × Int)) (cs : List Str) (rs : List PyData) : Prop where
  ex : ∃ (C : Addr) (vo vr : V), v = .ref C ∧ SqT K H C [vo, vr] ∧ ObjsAt K H vo zs ∧ Dp K H vr (.tuple rs)
  cs3 : cs = [] ∨ cs = [("f" : Str)] ∨ cs = [("f" : Str), "ff"]
  fits : fitsP ((cs ++ [("main" : Str)]).map (RtnD zs cs)) rs
def spPlan (K : PySem.W.Frag) : Sp := fun vs H Q _ => ∃ (p fq : Addr) (b : Nat), vs = [.ref p] ∧ FeedAt H p fq b ∧ b + 2000 ≤ 100000000 ∧
  ∀ (v : V) (H' : Hp) (zs : List (Str × Int)) (cs : List Str) (rs : List PyData), Same (del H p) (del H' p) → FeedAt H' p fq (b + 2000) → PlanAt K (del H' p) v zs cs rs → Q v H'
theorem sc_plan : FnScope N20 ["_law_feed_here"] (defScope (topS 20)) := ⟨rfl, rfl, rfl, by decide +kernel, rfl, by decide +kernel, by decide +kernel⟩
theorem ok_plan {f f1 f2 f3 f4 : Addr} {fd fd1 fd2 fd3 fd4 : FuncData} (D : Df K mg "_law_plan" (topS 20) ["_law_feed_here"] f fd) (DD : Df K mg "_law_draw" (topS 15) ["_law_feed_here", "_law_many"] f1 fd1) (DB : Df K mg "_law_objects" (topS 16) ["_law_feed_here"] f2 fd2) (DO : Df K mg "_law_operand" (topS 18) ["_law_feed_here"] f3 fd3) (DR : Df K mg "_law_row" (topS 19) ["_law_feed_here", "_law_objects_here", "_law_called"] f4 fd4) (B : Bt mg)
    (GD : FnOk P w K mg base CX0 1 f1 fd1 ["_law_feed_here", "_law_many"] spDraw) (GB : FnOk P w K mg base CX0 2 f2 fd2 ["_law_feed_here"] (spObjsB K)) (GO : FnOk P w K mg base CX0 2 f3 fd3 ["_law_feed_here"] (spG K 2 OperD)) (GR : FnOk P w K mg base CX0 3 f4 fd4 ["_law_feed_here", "_law_objects_here", "_law_called"] (spRowB K)) : FnOk P w K mg base CX0 4 f fd ["_law_feed_here"] (spPlan K) := by
  refine D.fn.ok sc_plan (fun vs H Q E h => ?_) (fun cdv A outer s H vs Q E hr h => ?_)
  · obtain ⟨p, fq, b, rfl, _⟩ := h
    rfl
  obtain ⟨p, fq, b, rfl, hF, hb, q⟩ := h
  have nd := sc_plan.nd
  have hr1 : Room 1 _ := hr.mono (by decide)
  have hr2 : Room 2 _ := hr.mono (by decide)
  have C0 : Stb p (gF p) := ⟨fun h _ => h⟩
  refine ⟨_, pss_cons (ps_set (i := 1) nd rfl (Or.inr rfl) (pe_call GB hr2 (by rfl) DB.gl DB.fn.kp DB.bd .nil pass0 (pa_cons (pv 0) pa_nil)))
    (pss_cons (ps_asg (pe_tup (pa_cons (pe_slice sl_list (pe_lst (pa_cons pe_str (pa_cons pe_str pa_nil))) po_none (po_some (pe_call GD hr1 (by rfl) DD.gl DD.fn.kp DD.bd .nil pass0 (pa_cons (pv 0) (pa_cons pe_int pa_nil))))) (pa_cons (pe_lst pa_nil) pa_nil))) (pg_tup rfl (pgs_cons (pg_name (i := 2) nd rfl (Or.inr rfl)) (pgs_cons (pg_name (i := 3) nd rfl (Or.inl rfl)) pgs_nil))))
    (pss_cons (ps_for PassesOwn.never rfl (pi_list (pe_op op_cat (pv 2) (pe_lst (pa_cons pe_str pa_nil)))) (pg_name (i := 4) nd rfl (Or.inl rfl))
      (pss_cons (ps_par (i := 5) (j := 6) rfl nd rfl rfl (by decide) rfl rfl (pa_cons (pe_op op_add pe_int (pe_call GD hr1 (by rfl) DD.gl DD.fn.kp DD.bd .nil pass0 (pa_cons (pv 0) (pa_cons pe_int pa_nil)))) (pa_cons (pe_lst pa_nil) pa_nil)) (by rfl))
      (C8.pss_cut (ps_for PassesOwn.never rfl (pi_range1 (by rfl) B.range (pa_cons (pv 5) pa_nil)) (pg_name (i := 7) nd rfl (Or.inl rfl))
        (C8.pss_cut (ps_set (i := 8) nd rfl (Or.inl rfl) (pe_callTy call_tuple_of (by rfl) B.tuple (by decide +kernel) (pa_cons (pe_lc (own := [("_law_k", 13)]) (g := gName 13) (tt := tYes) rfl nd (pi_range1 (by rfl) B.range (pa_cons (pe_call GD hr1 (by rfl) DD.gl DD.fn.kp DD.bd .nil pass0 (pa_cons (pv 0) (pa_cons pe_int pa_nil))) pa_nil))
            (blkOk_by (N := N20) (sc := defScope (topS 20)) (by decide +kernel)) (fun _ _ _ _ _ => pg_name (i := 13) nd rfl (Or.inl rfl)) (fun _ _ _ _ _ => pts_nil)
            (fun _ _ _ _ _ => pe_call GR hr (by rfl) DR.gl DR.fn.kp DR.bd .nil pass0 (pa_cons (pv 0) (pa_cons (pv 1) (pa_cons (pv 2) pa_nil))))) pa_nil)))
        (pss_cons (ps_par3 (i := 9) (j := 10) (l := 11) rfl nd rfl rfl rfl (by decide) (by decide) (by decide) rfl rfl rfl (pa_cons (pe_call GD hr1 (by rfl) DD.gl DD.fn.kp DD.bd .nil pass0 (pa_cons (pv 0) (pa_cons pe_int pa_nil))) (pa_cons (pe_call GD hr1 (by rfl) DD.gl DD.fn.kp DD.bd .nil pass0 (pa_cons (pv 0) (pa_cons (pv 5) pa_nil))) (pa_cons (pe_call GD hr1 (by rfl) DD.gl DD.fn.kp DD.bd .nil pass0 (pa_cons (pv 0) (pa_cons (pv 5) pa_nil))) pa_nil))) (by rfl))
        (C8.pss_cut (ps_set (i := 12) nd rfl (Or.inl rfl) (pe_ix ix_list (pe_lst (pa_cons (pe_tup (pa_cons pe_str (pa_cons (pv 10) pa_nil))) (pa_cons (pe_tup (pa_cons pe_str (pa_cons (pe_call GO hr2 (by rfl) DO.gl DO.fn.kp DO.bd .nil pass0 (pa_cons (pv 0) pa_nil)) (pa_cons (pv 10) (pa_cons (pv 11) pa_nil))))) (pa_cons (pe_tup (pa_cons pe_str pa_nil)) (pa_cons (pe_tup (pa_cons pe_str pa_nil)) pa_nil))))) (pv 9) (fun _ _ => rfl)))
        (pss_one (ps_expr (pe_bm PySem.F.plainAttrs_list PySem.F.slot_list_append PySem.F.type_list_append mt_append (pv 6) (pa_cons (pe_tup (pa_cons (pv 8) (pa_cons (pe_ifExp (PW.pt (pw_or (pt_cmpR op_lt (pe_op op_add (pv 7) pe_int) (pv 5) (nomark _)) (pw_or1 (pt_cmpR op_eq (pv 9) pe_int (nomark _))))) (pv 12) (pe_tup (pa_cons pe_str pa_nil))) pa_nil))) pa_nil))))))))
      (pss_one (ps_expr (pe_bm PySem.F.plainAttrs_list PySem.F.slot_list_append PySem.F.type_list_append mt_append (pv 3) (pa_cons (pe_tup (pa_cons (pv 4) (pa_cons (pe_callTy call_tuple_of (by rfl) B.tuple (by decide +kernel) (pa_cons (pv 6) pa_nil)) pa_nil))) pa_nil)))))))
    (pss_one (ps_ret (pe_tup (pa_cons (pv 1) (pa_cons (pe_callTy call_tuple_of (by rfl) B.tuple (by decide +kernel) (pa_cons (pv 3) pa_nil)) pa_nil))))))), ?_⟩
  clear GD DD GB DB GO DO GR DR D B hr hr1 hr2 nd
  refine ⟨_, rfl, p, fq, b, rfl, hF, by omega, fun vo zs H1 hO1 s1 F1 => ?_⟩
  refine ⟨by show 2 ≤ sizeLine; decide, fun L0 hL0 => ?_⟩
  have s2 := same_new (o := .lst [V.str "f", V.str "ff"]) hL0
  have F2 := F1.same s2
  have hL2 : upd H1 L0 (.lst [V.str "f", V.str "ff"]) L0 = some (.lst [V.str "f", V.str "ff"]) := upd_same
  obtain ⟨nL0, _⟩ := F1.ne hL0
  generalize upd H1 L0 (.lst [V.str "f", V.str "ff"]) = H2 at s2 F2 hL2
  refine ⟨_, rfl, p, fq, 3, _, rfl, F2, by omega, by decide, by decide, fun r H3 r0 r1 s3 F3 => ?_⟩
  have hL3 : H3 L0 = some (.lst [V.str "f", V.str "ff"]) := (of_del (s3 _ _ (del_some hL2 nL0))).1
  obtain ⟨cs, ecs, hcs⟩ := cut_ff r0 r1
  obtain ⟨hcl, hcw, hnw⟩ := cs_ok hcs
  refine ⟨r, rfl, L0, _, rfl, SqL.of hL3, fun Lc hLc => ?_⟩
  rw [ecs]
  obtain ⟨nLc, nLcq⟩ := F3.ne hLc
  have s4 := same_new (o := .lst (cs.map V.str)) hLc
  refine ⟨Nat.zero_le _, fun F0 hF0 => ⟨by show 2 ≤ sizeLine; decide, fun T hT => ?_⟩⟩
  have F4 := F3.same s4
  obtain ⟨nF0, nF0q⟩ := F4.ne hF0
  have s5 := same_new (o := .lst []) hF0
  have s6 := same_new (o := .tup [.ref Lc, .ref F0]) hT
  have S6 : Same (del H p) (del (upd (upd (upd H3 Lc (.lst (cs.map V.str))) F0 (.lst [])) T (.tup [.ref Lc, .ref F0])) p) := ((s1.trans (same_del s2)).trans s3).trans (same_del (s4.trans (s5.trans s6)))
  have cl6 : upd (upd (upd H3 Lc (.lst (cs.map V.str))) F0 (.lst [])) T (.tup [.ref Lc, .ref F0]) Lc = some (.lst (cs.map V.str)) := (s5.trans s6) _ _ upd_same
  have f6 : upd (upd (upd H3 Lc (.lst (cs.map V.str))) F0 (.lst [])) T (.tup [.ref Lc, .ref F0]) F0 = some (.lst []) := s6 _ _ upd_same
  have t6 : upd (upd (upd H3 Lc (.lst (cs.map V.str))) F0 (.lst [])) T (.tup [.ref Lc, .ref F0]) T = some (.tup [.ref Lc, .ref F0]) := upd_same
  have F6 := F4.same (s5.trans s6)
  have nFc : F0 ≠ Lc := Ne.symm (ne_of_none (show upd H3 Lc (.lst (cs.map V.str)) Lc = some _ from upd_same) hF0)
  have O6 := ((hO1.same (same_del s2)).same s3).same (same_del (p := p) (s4.trans (s5.trans s6)))
  have n06 : H F0 = none := by
    cases e : H F0 with
    | none => rfl
    | some o =>
      have := (of_del (((s1.trans (same_del s2)).trans s3) _ _ (del_some e nF0))).1
      have := s4 _ _ this
      rw [hF0] at this
      cases this
  generalize upd (upd (upd H3 Lc (.lst (cs.map V.str))) F0 (.lst [])) T (.tup [.ref Lc, .ref F0]) = H6 at S6 cl6 f6 t6 F6 O6
  refine ⟨T, _, rfl, SqT.of t6, rfl, _, _, rfl, _, _, rfl, rfl, ?_⟩
  have P6 : PL K p fq H Lc F0 vo zs cs (b + 21) H6 [] [] := ⟨S6, F6.mono (by omega), O6.tps, cl6, ⟨f6, .nil, nF0, nF0q⟩, nLc, nFc, n06⟩
  clear s1 s2 s3 s4 s5 s6 F1 F2 F3 F4 F6 hL2 hL3 S6 cl6 f6 t6 O6 hF0 hLc hT hL0 ecs hO1 nL0
  -- the routines
  refine ⟨_, rfl, by show 1 ≤ sizeLine; decide, fun M hM => ?_⟩
  have sM := same_new (o := .lst [V.str "main"]) hM
  refine ⟨Lc, M, _, _, rfl, rfl, sM _ _ P6.cl, upd_same, Nat.le_of_lt (small1000 (by rw [List.length_map]; show cs.length + 1 ≤ 1000; omega)), fun Lx hLx => ?_⟩
  have sX := same_new (o := .lst (cs.map V.str ++ [V.str "main"])) hLx
  have P7 := P6.lay (sM.trans sX)
  have x7 : upd (upd H6 M (.lst [V.str "main"])) Lx (.lst (cs.map V.str ++ [V.str "main"])) Lx = some (.lst (cs.map V.str ++ [V.str "main"])) := upd_same
  obtain ⟨nXp, nXq⟩ := (P6.fd.same sM).ne hLx
  have nXF : Lx ≠ F0 := fun z => by
    have h1 := sM _ _ P6.gf.at_
    rw [← z, hLx] at h1
    cases h1
  generalize upd (upd H6 M (.lst [V.str "main"])) Lx (.lst (cs.map V.str ++ [V.str "main"])) = H7 at P7 x7
  clear sM sX P6 hLx hM
  have exl : cs.map V.str ++ [V.str "main"] = (cs ++ [("main" : Str)]).map V.str := by rw [List.map_append]; rfl
  refine ⟨Lx, rfl, ⟨_, SqL.of x7⟩, for_it (walk_list (xs := cs.map V.str ++ [V.str "main"])) (fun n σ H' => ∃ (fs : List V) (rds : List PyData) (x4 x5 x6 x7 x8 x9 x10 x11 x12 : Option V), σ = [some (.ref p), some vo, some (.ref Lc), some (.ref F0), x4, x5, x6, x7, x8, x9, x10, x11, x12, none] ∧ PL K p fq H Lc F0 vo zs cs (b + 21 + 450 * n) H' fs rds ∧ H' Lx = some (.lst (cs.map V.str ++ [V.str "main"])) ∧ rds.length = n ∧ fitsP (((cs ++ [("main" : Str)]).take n).map (RtnD zs cs)) rds)
    ⟨[], [], _, _, _, _, _, _, _, _, _, rfl, P7, x7, rfl, trivial⟩ (fun n σ H' _ h => ?_) ?_ ?_⟩
  · obtain ⟨fs, rds, x4, x5, x6, x7', x8, x9, x10, x11, x12, _, _, hx, _⟩ := h
    exact SqL.of hx
  · rintro n x σ H8 H9 hn ⟨fs, rds, x4, x5, x6, x7', x8, x9, x10, x11, x12, rfl, P8, hx8, hl8, hf8⟩ ⟨rfl, hxn⟩
    have hn4 : n ≤ 3 := by rw [exl, List.length_map, List.length_append] at hn; have : [("main" : Str)].length = 1 := rfl; omega
    obtain ⟨nme, hnme, rfl⟩ : ∃ nme : Str, (cs ++ [("main" : Str)])[n]? = some nme ∧ x = .str nme := by
      rw [exl, List.getElem?_map] at hxn
      cases e : (cs ++ [("main" : Str)])[n]? with
      | none => rw [e] at hxn; cases hxn
      | some z => rw [e] at hxn; exact ⟨z, rfl, (Option.some.inj hxn).symm⟩
    refine ⟨_, rfl, p, fq, 3, _, rfl, P8.fd, by omega, by decide, by decide, fun r9 H10 a0 a1 s10 F10 => ⟨_, _, rfl, rfl, Nat.zero_le _, fun Bk hBk => ⟨_, _, rfl, ?_⟩⟩⟩
    have P10 := P8.next s10 F10
    have hx10 := (of_del (s10 _ _ (del_some hx8 nXp))).1
    have sB := same_new (o := .lst []) hBk
    obtain ⟨nBp, nBq⟩ := P10.fd.ne hBk
    have B0 : BL K p fq H Lc F0 Lx Bk vo zs cs (cs.map V.str ++ [V.str "main"]) (b + 21 + 450 * n + 1) (upd H10 Bk (.lst [])) fs rds [] [] := by
      refine ⟨P10.lay sB, sB _ _ hx10, ⟨upd_same, .nil, nBp, nBq⟩, nXp, fun z => ?_, fun z => ?_, fun z => ?_, ?_⟩
      · rw [← z, hx10] at hBk; cases hBk
      · rw [z, P10.cl] at hBk; cases hBk
      · rw [z, P10.gf.at_] at hBk; cases hBk
      · cases e : H Bk with
        | none => rfl
        | some o =>
          have := (of_del (P10.sm _ _ (del_some e nBp))).1
          rw [hBk] at this
          cases this
    generalize upd H10 Bk (.lst []) = H11 at B0
    clear P10 hx10 sB nBp nBq hBk s10 F10 P8 hx8
    refine ⟨fun σ H' => ∃ (bs : List V) (bds : List PyData) (x7 x8 x9 x10 x11 x12 : Option V), σ = [some (.ref p), some vo, some (.ref Lc), some (.ref F0), some (.str nme), some (.int (1 + r9)), some (.ref Bk), x7, x8, x9, x10, x11, x12, none] ∧ BL K p fq H Lc F0 Lx Bk vo zs cs (cs.map V.str ++ [V.str "main"]) (b + 21 + 450 * n + 1 + 420) H' fs rds bs bds ∧ (bds.length : Int) = 1 + r9 ∧ ∀ d ∈ bds, BlkD zs cs (1 + r9) d, ?_, ?_⟩
    · refine ⟨_, rfl, 1 + r9, rfl, by omega, by omega, for_range (lo := 0) (n := (1 + r9).toNat) (fun j σ H' => ∃ (bs : List V) (bds : List PyData) (x7 x8 x9 x10 x11 x12 : Option V), σ = [some (.ref p), some vo, some (.ref Lc), some (.ref F0), some (.str nme), some (.int (1 + r9)), some (.ref Bk), x7, x8, x9, x10, x11, x12, none] ∧ BL K p fq H Lc F0 Lx Bk vo zs cs (cs.map V.str ++ [V.str "main"]) (b + 21 + 450 * n + 1 + 140 * j) H' fs rds bs bds ∧ bds.length = j ∧ ∀ d ∈ bds, BlkD zs cs (1 + r9) d)
        ⟨[], [], _, _, _, _, _, _, rfl, B0, rfl, by simp⟩ ?_ ?_⟩
      rotate_left
      · rintro σ H12 ⟨bs, bds, x7, x8, x9, x10, x11, x12, rfl, B12, hl12, hd12⟩
        exact ⟨bs, bds, _, _, _, _, _, _, rfl, B12.mono (by omega), by omega, hd12⟩
      rintro j σ H12 hj ⟨bs, bds, x7, x8, x9, x10, x11, x12, rfl, B12, hl12, hd12⟩
      -- rows
      refine ⟨fun σ H' => ∃ (vr : V) (rows : List PyData) , σ = [some (.ref p), some vo, some (.ref Lc), some (.ref F0), some (.str nme), some (.int (1 + r9)), some (.ref Bk), some (.int (0 + (j : Int))), some vr, x9, x10, x11, x12, none] ∧ BL K p fq H Lc F0 Lx Bk vo zs cs (cs.map V.str ++ [V.str "main"]) (b + 21 + 450 * n + 1 + 140 * j + 121) H' fs rds bs bds ∧ Dp K (del H' p) vr (.tuple rows) ∧ rows.length ≤ 3 ∧ ∀ r ∈ rows, RowD zs cs r, ?_, ?_⟩
      · refine ⟨_, rfl, p, fq, 4, _, rfl, B12.pl.fd, by omega, by decide, by decide, fun rk H13 k0 k1 s13 F13 => ⟨rk, rfl, by omega, by omega, fun D2 hD2 => ?_⟩⟩
        have B13 := B12.next s13 F13
        obtain ⟨nDp, nDq⟩ := B13.pl.fd.ne hD2
        refine lc_it walk_range (fun i H' => ∃ (vs2 : List V) (ds2 : List PyData), Same (del H13 p) (del H' p) ∧ FeedAt H' p fq (b + 21 + 450 * n + 1 + 140 * j + 1 + 40 * i) ∧ GL K p fq D2 H' vs2 ds2 ∧ ds2.length = i ∧ ∀ r ∈ ds2, RowD zs cs r)
          ⟨[], [], same_del (same_new hD2), (F13.same (same_new hD2)).mono (by omega), ⟨upd_same, .nil, nDp, nDq⟩, rfl, by simp⟩ (fun _ _ _ _ => trivial) ?_ ?_
        · rintro i y H14 H15 hi ⟨vs2, ds2, s14, F14, g14, hl14, hd14⟩ ⟨rfl, rfl⟩
          refine ⟨rfl, ?_⟩
          unfold tYes
          dsimp only
          rw [if_pos rfl]
          have B14 := B13.next s14 F14
          have hi3 : i < 3 := by omega
          refine ⟨_, rfl, _, rfl, _, rfl, p, fq, Lc, vo, zs, cs, _, rfl, F14, by omega, B14.pl.ob.same tps_sub, del_some B14.pl.cl B14.pl.nc, by omega, hcw, fun v H16 d s16 F16 dd hd => ?_⟩
          have g16 := g14.next s16
          have lv := DpAll_len g16.dat
          refine ⟨vs2, g16.at_, small1000 (by omega), vs2 ++ [v], ds2 ++ [d], fun c o e => ?_, (F16.upd nDp nDq).mono (by omega), g16.push dd hd.noL, by rw [List.length_append, hl14]; rfl, fun r hr => ?_⟩
          · obtain ⟨e1, e2⟩ := of_del e
            have nc : c ≠ D2 := ne_of_none e1 hD2
            exact del_some (by rw [upd_ne nc]; exact (of_del ((s14.trans s16) _ _ e)).1) e2
          · rcases List.mem_append.mp hr with hr | hr
            · exact hd14 r hr
            · rw [List.mem_singleton.mp hr]; exact hd
        · rintro H14 ⟨vs2, ds2, s14, F14, g14, hl14, hd14⟩
          have B14 := B13.next s14 F14
          refine ⟨D2, vs2, rfl, .inl ⟨SqL.of g14.at_, fun T1 hT1 => ?_⟩⟩
          have t1 := same_new (o := .tup vs2) hT1
          have B15 := B14.lay t1
          exact ⟨.ref T1, ds2, rfl, B15.mono (by omega), .tup (SqT.of (del_some upd_same (B14.pl.fd.ne hT1).1)) (DpAll_same (tps_sub.trans (same_del t1)) g14.dat), by omega, hd14⟩
      rintro σ H13 ⟨vr, rows, rfl, B13, dr13, hl13, hr13⟩
      -- way, one, other
      refine ⟨_, rfl, p, fq, 4, _, rfl, B13.pl.fd, by omega, by decide, by decide, fun w1 H14 w10 w11 s14 F14 => ⟨_, rfl, _, rfl, p, fq, 1 + r9, _, rfl, F14, by omega, by omega, by omega, fun w2 H15 w20 w21 s15 F15 => ⟨_, rfl, _, rfl, p, fq, 1 + r9, _, rfl, F15, by omega, by omega, by omega, fun w3 H16 w30 w31 s16 F16 => ⟨_, _, _, rfl, ?_⟩⟩⟩⟩
      have s136 := (s14.trans s15).trans s16
      have B16 := B13.next s136 F16
      have dr16 := Dp_same s136 dr13
      clear s14 s15 s16 F14 F15 F16 s136 dr13 B13
      -- end
      refine ⟨fun σ H' => ∃ (ve : V) (de : PyData), σ = [some (.ref p), some vo, some (.ref Lc), some (.ref F0), some (.str nme), some (.int (1 + r9)), some (.ref Bk), some (.int (0 + (j : Int))), some vr, some (.int w1), some (.int w2), some (.int w3), some ve, none] ∧ BL K p fq H Lc F0 Lx Bk vo zs cs (cs.map V.str ++ [V.str "main"]) (b + 21 + 450 * n + 1 + 140 * j + 126) H' fs rds bs bds ∧ Dp K (del H' p) vr (.tuple rows) ∧ Dp K (del H' p) ve de ∧ EndD (1 + r9) de, ?_, ?_⟩
      · refine ⟨_, rfl, by show 2 ≤ sizeLine; decide, fun T1 hT1 => ?_⟩
        have t1 := same_new (o := .tup [.str (Str.ofString "go"), .int w2]) hT1
        have B17 := B16.lay t1
        have e17 : del (upd H16 T1 (.tup [.str (Str.ofString "go"), .int w2])) p T1 = some (.tup [.str (Str.ofString "go"), .int w2]) := del_some upd_same (B16.pl.fd.ne hT1).1
        generalize upd H16 T1 (.tup [.str (Str.ofString "go"), .int w2]) = H17 at t1 B17 e17
        refine ⟨_, rfl, p, fq, _, rfl, B17.pl.fd, by omega, fun va H18 da s18 F18 dda ha => ?_⟩
        have B18 := B17.next s18 F18
        have e18 := s18 _ _ e17
        refine ⟨_, rfl, _, rfl, by show 4 ≤ sizeLine; decide, fun T2 hT2 => ?_⟩
        have t2 := same_new (o := .tup [.str (Str.ofString "if"), va, .int w2, .int w3]) hT2
        have B19 := B18.lay t2
        have e19 : del (upd H18 T2 (.tup [.str (Str.ofString "if"), va, .int w2, .int w3])) p T2 = some (.tup [.str (Str.ofString "if"), va, .int w2, .int w3]) := del_some upd_same (B18.pl.fd.ne hT2).1
        generalize upd H18 T2 (.tup [.str (Str.ofString "if"), va, .int w2, .int w3]) = H19 at t2 B19 e19
        refine ⟨by show 1 ≤ sizeLine; decide, fun T3 hT3 => ?_⟩
        have t3 := same_new (o := .tup [.str (Str.ofString "back")]) hT3
        have B20 := B19.lay t3
        have e20 : del (upd H19 T3 (.tup [.str (Str.ofString "back")])) p T3 = some (.tup [.str (Str.ofString "back")]) := del_some upd_same (B19.pl.fd.ne hT3).1
        generalize upd H19 T3 (.tup [.str (Str.ofString "back")]) = H20 at t3 B20 e20
        refine ⟨by show 1 ≤ sizeLine; decide, fun T4 hT4 => ?_⟩
        have t4 := same_new (o := .tup [.str (Str.ofString "back")]) hT4
        have B21 := B20.lay t4
        have e21 : del (upd H20 T4 (.tup [.str (Str.ofString "back")])) p T4 = some (.tup [.str (Str.ofString "back")]) := del_some upd_same (B20.pl.fd.ne hT4).1
        generalize upd H20 T4 (.tup [.str (Str.ofString "back")]) = H21 at t4 B21 e21
        refine ⟨by show 4 ≤ sizeLine; decide, fun L5 hL5 => ?_⟩
        have t5 := same_new (o := .lst [.ref T1, .ref T2, .ref T3, .ref T4]) hL5
        have B22 := B21.lay t5
        obtain ⟨vx, hat, hvx⟩ := four_at (a := V.ref T1) (b := V.ref T2) (c := V.ref T3) (d := V.ref T4) w10 w11
        have k4 := same_del (p := p) t5
        have k3 := (same_del (p := p) t4).trans k4
        have k2 := (same_del (p := p) t3).trans k3
        have k1 := (same_del (p := p) t2).trans k2
        refine ⟨_, rfl, L5, _, _, vx, rfl, rfl, SqL.of upd_same, hat, ?_⟩
        have dr22 := Dp_same (((same_del (p := p) t1).trans s18).trans k1) dr16
        generalize upd H21 L5 (.lst [.ref T1, .ref T2, .ref T3, .ref T4]) = H22 at t5 B22 k4 k3 k2 k1 dr22
        rcases hvx with rfl | rfl | rfl | rfl
        · exact ⟨_, _, rfl, B22.mono (by omega), dr22, .tup (SqT.of (k1 _ _ e18)) (.cons (.str _) (.cons (.int _) .nil)), .inl ⟨w2, w20, w21, rfl⟩⟩
        · exact ⟨_, _, rfl, B22.mono (by omega), dr22, .tup (SqT.of (k2 _ _ e19)) (.cons (.str _) (.cons (Dp_same k1 dda) (.cons (.int _) (.cons (.int _) .nil)))), .inr (.inl ⟨da, w2, w3, ha, w20, w21, w30, w31, rfl⟩)⟩
        · exact ⟨_, _, rfl, B22.mono (by omega), dr22, .tup (SqT.of (k3 _ _ e20)) (.cons (.str _) .nil), .inr (.inr rfl)⟩
        · exact ⟨_, _, rfl, B22.mono (by omega), dr22, .tup (SqT.of (k4 _ _ e21)) (.cons (.str _) .nil), .inr (.inr rfl)⟩
      rintro σ H17 ⟨ve, de, rfl, B17, dr17, dd17, hd17⟩
      clear B16 dr16 B12
      have fin : ∀ (v : V) (d : PyData) (H' : Hp), Same H17 H' → Dp K (del H' p) v d → EndD (1 + r9) d → ∀ T, H' T = none → ∃ l xs y, V.ref Bk = .ref l ∧ [V.ref T] = [y] ∧ upd H' T (.tup [vr, v]) l = some (.lst xs) ∧ xs.length < sizeLine ∧ (fun σ H' => ∃ (bs : List V) (bds : List PyData) (x7 x8 x9 x10 x11 x12 : Option V), σ = [some (.ref p), some vo, some (.ref Lc), some (.ref F0), some (.str nme), some (.int (1 + r9)), some (.ref Bk), x7, x8, x9, x10, x11, x12, none] ∧ BL K p fq H Lc F0 Lx Bk vo zs cs (cs.map V.str ++ [V.str "main"]) (b + 21 + 450 * n + 1 + 140 * (j + 1)) H' fs rds bs bds ∧ bds.length = j + 1 ∧ ∀ d ∈ bds, BlkD zs cs (1 + r9) d) [some (.ref p), some vo, some (.ref Lc), some (.ref F0), some (.str nme), some (.int (1 + r9)), some (.ref Bk), some (.int (0 + (j : Int))), some vr, some (.int w1), some (.int w2), some (.int w3), some ve, none] (upd (upd H' T (.tup [vr, v])) l (.lst (xs ++ [y]))) := fun v d H' sH dd he T hT => by
        have B18 := B17.lay sH
        have t1 := same_new (o := .tup [vr, v]) hT
        have B19 := B18.lay t1
        have dT : Dp K (del (upd H' T (.tup [vr, v])) p) (.ref T) (.tuple [.tuple rows, d]) := .tup (SqT.of (del_some upd_same (B18.pl.fd.ne hT).1)) (.cons (Dp_same ((same_del sH).trans (same_del t1)) dr17) (.cons (Dp_same (same_del t1) dd) .nil))
        have hB : BlkD zs cs (1 + r9) (.tuple [.tuple rows, d]) := ⟨rows, d, rfl, hl13, hr13, he⟩
        have lb := DpAll_len B19.bk.dat
        refine ⟨Bk, bs, .ref T, rfl, rfl, B19.bk.at_, small1000 (by omega), _, _, _, _, _, _, _, _, rfl, (B19.push dT hB.noL).mono (by omega), by rw [List.length_append, hl12]; rfl, fun d' hd' => ?_⟩
        rcases List.mem_append.mp hd' with hd' | hd'
        · exact hd12 d' hd'
        · rw [List.mem_singleton.mp hd']; exact hB
      refine ⟨_, rfl, .inl ⟨rfl, _, SqL.of B17.bk.at_⟩, _, rfl, _, rfl, _, _, rfl, rfl, _, rfl, _, _, rfl, rfl, _, rfl, ?_⟩
      refine ite2 (fun _ => ?_) (fun _ => ?_)
      · exact ⟨_, rfl, by show 2 ≤ sizeLine; decide, fun T hT => fin ve de H17 (Same.refl _) dd17 hd17 T hT⟩
      · refine ⟨_, rfl, rfl, _, rfl, ?_⟩
        refine ite2 (fun _ => ?_) (fun _ => ?_)
        · exact ⟨_, rfl, by show 2 ≤ sizeLine; decide, fun T hT => fin ve de H17 (Same.refl _) dd17 hd17 T hT⟩
        · refine ⟨by show 1 ≤ sizeLine; decide, fun T1 hT1 => ⟨by show 2 ≤ sizeLine; decide, fun T hT => fin (.ref T1) _ _ (same_new hT1) (.tup (SqT.of (del_some upd_same (B17.pl.fd.ne hT1).1)) (.cons (.str _) .nil)) (.inr (.inr rfl)) T hT⟩⟩
    rintro σ H12 ⟨bs, bds, x7, x8, x9, x10, x11, x12, rfl, B12, hl12, hd12⟩
    have lbs := DpAll_len B12.bk.dat
    refine ⟨_, rfl, .inl ⟨rfl, _, SqL.of B12.pl.gf.at_⟩, _, rfl, _, rfl, Bk, bs, rfl, .inl ⟨SqL.of B12.bk.at_, fun T1 hT1 => ⟨by show 2 ≤ sizeLine; decide, fun T2 hT2 => ?_⟩⟩⟩
    have t1 := same_new (o := .tup bs) hT1
    have B13 := B12.lay t1
    have e13 : del (upd H12 T1 (.tup bs)) p T1 = some (.tup bs) := del_some upd_same (B12.pl.fd.ne hT1).1
    generalize upd H12 T1 (.tup bs) = H13 at t1 B13 e13 hT2
    have t2 := same_new (o := .tup [.str nme, .ref T1]) hT2
    have B14 := B13.lay t2
    have dT : Dp K (del (upd H13 T2 (.tup [.str nme, .ref T1])) p) (.ref T2) (.tuple [.str nme, .tuple bds]) := .tup (SqT.of (del_some upd_same (B13.pl.fd.ne hT2).1)) (.cons (.str _) (.cons (.tup (SqT.of (same_del t2 _ _ e13)) (DpAll_same tps_sub B14.bk.dat)) .nil))
    have hR : RtnD zs cs nme (.tuple [.str nme, .tuple bds]) := ⟨bds, rfl, by omega, by omega, fun d hd => by rw [hl12]; exact hd12 d hd⟩
    have lfs := DpAll_len B14.pl.gf.dat
    refine ⟨F0, fs, .ref T2, rfl, rfl, B14.pl.gf.at_, small1000 (by omega), _, _, _, _, _, _, _, _, _, _, _, rfl, (B14.pl.push dT hR.noL).mono (by omega), ?_, by rw [List.length_append, hl8]; rfl, ?_⟩
    · rw [upd_ne nXF]
      exact B14.lx
    · rw [List.take_succ, hnme]
      show fitsP ((((cs ++ [("main" : Str)]).take n) ++ [nme]).map (RtnD zs cs)) _
      rw [List.map_append]
      exact fitsP_snoc hf8 hR
  · rintro σ H8 ⟨fs, rds, x4, x5, x6, x7', x8, x9, x10, x11, x12, rfl, P8, hx8, hl8, hf8⟩
    rw [exl, List.length_map, List.take_length] at hf8
    have lfs := DpAll_len P8.gf.dat
    refine ⟨_, rfl, _, rfl, F0, fs, rfl, .inl ⟨SqL.of P8.gf.at_, fun T1 hT1 => ⟨by show 2 ≤ sizeLine; decide, fun T2 hT2 => ?_⟩⟩⟩
    have t1 := same_new (o := .tup fs) hT1
    have P9 := P8.lay t1
    have e9 : del (upd H8 T1 (.tup fs)) p T1 = some (.tup fs) := del_some upd_same (P8.fd.ne hT1).1
    generalize upd H8 T1 (.tup fs) = H9 at t1 P9 e9 hT2
    have t2 := same_new (o := .tup [vo, .ref T1]) hT2
    have P10 := P9.lay t2
    have hlen : (cs.map V.str ++ [V.str "main"]).length = cs.length + 1 := by rw [exl, List.length_map, List.length_append]; rfl
    refine q (.ref T2) _ zs cs rds P10.sm (P10.fd.mono (by omega)) ⟨⟨T2, vo, .ref T1, rfl, SqT.of (del_some upd_same (P9.fd.ne hT2).1), P10.ob.same tps_sub, .tup (SqT.of (same_del t2 _ _ e9)) (DpAll_same tps_sub P10.gf.dat)⟩, hcs, hf8⟩
end
end Sw
set_option maxRecDepth 100000
set_option maxHeartbeats 4000000
namespace Sw
open PySem PySem.Spec PyProof.Rows L2
/-- names and cells with numbers, as data -/
def knD (x : Str × Int) : PyData := .tuple [.str x.1, .int x.2]
def clD (x : (Str × Int) × Int) : PyData := .tuple [.tuple [.str x.1.1, .int x.1.2], .int x.2]
def nms : List Str := ["i", "j", "q", "x"]
structure StartD (zs : List (Str × Int)) (ks : List (Str × Int)) (ss : List ((Str × Int) × Int)) : Prop where
  kn : (ks.map (·.1)).Sublist nms
  kb : ∀ x ∈ ks, x.2.natAbs ≤ 1000000000
  cl : (ss.map (·.1)).Sublist (cellsL zs)
  cb : ∀ x ∈ ss, x.2.natAbs ≤ 10
theorem knD_noL (x : Str × Int) : noL (knD x) = true := rfl
theorem clD_noL (x : (Str × Int) × Int) : noL (clD x) = true := rfl
theorem five_at {r : Int} (h0 : 0 ≤ r) (h1 : r < 5) : ∃ i : Int, atI [V.int 0, V.int 1, V.int 2, V.int (-1), V.int (10 ^ (9 : Int).toNat)] r = some (.int i) ∧ i.natAbs ≤ 1000000000 := by
  have : r = 0 ∨ r = 1 ∨ r = 2 ∨ r = 3 ∨ r = 4 := by omega
  rcases this with rfl | rfl | rfl | rfl | rfl
  · exact ⟨0, atI_nat (j := 0) rfl, by decide⟩
  · exact ⟨1, atI_nat (j := 1) rfl, by decide⟩
  · exact ⟨2, atI_nat (j := 2) rfl, by decide⟩
  · exact ⟨-1, atI_nat (j := 3) rfl, by decide⟩
  · exact ⟨10 ^ (9 : Int).toNat, atI_nat (j := 4) rfl, by decide⟩
structure BG (K : PySem.W.Frag) (p fq : Addr) (H0 : Hp) (A1 A2 : Addr) (vo : V) (zs : List (Str × Int)) (b : Nat) (H : Hp) (v1 v2 : List V) (ks : List (Str × Int)) (ss : List ((Str × Int) × Int)) : Prop where
  sm : Same (del H0 p) (del H p)
  fd : FeedAt H p fq b
  ob : ObjsAt K (tps (del H p)) vo zs
  g1 : GL K p fq A1 H v1 (ks.map knD)
  g2 : GL K p fq A2 H v2 (ss.map clD)
  ne : A1 ≠ A2
  n1 : H0 A1 = none
  n2 : H0 A2 = none
section
variable {K : PySem.W.Frag} {p fq A1 A2 : Addr} {H0 H H' : Hp} {vo : V} {zs : List (Str × Int)} {b b' : Nat} {v1 v2 : List V} {ks : List (Str × Int)} {ss : List ((Str × Int) × Int)}
theorem BG.next (h : BG K p fq H0 A1 A2 vo zs b H v1 v2 ks ss) (s : Same (del H p) (del H' p)) (F' : FeedAt H' p fq b') : BG K p fq H0 A1 A2 vo zs b' H' v1 v2 ks ss := ⟨h.sm.trans s, F', h.ob.same (tps_same s), h.g1.next s, h.g2.next s, h.ne, h.n1, h.n2⟩
theorem BG.lay (h : BG K p fq H0 A1 A2 vo zs b H v1 v2 ks ss) (s : Same H H') : BG K p fq H0 A1 A2 vo zs b H' v1 v2 ks ss := h.next (same_del s) (h.fd.same s)
theorem BG.mono (h : BG K p fq H0 A1 A2 vo zs b H v1 v2 ks ss) (hb : b ≤ b') : BG K p fq H0 A1 A2 vo zs b' H v1 v2 ks ss := ⟨h.sm, h.fd.mono hb, h.ob, h.g1, h.g2, h.ne, h.n1, h.n2⟩
theorem BG.push1 {v : V} {x : Str × Int} (h : BG K p fq H0 A1 A2 vo zs b H v1 v2 ks ss) (hd : Dp K (del H p) v (knD x)) : BG K p fq H0 A1 A2 vo zs b (upd H A1 (.lst (v1 ++ [v]))) (v1 ++ [v]) v2 (ks ++ [x]) ss :=
  ⟨fun c o e => by
    obtain ⟨e1, e2⟩ := of_del e
    exact del_some (by rw [upd_ne (ne_of_none e1 h.n1)]; exact (of_del (h.sm _ _ e)).1) e2, h.fd.upd h.g1.np h.g1.nq, h.ob.same (del_lst h.g1.at_ h.g1.np), by rw [List.map_append]; exact h.g1.push hd (knD_noL x), h.g2.other h.g1.at_ h.g1.np (Ne.symm h.ne), h.ne, h.n1, h.n2⟩
theorem BG.push2 {v : V} {x : (Str × Int) × Int} (h : BG K p fq H0 A1 A2 vo zs b H v1 v2 ks ss) (hd : Dp K (del H p) v (clD x)) : BG K p fq H0 A1 A2 vo zs b (upd H A2 (.lst (v2 ++ [v]))) v1 (v2 ++ [v]) ks (ss ++ [x]) :=
  ⟨fun c o e => by
    obtain ⟨e1, e2⟩ := of_del e
    exact del_some (by rw [upd_ne (ne_of_none e1 h.n2)]; exact (of_del (h.sm _ _ e)).1) e2, h.fd.upd h.g2.np h.g2.nq, h.ob.same (del_lst h.g2.at_ h.g2.np), h.g1.other h.g2.at_ h.g2.np h.ne, by rw [List.map_append]; exact h.g2.push hd (clD_noL x), h.ne, h.n1, h.n2⟩
end
section
variable {P : Program} {w : World} {K : PySem.W.Frag} {mg : Str → Option Value} {base : Heap}
def spBegin (K : PySem.W.Frag) : Sp := fun vs H Q _ => ∃ (p fq : Addr) (vp : V) (zs : List (Str × Int)) (cs : List Str) (rs : List PyData) (b : Nat), vs = [.ref p, vp] ∧ FeedAt H p fq b ∧ b + 60 ≤ 100000000 ∧ PlanAt K (del H p) vp zs cs rs ∧
  (∀ H', Same (del H p) (del H' p) → FeedAt H' p fq (b + 60) → Q .non H') ∧
  ∀ (v : V) (H' : Hp) (ks : List (Str × Int)) (ss : List ((Str × Int) × Int)), Same (del H p) (del H' p) → FeedAt H' p fq (b + 60) → Dp K (del H' p) v (.tuple [.tuple (ks.map knD), .tuple (ss.map clD)]) → StartD zs ks ss → (∃ a, v = .ref a) → Q v H'
abbrev N21 : List Str := ["_law_feed_here", "_law_plan_here", "_law_known", "_law_stored_now", "_law_own", "_law_size", "_law_k"]
theorem sc_begin : FnScope N21 ["_law_feed_here", "_law_plan_here"] (defScope (topS 21)) := ⟨rfl, rfl, rfl, by decide +kernel, rfl, by decide +kernel, by decide +kernel⟩
theorem ok_begin {f f1 : Addr} {fd fd1 : FuncData} (D : Df K mg "_law_beginning" (topS 21) ["_law_feed_here", "_law_plan_here"] f fd) (DD : Df K mg "_law_draw" (topS 15) ["_law_feed_here", "_law_many"] f1 fd1) (B : Bt mg)
    (GD : FnOk P w K mg base CX0 1 f1 fd1 ["_law_feed_here", "_law_many"] spDraw) : FnOk P w K mg base CX0 2 f fd ["_law_feed_here", "_law_plan_here"] (spBegin K) := by
  refine D.fn.ok sc_begin (fun vs H Q E h => ?_) (fun cdv A outer s H vs Q E hr h => ?_)
  · obtain ⟨p, fq, vp, zs, cs, rs, b, rfl, _⟩ := h
    rfl
  obtain ⟨p, fq, vp, zs, cs, rs, b, rfl, hF, hb, hP, qn, q⟩ := h
  have nd := sc_begin.nd
  refine ⟨_, pss_cons (ps_if (pt_cmpR op_eq (pe_call GD hr (by rfl) DD.gl DD.fn.kp DD.bd .nil pass0 (pa_cons (pv 0) (pa_cons pe_int pa_nil))) pe_int (nomark _)) (pss_one (ps_ret pe_non)) pss_nil)
    (pss_cons (ps_par (i := 2) (j := 3) rfl nd rfl rfl (by decide) rfl rfl (pa_cons (pe_lst pa_nil) (pa_cons (pe_lst pa_nil) pa_nil)) (by rfl))
    (C8.pss_cut (ps_for PassesOwn.never rfl (pi_tup (pe_tup (pa_cons pe_str (pa_cons pe_str (pa_cons pe_str (pa_cons pe_str pa_nil)))))) (pg_name (i := 4) nd rfl (Or.inl rfl))
      (pss_one (ps_if (pt_cmpR op_eq (pe_call GD hr (by rfl) DD.gl DD.fn.kp DD.bd .nil pass0 (pa_cons (pv 0) (pa_cons pe_int pa_nil))) pe_int (nomark _))
        (pss_one (ps_expr (pe_bm PySem.F.plainAttrs_list PySem.F.slot_list_append PySem.F.type_list_append mt_append (pv 2) (pa_cons (pe_tup (pa_cons (pv 4) (pa_cons (pe_ix ix_list (pe_lst (pa_cons pe_int (pa_cons pe_int (pa_cons pe_int (pa_cons (pe_un un_neg pe_int) (pa_cons (pe_op op_pow pe_int pe_int) pa_nil)))))) (pe_call GD hr (by rfl) DD.gl DD.fn.kp DD.bd .nil pass0 (pa_cons (pv 0) (pa_cons pe_int pa_nil))) (fun _ _ => rfl)) pa_nil))) pa_nil)))) pss_nil)))
    (pss_cons (ps_for PassesOwn.never rfl (pi_tup (pe_ix ix_tup (pv 1) pe_int (fun _ _ => rfl))) (pg_tup rfl (pgs_cons (pg_name (i := 4) nd rfl (Or.inl rfl)) (pgs_cons (pg_name (i := 5) nd rfl (Or.inl rfl)) pgs_nil)))
      (pss_one (ps_for PassesOwn.never rfl (pi_range1 (by rfl) B.range (pa_cons (pv 5) pa_nil)) (pg_name (i := 6) nd rfl (Or.inl rfl))
        (pss_one (ps_if (pt_cmpR op_eq (pe_call GD hr (by rfl) DD.gl DD.fn.kp DD.bd .nil pass0 (pa_cons (pv 0) (pa_cons pe_int pa_nil))) pe_int (nomark _))
          (pss_one (ps_expr (pe_bm PySem.F.plainAttrs_list PySem.F.slot_list_append PySem.F.type_list_append mt_append (pv 3) (pa_cons (pe_tup (pa_cons (pe_tup (pa_cons (pv 4) (pa_cons (pv 6) pa_nil))) (pa_cons (pe_op op_sub (pe_call GD hr (by rfl) DD.gl DD.fn.kp DD.bd .nil pass0 (pa_cons (pv 0) (pa_cons pe_int pa_nil))) pe_int) pa_nil))) pa_nil)))) pss_nil)))))
    (pss_one (ps_ret (pe_tup (pa_cons (pe_callTy call_tuple_of (by rfl) B.tuple (by decide +kernel) (pa_cons (pv 2) pa_nil)) (pa_cons (pe_callTy call_tuple_of (by rfl) B.tuple (by decide +kernel) (pa_cons (pv 3) pa_nil)) pa_nil)))))))), ?_⟩
  clear GD DD D B hr nd
  obtain ⟨C, vo, vr, rfl, hC, hO, hR⟩ := hP.ex
  refine ⟨_, rfl, p, fq, 4, b, rfl, hF, by omega, by decide, by decide, fun r0 H1 _ _ s1 F1 => ⟨rfl, _, rfl, ?_⟩⟩
  refine ite2 (fun _ => qn H1 s1 (F1.mono (by omega))) (fun _ => ?_)
  refine ⟨Nat.zero_le _, fun A1 hA1 => ⟨Nat.zero_le _, fun A2 hA2 => ⟨_, _, rfl, ?_⟩⟩⟩
  have t1 := same_new (o := .lst []) hA1
  have t2 := same_new (o := .lst []) hA2
  obtain ⟨n1p, n1q⟩ := F1.ne hA1
  obtain ⟨n2p, n2q⟩ := (F1.same t1).ne hA2
  have h01 : H A1 = none := by
    cases e : H A1 with
    | none => rfl
    | some o =>
      have := (of_del (s1 _ _ (del_some e n1p))).1
      rw [hA1] at this
      cases this
  have h02 : H A2 = none := by
    cases e : H A2 with
    | none => rfl
    | some o =>
      have := t1 _ _ (of_del (s1 _ _ (del_some e n2p))).1
      rw [hA2] at this
      cases this
  have n12 : A1 ≠ A2 := ne_of_none (show upd H1 A1 (.lst []) A1 = some _ from upd_same) hA2
  have G0 : BG K p fq H A1 A2 vo zs (b + 1) (upd (upd H1 A1 (.lst [])) A2 (.lst [])) [] [] [] [] := ⟨s1.trans (same_del (t1.trans t2)), F1.same (t1.trans t2), ((hO.same s1).same (same_del (t1.trans t2))).tps, ⟨t2 _ _ upd_same, .nil, n1p, n1q⟩, ⟨upd_same, .nil, n2p, n2q⟩, n12, h01, h02⟩
  have hC0 := sameT (s1.trans (same_del (p := p) (t1.trans t2))) hC
  generalize upd (upd H1 A1 (.lst [])) A2 (.lst []) = H2 at G0 hC0
  clear t1 t2 s1 F1 hA1 hA2 h01 h02 hC hO
  -- the names
  refine ⟨fun σ H' => ∃ (v1 : List V) (ks : List (Str × Int)) (x4 x5 x6 : Option V), σ = [some (.ref p), some (.ref C), some (.ref A1), some (.ref A2), x4, x5, x6] ∧ BG K p fq H A1 A2 vo zs (b + 9) H' v1 [] ks [] ∧ (ks.map (·.1)).Sublist nms ∧ (∀ x ∈ ks, x.2.natAbs ≤ 1000000000) ∧ SqT K (tps (del H' p)) C [vo, vr], ?_, ?_⟩
  · refine ⟨by show 4 ≤ sizeLine; decide, fun T hT => ?_⟩
    have t3 := same_new (o := .tup (nms.map V.str)) hT
    have G3 := G0.lay t3
    have hT3 : tps (del (upd H2 T (.tup (nms.map V.str))) p) T = some (.tup (nms.map V.str)) := tps_tup (del_some upd_same (G0.fd.ne hT).1)
    have hC3 := sqt_tps (sameT (same_del (p := p) t3) hC0)
    have hgoal : upd H2 T (.tup [V.str "i", V.str "j", V.str "q", V.str "x"]) = upd H2 T (.tup (nms.map V.str)) := rfl
    rw [hgoal]
    generalize upd H2 T (.tup (nms.map V.str)) = H3 at t3 G3 hT3 hC3
    refine ⟨T, rfl, ⟨_, SqT.of (of_del (tps_sub _ _ hT3)).1⟩, for_it (walk_tup (xs := nms.map V.str)) (fun n σ H' => ∃ (v1 : List V) (ks : List (Str × Int)) (x4 x5 x6 : Option V), σ = [some (.ref p), some (.ref C), some (.ref A1), some (.ref A2), x4, x5, x6] ∧ BG K p fq H A1 A2 vo zs (b + 1 + 2 * n) H' v1 [] ks [] ∧ (ks.map (·.1)).Sublist (nms.take n) ∧ (∀ x ∈ ks, x.2.natAbs ≤ 1000000000) ∧ SqT K (tps (del H' p)) C [vo, vr] ∧ tps (del H' p) T = some (.tup (nms.map V.str)))
      ⟨[], [], _, _, _, rfl, G3, List.nil_sublist _, by simp, hC3, hT3⟩ (fun n σ H' _ h => ?_) ?_ ?_⟩
    · obtain ⟨v1, ks, x4, x5, x6, _, _, _, _, _, hT'⟩ := h
      exact SqT.of (of_del (tps_sub _ _ hT')).1
    · rintro n x σ H4 H5 hn ⟨v1, ks, x4, x5, x6, rfl, G4, sub4, bd4, hC4, hT4⟩ ⟨rfl, hxn⟩
      rw [List.length_map] at hn
      have hn4 : n < 4 := hn
      rw [List.getElem?_map, List.getElem?_eq_getElem hn] at hxn
      have hx' : V.str nms[n] = x := Option.some.inj hxn
      subst hx'
      have etk : nms.take (n + 1) = nms.take n ++ [nms[n]] := by rw [List.take_succ, List.getElem?_eq_getElem hn]; rfl
      generalize nms[n] = z at etk
      refine ⟨_, rfl, p, fq, 2, _, rfl, G4.fd, by omega, by decide, by decide, fun r5 H6 _ _ s6 F6 => ⟨rfl, _, rfl, ?_⟩⟩
      have G6 := G4.next s6 F6
      have hC6 := sameT (tps_same s6) hC4
      have hT6 := tps_same s6 _ _ hT4
      refine ite2 (fun _ => ?_) (fun _ => ?_)
      rotate_left
      · exact ⟨v1, ks, _, _, _, rfl, G6.mono (by omega), by rw [etk]; exact sub4.trans (List.sublist_append_left _ _), bd4, hC6, hT6⟩
      refine ⟨_, rfl, .inl ⟨rfl, _, SqL.of G6.g1.at_⟩, _, rfl, 1, rfl, 10, 9, rfl, rfl, ⟨by decide, by decide, by decide⟩, by show 5 ≤ sizeLine; decide, fun L hL => ?_⟩
      have t7 := same_new (o := .lst [V.int 0, V.int 1, V.int 2, V.int (-1), V.int (10 ^ (9 : Int).toNat)]) hL
      have G7 := G6.lay t7
      have hL7 : del (upd H6 L (.lst [V.int 0, V.int 1, V.int 2, V.int (-1), V.int (10 ^ (9 : Int).toNat)])) p L = some (.lst [V.int 0, V.int 1, V.int 2, V.int (-1), V.int (10 ^ (9 : Int).toNat)]) := del_some upd_same (G6.fd.ne hL).1
      have hC7 := sameT (tps_same (same_del (p := p) t7)) hC6
      have hT7 := tps_same (same_del (p := p) t7) _ _ hT6
      generalize upd H6 L (.lst [V.int 0, V.int 1, V.int 2, V.int (-1), V.int (10 ^ (9 : Int).toNat)]) = H7 at t7 G7 hL7 hC7 hT7
      refine ⟨_, rfl, p, fq, 5, _, rfl, G7.fd, by omega, by decide, by decide, fun r8 H8 a0 a1 s8 F8 => ?_⟩
      have G8 := G7.next s8 F8
      have hC8 := sameT (tps_same s8) hC7
      have hT8 := tps_same s8 _ _ hT7
      obtain ⟨iv, hat, hiv⟩ := five_at a0 a1
      refine ⟨L, _, _, _, rfl, rfl, SqL.of (of_del (s8 _ _ hL7)).1, hat, by show 2 ≤ sizeLine; decide, fun T9 hT9 => ?_⟩
      have t9 := same_new (o := .tup [.str z, .int iv]) hT9
      have G9 := G8.lay t9
      have dT : Dp K (del (upd H8 T9 (.tup [.str z, .int iv])) p) (.ref T9) (knD (z, iv)) := .tup (SqT.of (del_some upd_same (G8.fd.ne hT9).1)) (.cons (.str _) (.cons (.int _) .nil))
      have hC9 := sameT (tps_same (same_del (p := p) t9)) hC8
      have hT9' := tps_same (same_del (p := p) t9) _ _ hT8
      generalize upd H8 T9 (.tup [.str z, .int iv]) = H9 at t9 G9 dT hC9 hT9'
      have lk := DpAll_len G9.g1.dat
      have lk2 := sub4.length_le
      rw [List.length_map] at lk lk2
      rw [List.length_take] at lk2
      refine ⟨A1, v1, .ref T9, rfl, rfl, G9.g1.at_, small1000 (by omega), _, _, _, _, _, rfl, (G9.push1 dT).mono (by omega), ?_, ?_, sameT (del_lst G9.g1.at_ G9.g1.np) hC9, del_lst G9.g1.at_ G9.g1.np _ _ hT9'⟩
      · rw [etk, List.map_append]
        exact List.Sublist.append sub4 (List.Sublist.refl _)
      · intro y hy
        rcases List.mem_append.mp hy with hy | hy
        · exact bd4 y hy
        · rw [List.mem_singleton.mp hy]; exact hiv
    · rintro σ H4 ⟨v1, ks, x4, x5, x6, rfl, G4, sub4, bd4, hC4, hT4⟩
      have e4 : (nms.map V.str).length = 4 := rfl
      rw [e4] at G4 sub4
      exact ⟨v1, ks, _, _, _, rfl, G4.mono (by omega), sub4, bd4, hC4⟩
  rintro σ H3 ⟨v1, ks, x4, x5, x6, rfl, G3, sub3, bd3, hC3⟩
  -- the cells
  have hO3 := G3.ob
  have few := hO3.few
  have wd := hO3.wd
  obtain ⟨ao, ps, evo, hfo, hpo⟩ := id hO3.ex
  have hlp : ps.length = zs.length := hpo.length
  subst evo
  have hsq : ∀ G : Hp, Same (tps (del H3 p)) (tps (del G p)) → SqT K G ao (ps.map V.ref) := fun G sG => sameT ((tps_sub).trans (del_same _ _)) (sameT sG hfo.sq)
  refine ⟨_, rfl, C, _, 0, _, rfl, rfl, sameT (tps_sub.trans (del_same _ _)) hC3, atI_nat (j := 0) rfl, ao, rfl, ⟨_, hsq H3 (Same.refl _)⟩, for_it (walk_tup (xs := ps.map V.ref)) (fun n σ H' => ∃ (v2 : List V) (ss : List ((Str × Int) × Int)) (x4 x5 x6 : Option V), σ = [some (.ref p), some (.ref C), some (.ref A1), some (.ref A2), x4, x5, x6] ∧ BG K p fq H A1 A2 (.ref ao) zs (b + 9 + 8 * n) H' v1 v2 ks ss ∧ (ss.map (·.1)).Sublist (cellsL (zs.take n)) ∧ (∀ x ∈ ss, x.2.natAbs ≤ 10) ∧ Same (tps (del H3 p)) (tps (del H' p)))
    ⟨[], [], _, _, _, rfl, G3, List.nil_sublist _, by simp, Same.refl _⟩ (fun n σ H' _ h => ?_) ?_ ?_⟩
  · obtain ⟨v2, ss, x4, x5, x6, _, _, _, _, sG⟩ := h
    exact hsq H' sG
  · rintro n x σ H4 H5 hn ⟨v2, ss, x4, x5, x6, rfl, G4, sub4, bd4, s4⟩ ⟨rfl, hxn⟩
    rw [List.length_map] at hn
    rw [List.getElem?_map, List.getElem?_eq_getElem hn] at hxn
    have hxn' : V.ref ps[n] = x := Option.some.inj hxn
    subst hxn'
    obtain ⟨zk, hzk, hsz⟩ := paired_get hpo (List.getElem?_eq_getElem hn)
    obtain ⟨_, k1, k4⟩ := wd zk (List.mem_of_getElem? hzk)
    have etk : cellsL (zs.take (n + 1)) = cellsL (zs.take n) ++ (List.range zk.2.toNat).map (fun (k : Nat) => (zk.1, (k : Int))) := by
      unfold cellsL
      rw [List.take_succ, hzk, List.flatMap_append]
      simp
    obtain ⟨z, kz⟩ := zk
    dsimp only at hsz k1 k4 etk
    refine ⟨_, _, rfl, sameT (tps_sub.trans (del_same _ _)) (sameT s4 hsz), rfl, _, _, rfl, _, _, rfl, rfl, ?_⟩
    refine ⟨_, rfl, kz, rfl, by omega, by omega, for_range (lo := 0) (n := kz.toNat) (fun j σ H' => ∃ (v2 : List V) (ss : List ((Str × Int) × Int)) (x6 : Option V), σ = [some (.ref p), some (.ref C), some (.ref A1), some (.ref A2), some (.str z), some (.int kz), x6] ∧ BG K p fq H A1 A2 (.ref ao) zs (b + 9 + 8 * n + 2 * j) H' v1 v2 ks ss ∧ (ss.map (·.1)).Sublist (cellsL (zs.take n) ++ (List.range j).map (fun (k : Nat) => (z, (k : Int)))) ∧ (∀ x ∈ ss, x.2.natAbs ≤ 10) ∧ Same (tps (del H3 p)) (tps (del H' p)))
      ⟨v2, ss, _, rfl, G4, by simpa using sub4, bd4, s4⟩ ?_ ?_⟩
    rotate_left
    · rintro σ H6 ⟨v2, ss, x6, rfl, G6, sub6, bd6, s6⟩
      exact ⟨v2, ss, _, _, _, rfl, G6.mono (by omega), by rw [etk]; exact sub6, bd6, s6⟩
    rintro j σ H6 hj ⟨v2, ss, x6, rfl, G6, sub6, bd6, s6⟩
    have ejk : cellsL (zs.take n) ++ (List.range (j + 1)).map (fun (k : Nat) => (z, (k : Int))) = (cellsL (zs.take n) ++ (List.range j).map (fun (k : Nat) => (z, (k : Int)))) ++ [(z, (j : Int))] := by
      rw [List.range_succ, List.map_append, List.append_assoc]
      rfl
    have hn4 : n < 4 := by omega
    have hj4 : j < 4 := by omega
    refine ⟨_, rfl, p, fq, 2, _, rfl, G6.fd, by omega, by decide, by decide, fun r7 H7 _ _ s7 F7 => ⟨rfl, _, rfl, ?_⟩⟩
    have G7 := G6.next s7 F7
    have s67 := s6.trans (tps_same s7)
    refine ite2 (fun _ => ?_) (fun _ => ?_)
    rotate_left
    · exact ⟨v2, ss, _, rfl, G7.mono (by omega), by rw [ejk]; exact sub6.trans (List.sublist_append_left _ _), bd6, s67⟩
    refine ⟨_, rfl, .inl ⟨rfl, _, SqL.of G7.g2.at_⟩, _, rfl, _, rfl, by show 2 ≤ sizeLine; decide, fun T8 hT8 => ?_⟩
    rw [Int.zero_add]
    have t8 := same_new (o := .tup [.str z, .int (j : Int)]) hT8
    have G8 := G7.lay t8
    have e8 : del (upd H7 T8 (.tup [.str z, .int (j : Int)])) p T8 = some (.tup [.str z, .int (j : Int)]) := del_some upd_same (G7.fd.ne hT8).1
    generalize upd H7 T8 (.tup [.str z, .int (j : Int)]) = H8 at t8 G8 e8
    refine ⟨_, rfl, p, fq, 9, _, rfl, G8.fd, by omega, by decide, by decide, fun r9 H9 a0 a1 s9 F9 => ⟨_, _, rfl, rfl, by show 2 ≤ sizeLine; decide, fun T10 hT10 => ?_⟩⟩
    have G9 := G8.next s9 F9
    have t10 := same_new (o := .tup [.ref T8, .int (r9 - 4)]) hT10
    have G10 := G9.lay t10
    have dT : Dp K (del (upd H9 T10 (.tup [.ref T8, .int (r9 - 4)])) p) (.ref T10) (clD ((z, (j : Int)), r9 - 4)) := .tup (SqT.of (del_some upd_same (G9.fd.ne hT10).1)) (.cons (.tup (SqT.of ((s9.trans (same_del t10)) _ _ e8)) (.cons (.str _) (.cons (.int _) .nil))) (.cons (.int _) .nil))
    have s610 := s67.trans ((tps_same (same_del (p := p) t8)).trans ((tps_same s9).trans (tps_same (same_del (p := p) t10))))
    generalize upd H9 T10 (.tup [.ref T8, .int (r9 - 4)]) = H10 at t10 G10 dT s610
    have lk := DpAll_len G10.g2.dat
    have lk2 := sub6.length_le
    have lk3 := cells_len (zs := zs.take n) (by rw [List.length_take]; omega) fun y hy => (wd y (List.mem_of_mem_take hy)).2.2
    rw [List.length_map] at lk lk2
    rw [List.length_append, List.length_map, List.length_range] at lk2
    refine ⟨A2, v2, .ref T10, rfl, rfl, G10.g2.at_, small1000 (by omega), _, _, _, rfl, (G10.push2 dT).mono (by omega), ?_, ?_, s610.trans (del_lst G10.g2.at_ G10.g2.np)⟩
    · rw [ejk, List.map_append]
      exact List.Sublist.append sub6 (List.Sublist.refl _)
    · intro y hy
      rcases List.mem_append.mp hy with hy | hy
      · exact bd6 y hy
      · rw [List.mem_singleton.mp hy]
        show (r9 - 4).natAbs ≤ 10
        omega
  rintro σ H4 ⟨v2, ss, x4, x5, x6, rfl, G4, sub4, bd4, s4⟩
  rw [List.length_map, hlp, List.take_length] at sub4
  rw [List.length_map, hlp] at G4
  refine ⟨_, rfl, A1, v1, rfl, .inl ⟨SqL.of G4.g1.at_, fun T1 hT1 => ?_⟩⟩
  have t5 := same_new (o := .tup v1) hT1
  have G5 := G4.lay t5
  have e5 : del (upd H4 T1 (.tup v1)) p T1 = some (.tup v1) := del_some upd_same (G4.fd.ne hT1).1
  generalize upd H4 T1 (.tup v1) = H5 at t5 G5 e5
  refine ⟨_, rfl, A2, v2, rfl, .inl ⟨SqL.of G5.g2.at_, fun T2 hT2 => ⟨by show 2 ≤ sizeLine; decide, fun T3 hT3 => ?_⟩⟩⟩
  have t6 := same_new (o := .tup v2) hT2
  have G6 := G5.lay t6
  have e6 : del (upd H5 T2 (.tup v2)) p T2 = some (.tup v2) := del_some upd_same (G5.fd.ne hT2).1
  generalize upd H5 T2 (.tup v2) = H6 at t6 G6 e6 hT3
  have t7 := same_new (o := .tup [.ref T1, .ref T2]) hT3
  have G7 := G6.lay t7
  refine q (.ref T3) _ ks ss G7.sm (G7.fd.mono (by omega)) (.tup (SqT.of (del_some upd_same (G6.fd.ne hT3).1)) (.cons (.tup (SqT.of (((same_del t6).trans (same_del t7)) _ _ e5)) (DpAll_same tps_sub G7.g1.dat)) (.cons (.tup (SqT.of (same_del t7 _ _ e6)) (DpAll_same tps_sub G7.g2.dat)) .nil))) ⟨sub3, bd3, sub4, bd4⟩ ⟨T3, rfl⟩
end
end Sw
set_option maxRecDepth 100000
set_option maxHeartbeats 4000000
namespace Sw
open PySem PySem.Spec PyProof.Rows L2
theorem pss_never {X : Cx} {st : List Stmt} : PSs X st (fun _ _ _ => False) := ⟨fun pins s σ H D I h => h.elim⟩
section
variable {X : Cx} {K : PySem.W.Frag} {p fq : Addr} {G : L2.St → Hp → Prop} {W : L2.St → Hp → Hp}
abbrev GP (p : Addr) (G : L2.St → Hp → Prop) : L2.St → Hp → Prop := fun σ H => (∃ u, H p = some u) ∧ G σ H
theorem pq_pd {e : Expr} {d : PyData} {Ψ : DP} (h : PE X e (tD K (fun _ H => del H p) (GP p G) d)) (hΨ : Ψ d) : PE X e (tQ K p fq G 0 Ψ) :=
  pe_imp h fun σ H Q ⟨b, F, hb, g, q⟩ => ⟨⟨F.there, g⟩, fun v H' s dd => q v H' d (same_del s) (F.same s) dd hΨ⟩
/-- a value that is no place -/
theorem pd_imp {e : Expr} {te : TE} {d : PyData} (h : PE X e te) (hi : ∀ σ H Q, G σ H → (∀ v H', Same H H' → Dp K (W σ H') v d → Q v H') → te σ H Q) : PE X e (tD K W G d) := pe_imp h fun σ H Q q => hi σ H Q q.1 q.2
theorem pd_cut (C : Dc W G) (hK : X.K = K) {a : Expr} {ds : List PyData} {lo hi : Option Expr} {tl th : TO} {pos p2 : Pos} {l h : Option Int} (ha : PE X a (tD K W G (.tuple ds))) (hlo : PO X lo tl) (hhi : PO X hi th)
    (el : ∀ σ H (Q : Option Int → Hp → Prop), Q l H → tl σ H Q) (eh : ∀ σ H (Q : Option Int → Hp → Prop), Q h H → th σ H Q) : PE X (.Subscript a (.Slice lo hi none p2) pos) (tD K W G (.tuple (cutD ds l h))) := by
  subst hK
  refine pe_imp (pe_slice sl_tupA ha hlo hhi) fun σ H Q q => ⟨q.1, fun v H1 s1 d1 => el σ H1 _ (eh σ H1 _ ?_)⟩
  cases d1 with
  | @tup a1 xs _ hx hrx =>
    have hl := DpAll_len hrx
    refine ⟨a1, xs, rfl, sameT C.sub hx, fun hw => ?_, fun hw t ht => ?_⟩
    · rw [hl] at hw
      have e : cutD ds l h = ds := by
        unfold cutD
        rw [hw.1, hw.2]
        simp
      have q2 := q.2
      rw [e] at q2
      exact q2 _ H1 s1 (.tup hx hrx)
    · have s := same_new (o := .tup (cutV xs l h)) ht
      refine q.2 _ _ (s1.trans s) (.tup (SqT.of (C.new (C.keep q.1 s1) ht)) ?_)
      have r2 := DpAll_same (C.mono s) hrx
      generalize upd H1 t (.tup (cutV xs l h)) = H2 at r2
      unfold cutV cutD
      rw [hl]
      exact DpAll_take _ (DpAll_drop _ r2)
/-- list(t) -/
theorem pd_list (C : Dc W G) (hK : X.K = K) {e : Expr} {ds : List PyData} {c p1 : Pos} (hg : Gl X "list") (hm : X.mg "list" = none) (he : PE X e (tD K W G (.tuple ds))) (hs : starEach [e] X.env = (false, eval e X.env) :: starEach [] X.env := by rfl) : PE X (.Call (.Name "list" p1) [e] [] c) (tD K W G (.list ds)) := by
  subst hK
  refine pe_imp (pe_callTy call_list_of hg hm (by decide +kernel) (pa_cons he pa_nil hs) (by decide) (by decide) hs rfl) fun σ H Q q => ⟨q.1, fun v H1 s1 d1 => ?_⟩
  cases d1 with
  | @tup a xs _ hx hr =>
    refine ⟨a, xs, rfl, .inr (sameT C.sub hx), fun l hl => ?_⟩
    have s := same_new (o := .lst xs) hl
    exact q.2 _ _ (s1.trans s) (.lst (SqL.of (C.new (C.keep q.1 s1) hl)) (DpAll_same (C.mono s) hr))
/-- tuple(xs) -/
theorem pd_tupleOf (C : Dc W G) (hK : X.K = K) {e : Expr} {ds : List PyData} {c p1 : Pos} (hg : Gl X "tuple") (hm : X.mg "tuple" = none) (he : PE X e (tD K W G (.list ds))) (hs : starEach [e] X.env = (false, eval e X.env) :: starEach [] X.env := by rfl) : PE X (.Call (.Name "tuple" p1) [e] [] c) (tD K W G (.tuple ds)) := by
  subst hK
  refine pe_imp (pe_callTy call_tuple_of hg hm (by decide +kernel) (pa_cons he pa_nil hs) (by decide) (by decide) hs rfl) fun σ H Q q => ⟨q.1, fun v H1 s1 d1 => ?_⟩
  cases d1 with
  | @lst a xs _ hx hr =>
    refine ⟨a, xs, rfl, .inl ⟨C.sub.seq hx, fun l hl => ?_⟩⟩
    have s := same_new (o := .tup xs) hl
    exact q.2 _ _ (s1.trans s) (.tup (SqT.of (C.new (C.keep q.1 s1) hl)) (DpAll_same (C.mono s) hr))
end
end Sw
set_option maxRecDepth 100000
set_option maxHeartbeats 4000000
namespace Sw
open PySem PySem.Spec PyProof.Rows L2
def isaLst : PyData → Bool
  | .list _ => true
  | _ => false
theorem isa_lst {K : PySem.W.Frag} {H : Hp} {v : V} {d : PyData} (h : Dp K H v d) : ∃ t, TyX K H v t ∧ PySem.W.kitOne K t (.type "list") = some (isaLst d) :=
  isa_data (g := isaLst) h (by decide +kernel) (fun _ => by show _ = some false; decide +kernel) (fun _ => by show _ = some false; decide +kernel) (fun _ => by show _ = some false; decide +kernel) (fun _ => by show _ = some true; decide +kernel) (fun _ => by show _ = some false; decide +kernel)
def gBn (K : PySem.W.Frag) (p : Addr) (v : V) (d : PyData) : L2.St → Hp → Prop := fun σ H => σ[0]? = some (some (.ref p)) ∧ σ[1]? = some (some v) ∧ Dp K (del H p) v d
theorem up_ok {z : Str} (h : ∀ c ∈ z.cps.toList, c < 128) : (∀ c ∈ (Txt.upper z).cps.toList, c < 128) ∧ (Txt.upper z).length = z.length := by
  have h2 : z.cps.toList.all (· < 128) = true := List.all_eq_true.mpr fun c hc => decide_eq_true (h c hc)
  have e2 : Txt.upper z = SX.S (z.cps.toList.map PyProof.Rows.up1) := by
    have := SX.upper_S h2
    rw [SX.S_tl] at this
    exact this
  rw [e2]
  refine ⟨fun c hc => ?_, by rw [SX.S_len, List.length_map, len_list]⟩
  have hc' : c ∈ z.cps.toList.map PyProof.Rows.up1 := by simpa [SX.S] using hc
  obtain ⟨x, hx, rfl⟩ := List.mem_map.mp hc'
  have := h x hx
  unfold PyProof.Rows.up1
  split <;> omega
theorem cutD_sm {ds : List PyData} {lo hi : Option Int} {M l n B M' l' n' B' : Nat} (h : Fit M l (n + 1) B (.tuple ds)) (hM : M ≤ M') (hl : l ≤ l') (hn : n + 1 ≤ n') (hB : B ≤ B') : Fit M' l' n' B' (.tuple (cutD ds lo hi)) := by
  obtain ⟨h1, h2, h3⟩ := cutD_sub ds lo hi
  obtain ⟨g1, g2, g3, g4⟩ := h.inTup
  exact (Fit.tup (M := M) (l := l) (n := n) (B := B) (by omega) (fun x hx => ⟨(g4 x (h1 x hx)).lf, (g4 x (h1 x hx)).ln, (g4 x (h1 x hx)).dp⟩) (by omega)).mono hM hl hn hB
theorem one_fit {M l n B M' l' n' B' : Nat} {d : PyData} (h : Fit M l n B d) (hM : M ≤ M') (hl : l ≤ l') (hl1 : 1 ≤ l') (hn : n + 1 ≤ n') (hB : B + 10 ≤ B') : Fit M' l' n' B' (.tuple [d]) ∧ Fit M' l' n' B' (.list [d]) := by
  have h1 := h.mono hM hl (Nat.le_refl _) (Nat.le_refl _)
  have hx : ∀ x ∈ [d], leaf M' x = true ∧ lens l' x = true ∧ x.depth ≤ n := fun x hx => by rw [List.mem_singleton.mp hx]; exact ⟨h1.lf, h1.ln, h1.dp⟩
  have w := h1.wg
  exact ⟨(Fit.tup (n := n) (B := B + 10) hl1 hx (by simp only [wtAll]; omega)).mono (Nat.le_refl _) (Nat.le_refl _) hn hB, (Fit.lst (n := n) (B := B + 10) hl1 hx (by simp only [wtAll]; omega)).mono (Nat.le_refl _) (Nat.le_refl _) hn hB⟩
theorem cat_fit {M l n B M' l' n' B' : Nat} {ds es : List PyData} (h : Fit M l (n + 1) B (.tuple ds)) (he : ∀ x ∈ es, leaf M' x = true ∧ lens l' x = true ∧ x.depth ≤ n') (hM : M ≤ M') (hl : l + es.length ≤ l') (hn : n ≤ n') (hB : B + wtAll es ≤ B') : Fit M' l' (n' + 1) B' (.tuple (ds ++ es)) := by
  obtain ⟨g1, g2, g3, g4⟩ := h.inTup
  refine Fit.tup (by rw [List.length_append]; omega) (fun x hx => ?_) (by rw [wtAll_append]; omega)
  rcases List.mem_append.mp hx with hx | hx
  · have := (g4 x hx).mono hM (show l ≤ l' by omega) (show n + 1 - 1 ≤ n' by omega) (Nat.le_refl _)
    exact ⟨this.lf, this.ln, this.dp⟩
  · exact he x hx
theorem abc9 : ∀ c ∈ (Str.ofString "abcdefghi").cps.toList, c < 128 := by
  have : (Str.ofString "abcdefghi").cps.toList.all (fun c => decide (c < 128)) = true := by decide +kernel
  exact fun c hc => by simpa using List.all_eq_true.mp this c hc
theorem anyP_same {Ψ : DP} {d : PyData} : ∀ {n : Nat}, anyP (List.replicate n Ψ) d → Ψ d
  | 0, h => h.elim
  | n + 1, h => h.elim id anyP_same
section
variable {P : Program} {w : World} {K : PySem.W.Frag} {mg : Str → Option Value} {base : Heap}
/-- n is more than the thing is deep -/
def spBent (K : PySem.W.Frag) (n : Nat) : Sp := fun vs H Q _ => ∃ (p fq : Addr) (v : V) (b m M l B : Nat) (d : PyData), vs = [.ref p, v] ∧ n = m + 1 ∧ n ≤ 30 ∧ FeedAt H p fq b ∧ b + 10 * n + 10 ≤ 100000000 ∧
  Dp K (del H p) v d ∧ Fit M l m B d ∧ 10 ^ 199 ≤ M ∧ l ≤ 100 ∧ B ≤ 100000 ∧
  ∀ (v' : V) (d' : PyData) (H' : Hp), Dp K (del H' p) v' d' → Fit (M + 1) (l + 2) (m + 2) (2 * B + 1100) d' → Same (del H p) (del H' p) → FeedAt H' p fq (b + 10 * n) → Q v' H'
theorem sc_bent : FnScope ["_law_feed_here", "_law_odd", "_law_way", "_law_at", "_law_ways"] ["_law_feed_here", "_law_odd"] (defScope (topS 22)) := ⟨rfl, rfl, rfl, by decide +kernel, rfl, by decide +kernel, by decide +kernel⟩
theorem ok_bent1 {n : Nat} {f f1 : Addr} {fd fd1 : FuncData} (D : Df K mg "_law_bent" (topS 22) ["_law_feed_here", "_law_odd"] f fd) (DD : Df K mg "_law_draw" (topS 15) ["_law_feed_here", "_law_many"] f1 fd1) (B : Bt mg)
    (GD : FnOk P w K mg base CX0 1 f1 fd1 ["_law_feed_here", "_law_many"] spDraw) (GR : FnOk P w K mg base CX0 (n + 1) f fd ["_law_feed_here", "_law_odd"] (spBent K n)) :
    FnOk P w K mg base CX0 (n + 2) f fd ["_law_feed_here", "_law_odd"] (spBent K (n + 1)) := by
  refine D.fn.ok sc_bent (fun vs H Q E h => ?_) (fun cdv A outer s H vs Q E hr h => ?_)
  · obtain ⟨p, fq, v, b, m, M, l, B, d, rfl, _⟩ := h
    rfl
  obtain ⟨p, fq, v, b, m, M, l, Bw, d, rfl, hnm, hn30, hF, hb, hd, hfit, hM, hl, hB, q⟩ := h
  obtain rfl : n = m := by omega
  have nd := sc_bent.nd
  have hu := hr.units
  have hr1 : Room 1 _ := hr.mono (by omega)
  have C : Stb p (gBn K p v d) := ⟨fun h s => ⟨h.1, h.2.1, Dp_same s h.2.2⟩⟩
  have C' : Dc (fun _ H' => del H' p) (GP p (gBn K p v d)) := dc_del fun h s => ⟨h.1, h.2.1, Dp_same (same_del s) h.2.2⟩
  have hv : ∀ σ H', GP p (gBn K p v d) σ H' → ∃ u, σ[1]? = some (some u) ∧ Dp K (del H' p) u d := fun σ H' g => ⟨v, g.2.2.1, g.2.2.2⟩
  let Ψ : DP := fun d' => Fit (M + 1) (l + 2) (n + 2) (2 * Bw + 1100) d'
  have fsm : ∀ {B0 : Nat} {x : PyData}, Fit M l n B0 x → B0 ≤ 2 * Bw + 1100 → Ψ x := fun h hb => h.mono (by omega) (by omega) (by omega) hb
  have fint : ∀ i : Int, i.natAbs ≤ M + 1 → Ψ (.int i) := fun i hi => Fit.int hi (by omega)
  have f10 : ∀ i : Int, i.natAbs ≤ 10 → Ψ (.int i) := fun i hi => fint i (Nat.le_trans hi (Nat.le_trans (show 10 ≤ 10 ^ 199 by decide +kernel) (by omega)))
  have fnon : Ψ .none := Fit.none (by omega)
  have fbl : ∀ c : Bool, Ψ (.bool c) := fun c => Fit.bool (by omega)
  have fst : ∀ z : Str, (∀ c ∈ z.cps.toList, c < 128) → z.length ≤ 9 → Ψ (.str z) := fun z h h2 => Fit.str h (by omega)
  have fwd : ∀ z : Str, z ∈ smallW → Ψ (.str z) := fun z h => fst z (smallW_ok h).ascii (by have := (smallW_ok h).hi; omega)
  have fnil : Ψ (.tuple []) := Fit.tup (n := n + 1) (Nat.zero_le _) (fun x hx => by cases hx) (by simp only [wtAll]; omega)
  have fone := one_fit hfit (M' := M + 1) (l' := l + 2) (n' := n + 2) (B' := 2 * Bw + 1100) (by omega) (by omega) (by omega) (by omega) (by omega)
  cases d with
  | str z =>
    have hz := leaf_str.mp hfit.lf
    have hzl : 10 * z.length + 5 ≤ Bw := by simpa [wt] using hfit.wg
    have evz : v = .str z := by cases hd; rfl
    subst evz
    refine ⟨_, pss_cons (ps_set (i := 2) nd rfl (Or.inl rfl) (pe_call GD hr1 (by rfl) DD.gl DD.fn.kp DD.bd .nil pass0 (pa_cons (pv 0) (pa_cons pe_int pa_nil)))) (pss_cons (ps_if (PW.pt (pw_and (pt_val (pe_callB call_isi (by rfl) B.isi (by decide +kernel) (pa_cons (pv 1) (pa_cons (pe_bltn (v := .ty "tuple") (by rfl) B.tuple (by decide +kernel) rfl) pa_nil)))) (pw_and (pt_cmpR (op_neD hu) (pv 1) (pe_tup pa_nil) (nomark _)) (pw_and1 (pt_cmpR op_lt (pv 2) pe_int (nomark _)))))) pss_never pss_nil) (pss_cons (ps_if (pt_val (pe_callB call_isi (by rfl) B.isi (by decide +kernel) (pa_cons (pv 1) (pa_cons (pe_bltn (v := .ty "tuple") (by rfl) B.tuple (by decide +kernel) rfl) pa_nil)))) pss_never pss_nil) (pss_cons (ps_if (pt_val (pe_callB call_isi (by rfl) B.isi (by decide +kernel) (pa_cons (pv 1) (pa_cons (pe_bltn (v := .ty "str") (by rfl) B.str (by decide +kernel) rfl) pa_nil)))) (pss_one (ps_ret (pq_pick (K := K) (fq := fq) C rfl (pqs_cons C (pq_pd (Ψ := Ψ) (pd_imp (W := fun _ H => del H p) (d := .str (z ++ Str.ofString "a")) (pe_op op_add_str (pv 1) pe_str) (fun σ H' Q g q => ⟨_, g.2.2.1, _, _, rfl, rfl, by rw [show (Str.ofString "a").length = 1 from rfl, sizeLine_eq]; omega, q _ H' (Same.refl _) (.str _)⟩)) (Fit.str (app_ok hz a_ok) (by rw [app_len, show (Str.ofString "a").length = 1 from rfl]; omega))) (pqs_cons C (pq_pd (Ψ := Ψ) (pd_imp (W := fun _ H => del H p) (d := .str (cutS z (some 1) none)) (pe_slice sl_str (pv 1) (po_some pe_int) po_none) (fun σ H' Q g q => ⟨_, g.2.2.1, 1, rfl, z, rfl, by rw [sizeLine_eq]; omega, q _ H' (Same.refl _) (.str _)⟩)) (Fit.str (fun c hc => hz c ((cutS_sub z (some 1) none).1 c hc)) (by have := (cutS_sub z (some 1) none).2; omega))) (pqs_cons C (pq_pd (Ψ := Ψ) pd_str (fwd _ (by decide +kernel))) (pqs_cons C (pq_pd (Ψ := Ψ) pd_str (fwd _ (by decide +kernel))) (pqs_cons C (pq_pd (Ψ := Ψ) (pd_imp (W := fun _ H => del H p) (d := .str (Txt.upper z)) (pe_upper (pv 1)) (fun σ H' Q g q => ⟨_, g.2.2.1, ⟨_, rfl⟩, z, rfl, rfl, by omega, q _ H' (Same.refl _) (.str _)⟩)) (Fit.str (up_ok hz).1 (by rw [(up_ok hz).2]; omega))) (pqs_cons C (pq_pd (Ψ := Ψ) pd_int (f10 _ (by decide))) (pqs_cons C (pq_pd (Ψ := Ψ) pd_non fnon) (pqs_cons C (pq_pd (Ψ := Ψ) (pd_lst C' (pds_cons C' (pd_var (d := .str z) (pv 1) hv) pds_nil)) fone.2) (pqs_cons C (pq_pd (Ψ := Ψ) pd_str (fwd _ (by decide +kernel))) (pqs_cons C (pq_pd (Ψ := Ψ) pd_str (fst _ abc9 (by decide +kernel))) pqs_nil)))))))))) (pq_draw (m := 10) (fun _ _ g => g.1) (pe_call GD hr1 (by rfl) DD.gl DD.fn.kp DD.bd .nil pass0 (pa_cons (pv 0) (pa_cons pe_int pa_nil))) (by decide) (by decide)) (fun _ _ => rfl)))) pss_nil) pss_never))), ?_⟩
    refine ⟨_, rfl, p, fq, 7, b, rfl, hF, by omega, by decide, by decide, fun way H1 _ _ s1 F1 => ?_⟩
    have hd1 := Dp_same s1 hd
    have hH := Dp_same (del_same _ _) hd1
    obtain ⟨t1, ty1, k1⟩ := isa_tup hH
    refine ⟨_, rfl, _, .ty "tuple", t1, _, _, rfl, .ty _, ty1, k1, _, rfl, iteF (iteF ?_)⟩
    refine ⟨_, rfl, _, .ty "tuple", t1, _, _, rfl, .ty _, ty1, k1, _, rfl, iteF ?_⟩
    obtain ⟨t2, ty2, k2⟩ := isa_str hH
    refine ⟨_, rfl, _, .ty "str", t2, _, _, rfl, .ty _, ty2, k2, _, rfl, iteT ?_⟩
    exact ⟨_, F1, by omega, ⟨rfl, rfl, hd1⟩, fun v' H' d' s' F' dd hd => q v' d' H' dd (anyP_same (n := 10) hd) (s1.trans s') (F'.mono (by omega))⟩
  | list ds =>
    have flt : Ψ (.tuple ds) := by
      obtain ⟨g1, g2, g3, g4⟩ := hfit.inLst
      obtain ⟨n', rfl⟩ : ∃ n', n = n' + 1 := ⟨n - 1, by omega⟩
      exact (Fit.tup (M := M) (l := l) (n := n') (B := Bw) g1 (fun x hx => ⟨(g4 x hx).lf, (g4 x hx).ln, (g4 x hx).dp⟩) (by omega)).mono (by omega) (by omega) (by omega) (by omega)
    refine ⟨_, pss_cons (ps_set (i := 2) nd rfl (Or.inl rfl) (pe_call GD hr1 (by rfl) DD.gl DD.fn.kp DD.bd .nil pass0 (pa_cons (pv 0) (pa_cons pe_int pa_nil)))) (pss_cons (ps_if (PW.pt (pw_and (pt_val (pe_callB call_isi (by rfl) B.isi (by decide +kernel) (pa_cons (pv 1) (pa_cons (pe_bltn (v := .ty "tuple") (by rfl) B.tuple (by decide +kernel) rfl) pa_nil)))) (pw_and (pt_cmpR (op_neD hu) (pv 1) (pe_tup pa_nil) (nomark _)) (pw_and1 (pt_cmpR op_lt (pv 2) pe_int (nomark _)))))) pss_never pss_nil) (pss_cons (ps_if (pt_val (pe_callB call_isi (by rfl) B.isi (by decide +kernel) (pa_cons (pv 1) (pa_cons (pe_bltn (v := .ty "tuple") (by rfl) B.tuple (by decide +kernel) rfl) pa_nil)))) pss_never pss_nil) (pss_cons (ps_if (pt_val (pe_callB call_isi (by rfl) B.isi (by decide +kernel) (pa_cons (pv 1) (pa_cons (pe_bltn (v := .ty "str") (by rfl) B.str (by decide +kernel) rfl) pa_nil)))) pss_never pss_nil) (pss_cons (ps_if (pt_val (pe_callB call_isi (by rfl) B.isi (by decide +kernel) (pa_cons (pv 1) (pa_cons (pe_bltn (v := .ty "list") (by rfl) B.list (by decide +kernel) rfl) pa_nil)))) (pss_one (ps_ret (pq_pick (K := K) (fq := fq) C rfl (pqs_cons C (pq_pd (Ψ := Ψ) pd_non fnon) (pqs_cons C (pq_pd (Ψ := Ψ) (pd_tup C' pds_nil) fnil) (pqs_cons C (pq_pd (Ψ := Ψ) (pd_tupleOf C' rfl (by rfl) B.tuple (pd_var (d := .list ds) (pv 1) hv)) flt) pqs_nil))) (pq_draw (m := 3) (fun _ _ g => g.1) (pe_call GD hr1 (by rfl) DD.gl DD.fn.kp DD.bd .nil pass0 (pa_cons (pv 0) (pa_cons pe_int pa_nil))) (by decide) (by decide)) (fun _ _ => rfl)))) pss_nil) pss_never)))), ?_⟩
    refine ⟨_, rfl, p, fq, 7, b, rfl, hF, by omega, by decide, by decide, fun way H1 _ _ s1 F1 => ?_⟩
    have hd1 := Dp_same s1 hd
    have hH := Dp_same (del_same _ _) hd1
    obtain ⟨t1, ty1, k1⟩ := isa_tup hH
    refine ⟨v, rfl, v, .ty "tuple", t1, _, _, rfl, .ty _, ty1, k1, _, rfl, iteF (iteF ?_)⟩
    refine ⟨v, rfl, v, .ty "tuple", t1, _, _, rfl, .ty _, ty1, k1, _, rfl, iteF ?_⟩
    obtain ⟨t2, ty2, k2⟩ := isa_str hH
    refine ⟨v, rfl, v, .ty "str", t2, _, _, rfl, .ty _, ty2, k2, _, rfl, iteF ?_⟩
    obtain ⟨t3, ty3, k3⟩ := isa_lst hH
    refine ⟨v, rfl, v, .ty "list", t3, _, _, rfl, .ty _, ty3, k3, _, rfl, iteT ?_⟩
    exact ⟨_, F1, by omega, ⟨rfl, rfl, hd1⟩, fun v' H' d' s' F' dd hd => q v' d' H' dd (anyP_same (n := 3) hd) (s1.trans s') (F'.mono (by omega))⟩
  | none =>
    have fpr : Ψ (.tuple [.str (Str.ofString "a"), .int 0]) := Fit.tup (n := n + 1) (by show 2 ≤ l + 2; omega) (fun x hx => by
      simp only [List.mem_cons, List.not_mem_nil, or_false] at hx
      rcases hx with rfl | rfl
      · exact ⟨leaf_str.mpr a_ok, rfl, by simp [PyData.depth]⟩
      · exact ⟨by simp [leaf], rfl, by simp [PyData.depth]⟩) (by simp only [wtAll, wt, show (Str.ofString "a").length = 1 from rfl]; omega)
    have evz : v = .non := by cases hd; rfl
    subst evz
    refine ⟨_, pss_cons (ps_set (i := 2) nd rfl (Or.inl rfl) (pe_call GD hr1 (by rfl) DD.gl DD.fn.kp DD.bd .nil pass0 (pa_cons (pv 0) (pa_cons pe_int pa_nil)))) (pss_cons (ps_if (PW.pt (pw_and (pt_val (pe_callB call_isi (by rfl) B.isi (by decide +kernel) (pa_cons (pv 1) (pa_cons (pe_bltn (v := .ty "tuple") (by rfl) B.tuple (by decide +kernel) rfl) pa_nil)))) (pw_and (pt_cmpR (op_neD hu) (pv 1) (pe_tup pa_nil) (nomark _)) (pw_and1 (pt_cmpR op_lt (pv 2) pe_int (nomark _)))))) pss_never pss_nil) (pss_cons (ps_if (pt_val (pe_callB call_isi (by rfl) B.isi (by decide +kernel) (pa_cons (pv 1) (pa_cons (pe_bltn (v := .ty "tuple") (by rfl) B.tuple (by decide +kernel) rfl) pa_nil)))) pss_never pss_nil) (pss_cons (ps_if (pt_val (pe_callB call_isi (by rfl) B.isi (by decide +kernel) (pa_cons (pv 1) (pa_cons (pe_bltn (v := .ty "str") (by rfl) B.str (by decide +kernel) rfl) pa_nil)))) pss_never pss_nil) (pss_cons (ps_if (pt_val (pe_callB call_isi (by rfl) B.isi (by decide +kernel) (pa_cons (pv 1) (pa_cons (pe_bltn (v := .ty "list") (by rfl) B.list (by decide +kernel) rfl) pa_nil)))) pss_never pss_nil) (pss_cons (ps_if (pt_cmpR op_isN (pv 1) pe_non (nomark _)) (pss_one (ps_ret (pq_pick (K := K) (fq := fq) C rfl (pqs_cons C (pq_pd (Ψ := Ψ) pd_int (f10 _ (by decide))) (pqs_cons C (pq_pd (Ψ := Ψ) pd_bl (fbl _)) (pqs_cons C (pq_pd (Ψ := Ψ) pd_str (fst _ (fun c hc => by cases hc) (by decide))) (pqs_cons C (pq_pd (Ψ := Ψ) (pd_tup C' pds_nil) fnil) (pqs_cons C (pq_pd (Ψ := Ψ) (pd_tup C' (pds_cons C' pd_str (pds_cons C' pd_int pds_nil))) fpr) pqs_nil))))) (pq_draw (m := 5) (fun _ _ g => g.1) (pe_call GD hr1 (by rfl) DD.gl DD.fn.kp DD.bd .nil pass0 (pa_cons (pv 0) (pa_cons pe_int pa_nil))) (by decide) (by decide)) (fun _ _ => rfl)))) pss_nil) pss_never))))), ?_⟩
    refine ⟨_, rfl, p, fq, 7, b, rfl, hF, by omega, by decide, by decide, fun way H1 _ _ s1 F1 => ?_⟩
    have hd1 := Dp_same s1 hd
    have hH := Dp_same (del_same _ _) hd1
    obtain ⟨t1, ty1, k1⟩ := isa_tup hH
    refine ⟨_, rfl, _, .ty "tuple", t1, _, _, rfl, .ty _, ty1, k1, _, rfl, iteF (iteF ?_)⟩
    refine ⟨_, rfl, _, .ty "tuple", t1, _, _, rfl, .ty _, ty1, k1, _, rfl, iteF ?_⟩
    obtain ⟨t2, ty2, k2⟩ := isa_str hH
    refine ⟨_, rfl, _, .ty "str", t2, _, _, rfl, .ty _, ty2, k2, _, rfl, iteF ?_⟩
    obtain ⟨t3, ty3, k3⟩ := isa_lst hH
    refine ⟨_, rfl, _, .ty "list", t3, _, _, rfl, .ty _, ty3, k3, _, rfl, iteF ?_⟩
    refine ⟨_, rfl, rfl, _, rfl, iteT ?_⟩
    exact ⟨_, F1, by omega, ⟨rfl, rfl, hd1⟩, fun v' H' d' s' F' dd hd => q v' d' H' dd (anyP_same (n := 5) hd) (s1.trans s') (F'.mono (by omega))⟩
  | int i =>
    have evz : v = V.int i := by cases hd; rfl
    subst evz
    have hi : i.natAbs ≤ M := by simpa [leaf] using hfit.lf
    have fp1 : (i + 1).natAbs ≤ M + 1 := by omega
    have fm1 : (i - 1).natAbs ≤ M + 1 := by omega
    have f60 : ((10 : Int) ^ (60 : Int).toNat).natAbs ≤ M + 1 := Nat.le_trans (show ((10 : Int) ^ (60 : Int).toNat).natAbs ≤ 10 ^ 199 by decide +kernel) (by omega)
    obtain ⟨e1, he1⟩ : ∃ e1, e1 = decide (V.int i = V.int 1) := ⟨_, rfl⟩
    obtain ⟨e0, he0⟩ : ∃ e0, e0 = decide (V.int i = V.int 0) := ⟨_, rfl⟩
    refine ⟨_, pss_cons (ps_set (i := 2) nd rfl (Or.inl rfl) (pe_call GD hr1 (by rfl) DD.gl DD.fn.kp DD.bd .nil pass0 (pa_cons (pv 0) (pa_cons pe_int pa_nil)))) (pss_cons (ps_if (PW.pt (pw_and (pt_val (pe_callB call_isi (by rfl) B.isi (by decide +kernel) (pa_cons (pv 1) (pa_cons (pe_bltn (v := .ty "tuple") (by rfl) B.tuple (by decide +kernel) rfl) pa_nil)))) (pw_and (pt_cmpR (op_neD hu) (pv 1) (pe_tup pa_nil) (nomark _)) (pw_and1 (pt_cmpR op_lt (pv 2) pe_int (nomark _)))))) pss_never pss_nil) (pss_cons (ps_if (pt_val (pe_callB call_isi (by rfl) B.isi (by decide +kernel) (pa_cons (pv 1) (pa_cons (pe_bltn (v := .ty "tuple") (by rfl) B.tuple (by decide +kernel) rfl) pa_nil)))) pss_never pss_nil) (pss_cons (ps_if (pt_val (pe_callB call_isi (by rfl) B.isi (by decide +kernel) (pa_cons (pv 1) (pa_cons (pe_bltn (v := .ty "str") (by rfl) B.str (by decide +kernel) rfl) pa_nil)))) pss_never pss_nil) (pss_cons (ps_if (pt_val (pe_callB call_isi (by rfl) B.isi (by decide +kernel) (pa_cons (pv 1) (pa_cons (pe_bltn (v := .ty "list") (by rfl) B.list (by decide +kernel) rfl) pa_nil)))) pss_never pss_nil) (pss_cons (ps_if (pt_cmpR op_isN (pv 1) pe_non (nomark _)) pss_never pss_nil) (pss_one (ps_ret (pq_pick (K := K) (fq := fq) C rfl (pqs_cons C (pq_pd (Ψ := Ψ) (pd_imp (W := fun _ H => del H p) (d := .int (i + 1)) (pe_op op_addB (pv 1) pe_int) (fun σ H' Q g q => ⟨_, g.2.2.1, 1, rfl, .inl ⟨_, rfl, q _ H' (Same.refl _) (.int _)⟩⟩)) (fint _ fp1)) (pqs_cons C (pq_pd (Ψ := Ψ) (pd_imp (W := fun _ H => del H p) (d := .int (i - 1)) (pe_op op_subB (pv 1) pe_int) (fun σ H' Q g q => ⟨_, g.2.2.1, 1, rfl, .inl ⟨_, rfl, q _ H' (Same.refl _) (.int _)⟩⟩)) (fint _ fm1)) (pqs_cons C (pq_pd (Ψ := Ψ) pd_int (f10 _ (by decide))) (pqs_cons C (pq_pd (Ψ := Ψ) (pd_imp (W := fun _ H => del H p) (d := .bool e1) (pe_cmpR op_eq (pv 1) pe_int (nomark _)) (fun σ H' Q g q => ⟨_, g.2.2.1, rfl, q _ H' (Same.refl _) (he1 ▸ .bl _)⟩)) (fbl _)) (pqs_cons C (pq_pd (Ψ := Ψ) (pd_imp (W := fun _ H => del H p) (d := .bool e0) (pe_cmpR op_eq (pv 1) pe_int (nomark _)) (fun σ H' Q g q => ⟨_, g.2.2.1, rfl, q _ H' (Same.refl _) (he0 ▸ .bl _)⟩)) (fbl _)) (pqs_cons C (pq_pd (Ψ := Ψ) pd_non fnon) (pqs_cons C (pq_pd (Ψ := Ψ) pd_str (fwd _ (by decide +kernel))) (pqs_cons C (pq_pd (Ψ := Ψ) (pd_tup C' (pds_cons C' (pd_var (d := .int i) (pv 1) hv) pds_nil)) fone.1) (pqs_cons C (pq_pd (Ψ := Ψ) (pd_lst C' (pds_cons C' (pd_var (d := .int i) (pv 1) hv) pds_nil)) fone.2) (pqs_cons C (pq_pd (Ψ := Ψ) (pd_imp (W := fun _ H => del H p) (d := .int (10 ^ (60 : Int).toNat)) (pe_op op_pow pe_int pe_int) (fun σ H' Q g q => ⟨10, 60, rfl, rfl, ⟨by decide, by decide, by decide⟩, q _ H' (Same.refl _) (.int _)⟩)) (fint _ f60)) pqs_nil)))))))))) (pq_draw (m := 10) (fun _ _ g => g.1) (pe_call GD hr1 (by rfl) DD.gl DD.fn.kp DD.bd .nil pass0 (pa_cons (pv 0) (pa_cons pe_int pa_nil))) (by decide) (by decide)) (fun _ _ => rfl))))))))), ?_⟩
    refine ⟨_, rfl, p, fq, 7, b, rfl, hF, by omega, by decide, by decide, fun way H1 _ _ s1 F1 => ?_⟩
    have hd1 := Dp_same s1 hd
    have hH := Dp_same (del_same _ _) hd1
    obtain ⟨t1, ty1, k1⟩ := isa_tup hH
    refine ⟨_, rfl, _, .ty "tuple", t1, _, _, rfl, .ty _, ty1, k1, _, rfl, iteF (iteF ?_)⟩
    refine ⟨_, rfl, _, .ty "tuple", t1, _, _, rfl, .ty _, ty1, k1, _, rfl, iteF ?_⟩
    obtain ⟨t2, ty2, k2⟩ := isa_str hH
    refine ⟨_, rfl, _, .ty "str", t2, _, _, rfl, .ty _, ty2, k2, _, rfl, iteF ?_⟩
    obtain ⟨t3, ty3, k3⟩ := isa_lst hH
    refine ⟨_, rfl, _, .ty "list", t3, _, _, rfl, .ty _, ty3, k3, _, rfl, iteF ?_⟩
    refine ⟨_, rfl, rfl, _, rfl, iteF ?_⟩
    exact ⟨_, F1, by omega, ⟨rfl, rfl, hd1⟩, fun v' H' d' s' F' dd hd => q v' d' H' dd (anyP_same (n := 10) hd) (s1.trans s') (F'.mono (by omega))⟩
  | bool c =>
    have evz : v = V.bl c := by cases hd; rfl
    subst evz
    have hM2 : 2 ≤ M := Nat.le_trans (show 2 ≤ 10 ^ 199 by decide +kernel) hM
    have fp1 : ((if c = true then 1 else 0 : Int) + 1).natAbs ≤ M + 1 := by split <;> omega
    have fm1 : ((if c = true then 1 else 0 : Int) - 1).natAbs ≤ M + 1 := by split <;> omega
    have f60 : ((10 : Int) ^ (60 : Int).toNat).natAbs ≤ M + 1 := Nat.le_trans (show ((10 : Int) ^ (60 : Int).toNat).natAbs ≤ 10 ^ 199 by decide +kernel) (by omega)
    obtain ⟨e1, he1⟩ : ∃ e1, e1 = PyData.eqv (.bool c) (.int 1) := ⟨_, rfl⟩
    obtain ⟨e0, he0⟩ : ∃ e0, e0 = PyData.eqv (.bool c) (.int 0) := ⟨_, rfl⟩
    refine ⟨_, pss_cons (ps_set (i := 2) nd rfl (Or.inl rfl) (pe_call GD hr1 (by rfl) DD.gl DD.fn.kp DD.bd .nil pass0 (pa_cons (pv 0) (pa_cons pe_int pa_nil)))) (pss_cons (ps_if (PW.pt (pw_and (pt_val (pe_callB call_isi (by rfl) B.isi (by decide +kernel) (pa_cons (pv 1) (pa_cons (pe_bltn (v := .ty "tuple") (by rfl) B.tuple (by decide +kernel) rfl) pa_nil)))) (pw_and (pt_cmpR (op_neD hu) (pv 1) (pe_tup pa_nil) (nomark _)) (pw_and1 (pt_cmpR op_lt (pv 2) pe_int (nomark _)))))) pss_never pss_nil) (pss_cons (ps_if (pt_val (pe_callB call_isi (by rfl) B.isi (by decide +kernel) (pa_cons (pv 1) (pa_cons (pe_bltn (v := .ty "tuple") (by rfl) B.tuple (by decide +kernel) rfl) pa_nil)))) pss_never pss_nil) (pss_cons (ps_if (pt_val (pe_callB call_isi (by rfl) B.isi (by decide +kernel) (pa_cons (pv 1) (pa_cons (pe_bltn (v := .ty "str") (by rfl) B.str (by decide +kernel) rfl) pa_nil)))) pss_never pss_nil) (pss_cons (ps_if (pt_val (pe_callB call_isi (by rfl) B.isi (by decide +kernel) (pa_cons (pv 1) (pa_cons (pe_bltn (v := .ty "list") (by rfl) B.list (by decide +kernel) rfl) pa_nil)))) pss_never pss_nil) (pss_cons (ps_if (pt_cmpR op_isN (pv 1) pe_non (nomark _)) pss_never pss_nil) (pss_one (ps_ret (pq_pick (K := K) (fq := fq) C rfl (pqs_cons C (pq_pd (Ψ := Ψ) (pd_imp (W := fun _ H => del H p) (d := .int ((if c = true then 1 else 0) + 1)) (pe_op op_addB (pv 1) pe_int) (fun σ H' Q g q => ⟨_, g.2.2.1, 1, rfl, .inr ⟨_, rfl, q _ H' (Same.refl _) (.int _)⟩⟩)) (fint _ fp1)) (pqs_cons C (pq_pd (Ψ := Ψ) (pd_imp (W := fun _ H => del H p) (d := .int ((if c = true then 1 else 0) - 1)) (pe_op op_subB (pv 1) pe_int) (fun σ H' Q g q => ⟨_, g.2.2.1, 1, rfl, .inr ⟨_, rfl, q _ H' (Same.refl _) (.int _)⟩⟩)) (fint _ fm1)) (pqs_cons C (pq_pd (Ψ := Ψ) pd_int (f10 _ (by decide))) (pqs_cons C (pq_pd (Ψ := Ψ) (pd_imp (W := fun _ H => del H p) (d := .bool e1) (pe_cmpR (op_eqD hu) (pv 1) pe_int (nomark _)) (fun σ H' Q g q => ⟨_, g.2.2.1, .bool c, .int 1, .bl c, .int 1, by cases c <;> decide +kernel, by decide +kernel, q _ H' (Same.refl _) (he1 ▸ .bl _)⟩)) (fbl _)) (pqs_cons C (pq_pd (Ψ := Ψ) (pd_imp (W := fun _ H => del H p) (d := .bool e0) (pe_cmpR (op_eqD hu) (pv 1) pe_int (nomark _)) (fun σ H' Q g q => ⟨_, g.2.2.1, .bool c, .int 0, .bl c, .int 0, by cases c <;> decide +kernel, by decide +kernel, q _ H' (Same.refl _) (he0 ▸ .bl _)⟩)) (fbl _)) (pqs_cons C (pq_pd (Ψ := Ψ) pd_non fnon) (pqs_cons C (pq_pd (Ψ := Ψ) pd_str (fwd _ (by decide +kernel))) (pqs_cons C (pq_pd (Ψ := Ψ) (pd_tup C' (pds_cons C' (pd_var (d := .bool c) (pv 1) hv) pds_nil)) fone.1) (pqs_cons C (pq_pd (Ψ := Ψ) (pd_lst C' (pds_cons C' (pd_var (d := .bool c) (pv 1) hv) pds_nil)) fone.2) (pqs_cons C (pq_pd (Ψ := Ψ) (pd_imp (W := fun _ H => del H p) (d := .int (10 ^ (60 : Int).toNat)) (pe_op op_pow pe_int pe_int) (fun σ H' Q g q => ⟨10, 60, rfl, rfl, ⟨by decide, by decide, by decide⟩, q _ H' (Same.refl _) (.int _)⟩)) (fint _ f60)) pqs_nil)))))))))) (pq_draw (m := 10) (fun _ _ g => g.1) (pe_call GD hr1 (by rfl) DD.gl DD.fn.kp DD.bd .nil pass0 (pa_cons (pv 0) (pa_cons pe_int pa_nil))) (by decide) (by decide)) (fun _ _ => rfl))))))))), ?_⟩
    refine ⟨_, rfl, p, fq, 7, b, rfl, hF, by omega, by decide, by decide, fun way H1 _ _ s1 F1 => ?_⟩
    have hd1 := Dp_same s1 hd
    have hH := Dp_same (del_same _ _) hd1
    obtain ⟨t1, ty1, k1⟩ := isa_tup hH
    refine ⟨_, rfl, _, .ty "tuple", t1, _, _, rfl, .ty _, ty1, k1, _, rfl, iteF (iteF ?_)⟩
    refine ⟨_, rfl, _, .ty "tuple", t1, _, _, rfl, .ty _, ty1, k1, _, rfl, iteF ?_⟩
    obtain ⟨t2, ty2, k2⟩ := isa_str hH
    refine ⟨_, rfl, _, .ty "str", t2, _, _, rfl, .ty _, ty2, k2, _, rfl, iteF ?_⟩
    obtain ⟨t3, ty3, k3⟩ := isa_lst hH
    refine ⟨_, rfl, _, .ty "list", t3, _, _, rfl, .ty _, ty3, k3, _, rfl, iteF ?_⟩
    refine ⟨_, rfl, rfl, _, rfl, iteF ?_⟩
    exact ⟨_, F1, by omega, ⟨rfl, rfl, hd1⟩, fun v' H' d' s' F' dd hd => q v' d' H' dd (anyP_same (n := 10) hd) (s1.trans s') (F'.mono (by omega))⟩
  | dict _ => exact absurd hd (by intro h; cases h)
  | tuple ds =>
    obtain ⟨hdl, hn1, hdw, hdin⟩ := hfit.inTup
    obtain ⟨n', hn'⟩ : ∃ n', n = n' + 1 := ⟨n - 1, by omega⟩
    subst hn'
    have hlast : ∀ x ∈ cutD ds (some (-1)) none, leaf (M + 1) x = true ∧ lens (l + 2) x = true ∧ x.depth ≤ n' + 2 := fun x hx => by
      have := (hdin x ((cutD_sub ds (some (-1)) none).1 x hx)).mono (M' := M + 1) (l' := l + 2) (n' := n' + 2) (B' := Bw) (by omega) (by omega) (by omega) (Nat.le_refl _)
      exact ⟨this.lf, this.ln, this.dp⟩
    have llast : (cutD ds (some (-1)) none).length ≤ 1 := by
      unfold cutD
      rw [List.length_take, List.length_drop]
      have : ds.length - HT.sIx ds.length 0 (some (-1)) ≤ 1 := by
        unfold HT.sIx
        simp
        omega
      omega
    have fl1 : Ψ (.tuple (ds ++ cutD ds (some (-1)) none)) := cat_fit hfit hlast (by omega) (by omega) (by omega) (by have := (cutD_sub ds (some (-1)) none).2.2; omega)
    have fl2 : Ψ (.tuple (ds ++ [.list []])) := cat_fit hfit (fun x hx => by
      rw [List.mem_singleton.mp hx]
      exact ⟨by simp [leaf, leafAll], by simp [lens, lensAll], by simp [PyData.depth, PyData.depthAll]⟩) (by omega) (by show l + 1 ≤ l + 2; omega) (by omega) (by simp only [wtAll, wt]; omega)
    have frev : Ψ (.tuple ds.reverse) := by
      refine (Fit.tup (M := M) (l := l) (n := n') (B := Bw) (by rw [List.length_reverse]; exact hdl) (fun x hx => ?_) ?_).mono (by omega) (by omega) (by omega) (by omega)
      · have := hdin x (List.mem_reverse.mp hx)
        exact ⟨this.lf, this.ln, this.dp⟩
      · have : wtAll ds.reverse = wtAll ds := by
          have h : ∀ l : List PyData, wtAll l.reverse = wtAll l := by
            intro l
            induction l with
            | nil => rfl
            | cons x l ih => rw [List.reverse_cons, wtAll_append, ih]; simp only [wtAll]; omega
          exact h ds
        omega
    have flst : Ψ (.list ds) := (Fit.lst (M := M) (l := l) (n := n') (B := Bw) hdl (fun x hx => ⟨(hdin x hx).lf, (hdin x hx).ln, (hdin x hx).dp⟩) hdw).mono (by omega) (by omega) (by omega) (by omega)
    have hc1 : ds.length + (cutD ds (some (-1)) none).length ≤ 1000 := by omega
    have hc2 : ds.length + [PyData.list []].length ≤ 1000 := by show ds.length + 1 ≤ 1000; omega
    cases id hd with
    | @tup a xs _ hx hrx =>
    have hxl := DpAll_len hrx
    refine ⟨_, pss_cons (ps_set (i := 2) nd rfl (Or.inl rfl) (pe_call GD hr1 (by rfl) DD.gl DD.fn.kp DD.bd .nil pass0 (pa_cons (pv 0) (pa_cons pe_int pa_nil)))) (C8.pss_cut (ps_if (PW.pt (pw_and (pt_val (pe_callB call_isi (by rfl) B.isi (by decide +kernel) (pa_cons (pv 1) (pa_cons (pe_bltn (v := .ty "tuple") (by rfl) B.tuple (by decide +kernel) rfl) pa_nil)))) (pw_and (pt_cmpR (op_neD hu) (pv 1) (pe_tup pa_nil) (nomark _)) (pw_and1 (pt_cmpR op_lt (pv 2) pe_int (nomark _))))))
        (pss_cons (ps_set (i := 3) nd rfl (Or.inl rfl) (pe_call GD hr1 (by rfl) DD.gl DD.fn.kp DD.bd .nil pass0 (pa_cons (pv 0) (pa_cons (pe_callB call_len_seq (by rfl) B.len PySem.boot_len (pa_cons (pv 1) pa_nil)) pa_nil))))
        (pss_one (ps_ret (pe_op op_catA (pe_op op_catA (pe_slice sl_tupA (pv 1) po_none (po_some (pv 3))) (pe_tup (pa_cons (pe_call GR hr (by rfl) D.gl D.fn.kp D.bd .nil pass0 (pa_cons (pv 0) (pa_cons (pe_ix ix_tup (pv 1) (pv 3) (fun _ _ => rfl)) pa_nil))) pa_nil))) (pe_slice sl_tupA (pv 1) (po_some (pe_op op_add (pv 3) pe_int)) po_none))))) pss_nil)
      (pss_cons (ps_if (pt_val (pe_callB call_isi (by rfl) B.isi (by decide +kernel) (pa_cons (pv 1) (pa_cons (pe_bltn (v := .ty "tuple") (by rfl) B.tuple (by decide +kernel) rfl) pa_nil)))) (pss_cons (ps_set (i := 4) nd rfl (Or.inl rfl) (pq_lst (K := K) (fq := fq) (pqs_cons C (pq_pd (Ψ := Ψ) (pd_cut C' rfl (pd_var (d := .tuple ds) (pv 1) hv) (po_some pe_int) po_none (l := some 1) (h := none) (fun σ H Q q => ⟨1, rfl, q⟩) (fun σ H Q q => q)) (cutD_sm hfit (by omega) (by omega) (by omega) (by omega))) (pqs_cons C (pq_pd (Ψ := Ψ) (pd_cut C' rfl (pd_var (d := .tuple ds) (pv 1) hv) po_none (po_some (pe_un un_neg pe_int)) (l := none) (h := some (-1)) (fun σ H Q q => q) (fun σ H Q q => ⟨1, rfl, -1, rfl, q⟩)) (cutD_sm hfit (by omega) (by omega) (by omega) (by omega))) (pqs_cons C (pq_pd (Ψ := Ψ) (pd_rev C' rfl (pd_var (d := .tuple ds) (pv 1) hv)) frev) (pqs_cons C (pq_pd (Ψ := Ψ) (pd_cat C' rfl (pd_var (d := .tuple ds) (pv 1) hv) (pd_cut C' rfl (pd_var (d := .tuple ds) (pv 1) hv) (po_some (pe_un un_neg pe_int)) po_none (l := some (-1)) (h := none) (fun σ H Q q => ⟨1, rfl, -1, rfl, q⟩) (fun σ H Q q => q)) hc1) fl1) (pqs_cons C (pq_pd (Ψ := Ψ) (pd_list C' rfl (by rfl) B.list (pd_var (d := .tuple ds) (pv 1) hv)) flst) (pqs_cons C (pq_pd (Ψ := Ψ) (pd_tup C' (pds_cons C' (pd_var (d := .tuple ds) (pv 1) hv) pds_nil)) fone.1) (pqs_cons C (pq_pd (Ψ := Ψ) (pd_tup C' pds_nil) fnil) (pqs_cons C (pq_pd (Ψ := Ψ) (pd_cat C' rfl (pd_var (d := .tuple ds) (pv 1) hv) (pd_tup C' (pds_cons C' (pd_lst C' pds_nil) pds_nil)) hc2) fl2) pqs_nil)))))))))) (pss_one (ps_ret (pe_ix ix_list (pv 4) (pe_call GD hr1 (by rfl) DD.gl DD.fn.kp DD.bd .nil pass0 (pa_cons (pv 0) (pa_cons pe_int pa_nil))) (fun _ _ => rfl))))) pss_nil) pss_never)), ?_⟩
    refine ⟨_, rfl, p, fq, 7, b, rfl, hF, by omega, by decide, by decide, fun way H0 _ _ s0 F0 => ?_⟩
    have hd0 := Dp_same s0 hd
    have hdH := Dp_same (del_same _ _) hd0
    have hx0 := sameT s0 hx
    have hr0 := DpAll_same s0 hrx
    refine ⟨fun σ H' => σ = [some (.ref p), some (.ref a), some (.int way), none, none] ∧ Same (del H p) (del H' p) ∧ FeedAt H' p fq (b + 1), ?_, ?_⟩
    · obtain ⟨t1, ty1, k1⟩ := isa_tup hdH
      refine ⟨_, rfl, _, .ty "tuple", t1, _, _, rfl, .ty _, ty1, k1, _, rfl, iteT ⟨_, rfl, Nat.zero_le _, fun N hN => ?_⟩⟩
      have sN := same_new (o := .tup []) hN
      refine ⟨.tuple ds, .tuple [], Dp_same sN hdH, .tup (SqT.of upd_same) .nil, hfit.shaped (by omega), nilT_shaped, _, rfl, ?_⟩
      have F1 := F0.same sN
      have S1 := s0.trans (same_del (p := p) sN)
      generalize upd H0 N (.tup []) = H1 at sN F1 S1
      rw [eqv_nil_tup]
      refine ite2 (fun c => ?_) (fun c => iteF ⟨rfl, S1, F1⟩)
      have hne : 1 ≤ ds.length := by
        cases ds with
        | nil => cases c
        | cons x r => simp
      refine ⟨_, rfl, _, _, rfl, rfl, _, rfl, ?_⟩
      refine ite2 (fun _ => ?_) (fun _ => ⟨rfl, S1, F1⟩)
      refine ⟨_, rfl, _, rfl, a, xs, rfl, .inr (sameT (del_same _ _) (sameT S1 hx)), p, fq, _, b + 1, rfl, F1, by omega, by omega, by omega, fun at0 H2 a0 a1 s2 F2 => ?_⟩
      obtain ⟨k, rfl⟩ : ∃ k : Nat, at0 = (k : Int) := ⟨at0.toNat, (Int.toNat_of_nonneg a0).symm⟩
      have hk : k < ds.length := by omega
      have S2 := S1.trans s2
      refine ⟨_, rfl, _, rfl, (k : Int), rfl, ?_⟩
      refine cut_dat F2.there (Dp_same S2 hd) (fun v1 H3 s3 d3 => ?_)
      have S3 := S2.trans (same_del s3)
      have F3 := F2.same s3
      have hkx : k < xs.length := by omega
      obtain ⟨dx, hdx, hdpx⟩ := DpAll_get (DpAll_same S3 hrx) (List.getElem?_eq_getElem hkx)
      have fx := hdin dx (List.mem_of_getElem? hdx)
      refine ⟨_, rfl, _, rfl, _, rfl, a, xs, _, _, rfl, rfl, sameT (del_same _ _) (sameT S3 hx), atI_nat (List.getElem?_eq_getElem hkx), p, fq, _, b + 2, n', M, l, wt dx, dx, rfl, rfl, by omega, F3, by omega, hdpx, ⟨fx.lf, fx.ln, fx.dp, Nat.le_refl _⟩, hM, hl, by have := fx.wg; omega, fun v' d' H4 dd f4 s4 F4 => ?_⟩
      refine ⟨by show 1 ≤ sizeLine; decide, fun T hT => ?_⟩
      obtain ⟨u4, hp4⟩ := F4.there
      have s5 := same_new (o := .tup [v']) hT
      have dT : Dp K (del (upd H4 T (.tup [v'])) p) (.ref T) (.tuple [d']) := .tup (SqT.of (new_del hp4 hT)) (.cons (Dp_same (same_del s5) dd) .nil)
      have F5 := F4.same s5
      have S5 := (S3.trans s4).trans (same_del (p := p) s5)
      have d5 := Dp_same (s4.trans (same_del (p := p) s5)) d3
      generalize upd H4 T (.tup [v']) = H5 at s5 dT F5 S5 d5
      rw [cutD_to ds (by omega)] at d5
      cases id d5 with
      | @tup a1 _ _ _ _ =>
      refine cat_dat F5.there d5 dT (by rw [List.length_take]; show _ + 1 ≤ 1000; omega) (fun v2 H6 s6 d6 => ?_)
      have S6 := S5.trans (same_del (p := p) s6)
      have F6 := F5.same s6
      refine ⟨_, rfl, _, rfl, _, _, rfl, rfl, (k : Int) + 1, rfl, ?_⟩
      dsimp only [tNoPart]
      refine cut_dat F6.there (Dp_same S6 hd) (fun v3 H7 s7 d7 => ?_)
      have S7 := S6.trans (same_del (p := p) s7)
      have F7 := F6.same s7
      have d67 := Dp_same (same_del (p := p) s7) d6
      rw [show (k : Int) + 1 = ((k + 1 : Nat) : Int) by omega, cutD_from ds (by omega)] at d7
      cases id d67 with
      | @tup a2 _ _ _ _ =>
      cases id d7 with
      | @tup a3 _ _ _ _ =>
      refine cat_dat F7.there d67 d7 (by rw [List.length_append, List.length_take, List.length_drop]; show _ + 1 + _ ≤ 1000; omega) (fun v4 H8 s8 d8 => ?_)
      refine q v4 _ H8 d8 ?_ (S7.trans (same_del (p := p) s8)) ((F7.same s8).mono (by omega))
      have hwc := wtAll_cut ds hdx
      have hwx := wt_mem (List.mem_of_getElem? hdx)
      have hw4 := f4.wg
      refine fit_any (n' := n' + 2) hfit (by omega) (by omega) (by omega) (fun x hx' => ?_) ?_ ?_
      · rcases List.mem_append.mp hx' with hx' | hx'
        · rcases List.mem_append.mp hx' with hx' | hx'
          · exact .inl (List.mem_of_mem_take hx')
          · rw [List.mem_singleton.mp hx']
            exact .inr ⟨f4.lf, f4.ln, f4.dp⟩
        · exact .inl (List.mem_of_mem_drop hx')
      · rw [List.length_append, List.length_append, List.length_take, List.length_drop]
        show _ + 1 + _ ≤ _
        omega
      · rw [wtAll_append, wtAll_append]
        simp only [wtAll]
        omega
    rintro σ H1 ⟨rfl, s1, F1⟩
    have hd1 := Dp_same s1 hd
    obtain ⟨t1, ty1, k1⟩ := isa_tup (Dp_same (del_same _ _) hd1)
    refine ⟨_, rfl, _, .ty "tuple", t1, _, _, rfl, .ty _, ty1, k1, _, rfl, iteT ?_⟩
    refine ⟨_, F1, by omega, ⟨rfl, rfl, hd1⟩, fun vl H2 dl s2 F2 ddl hdl2 => ?_⟩
    obtain ⟨es, rfl, hes⟩ := hdl2
    have lel := fitsP_len hes
    cases ddl with
    | @lst al xl _ hxl2 hrl =>
    have lxl := DpAll_len hrl
    refine ⟨_, rfl, _, rfl, p, fq, 8, _, rfl, F2, by omega, by decide, by decide, fun r3 H3 a0 a1 s3 F3 => ?_⟩
    obtain ⟨j, rfl⟩ : ∃ j : Nat, r3 = (j : Int) := ⟨r3.toNat, (Int.toNat_of_nonneg a0).symm⟩
    have hj : j < xl.length := by
      have e8 : es.length = 8 := lel
      omega
    obtain ⟨dj, e1, e2⟩ := DpAll_get (DpAll_same s3 hrl) (List.getElem?_eq_getElem hj)
    refine ⟨al, xl, _, _, rfl, rfl, (del_same H3 p).seq (s3.seq hxl2), atI_nat (List.getElem?_eq_getElem hj), ?_⟩
    exact q _ dj H3 e2 (anyP_same (n := 8) (fitsP_get hes e1)) ((s1.trans s2).trans s3) (F3.mono (by omega))
theorem ok_bent {f f1 : Addr} {fd fd1 : FuncData} (D : Df K mg "_law_bent" (topS 22) ["_law_feed_here", "_law_odd"] f fd) (DD : Df K mg "_law_draw" (topS 15) ["_law_feed_here", "_law_many"] f1 fd1) (B : Bt mg)
    (GD : FnOk P w K mg base CX0 1 f1 fd1 ["_law_feed_here", "_law_many"] spDraw) : ∀ n : Nat, FnOk P w K mg base CX0 (n + 1) f fd ["_law_feed_here", "_law_odd"] (spBent K n)
  | 0 => by
    have no : ∀ vs H Q E, ¬ spBent K 0 vs H Q E := fun vs H Q E h => by
      obtain ⟨p, fq, v, b, m, M, l, B, d, _, h0, _⟩ := h
      omega
    exact ⟨fun vs H Q E h => absurd h (no vs H Q E), fun A outer s H args us vs Q E _ _ _ _ h => absurd h (no vs H Q E)⟩
  | n + 1 => ok_bent1 D DD B GD (ok_bent D DD B GD n)
end
end Sw
set_option maxRecDepth 100000
set_option maxHeartbeats 4000000
namespace Sw
open PySem PySem.Spec PyProof.Rows L2
/-! ### the order of texts, and of pairs of a text and an int -/
def isSI : PyData → Bool
  | .tuple [.str _, .int _] => true
  | _ => false
def siOf : PyData → Str × Int
  | .tuple [.str a, .int i] => (a, i)
  | _ => (Str.empty, 0)
theorem si_eq {d : PyData} (h : isSI d = true) : d = .tuple [.str (siOf d).1, .int (siOf d).2] := by
  unfold isSI at h
  split at h
  · rfl
  · cases h
def cmpD (d e : PyData) : Bool := (isaStr d && isaStr e) || (isSI d && isSI e)
def ltD (d e : PyData) : Bool := if isaStr d = true then decide ((strL0 d).cps.toList < (strL0 e).cps.toList) else ltSI (siOf d) (siOf e)
theorem str_eq {d : PyData} (h : isaStr d = true) : d = .str (strL0 d) := by cases d <;> first | rfl | cases h
/-- x < y -/
theorem op_ltD {X : Cx} (hu : X.A.units < cLine) : OpR X (compareOp .Lt) (fun x y H Q => ∃ d e, Dp X.K H x d ∧ Dp X.K H y e ∧ cmpD d e = true ∧ Q (.bl (ltD d e)) H) := by
  intro pins s σ H x y v u Q I rx ry h
  obtain ⟨d, e, hd, he, hc, q⟩ := h
  by_cases h1 : isaStr d = true
  · have h2 : isaStr e = true := by
      cases d with
      | str z => simpa [cmpD, isaStr, isSI] using hc
      | _ => cases h1
    rw [str_eq h1] at hd
    rw [str_eq h2] at he
    cases hd
    cases he
    refine op_lt_str pins s σ H _ _ v u Q I rx ry ⟨_, _, rfl, rfl, ?_⟩
    unfold ltD at q
    rw [if_pos h1] at q
    exact q
  · have h2 : isSI d = true ∧ isSI e = true := by
      unfold cmpD at hc
      rw [Bool.eq_false_iff.mpr h1, Bool.false_and, Bool.false_or, Bool.and_eq_true] at hc
      exact hc
    unfold ltD at q
    rw [if_neg h1] at q
    rw [si_eq h2.1] at hd
    rw [si_eq h2.2] at he
    generalize siOf d = a at hd q
    generalize siOf e = c at he q
    cases hd with
    | @tup pa xa _ hxa hra =>
    cases hra with
    | cons g1 t1 =>
    cases t1 with
    | cons g2 t2 =>
    cases t2
    cases g1
    cases g2
    cases he with
    | @tup pc xc _ hxc hrc =>
    cases hrc with
    | cons g1 t1 =>
    cases t1 with
    | cons g2 t2 =>
    cases t2
    cases g1
    cases g2
    cases rx
    cases ry
    obtain ⟨i1, r1, p1, _⟩ := I.tuple hxa
    obtain ⟨i2, r2, p2, _⟩ := I.tuple hxc
    obtain ⟨u1, u2, rfl, ru1, ru2⟩ := vals2 r1
    obtain ⟨w1, w2, rfl, rw1, rw2⟩ := vals2 r2
    obtain ⟨k1, rfl⟩ := ru1
    obtain ⟨k2, rfl⟩ := ru2
    obtain ⟨k3, rfl⟩ := rw1
    obtain ⟨k4, rfl⟩ := rw2
    have R := Ob.RcOp.tuples_lt (A := X.A) (s := s) p1 p2 hu (e := fun j => if j = 0 then decide (a.1 = c.1) else decide (a.2 = c.2)) (r := fun j => if j = 0 then decide (a.1.cps.toList < c.1.cps.toList) else decide (a.2 < c.2)) ?_ ?_
    · refine R _ _ _ _ ⟨.bl _, H, I, rfl, ?_⟩
      have e : Ob.lexAt (fun j => if j = 0 then decide (a.1 = c.1) else decide (a.2 = c.2)) (fun j => if j = 0 then decide (a.1.cps.toList < c.1.cps.toList) else decide (a.2 < c.2)) (decide (([Value.str a.1 k1, Value.int a.2 k2] : List Value).toArray.size < ([Value.str c.1 k3, Value.int c.2 k4] : List Value).toArray.size)) 0 (min ([Value.str a.1 k1, Value.int a.2 k2] : List Value).toArray.size ([Value.str c.1 k3, Value.int c.2 k4] : List Value).toArray.size) = ltSI a c := by
        show (if decide (a.1 = c.1) = true then (if decide (a.2 = c.2) = true then false else decide (a.2 < c.2)) else decide (a.1.cps.toList < c.1.cps.toList)) = _
        unfold ltSI
        by_cases h1 : a.1 = c.1
        · rw [if_pos (decide_eq_true h1), if_pos h1]
          by_cases h2 : a.2 = c.2
          · rw [if_pos (decide_eq_true h2), h2]
            exact (decide_eq_false (Int.lt_irrefl _)).symm
          · rw [if_neg (by simpa using h2)]
        · rw [if_neg (by simpa using h1), if_neg h1]
      rw [e]
      exact q
    · intro j h1 h2
      have hj : j = 0 ∨ j = 1 := by
        have : j < 2 := h1
        omega
      rcases hj with rfl | rfl
      · exact SeqAt.EqAt.str_str a.1 k1 c.1 k3
      · exact SeqAt.EqAt.int_int a.2 k2 c.2 k4
    · intro j h1 h2 _
      have hj : j = 0 ∨ j = 1 := by
        have : j < 2 := h1
        omega
      rcases hj with rfl | rfl
      · exact fun _ _ _ _ h => PyProof.Rows.lt_str h
      · exact Ob.RcOp.lt_int a.2 c.2 k2 k4
def risesD : List PyData → Bool
  | a :: b :: r => ltD a b && risesD (b :: r)
  | _ => true
theorem risesD_range : ∀ zs : List PyData, ((List.range (zs.length - 1)).map fun i => ltD (zs.getD i .none) (zs.getD (i + 1) .none)).all id = risesD zs
  | [] => rfl
  | [_] => rfl
  | a :: b :: r => by
    have ih := risesD_range (b :: r)
    have e : (a :: b :: r).length - 1 = (b :: r).length - 1 + 1 := by simp
    rw [e, List.range_succ_eq_map, List.map_cons, List.map_map, List.all_cons]
    show (ltD a b && _) = (ltD a b && risesD (b :: r))
    rw [← ih]
    rfl
end Sw
set_option maxRecDepth 100000
set_option maxHeartbeats 4000000
namespace Sw
open PySem PySem.Spec PyProof.Rows L2
def fstD : PyData → PyData
  | .tuple (x :: _) => x
  | _ => .none
def sndD : PyData → PyData
  | .tuple (_ :: y :: _) => y
  | _ => .none
theorem pair_eq {d : PyData} (h : dPair d = true) : d = .tuple [fstD d, sndD d] := by
  cases d with
  | tuple ds =>
    have : ds.length = 2 := of_decide_eq_true h
    match ds, this with
    | [x, y], _ => rfl
  | _ => cases h
def numPair (d : PyData) : Bool := dPair d && dNum (sndD d)
def dNmd : PyData → Bool
  | .tuple ds => ds.all numPair
  | _ => false
def dCell (zs : List (Str × Int)) : PyData → Bool
  | .tuple [.str z, .int i] => wordS z && (decide (0 ≤ i) && decide (i < (sz zs z).getD 0))
  | _ => false
def dNames : PyData → Bool
  | .tuple ds => ds.all numPair && ds.all (fun x => dWord (fstD x)) && risesD (ds.map fstD)
  | _ => false
def dCells (zs : List (Str × Int)) : PyData → Bool
  | .tuple ds => ds.all numPair && ds.all (fun x => dCell zs (fstD x)) && risesD (ds.map fstD)
  | _ => false
def dStart (zs : List (Str × Int)) (d : PyData) : Bool := dPair d && dNames (fstD d) && dCells zs (sndD d)
theorem cell_si {zs : List (Str × Int)} {d : PyData} (h : dCell zs d = true) : isSI d = true := by
  unfold dCell at h
  split at h
  · rfl
  · cases h
theorem word_str {d : PyData} (h : dWord d = true) : isaStr d = true := by cases d <;> first | rfl | cases h
theorem firsts_of {K : PySem.W.Frag} {H : Hp} : ∀ {xs : List V} {ds : List PyData}, DpAll K H xs ds → (∀ d ∈ ds, dPair d = true) → ∃ ys : List V, DpAll K H ys (ds.map fstD) ∧ ∀ (i : Nat) x, xs[i]? = some x → ∃ t x1, x = .ref t ∧ SqT K H t [ys.getD i .non, x1]
  | _, _, .nil, _ => ⟨[], .nil, fun i x e => by simp at e⟩
  | _, _, .cons (d := d) h r, hp => by
    obtain ⟨ys, h1, h2⟩ := firsts_of r fun d hd => hp d (List.mem_cons_of_mem _ hd)
    rw [pair_eq (hp d List.mem_cons_self)] at h
    cases h with
    | @tup a xs' _ hx hr =>
    cases hr with
    | @cons x0 _ _ _ g1 t1 =>
    cases t1 with
    | @cons x1 _ _ _ g2 t2 =>
    cases t2
    refine ⟨x0 :: ys, .cons g1 h1, fun i x e => ?_⟩
    cases i with
    | zero =>
      have : V.ref a = x := by simpa using e
      exact ⟨a, x1, this.symm, hx⟩
    | succ i => exact h2 i x (by simpa using e)
section
variable {P : Program} {w : World} {K : PySem.W.Frag} {mg : Str → Option Value} {base : Heap}
def spRise2 (K : PySem.W.Frag) : Sp := fun vs H Q _ => ∃ (v : V) (ds : List PyData), vs = [v] ∧ Dp K H v (.tuple ds) ∧ ds.length ≤ 60 ∧ (∀ d ∈ ds, dPair d = true) ∧ ((∀ d ∈ ds, isaStr (fstD d) = true) ∨ ∀ d ∈ ds, isSI (fstD d) = true) ∧ ∀ H', Same H H' → Q (.bl (risesD (ds.map fstD))) H'
theorem ok_rise2 {f : Addr} {fd : FuncData} (D : Df K mg "has_rising_firsts" (topS 5) ["pairs"] f fd) (B : Bt mg) : FnOk P w K mg base CX0 1 f fd ["pairs"] (spRise2 K) := by
  refine D.fn.ok sc_rise (fun vs H Q E h => ?_) (fun cdv A outer s H vs Q E hr h => ?_)
  · obtain ⟨v, d, rfl, _⟩ := h
    rfl
  obtain ⟨v, ds, rfl, hd, hl, ho, hk, q⟩ := h
  cases hd with
  | @tup a xs _ hx hr0 =>
  have hlen := DpAll_len hr0
  have hu : (A.deeper (envOfC "has_rising_firsts" (defScope (topS 5)) s.heap.objs.size f cdv)).units < cLine := by have := hr.units; omega
  refine ⟨_, pss_cons (ps_setLc (i := 1) (own := [("pair", 2)]) (g := gName 2) (tt := tYes) rfl sc_rise.nd rfl rfl (sw_true rfl rfl rfl (by decide +kernel)) (pi_tup (pv 0))
      (blkOk_by (N := ["pairs", "firsts", "pair", "one", "other"]) (sc := defScope (topS 5)) (by decide +kernel)) (fun _ _ _ _ _ => pg_name (i := 2) sc_rise.nd rfl (Or.inl rfl)) (fun _ _ _ _ _ => pts_nil)
      (fun _ _ _ _ _ => pe_ix (r := rIxT K) ix_tup (pv 2) pe_int (fun _ _ => rfl)))
    (pss_one (ps_ret (pe_callB (cr_all rfl) (by rfl) B.all (by decide +kernel) (pa_cons (pe_lc (own := [("one", 3), ("other", 4)]) (g := gTup K 2 (gCons (gName 3) (gCons (gName 4) gNil))) (tt := tYes) rfl sc_rise.nd
      (pi_zip (by rfl) B.zip (pa_cons (pv 1) (pa_cons (pe_slice sl_list (pv 1) (po_some pe_int) po_none) pa_nil)))
      (blkOk_by (N := ["pairs", "firsts", "pair", "one", "other"]) (sc := defScope (topS 5)) (by decide +kernel))
      (fun _ _ _ _ _ => pg_tup rfl (pgs_cons (pg_name (i := 3) sc_rise.nd rfl (Or.inl rfl)) (pgs_cons (pg_name (i := 4) sc_rise.nd rfl (Or.inl rfl)) pgs_nil))) (fun _ _ _ _ _ => pts_nil)
      (fun _ _ _ _ _ => pe_cmpR (r := fun x y H Q => ∃ d e, Dp K H x d ∧ Dp K H y e ∧ cmpD d e = true ∧ Q (.bl (ltD d e)) H) (op_ltD hu) (pv 3) (pv 4) (nomark _))) pa_nil)))), ?_⟩
  clear D B hr hu
  obtain ⟨ys, hys, hyx⟩ := firsts_of hr0 ho
  have hyl := DpAll_len hys
  rw [List.length_map] at hyl
  refine ⟨_, rfl, a, rfl, ⟨_, hx⟩, fun L hL => lc_map (walk_tup (xs := xs)) (fun i => ys.getD i .non) hL (fun _ h => sameT h hx) (big_size (by omega)) ?_ ?_⟩
  · intro i x H1 Q1 hi hxi hs q1
    obtain ⟨t, x1, rfl, ht⟩ := hyx i x hxi
    exact ⟨_, rfl, t, _, 0, _, rfl, rfl, sameT hs ht, atI_nat (j := 0) rfl, q1 H1 (Same.refl H1)⟩
  intro H1 s1 hL1
  have eL : (List.range xs.length).map (fun i => ys.getD i .non) = ys := by
    apply List.ext_getElem?
    intro i
    simp only [List.getElem?_map]
    by_cases h : i < ys.length
    · rw [List.getElem?_range (by omega), List.getElem?_eq_getElem h]
      simp [List.getD, h]
    · rw [List.getElem?_eq_none (by first | omega | (simp; omega)), List.getElem?_eq_none (by first | omega | (simp; omega))]
      rfl
  rw [eL] at hL1
  generalize hfs : ds.map fstD = fs at hys q
  have hfl : fs.length = ds.length := by rw [← hfs, List.length_map]
  have hcmp : ∀ x ∈ fs, ∀ y ∈ fs, cmpD x y = true := fun x hx y hy => by
    rw [← hfs] at hx hy
    obtain ⟨dx, hdx, rfl⟩ := List.mem_map.mp hx
    obtain ⟨dy, hdy, rfl⟩ := List.mem_map.mp hy
    unfold cmpD
    rcases hk with hk | hk
    · rw [hk dx hdx, hk dy hdy]; rfl
    · rw [hk dx hdx, hk dy hdy, Bool.true_and, Bool.or_true]
  refine ⟨.ref L, rfl, .ref L, rfl, 1, rfl, L, ys, rfl, SqL.of hL1, fun C hC => ?_⟩
  have sC : Same H1 (upd H1 C (.lst (cutV ys (some 1) none))) := same_new hC
  have hLC := sC _ _ hL1
  have hCC : upd H1 C (.lst (cutV ys (some 1) none)) C = some (.lst (ys.drop 1)) := by rw [upd_same, cut_one]
  generalize upd H1 C (.lst (cutV ys (some 1) none)) = H2 at sC hLC hCC
  have s02 := s1.trans sC
  refine ⟨L, C, ys, ys.drop 1, rfl, SqL.of hLC, SqL.of hCC, fun D2 hD2 => ?_⟩
  refine lc_it (walk_zip (xs := ys) (ys := ys.drop 1) (n := fs.length - 1) (by simp; omega)) (fun i H => Same H2 H ∧ H D2 = some (.lst ((List.range i).map fun i => V.bl (ltD (fs.getD i .none) (fs.getD (i + 1) .none))))) ⟨same_new hD2, by rw [upd_same]; rfl⟩ (fun i H _ h => ⟨SqL.of (h.1 _ _ hLC), SqL.of (h.1 _ _ hCC)⟩) ?_ ?_
  · rintro i x H3 H4 hi ⟨s3, h3⟩ ⟨T, x1, x2, rfl, nT, rfl, e1, e2⟩
    dsimp only at e1 e2
    rw [List.getElem?_drop, Nat.add_comm 1 i] at e2
    obtain ⟨d1, f1, g1⟩ := DpAll_get hys e1
    obtain ⟨d2, f2, g2⟩ := DpAll_get hys e2
    have sT : Same H3 (upd H3 T (.tup [x1, x2])) := same_new nT
    have s4 := (s02.trans s3).trans sT
    refine ⟨T, _, rfl, .inl (.inl upd_same), rfl, _, _, rfl, _, _, rfl, rfl, ?_⟩
    refine ⟨rfl, ?_⟩
    unfold tYes
    dsimp only
    rw [if_pos rfl]
    refine ⟨_, rfl, _, rfl, d1, d2, Dp_same s4 g1, Dp_same s4 g2, hcmp d1 (List.mem_of_getElem? f1) d2 (List.mem_of_getElem? f2), _, sT _ _ h3, ?_, ?_, ?_⟩
    · rw [List.length_map, List.length_range]
      exact big_size (by omega)
    · intro b o e
      rw [upd_ne (ne_of_none e hD2)]
      exact sT _ _ (s3 _ _ e)
    · rw [upd_same, List.range_succ, List.map_append]
      have k1 : fs.getD i .none = d1 := by simp [List.getD, f1]
      have k2 : fs.getD (i + 1) .none = d2 := by simp [List.getD, f2]
      simp only [List.map_cons, List.map_nil, k1, k2]
  · rintro H3 ⟨s3, h3⟩
    refine ⟨D2, ((List.range (fs.length - 1)).map fun i => ltD (fs.getD i .none) (fs.getD (i + 1) .none)), rfl, SqL.of (by rw [h3, List.map_map]; rfl), ?_⟩
    rw [risesD_range]
    exact q H3 (s02.trans s3)
def spCellL (K : PySem.W.Frag) : Sp := fun vs H Q _ => ∃ (c vo v : V) (zs : List (Str × Int)) (d : PyData), vs = [c, v] ∧ CodeAt K H c vo zs ∧ Dp K H v d ∧ (∃ M, Fit M 60 60 1000000 d) ∧ ∀ H', Same H H' → Q (.bl (dCell zs d)) H'
theorem sc_cell : FnScope ["code", "thing"] ["code", "thing"] (defScope (topS 7)) := ⟨rfl, rfl, rfl, by decide +kernel, rfl, by decide +kernel, by decide +kernel⟩
end
end Sw
set_option maxRecDepth 100000
set_option maxHeartbeats 4000000
namespace Sw
open PySem PySem.Spec PyProof.Rows L2
theorem fit_sub {M : Nat} {xs : List PyData} (h : Fit M 60 60 1000000 (.tuple xs)) {x : PyData} (hx : x ∈ xs) : ∃ M, Fit M 60 60 1000000 x := by
  exact ⟨M, Fit.mono ((Fit.inTup h).2.2.2 x hx) (Nat.le_refl _) (Nat.le_refl _) (by decide) (Nat.le_refl _)⟩
section
variable {P : Program} {w : World} {K : PySem.W.Frag} {mg : Str → Option Value} {base : Heap}
theorem ok_cell {f f1 f2 f3 : Addr} {fd fd1 fd2 fd3 : FuncData} (D : Df K mg "is_cell" (topS 7) ["code", "thing"] f fd) (D1 : Df K mg "is_pair" (topS 4) ["thing"] f1 fd1) (D2 : Df K mg "is_word" (topS 3) ["thing"] f2 fd2) (D3 : Df K mg "is_number" (topS 2) ["thing"] f3 fd3) (B : Bt mg) (bD : mg "dict" = none)
    (G1 : FnOk P w K mg base CX0 1 f1 fd1 ["thing"] (spLook K dPair)) (G2 : FnOk P w K mg base CX0 1 f2 fd2 ["thing"] (spLook K dWord)) (G3 : FnOk P w K mg base CX0 1 f3 fd3 ["thing"] (spLook K dNum)) : FnOk P w K mg base CX0 2 f fd ["code", "thing"] (spCellL K) := by
  refine D.fn.ok sc_cell (fun vs H Q E h => ?_) (fun cdv A outer s H vs Q E hr h => ?_)
  · obtain ⟨c, vo, v, zs, d, rfl, _⟩ := h
    rfl
  obtain ⟨vc, vo, v, zs, d, rfl, hC, hd, ⟨M, hf⟩, q⟩ := h
  have nd := sc_cell.nd
  refine ⟨_, pss_cons (ps_if (PW.pt (pw_or (pt_not (pt_val (pe_call G1 hr (by rfl) D1.gl D1.fn.kp D1.bd .nil pass0 (pa_cons (pv 1) pa_nil))))
      (pw_or (pt_not (pt_val (pe_call G2 hr (by rfl) D2.gl D2.fn.kp D2.bd .nil pass0 (pa_cons (pe_ix (r := rIxT K) ix_tup (pv 1) pe_int (fun _ _ => rfl)) pa_nil))))
      (pw_or1 (pt_not (pt_val (pe_call G3 hr (by rfl) D3.gl D3.fn.kp D3.bd .nil pass0 (pa_cons (pe_ix (r := rIxT K) ix_tup (pv 1) pe_int (fun _ _ => rfl)) pa_nil)))))))) (pss_one (ps_ret pe_bl)) pss_nil)
    (pss_one (ps_ret (pe_chain op_le op_lt pe_int (pe_ix (r := rIxT K) ix_tup (pv 1) pe_int (fun _ _ => rfl))
      (pe_dget2 (by have h := hu_of hr; exact h) (pe_callTy (call_dictT rfl) (by rfl) bD (by decide +kernel) (pa_cons (pe_ix (r := rIxT K) ix_tup (pv 0) pe_int (fun _ _ => rfl)) pa_nil)) (pe_ix (r := rIxT K) ix_tup (pv 1) pe_int (fun _ _ => rfl)) pe_int ⟨rfl, rfl, rfl, rfl⟩)))), ?_⟩
  clear G1 G2 G3 D1 D2 D3 D B bD hr
  refine ⟨v, rfl, v, d, rfl, hd, ⟨M, hf⟩, fun H1 s1 => ⟨_, rfl, ?_⟩⟩
  have hd1 := Dp_same s1 hd
  have hC1 := hC.same s1
  by_cases hp : dPair d = true
  case neg =>
    have e : dCell zs d = false := by
      cases h : dCell zs d with
      | false => rfl
      | true =>
        exfalso
        have := si_eq (cell_si h)
        rw [this] at hp
        exact hp rfl
    rw [e] at q
    rw [Bool.eq_false_iff.mpr hp]
    exact q H1 s1
  rw [hp]
  have ed := pair_eq hp
  generalize fstD d = d0 at ed
  generalize sndD d = d1 at ed
  subst ed
  cases hd1 with
  | @tup a xs' _ hx hr0 =>
  cases hr0 with
  | @cons x0 _ _ _ g1 t1 =>
  cases t1 with
  | @cons x1 _ _ _ g2 t2 =>
  cases t2
  refine iteF ⟨_, rfl, a, _, 0, _, rfl, rfl, hx, atI_nat (j := 0) rfl, ?_⟩
  refine ⟨x0, d0, rfl, g1, fit_sub hf (by simp), fun H2 s2 => ⟨_, rfl, ?_⟩⟩
  have s02 := s1.trans s2
  cases d0 with
  | str z =>
    cases g1
    by_cases hw : wordS z = true
    case neg =>
      have e : dCell zs (.tuple [.str z, d1]) = false := by
        cases d1 <;> first | rfl | (show (wordS z && _) = false; rw [Bool.eq_false_iff.mpr hw]; rfl)
      rw [e] at q
      rw [show dWord (.str z) = false from Bool.eq_false_iff.mpr hw]
      exact q H2 s02
    rw [show dWord (.str z) = true from hw]
    refine iteF ⟨_, rfl, a, _, 1, _, rfl, rfl, sameT s2 hx, atI_nat (j := 1) rfl, ?_⟩
    refine ⟨x1, d1, rfl, Dp_same s2 g2, fit_sub hf (by simp), fun H3 s3 => ⟨_, rfl, ?_⟩⟩
    have s03 := s02.trans s3
    have s13 := s2.trans s3
    have hC3 := hC1.same s13
    cases d1 with
    | int i =>
      cases g2
      refine iteF ?_
      have e : dCell zs (.tuple [.str z, .int i]) = (decide (0 ≤ i) && decide (i < (sz zs z).getD 0)) := by
        show (wordS z && _) = _
        rw [hw, Bool.true_and]
      rw [e] at q
      refine ⟨_, rfl, a, _, 1, _, rfl, rfl, sameT s13 hx, atI_nat (j := 1) rfl, _, _, rfl, rfl, _, rfl, ?_⟩
      refine ite2 (fun c => ?_) (fun c => ?_)
      · rw [show decide (0 ≤ i) = true from c, Bool.true_and] at q
        obtain ⟨ac, vr, rfl, hxc⟩ := hC3.ex
        refine ⟨_, rfl, ac, _, 0, _, rfl, rfl, hxc, atI_nat (j := 0) rfl, ?_⟩
        have ho := hC3.ob
        obtain ⟨ao, ps, rfl, hfo, hpo⟩ := ho.ex
        refine ⟨ao, ps, kvO zs, rfl, hfo, paired_kvO hpo, fun dd nd4 => ?_⟩
        have s4 : Same H3 (upd H3 dd (.dK (mergeK [] (kvO zs)))) := same_new nd4
        have hd4 : SizesAt (upd H3 dd (.dK (mergeK [] (kvO zs)))) dd zs := upd_same
        generalize upd H3 dd (.dK (mergeK [] (kvO zs))) = H4 at s4 hd4
        refine ⟨dd, rfl, .inl ⟨_, .inl hd4⟩, _, rfl, a, _, 0, _, rfl, rfl, sameT (s13.trans s4) hx, atI_nat (j := 0) rfl, _, sizes_get hd4 ho.asc z, ?_⟩
        have q2 := q H4 (s03.trans s4)
        cases hz : sz zs z with
        | none =>
          rw [hz] at q2
          exact ⟨_, _, rfl, rfl, q2⟩
        | some k =>
          rw [hz] at q2
          exact ⟨_, _, rfl, rfl, q2⟩
      · have c' : decide ((0 : Int) ≤ i) = false := by simpa using c
        rw [c', Bool.false_and] at q
        first
          | exact q H3 s03
          | (rw [c']; exact q H3 s03)
    | none => exact q H3 s03
    | bool _ => exact q H3 s03
    | str _ => exact q H3 s03
    | list _ => exact q H3 s03
    | tuple _ => exact q H3 s03
    | dict _ => exact q H3 s03
  | none => exact q H2 s02
  | bool _ => exact q H2 s02
  | int _ => exact q H2 s02
  | list _ => exact q H2 s02
  | tuple _ => exact q H2 s02
  | dict _ => exact q H2 s02
end
end Sw
set_option maxRecDepth 100000
set_option maxHeartbeats 4000000
namespace Sw
open PySem PySem.Spec PyProof.Rows L2
theorem map_bools (ds : List PyData) (g : PyData → Bool) (n : Nat) (h : n = ds.length) : ((List.range n).map fun i => V.bl (g (ds.getD i .none))) = (ds.map g).map V.bl := by
  subst h
  apply List.ext_getElem?
  intro i
  simp only [List.getElem?_map]
  by_cases h : i < ds.length
  · rw [List.getElem?_range h, List.getElem?_eq_getElem h]
    simp [List.getD, h]
  · rw [List.getElem?_eq_none (by simp; omega), List.getElem?_eq_none (by omega)]
    rfl
theorem all_map {ds : List PyData} {g : PyData → Bool} : (ds.map g).all id = ds.all g := by
  rw [List.all_map]
  rfl
theorem nmd_pairs {ds : List PyData} (h : dNmd (.tuple ds) = true) : ∀ d ∈ ds, dPair d = true := fun d hd => by
  have h1 := List.all_eq_true.mp (show ds.all numPair = true from h) d hd
  unfold numPair at h1
  rw [Bool.and_eq_true] at h1
  exact h1.1
section
variable {P : Program} {w : World} {K : PySem.W.Frag} {mg : Str → Option Value} {base : Heap}
theorem sc_numbered : FnScope ["thing", "pair"] ["thing"] (defScope (topS 9)) := ⟨rfl, rfl, rfl, by decide +kernel, rfl, by decide +kernel, by decide +kernel⟩
theorem sc_snames : FnScope ["thing", "pair"] ["thing"] (defScope (topS 10)) := ⟨rfl, rfl, rfl, by decide +kernel, rfl, by decide +kernel, by decide +kernel⟩
theorem sc_scells : FnScope ["code", "thing", "pair"] ["code", "thing"] (defScope (topS 11)) := ⟨rfl, rfl, rfl, by decide +kernel, rfl, by decide +kernel, by decide +kernel⟩
theorem sc_start : FnScope ["code", "thing"] ["code", "thing"] (defScope (topS 12)) := ⟨rfl, rfl, rfl, by decide +kernel, rfl, by decide +kernel, by decide +kernel⟩
theorem ok_numbered {f f1 f3 : Addr} {fd fd1 fd3 : FuncData} (D : Df K mg "is_numbered" (topS 9) ["thing"] f fd) (D1 : Df K mg "is_pair" (topS 4) ["thing"] f1 fd1) (D3 : Df K mg "is_number" (topS 2) ["thing"] f3 fd3) (B : Bt mg)
    (G1 : FnOk P w K mg base CX0 1 f1 fd1 ["thing"] (spLook K dPair)) (G3 : FnOk P w K mg base CX0 1 f3 fd3 ["thing"] (spLook K dNum)) : FnOk P w K mg base CX0 2 f fd ["thing"] (spLook K dNmd) := by
  refine D.fn.ok sc_numbered (fun vs H Q E h => ?_) (fun cdv A outer s H vs Q E hr h => ?_)
  · obtain ⟨v, d, rfl, _⟩ := h
    rfl
  obtain ⟨v, d, rfl, hd, ⟨M, hf⟩, q⟩ := h
  have nd := sc_numbered.nd
  refine ⟨_, pss_one (ps_ret (pe_and (pe_callB call_isi (by rfl) B.isi (by decide +kernel) (pa_cons (pv 0) (pa_cons (pe_bltn (v := .ty "tuple") (by rfl) B.tuple (by decide +kernel) rfl) pa_nil)))
    (pe_one (pe_callB (cr_all rfl) (by rfl) B.all (by decide +kernel) (pa_cons (pe_lc (own := [("pair", 1)]) (g := gName 1) (tt := tYes) rfl nd (pi_tup (pv 0))
        (blkOk_by (N := ["thing", "pair"]) (sc := defScope (topS 9)) (by decide +kernel)) (fun _ _ _ _ _ => pg_name (i := 1) nd rfl (Or.inl rfl)) (fun _ _ _ _ _ => pts_nil)
        (fun _ _ _ _ _ => pe_and (pe_call G1 hr (by rfl) D1.gl D1.fn.kp D1.bd .nil pass0 (pa_cons (pv 1) pa_nil)) (pe_one (pe_call G3 hr (by rfl) D3.gl D3.fn.kp D3.bd .nil pass0 (pa_cons (pe_ix (r := rIxT K) ix_tup (pv 1) pe_int (fun _ _ => rfl)) pa_nil))))) pa_nil))))), ?_⟩
  clear G1 G3 D1 D3 D B hr
  obtain ⟨t1, ty1, k1⟩ := isa_tup hd
  refine ⟨v, rfl, v, .ty "tuple", t1, _, _, rfl, .ty _, ty1, k1, _, rfl, ?_⟩
  cases hd with
  | @tup a xs ds hx hr0 =>
    have hlen := DpAll_len hr0
    have hl := (Fit.inTup hf).1
    refine iteT ?_
    refine ⟨_, rfl, a, rfl, ⟨_, hx⟩, fun L hL => lc_map (walk_tup (xs := xs)) (fun i => V.bl (numPair (ds.getD i .none))) hL (fun _ h => sameT h hx) (big_size (by omega)) ?_ ?_⟩
    · intro i x H1 Q1 hi hxi hs q1
      obtain ⟨d, f1, g1⟩ := DpAll_get hr0 hxi
      have ed : ds.getD i .none = d := by simp [List.getD, f1]
      rw [ed] at q1
      have hfd := fit_sub hf (List.mem_of_getElem? f1)
      refine ⟨x, rfl, x, d, rfl, Dp_same hs g1, hfd, fun H2 s2 => ⟨_, rfl, ?_⟩⟩
      by_cases hp : dPair d = true
      · rw [hp]
        refine iteT ?_
        have g2 := Dp_same (hs.trans s2) g1
        have e := pair_eq hp
        have en : numPair d = dNum (sndD d) := by unfold numPair; rw [hp, Bool.true_and]
        rw [en] at q1
        generalize sndD d = d1 at e q1
        generalize fstD d = d0 at e
        subst e
        obtain ⟨M', hfd⟩ := hfd
        cases g2 with
        | @tup a' xs' _ hx' hr' =>
        cases hr' with
        | @cons x0 _ _ _ g1' t1 =>
        cases t1 with
        | @cons x1 _ _ _ g2' t2 =>
        cases t2
        refine ⟨_, rfl, a', _, 1, _, rfl, rfl, hx', atI_nat (j := 1) rfl, x1, d1, rfl, g2', fit_sub hfd (by simp), fun H3 s3 => q1 H3 (s2.trans s3)⟩
      · have en : numPair d = false := by unfold numPair; rw [Bool.eq_false_iff.mpr hp, Bool.false_and]
        rw [en] at q1
        rw [Bool.eq_false_iff.mpr hp]
        exact iteF (q1 H2 s2)
    · intro H1 s1 h1
      rw [map_bools ds numPair _ hlen] at h1
      refine ⟨L, ds.map numPair, rfl, SqL.of h1, ?_⟩
      rw [all_map]
      exact q H1 s1
  | non => exact iteF (q H (Same.refl H))
  | bl b => exact iteF (q H (Same.refl H))
  | int i => exact iteF (q H (Same.refl H))
  | str z => exact iteF (q H (Same.refl H))
  | lst h r => exact iteF (q H (Same.refl H))
theorem firsts_at {H : Hp} {xs : List V} {ds : List PyData} (h : DpAll K H xs ds) (hp : ∀ d ∈ ds, dPair d = true) {i : Nat} {x : V} (hx : xs[i]? = some x) : ∃ t x0 x1 d, x = .ref t ∧ SqT K H t [x0, x1] ∧ ds[i]? = some d ∧ Dp K H x0 (fstD d) ∧ d = .tuple [fstD d, sndD d] := by
  obtain ⟨d, f1, g1⟩ := DpAll_get h hx
  have e := pair_eq (hp d (List.mem_of_getElem? f1))
  have g1' := g1
  rw [e] at g1'
  generalize hd0 : fstD d = d0 at g1'
  generalize hd1 : sndD d = d1 at g1'
  cases g1' with
  | @tup a' xs' _ hx' hr' =>
  cases hr' with
  | @cons x0 _ _ _ h0 t1 =>
  cases t1 with
  | @cons x1 _ _ _ h1 t2 =>
  cases t2
  exact ⟨a', x0, x1, d, rfl, hx', f1, hd0 ▸ h0, e⟩
theorem ok_snames {f f1 f2 f3 : Addr} {fd fd1 fd2 fd3 : FuncData} (D : Df K mg "are_start_names" (topS 10) ["thing"] f fd) (D1 : Df K mg "is_numbered" (topS 9) ["thing"] f1 fd1) (D2 : Df K mg "is_word" (topS 3) ["thing"] f2 fd2) (D3 : Df K mg "has_rising_firsts" (topS 5) ["pairs"] f3 fd3) (B : Bt mg)
    (G1 : FnOk P w K mg base CX0 2 f1 fd1 ["thing"] (spLook K dNmd)) (G2 : FnOk P w K mg base CX0 2 f2 fd2 ["thing"] (spLook K dWord)) (G3 : FnOk P w K mg base CX0 2 f3 fd3 ["pairs"] (spRise2 K)) : FnOk P w K mg base CX0 3 f fd ["thing"] (spLook K dNames) := by
  refine D.fn.ok sc_snames (fun vs H Q E h => ?_) (fun cdv A outer s H vs Q E hr h => ?_)
  · obtain ⟨v, d, rfl, _⟩ := h
    rfl
  obtain ⟨v, d, rfl, hd, ⟨M, hf⟩, q⟩ := h
  have nd := sc_snames.nd
  refine ⟨_, pss_one (ps_ret (pe_and (pe_call G1 hr (by rfl) D1.gl D1.fn.kp D1.bd .nil pass0 (pa_cons (pv 0) pa_nil))
    (pe_and (pe_callB (cr_all rfl) (by rfl) B.all (by decide +kernel) (pa_cons (pe_lc (own := [("pair", 1)]) (g := gName 1) (tt := tYes) rfl nd (pi_tup (pv 0))
        (blkOk_by (N := ["thing", "pair"]) (sc := defScope (topS 10)) (by decide +kernel)) (fun _ _ _ _ _ => pg_name (i := 1) nd rfl (Or.inl rfl)) (fun _ _ _ _ _ => pts_nil)
        (fun _ _ _ _ _ => pe_call G2 hr (by rfl) D2.gl D2.fn.kp D2.bd .nil pass0 (pa_cons (pe_ix (r := rIxT K) ix_tup (pv 1) pe_int (fun _ _ => rfl)) pa_nil))) pa_nil))
    (pe_one (pe_call G3 hr (by rfl) D3.gl D3.fn.kp D3.bd .nil pass0 (pa_cons (pv 0) pa_nil)))))), ?_⟩
  clear G1 G2 G3 D1 D2 D3 D B hr
  refine ⟨v, rfl, v, d, rfl, hd, ⟨M, hf⟩, fun H1 s1 => ⟨_, rfl, ?_⟩⟩
  by_cases hn : dNmd d = true
  case neg =>
    have e : dNames d = false := by
      cases d with
      | tuple ds =>
        show (ds.all numPair && _ && _) = false
        rw [show ds.all numPair = false from Bool.eq_false_iff.mpr hn, Bool.false_and, Bool.false_and]
      | _ => rfl
    rw [e] at q
    rw [Bool.eq_false_iff.mpr hn]
    exact iteF (q H1 s1)
  rw [hn]
  refine iteT ?_
  cases d with
  | tuple ds =>
    have hp := nmd_pairs hn
    have en : dNames (.tuple ds) = (ds.all (fun x => dWord (fstD x)) && risesD (ds.map fstD)) := by
      show (ds.all numPair && _ && _) = _
      rw [show ds.all numPair = true from hn, Bool.true_and]
    rw [en] at q
    have hd1 := Dp_same s1 hd
    have hd0 := hd
    cases hd1 with
    | @tup a xs _ hx hr0 =>
    have hlen := DpAll_len hr0
    have hl := (Fit.inTup hf).1
    refine ⟨_, rfl, a, rfl, ⟨_, hx⟩, fun L hL => lc_map (walk_tup (xs := xs)) (fun i => V.bl ((fun x => dWord (fstD x)) (ds.getD i .none))) hL (fun _ h => sameT h hx) (big_size (by omega)) ?_ ?_⟩
    · intro i x H2 Q1 hi hxi hs q1
      obtain ⟨t, x0, x1, d, rfl, ht, f1, g1, ed⟩ := firsts_at hr0 hp hxi
      have e : ds.getD i .none = d := by simp [List.getD, f1]
      rw [e] at q1
      obtain ⟨M', hfd⟩ := fit_sub hf (List.mem_of_getElem? f1)
      have hfd0 : ∃ M, Fit M 60 60 1000000 (fstD d) := by
        rw [ed] at hfd
        exact fit_sub hfd (by simp)
      exact ⟨_, rfl, t, _, 0, _, rfl, rfl, sameT hs ht, atI_nat (j := 0) rfl, x0, _, rfl, Dp_same hs g1, hfd0, q1⟩
    · intro H2 s2 h2
      rw [map_bools ds (fun x => dWord (fstD x)) _ hlen] at h2
      refine ⟨L, _, rfl, SqL.of h2, _, rfl, ?_⟩
      rw [all_map]
      by_cases hw : ds.all (fun x => dWord (fstD x)) = true
      · rw [hw] at q ⊢
        rw [Bool.true_and] at q
        refine iteT ⟨_, rfl, _, ds, rfl, Dp_same (s1.trans s2) hd0, hl, hp, .inl fun d hd => word_str (List.all_eq_true.mp hw d hd), fun H3 s3 => q H3 ((s1.trans s2).trans s3)⟩
      · rw [Bool.eq_false_iff.mpr hw] at q ⊢
        exact iteF (q H2 (s1.trans s2))
  | _ => cases hn
def spSCells (K : PySem.W.Frag) : Sp := fun vs H Q _ => ∃ (c vo v : V) (zs : List (Str × Int)) (d : PyData), vs = [c, v] ∧ CodeAt K H c vo zs ∧ Dp K H v d ∧ (∃ M, Fit M 60 60 1000000 d) ∧ ∀ H', Same H H' → Q (.bl (dCells zs d)) H'
def spStart (K : PySem.W.Frag) : Sp := fun vs H Q _ => ∃ (c vo v : V) (zs : List (Str × Int)) (d : PyData), vs = [c, v] ∧ CodeAt K H c vo zs ∧ Dp K H v d ∧ (∃ M, Fit M 60 60 1000000 d) ∧ ∀ H', Same H H' → Q (.bl (dStart zs d)) H'
theorem ok_scells {f f1 f2 f3 : Addr} {fd fd1 fd2 fd3 : FuncData} (D : Df K mg "are_start_cells" (topS 11) ["code", "thing"] f fd) (D1 : Df K mg "is_numbered" (topS 9) ["thing"] f1 fd1) (D2 : Df K mg "is_cell" (topS 7) ["code", "thing"] f2 fd2) (D3 : Df K mg "has_rising_firsts" (topS 5) ["pairs"] f3 fd3) (B : Bt mg)
    (G1 : FnOk P w K mg base CX0 2 f1 fd1 ["thing"] (spLook K dNmd)) (G2 : FnOk P w K mg base CX0 2 f2 fd2 ["code", "thing"] (spCellL K)) (G3 : FnOk P w K mg base CX0 2 f3 fd3 ["pairs"] (spRise2 K)) : FnOk P w K mg base CX0 3 f fd ["code", "thing"] (spSCells K) := by
  refine D.fn.ok sc_scells (fun vs H Q E h => ?_) (fun cdv A outer s H vs Q E hr h => ?_)
  · obtain ⟨c, vo, v, zs, d, rfl, _⟩ := h
    rfl
  obtain ⟨vc, vo, v, zs, d, rfl, hC, hd, ⟨M, hf⟩, q⟩ := h
  have nd := sc_scells.nd
  refine ⟨_, pss_one (ps_ret (pe_and (pe_call G1 hr (by rfl) D1.gl D1.fn.kp D1.bd .nil pass0 (pa_cons (pv 1) pa_nil))
    (pe_and (pe_callB (cr_all rfl) (by rfl) B.all (by decide +kernel) (pa_cons (pe_lc (own := [("pair", 2)]) (g := gName 2) (tt := tYes) rfl nd (pi_tup (pv 1))
        (blkOk_by (N := ["code", "thing", "pair"]) (sc := defScope (topS 11)) (by decide +kernel)) (fun _ _ _ _ _ => pg_name (i := 2) nd rfl (Or.inl rfl)) (fun _ _ _ _ _ => pts_nil)
        (fun _ _ _ _ _ => pe_call G2 hr (by rfl) D2.gl D2.fn.kp D2.bd .nil pass0 (pa_cons (pv 0) (pa_cons (pe_ix (r := rIxT K) ix_tup (pv 2) pe_int (fun _ _ => rfl)) pa_nil)))) pa_nil))
    (pe_one (pe_call G3 hr (by rfl) D3.gl D3.fn.kp D3.bd .nil pass0 (pa_cons (pv 1) pa_nil)))))), ?_⟩
  clear G1 G2 G3 D1 D2 D3 D B hr
  refine ⟨v, rfl, v, d, rfl, hd, ⟨M, hf⟩, fun H1 s1 => ⟨_, rfl, ?_⟩⟩
  by_cases hn : dNmd d = true
  case neg =>
    have e : dCells zs d = false := by
      cases d with
      | tuple ds =>
        show (ds.all numPair && _ && _) = false
        rw [show ds.all numPair = false from Bool.eq_false_iff.mpr hn, Bool.false_and, Bool.false_and]
      | _ => rfl
    rw [e] at q
    rw [Bool.eq_false_iff.mpr hn]
    exact iteF (q H1 s1)
  rw [hn]
  refine iteT ?_
  cases d with
  | tuple ds =>
    have hp := nmd_pairs hn
    have en : dCells zs (.tuple ds) = (ds.all (fun x => dCell zs (fstD x)) && risesD (ds.map fstD)) := by
      show (ds.all numPair && _ && _) = _
      rw [show ds.all numPair = true from hn, Bool.true_and]
    rw [en] at q
    have hd1 := Dp_same s1 hd
    have hd0 := hd
    cases hd1 with
    | @tup a xs _ hx hr0 =>
    have hlen := DpAll_len hr0
    have hl := (Fit.inTup hf).1
    refine ⟨_, rfl, a, rfl, ⟨_, hx⟩, fun L hL => lc_map (walk_tup (xs := xs)) (fun i => V.bl ((fun x => dCell zs (fstD x)) (ds.getD i .none))) hL (fun _ h => sameT h hx) (big_size (by omega)) ?_ ?_⟩
    · intro i x H2 Q1 hi hxi hs q1
      obtain ⟨t, x0, x1, d, rfl, ht, f1, g1, ed⟩ := firsts_at hr0 hp hxi
      have e : ds.getD i .none = d := by simp [List.getD, f1]
      rw [e] at q1
      obtain ⟨M', hfd⟩ := fit_sub hf (List.mem_of_getElem? f1)
      have hfd0 : ∃ M, Fit M 60 60 1000000 (fstD d) := by
        rw [ed] at hfd
        exact fit_sub hfd (by simp)
      exact ⟨_, rfl, _, rfl, t, _, 0, _, rfl, rfl, sameT hs ht, atI_nat (j := 0) rfl, vc, vo, x0, zs, _, rfl, hC.same (s1.trans hs), Dp_same hs g1, hfd0, q1⟩
    · intro H2 s2 h2
      rw [map_bools ds (fun x => dCell zs (fstD x)) _ hlen] at h2
      refine ⟨L, _, rfl, SqL.of h2, _, rfl, ?_⟩
      rw [all_map]
      by_cases hw : ds.all (fun x => dCell zs (fstD x)) = true
      · rw [hw] at q ⊢
        rw [Bool.true_and] at q
        refine iteT ⟨_, rfl, _, ds, rfl, Dp_same (s1.trans s2) hd0, hl, hp, .inr fun d hd => cell_si (List.all_eq_true.mp hw d hd), fun H3 s3 => q H3 ((s1.trans s2).trans s3)⟩
      · rw [Bool.eq_false_iff.mpr hw] at q ⊢
        exact iteF (q H2 (s1.trans s2))
  | _ => cases hn
theorem ok_start {f f1 f2 f3 : Addr} {fd fd1 fd2 fd3 : FuncData} (D : Df K mg "is_start" (topS 12) ["code", "thing"] f fd) (D1 : Df K mg "is_pair" (topS 4) ["thing"] f1 fd1) (D2 : Df K mg "are_start_names" (topS 10) ["thing"] f2 fd2) (D3 : Df K mg "are_start_cells" (topS 11) ["code", "thing"] f3 fd3)
    (G1 : FnOk P w K mg base CX0 3 f1 fd1 ["thing"] (spLook K dPair)) (G2 : FnOk P w K mg base CX0 3 f2 fd2 ["thing"] (spLook K dNames)) (G3 : FnOk P w K mg base CX0 3 f3 fd3 ["code", "thing"] (spSCells K)) : FnOk P w K mg base CX0 4 f fd ["code", "thing"] (spStart K) := by
  refine D.fn.ok sc_start (fun vs H Q E h => ?_) (fun cdv A outer s H vs Q E hr h => ?_)
  · obtain ⟨c, vo, v, zs, d, rfl, _⟩ := h
    rfl
  obtain ⟨vc, vo, v, zs, d, rfl, hC, hd, ⟨M, hf⟩, q⟩ := h
  refine ⟨_, pss_one (ps_ret (pe_and (pe_call G1 hr (by rfl) D1.gl D1.fn.kp D1.bd .nil pass0 (pa_cons (pv 1) pa_nil))
    (pe_and (pe_call G2 hr (by rfl) D2.gl D2.fn.kp D2.bd .nil pass0 (pa_cons (pe_ix (r := rIxT K) ix_tup (pv 1) pe_int (fun _ _ => rfl)) pa_nil))
    (pe_one (pe_call G3 hr (by rfl) D3.gl D3.fn.kp D3.bd .nil pass0 (pa_cons (pv 0) (pa_cons (pe_ix (r := rIxT K) ix_tup (pv 1) pe_int (fun _ _ => rfl)) pa_nil))))))), ?_⟩
  clear G1 G2 G3 D1 D2 D3 D hr
  refine ⟨v, rfl, v, d, rfl, hd, ⟨M, hf⟩, fun H1 s1 => ⟨_, rfl, ?_⟩⟩
  by_cases hp : dPair d = true
  case neg =>
    have e : dStart zs d = false := by
      unfold dStart
      rw [Bool.eq_false_iff.mpr hp, Bool.false_and, Bool.false_and]
    rw [e] at q
    rw [Bool.eq_false_iff.mpr hp]
    exact iteF (q H1 s1)
  rw [hp]
  have e : dStart zs d = (dNames (fstD d) && dCells zs (sndD d)) := by
    unfold dStart
    rw [hp, Bool.true_and]
  rw [e] at q
  have ed := pair_eq hp
  generalize fstD d = d0 at ed q
  generalize sndD d = d1 at ed q
  subst ed
  have hd1 := Dp_same s1 hd
  cases hd1 with
  | @tup a xs' _ hx hr0 =>
  cases hr0 with
  | @cons x0 _ _ _ g1 t1 =>
  cases t1 with
  | @cons x1 _ _ _ g2 t2 =>
  cases t2
  refine iteT ⟨_, rfl, a, _, 0, _, rfl, rfl, hx, atI_nat (j := 0) rfl, x0, d0, rfl, g1, fit_sub hf (by simp), fun H2 s2 => ⟨_, rfl, ?_⟩⟩
  by_cases hn : dNames d0 = true
  · rw [hn] at q ⊢
    rw [Bool.true_and] at q
    exact iteT ⟨_, rfl, _, rfl, a, _, 1, _, rfl, rfl, sameT s2 hx, atI_nat (j := 1) rfl, vc, vo, x1, zs, d1, rfl, hC.same (s1.trans s2), Dp_same s2 g2, fit_sub hf (by simp), fun H3 s3 => q H3 ((s1.trans s2).trans s3)⟩
  · rw [Bool.eq_false_iff.mpr hn] at q ⊢
    exact iteF (q H2 (s1.trans s2))
end
end Sw
set_option maxRecDepth 100000
set_option maxHeartbeats 4000000
namespace Sw
open PySem PySem.Spec PyProof.Rows L2
theorem in_eight (n : Nat) : inV (.int n) [V.int 1, .int 2, .int 3, .int 4, .int 5, .int 6, .int 7, .int 8] = (decide (1 ≤ n) && decide (n ≤ 8)) := by
  unfold inV
  simp only [List.any_cons, List.any_nil, eqV]
  by_cases h1 : 1 ≤ n <;> by_cases h2 : n ≤ 8 <;> simp [h1, h2] <;> omega
theorem in_letters (c : Nat) : (!decide (c ∈ (Str.ofString "abcdefghijklmnopqrstuvwxyz").cps.toList)) = !okSign c := by
  have e : (Str.ofString "abcdefghijklmnopqrstuvwxyz").cps.toList = [97,98,99,100,101,102,103,104,105,106,107,108,109,110,111,112,113,114,115,116,117,118,119,120,121,122] := by decide +kernel
  rw [e]
  unfold okSign
  congr 1
  rw [Bool.eq_iff_iff]
  simp only [decide_eq_true_eq, Bool.and_eq_true, List.mem_cons, List.not_mem_nil, or_false]
  omega
section
variable {P : Program} {w : World} {K : PySem.W.Frag} {mg : Str → Option Value} {base : Heap}
theorem sc_lnum : FnScope ["_law_odd"] ["_law_odd"] (defScope (topS 23)) := ⟨rfl, rfl, rfl, by decide +kernel, rfl, by decide +kernel, by decide +kernel⟩
theorem ok_lnum {f : Addr} {fd : FuncData} (D : Df K mg "_law_is_number" (topS 23) ["_law_odd"] f fd) (B : Bt mg) : FnOk P w K mg base CX0 1 f fd ["_law_odd"] (spLook K dNum) := by
  refine D.fn.ok sc_lnum (fun vs H Q E h => ?_) (fun cdv A outer s H vs Q E hr h => ?_)
  · obtain ⟨v, d, rfl, _⟩ := h
    rfl
  obtain ⟨v, d, rfl, hd, hf, q⟩ := h
  refine ⟨_, pss_one (ps_ret (pe_and (pe_callB call_isi (by rfl) B.isi (by decide +kernel) (pa_cons (pv 0) (pa_cons (pe_bltn (v := .ty "int") (by rfl) B.int (by decide +kernel) rfl) pa_nil)))
    (pe_one (pe_not (pe_callB call_isi (by rfl) B.isi (by decide +kernel) (pa_cons (pv 0) (pa_cons (pe_bltn (v := .ty "bool") (by rfl) B.bool (by decide +kernel) rfl) pa_nil))))))), ?_⟩
  obtain ⟨t1, ty1, k1⟩ := isa_int hd
  obtain ⟨t2, ty2, k2⟩ := isa_bool hd
  refine ⟨v, rfl, v, .ty "int", t1, _, _, rfl, .ty _, ty1, k1, _, rfl, ?_⟩
  have e := isi_dNum d
  refine ite2 (fun c => ?_) (fun c => ?_)
  · refine ⟨v, rfl, v, .ty "bool", t2, _, _, rfl, .ty _, ty2, k2, _, rfl, ?_⟩
    rw [c, Bool.true_and] at e
    rw [e]
    exact q H (Same.refl H)
  · have c' : isaInt d = false := by simpa using c
    rw [c', Bool.false_and] at e
    rw [e]
    exact q H (Same.refl H)
theorem sc_lword : FnScope ["_law_odd", "_law_sign"] ["_law_odd"] (defScope (topS 24)) := ⟨rfl, rfl, rfl, by decide +kernel, rfl, by decide +kernel, by decide +kernel⟩
theorem ok_lword {f : Addr} {fd : FuncData} (D : Df K mg "_law_is_word" (topS 24) ["_law_odd"] f fd) (B : Bt mg) : FnOk P w K mg base CX0 1 f fd ["_law_odd"] (spLook K dWord) := by
  refine D.fn.ok sc_lword (fun vs H Q E h => ?_) (fun cdv A outer s H vs Q E hr h => ?_)
  · obtain ⟨v, d, rfl, _⟩ := h
    rfl
  obtain ⟨v, d, rfl, hd, ⟨M, hf⟩, q⟩ := h
  have hu := hr.units
  refine ⟨_, pss_cons (ps_if (PW.pt (pw_or (pt_not (pt_val (pe_callB call_isi (by rfl) B.isi (by decide +kernel) (pa_cons (pv 0) (pa_cons (pe_bltn (v := .ty "str") (by rfl) B.str (by decide +kernel) rfl) pa_nil)))))
      (pw_or1 (pt_cmpR op_notIn_seq (pe_callB call_len_str (by rfl) B.len PySem.boot_len (pa_cons (pv 0) pa_nil)) (pe_tup (pa_cons pe_int (pa_cons pe_int (pa_cons pe_int (pa_cons pe_int (pa_cons pe_int (pa_cons pe_int (pa_cons pe_int (pa_cons pe_int pa_nil))))))))) (by with_unfolding_all rfl))))) (pss_one (ps_ret pe_bl)) pss_nil)
    (pss_one (ps_ret (pe_cmpR (op_eqD hu) (pe_lc (own := [("_law_sign", 1)]) (g := gName 1) rfl sc_lword.nd (pi_str (pv 0))
      (blkOk_by (N := ["_law_odd", "_law_sign"]) (sc := defScope (topS 24)) (by decide +kernel)) (fun _ _ _ _ _ => pg_name (i := 1) sc_lword.nd rfl (Or.inl rfl))
      (fun _ _ _ _ _ => pts_one (pt_cmpR op_notIn_sign (pv 1) pe_str (by with_unfolding_all rfl)))
      (fun _ _ _ _ _ => pv 1)) (pe_lst pa_nil) (nomark _)))), ?_⟩
  obtain ⟨t1, ty1, k1⟩ := isa_str hd
  refine ⟨v, rfl, v, .ty "str", t1, _, _, rfl, .ty _, ty1, k1, _, rfl, ?_⟩
  have q0 := q H (Same.refl H)
  cases hd with
  | str z =>
    have hz := fit_strlen hf (Nat.le_refl _)
    have hc := leaf_str.mp hf.lf
    refine iteF ⟨_, rfl, z, rfl, hz, ?_⟩
    refine ⟨Nat.le_of_lt (big_size (by decide)), fun T hT => ⟨T, _, rfl, .inr (.inl (.inl upd_same)), rfl, rfl, _, rfl, ?_⟩⟩
    have sT : Same H (upd H T (.tup [V.int 1, .int 2, .int 3, .int 4, .int 5, .int 6, .int 7, .int 8])) := same_new hT
    generalize upd H T (.tup [V.int 1, .int 2, .int 3, .int 4, .int 5, .int 6, .int 7, .int 8]) = HT at sT
    rw [if_pos rfl, in_eight]
    refine ite2 (fun c => ?_) (fun c => ?_)
    · have e : dWord (.str z) = false := by
        show wordS z = false
        unfold wordS
        have c' : (decide (1 ≤ z.length) && decide (z.length ≤ 8)) = false := by
          cases h : (decide (1 ≤ z.length) && decide (z.length ≤ 8)) with
          | false => rfl
          | true => rw [h] at c; cases c
        rw [c', Bool.false_and]
      exact q_of e (q _ sT)
    · have c' : (decide (1 ≤ z.length) && decide (z.length ≤ 8)) = true := by
        cases h : (decide (1 ≤ z.length) && decide (z.length ≤ 8)) with
        | true => rfl
        | false => rw [h] at c; exact absurd rfl c
      have c3 : z.length ≤ 8 := of_decide_eq_true (Bool.and_eq_true _ _ ▸ c').2
      refine ⟨_, rfl, z, rfl, fun L hL => lc_pure walk_signs (fun i => !okSign (z.cps.toList.getD i 0)) (fun i => V.str ⟨#[z.cps.toList.getD i 0]⟩) hL (fun _ _ => trivial) (big_size (by have : z.cps.size = z.length := rfl; omega)) ?_ ?_ ?_⟩
      · intro i x H1 Q1 hi hx hs q1
        have hi' : i < z.cps.toList.length := by simpa using hi
        rw [List.getElem?_map, List.getElem?_eq_getElem hi'] at hx
        have hx' : V.str ⟨#[z.cps.toList[i]]⟩ = x := Option.some.inj hx
        subst hx'
        have eg : z.cps.toList.getD i 0 = z.cps.toList[i] := by simp [List.getD, List.getElem?_eq_getElem hi']
        rw [eg] at q1
        refine ⟨_, rfl, _, _, rfl, rfl, _, rfl, ?_⟩
        rw [in_letters]
        exact q1 H1 (Same.refl H1)
      · intro i x H1 Q1 hi hx hp hs q1
        have hi' : i < z.cps.toList.length := by simpa using hi
        rw [List.getElem?_map, List.getElem?_eq_getElem hi'] at hx
        have hx' : V.str ⟨#[z.cps.toList[i]]⟩ = x := Option.some.inj hx
        subst hx'
        have eg : z.cps.toList.getD i 0 = z.cps.toList[i] := by simp [List.getD, List.getElem?_eq_getElem hi']
        rw [eg] at q1
        exact ⟨_, rfl, q1 H1 (Same.refl H1)⟩
      · intro H1 s1 hL1
        rw [filter_signs] at hL1
        refine ⟨by show 0 ≤ sizeLine; exact Nat.zero_le _, fun N hN => ?_⟩
        have hLN : upd H1 N (.lst []) L = some (.lst (((bad z).map fun c => (⟨#[c]⟩ : Str)).map V.str)) := same_new hN _ _ hL1
        refine ⟨.list (((bad z).map fun c => (⟨#[c]⟩ : Str)).map PyData.str), .list [], .lst (SqL.of hLN) (DpAll_strs _), .lst (SqL.of upd_same) .nil, strs_shaped ?_, nil_shaped, ?_⟩
        · intro y hy c hcy
          obtain ⟨c0, hc0, rfl⟩ := List.mem_map.mp hy
          have : c = c0 := by simpa using hcy
          subst this
          exact hc c (List.mem_filter.mp hc0).1
        · rw [eqv_nil_list]
          have e : dWord (.str z) = (((bad z).map fun c => (⟨#[c]⟩ : Str)).map PyData.str).isEmpty := by
            show wordS z = _
            unfold wordS
            rw [c', ← bad_nil]
            simp
          exact q_of e (q _ ((sT.trans s1).trans (same_new hN)))
  | non => exact iteT q0
  | bl b => exact iteT q0
  | int i => exact iteT q0
  | lst h r => exact iteT q0
  | tup h r => exact iteT q0
end
end Sw
set_option maxRecDepth 100000
set_option maxHeartbeats 4000000
namespace Sw
open PySem PySem.Spec PyProof.Rows L2
theorem wordS_of {z : Str} (h : IsWord z) : wordS z = true := by
  unfold wordS
  rw [decide_eq_true h.lo, decide_eq_true h.hi, Bool.true_and, Bool.true_and]
  exact List.all_eq_true.mpr h.ok
def hitB (z : Str) (i : Int) (p : Str × Int) : Bool := decide (p.1 = z) && (decide (0 ≤ i) && decide (i < p.2))
theorem in_rgV (i n : Int) : inV (.int i) (rgV 0 n) = (decide (0 ≤ i) && decide (i < n)) := by
  unfold inV rgV
  rw [Bool.eq_iff_iff, List.any_eq_true, Bool.and_eq_true, decide_eq_true_eq, decide_eq_true_eq]
  constructor
  · rintro ⟨x, hx, hi⟩
    obtain ⟨k, hk, rfl⟩ := List.mem_map.mp hx
    have h1 := List.mem_range.mp hk
    have h2 : (0 : Int) + (k : Nat) = i := by simpa [eqV] using hi
    omega
  · rintro ⟨h1, h2⟩
    refine ⟨.int (0 + (i.toNat : Nat)), List.mem_map.mpr ⟨i.toNat, List.mem_range.mpr (by omega), rfl⟩, ?_⟩
    have : (0 : Int) + (i.toNat : Nat) = i := by omega
    rw [this]
    simp [eqV]
theorem hit_cell {zs : List (Str × Int)} (ha : (zs.map (·.1)).Pairwise LtS) (hw : ∀ z ∈ zs, IsWord z.1) (z : Str) (i : Int) : (!((zs.filter (hitB z i)).map (fun p => PyData.int p.2)).isEmpty) = dCell zs (.tuple [.str z, .int i]) := by
  show _ = (wordS z && (decide (0 ≤ i) && decide (i < (sz zs z).getD 0)))
  have nd := asc_nodup ha
  have e1 : (((zs.filter (hitB z i)).map (fun p => PyData.int p.2)).isEmpty) = !(zs.any (hitB z i)) := by
    rw [List.isEmpty_map]
    induction zs with
    | nil => rfl
    | cons p r ih =>
      rw [List.filter_cons, List.any_cons]
      by_cases h : hitB z i p = true
      · rw [if_pos h, h]; rfl
      · rw [if_neg h, Bool.eq_false_iff.mpr h, Bool.false_or]
        exact ih (List.Pairwise.of_cons ha) (fun z hz => hw z (List.mem_cons_of_mem _ hz)) (List.Pairwise.of_cons nd)
  rw [e1, Bool.not_not]
  clear e1
  unfold sz
  cases hf : zs.find? (fun p => decide (p.1 = z)) with
  | none =>
    have h1 : zs.any (hitB z i) = false := by
      rw [List.any_eq_false]
      intro p hp
      have := List.find?_eq_none.mp hf p hp
      unfold hitB
      rw [Bool.eq_false_iff.mpr this]
      simp
    rw [h1]
    show false = (wordS z && (decide (0 ≤ i) && decide (i < (0 : Int))))
    by_cases h0 : 0 ≤ i
    · rw [decide_eq_false (show ¬ i < 0 by omega)]; simp
    · rw [decide_eq_false h0]; simp
  | some p =>
    have hp := List.mem_of_find?_eq_some hf
    have ep : p.1 = z := by simpa using List.find?_some hf
    have hwz : wordS z = true := wordS_of (ep ▸ hw p hp)
    rw [hwz, Bool.true_and]
    show _ = (decide (0 ≤ i) && decide (i < p.2))
    rw [Bool.eq_iff_iff, List.any_eq_true]
    constructor
    · rintro ⟨p', hp', hh⟩
      unfold hitB at hh
      rw [Bool.and_eq_true, decide_eq_true_eq] at hh
      have : p' = p := by
        obtain ⟨i1, h1⟩ := List.getElem?_of_mem hp'
        obtain ⟨i2, h2⟩ := List.getElem?_of_mem hp
        have g1 : (zs.map (·.1))[i1]? = some z := by rw [List.getElem?_map, h1]; exact congrArg some hh.1
        have g2 : (zs.map (·.1))[i2]? = some z := by rw [List.getElem?_map, h2]; exact congrArg some ep
        have l1 : i1 < (zs.map (·.1)).length := (List.getElem?_eq_some_iff.mp g1).1
        have : i1 = i2 := (List.getElem?_inj l1 nd).mp (g1.trans g2.symm)
        rw [this] at h1
        exact Option.some.inj (h1.symm.trans h2)
      rw [this] at hh
      exact hh.2
    · intro hh
      refine ⟨p, hp, ?_⟩
      unfold hitB
      rw [decide_eq_true ep, Bool.true_and]
      exact hh
theorem filter_take {α : Type} {l : List α} {g : α → Bool} {i : Nat} {x : α} (h : l[i]? = some x) : (l.take (i + 1)).filter g = (l.take i).filter g ++ (if g x = true then [x] else []) := by
  rw [List.take_succ, h, List.filter_append]
  show _ ++ List.filter g [x] = _
  by_cases hg : g x = true
  · rw [if_pos hg, List.filter_cons_of_pos hg]; rfl
  · rw [if_neg hg, List.filter_cons_of_neg hg]; rfl
theorem plen {α β : Type} {R : α → β → Prop} : ∀ {l : List α} {m : List β}, Paired R l m → l.length = m.length
  | _, _, .nil => rfl
  | _, _, .cons _ t => by rw [List.length_cons, List.length_cons, plen t]
section
variable {P : Program} {w : World} {K : PySem.W.Frag} {mg : Str → Option Value} {base : Heap}
theorem sc_lcell : FnScope ["_law_plan_here", "_law_odd", "_law_own", "_law_size"] ["_law_plan_here", "_law_odd"] (defScope (topS 25)) := ⟨rfl, rfl, rfl, by decide +kernel, rfl, by decide +kernel, by decide +kernel⟩
theorem ok_lcell {f f1 : Addr} {fd fd1 : FuncData} (D : Df K mg "_law_is_cell" (topS 25) ["_law_plan_here", "_law_odd"] f fd) (D1 : Df K mg "_law_is_number" (topS 23) ["_law_odd"] f1 fd1) (B : Bt mg) (bL : mg "list" = none)
    (G1 : FnOk P w K mg base CX0 1 f1 fd1 ["_law_odd"] (spLook K dNum)) : FnOk P w K mg base CX0 2 f fd ["_law_plan_here", "_law_odd"] (spCellL K) := by
  refine D.fn.ok sc_lcell (fun vs H Q E h => ?_) (fun cdv A outer s H vs Q E hr h => ?_)
  · obtain ⟨c, vo, v, zs, d, rfl, _⟩ := h
    rfl
  obtain ⟨vc, vo, v, zs, d, rfl, hC, hd, ⟨M, hf⟩, q⟩ := h
  have nd := sc_lcell.nd
  have hu := hr.units
  refine ⟨_, pss_cons (ps_if (PW.pt (pw_or (pt_not (pt_val (pe_callB call_isi (by rfl) B.isi (by decide +kernel) (pa_cons (pv 1) (pa_cons (pe_bltn (v := .ty "tuple") (by rfl) B.tuple (by decide +kernel) rfl) pa_nil)))))
      (pw_or (pt_cmpR op_ne (pe_callB call_len_seq (by rfl) B.len PySem.boot_len (pa_cons (pv 1) pa_nil)) pe_int (nomark _))
      (pw_or (pt_not (pt_val (pe_callB call_isi (by rfl) B.isi (by decide +kernel) (pa_cons (pe_ix (r := rIxT K) ix_tup (pv 1) pe_int (fun _ _ => rfl)) (pa_cons (pe_bltn (v := .ty "str") (by rfl) B.str (by decide +kernel) rfl) pa_nil)))))
      (pw_or1 (pt_not (pt_val (pe_call G1 hr (by rfl) D1.gl D1.fn.kp D1.bd .nil pass0 (pa_cons (pe_ix (r := rIxT K) ix_tup (pv 1) pe_int (fun _ _ => rfl)) pa_nil))))))))) (pss_one (ps_ret pe_bl)) pss_nil)
    (pss_one (ps_ret (pe_cmpR (op_neD hu) (pe_lc (own := [("_law_own", 2), ("_law_size", 3)]) (g := gTup K 2 (gCons (gName 2) (gCons (gName 3) gNil))) rfl nd (pi_tup (pe_ix (r := rIxT K) ix_tup (pv 0) pe_int (fun _ _ => rfl)))
      (blkOk_by (N := ["_law_plan_here", "_law_odd", "_law_own", "_law_size"]) (sc := defScope (topS 25)) (by decide +kernel))
      (fun _ _ _ _ _ => pg_tup rfl (pgs_cons (pg_name (i := 2) nd rfl (Or.inl rfl)) (pgs_cons (pg_name (i := 3) nd rfl (Or.inl rfl)) pgs_nil)))
      (fun _ _ _ _ _ => pts_one (PW.pt (pw_and (pt_cmpR op_eq (pv 2) (pe_ix (r := rIxT K) ix_tup (pv 1) pe_int (fun _ _ => rfl)) (nomark _)) (pw_and1 (pt_cmpR (r := rIn K false) op_in_seq (pe_ix (r := rIxT K) ix_tup (pv 1) pe_int (fun _ _ => rfl)) (pe_listRg rfl (by rfl) bL (prg_1 (by rfl) B.range (pv 3))) (by with_unfolding_all rfl))))))
      (fun _ _ _ _ _ => pv 3)) (pe_lst pa_nil) (nomark _)))), ?_⟩
  clear G1 D1 D B bL hr hu
  obtain ⟨t1, ty1, k1⟩ := isa_tup hd
  refine ⟨v, rfl, v, .ty "tuple", t1, _, _, rfl, .ty _, ty1, k1, _, rfl, ?_⟩
  have q0 := q H (Same.refl H)
  cases hd with
  | @tup a xs ds hx hr0 =>
    have hlen := DpAll_len hr0
    refine iteF ⟨_, rfl, _, _, rfl, .inr hx, rfl, _, rfl, ?_⟩
    by_cases h2 : ds.length = 2
    case neg =>
      have e : dCell zs (.tuple ds) = false := by
        match ds, h2 with
        | [], _ => rfl
        | [x], _ => cases x <;> rfl
        | [_, _], h => exact absurd rfl h
        | x :: y :: _ :: _, _ => cases x <;> cases y <;> rfl
      rw [e] at q0
      rw [int_two, hlen, decide_eq_false h2]
      exact iteT q0
    rw [int_two, hlen, decide_eq_true h2]
    refine iteF ?_
    match ds, h2 with
    | [d0, d1], _ =>
    cases hr0 with
    | @cons x0 _ _ _ g1 t1' =>
    cases t1' with
    | @cons x1 _ _ _ g2 t2 =>
    cases t2
    obtain ⟨t2, ty2, k2⟩ := isa_str g1
    refine ⟨_, rfl, a, _, 0, _, rfl, rfl, hx, atI_nat (j := 0) rfl, _, .ty "str", t2, _, _, rfl, .ty _, ty2, k2, _, rfl, ?_⟩
    cases d0 with
    | str z =>
      cases g1
      refine iteF ⟨_, rfl, a, _, 1, _, rfl, rfl, hx, atI_nat (j := 1) rfl, x1, d1, rfl, g2, fit_sub hf (by simp), fun H1 s1 => ⟨_, rfl, ?_⟩⟩
      cases d1 with
      | int i =>
        cases g2
        refine iteF ?_
        have hx1 := sameT s1 hx
        have hC1 := hC.same s1
        obtain ⟨ac, vr, rfl, hxc⟩ := hC1.ex
        have ho := hC1.ob
        obtain ⟨ao, ps, rfl, hfo, hpo⟩ := ho.ex
        have hpl : ps.length = zs.length := plen hpo
        have few := ho.few
        refine ⟨_, rfl, ac, _, 0, _, rfl, rfl, hxc, atI_nat (j := 0) rfl, ao, rfl, ⟨_, hfo.sq⟩, fun L hL => ?_⟩
        refine lc_it (walk_tup (xs := ps.map V.ref)) (fun k H => Same H1 H ∧ H L = some (.lst (((zs.take k).filter (hitB z i)).map fun p => V.int p.2))) ⟨same_new hL, by rw [upd_same]; rfl⟩ (fun k H _ h => (hfo.same h.1).sq) ?_ ?_
        · rintro k x H4 H3 hk ⟨s3, h3⟩ ⟨rfl, ex⟩
          rw [List.getElem?_map] at ex
          obtain ⟨p0, ep, rfl⟩ := Option.map_eq_some_iff.mp ex
          obtain ⟨pz, ez, hp⟩ := paired_get hpo ep
          have hmem := List.mem_of_getElem? ez
          have hwd := ho.wd pz hmem
          refine ⟨p0, _, rfl, sameT s3 hp, rfl, _, _, rfl, _, _, rfl, rfl, ?_⟩
          refine ⟨rfl, ?_⟩
          refine ⟨_, rfl, _, rfl, a, _, 0, _, rfl, rfl, sameT s3 hx1, atI_nat (j := 0) rfl, rfl, _, rfl, ?_⟩
          have hft := filter_take (g := hitB z i) ez
          have hlen3 : (((zs.take k).filter (hitB z i)).map fun p => V.int p.2).length < sizeLine := by
            rw [List.length_map]
            have h1 := List.length_filter_le (hitB z i) (zs.take k)
            have h2 := List.length_take_le' k zs
            exact big_size (by omega)
          by_cases hz : pz.1 = z
          · have e : decide (V.str pz.1 = V.str z) = true := decide_eq_true (by rw [hz])
            rw [e]
            refine iteT ⟨_, rfl, a, _, 1, _, rfl, rfl, sameT s3 hx1, atI_nat (j := 1) rfl, _, rfl, _, rfl, RgOk.of_le (by decide) (by omega) (by decide) (by omega), fun R hR => ⟨R, _, rfl, .inl (SqL.of upd_same), rfl, ?_, _, rfl, ?_⟩⟩
            · rw [List.all_eq_true]
              intro x hx
              obtain ⟨_, _, rfl⟩ := List.mem_map.mp hx
              rfl
            · have sR : Same H3 (upd H3 R (.lst (rgV 0 pz.2))) := same_new hR
              generalize upd H3 R (.lst (rgV 0 pz.2)) = H5 at sR
              have e2 : (if false = true then !inV (.int i) (rgV 0 pz.2) else inV (.int i) (rgV 0 pz.2)) = hitB z i pz := by
                rw [if_neg (by decide), in_rgV]
                unfold hitB
                rw [decide_eq_true hz, Bool.true_and]
              rw [e2]
              refine ite2 (fun c => ?_) (fun c => ?_)
              · refine ⟨_, rfl, _, sR _ _ h3, hlen3, ?_, ?_⟩
                · intro b o e
                  rw [upd_ne (ne_of_none e hL)]
                  exact sR _ _ (s3 _ _ e)
                · rw [upd_same, hft, if_pos c, List.map_append]
                  rfl
              · refine ⟨s3.trans sR, ?_⟩
                rw [hft, if_neg c, List.append_nil]
                exact sR _ _ h3
          · have e : decide (V.str pz.1 = V.str z) = false := decide_eq_false (fun h => hz (by injection h))
            rw [e]
            have e2 : hitB z i pz = false := by
              unfold hitB
              rw [decide_eq_false hz, Bool.false_and]
            refine iteF (iteF ⟨s3, ?_⟩)
            rw [hft, e2, if_neg (by decide), List.append_nil]
            exact h3
        · rintro H3 ⟨s3, h3⟩
          rw [List.length_map, hpl, List.take_length] at h3
          refine ⟨by show 0 ≤ sizeLine; exact Nat.zero_le _, fun N hN => ?_⟩
          have hLN := same_new (o := .lst []) hN _ _ h3
          have ein : ((zs.filter (hitB z i)).map fun p => V.int p.2) = ((zs.filter (hitB z i)).map (·.2)).map V.int := by rw [List.map_map]; rfl
          have eid : ((zs.filter (hitB z i)).map fun p => PyData.int p.2) = ((zs.filter (hitB z i)).map (·.2)).map PyData.int := by rw [List.map_map]; rfl
          refine ⟨.list (((zs.filter (hitB z i)).map (·.2)).map PyData.int), .list [], .lst (SqL.of (by rw [hLN, ein])) (DpAll_ints _), .lst (SqL.of upd_same) .nil, ints_shaped _, nil_shaped, ?_⟩
          rw [eqv_nil_list, ← eid, hit_cell ho.asc (fun z hz => (ho.wd z hz).1)]
          exact q _ ((s1.trans s3).trans (same_new hN))
      | none => exact iteT (q H1 s1)
      | bool _ => exact iteT (q H1 s1)
      | str _ => exact iteT (q H1 s1)
      | list _ => exact iteT (q H1 s1)
      | tuple _ => exact iteT (q H1 s1)
      | dict _ => exact iteT (q H1 s1)
    | none => exact iteT q0
    | bool _ => exact iteT q0
    | int _ => exact iteT q0
    | list _ => exact iteT q0
    | tuple _ => exact iteT q0
    | dict _ => exact iteT q0
  | non => exact iteT q0
  | bl b => exact iteT q0
  | int i => exact iteT q0
  | str z => exact iteT q0
  | lst h r => exact iteT q0
end
end Sw
set_option maxRecDepth 100000
set_option maxHeartbeats 4000000
namespace Sw
open PySem PySem.Spec PyProof.Rows L2
def aft (last : Option PyData) (x : PyData) : Bool := match last with
  | none => true
  | some l => ltD l x
def scan (g : PyData → Bool) (last : Option PyData) : List PyData → Bool
  | [] => true
  | x :: r => numPair x && (g (fstD x) && (aft last (fstD x) && scan g (some (fstD x)) r))
theorem scan_some (g : PyData → Bool) : ∀ (ds : List PyData) (l : PyData), scan g (some l) ds = (ds.all numPair && ds.all (fun x => g (fstD x)) && risesD (l :: ds.map fstD))
  | [], l => rfl
  | x :: r, l => by
    unfold scan
    rw [scan_some g r (fstD x), List.all_cons, List.all_cons, List.map_cons]
    show (numPair x && (g (fstD x) && (ltD l (fstD x) && _))) = (numPair x && r.all numPair && (g (fstD x) && _) && (ltD l (fstD x) && _))
    cases numPair x <;> cases g (fstD x) <;> cases ltD l (fstD x) <;> simp
theorem scan_none (g : PyData → Bool) (ds : List PyData) : scan g none ds = (ds.all numPair && ds.all (fun x => g (fstD x)) && risesD (ds.map fstD)) := by
  cases ds with
  | nil => rfl
  | cons x r =>
    unfold scan
    rw [scan_some, List.all_cons, List.all_cons, List.map_cons]
    show (numPair x && (g (fstD x) && (true && _))) = _
    cases numPair x <;> cases g (fstD x) <;> simp
def lk (zs : List (Str × Int)) (k : Nat) : PyData → Bool := if k = 0 then dWord else dCell zs
def sideB (zs : List (Str × Int)) (k : Nat) : PyData → Bool
  | .tuple ds => scan (lk zs k) none ds
  | _ => false
theorem side0 (zs : List (Str × Int)) (d : PyData) : sideB zs 0 d = dNames d := by
  cases d with
  | tuple ds => exact scan_none _ ds
  | _ => rfl
theorem side1 (zs : List (Str × Int)) (d : PyData) : sideB zs 1 d = dCells zs d := by
  cases d with
  | tuple ds => exact scan_none _ ds
  | _ => rfl
theorem lk_cmp {zs : List (Str × Int)} {k : Nat} {a b : PyData} (ha : lk zs k a = true) (hb : lk zs k b = true) : cmpD a b = true := by
  unfold lk at ha hb
  unfold cmpD
  by_cases h : k = 0
  · rw [if_pos h] at ha hb
    rw [word_str ha, word_str hb]; rfl
  · rw [if_neg h] at ha hb
    rw [cell_si ha, cell_si hb, Bool.true_and, Bool.or_true]
def tIfT (t a b : TT) : TT := fun σ H Q => t σ H fun c H1 => if c = true then a σ H1 Q else b σ H1 Q
theorem pt_ifE {X : Cx} {c a b : Expr} {pos : Pos} {tA tB tC' : TT} (hc : PT X c tA) (ha : PT X a tB) (hb : PT X b tC') : PT X (.IfExp c a b pos) (tIfT tA tB tC') := by
  refine ⟨fun pins s σ H Q I h => ?_⟩
  refine isTrue_IfExp (thn (hc.run pins s σ H _ I h) fun d s1 ⟨H1, I1, q1⟩ => ?_)
  cases d with
  | true => exact ha.run pins s1 σ H1 Q I1 q1
  | false => exact hb.run pins s1 σ H1 Q I1 q1
def sdD (k : Nat) (d0 d1 : PyData) : PyData := if k = 0 then d0 else d1
section
variable {P : Program} {w : World} {K : PySem.W.Frag} {mg : Str → Option Value} {base : Heap}
def LastR (K : PySem.W.Frag) (H : Hp) (v : V) (g : PyData → Bool) (l : Option PyData) : Prop := (v = .non ∧ l = none) ∨ ∃ d, l = some d ∧ Dp K H v d ∧ g d = true
theorem LastR.same {H H' : Hp} {v : V} {g : PyData → Bool} {l : Option PyData} (h : LastR K H v g l) (s : Same H H') : LastR K H' v g l := by
  rcases h with h | ⟨d, e, hd, hg⟩
  · exact .inl h
  · exact .inr ⟨d, e, Dp_same s hd, hg⟩
theorem sc_lright : FnScope ["_law_plan_here", "_law_odd", "_law_side", "_law_last", "_law_pair"] ["_law_plan_here", "_law_odd"] (defScope (topS 26)) := ⟨rfl, rfl, rfl, by decide +kernel, rfl, by decide +kernel, by decide +kernel⟩
theorem ok_lright {f f1 f2 f3 : Addr} {fd fd1 fd2 fd3 : FuncData} (D : Df K mg "_law_is_right" (topS 26) ["_law_plan_here", "_law_odd"] f fd) (D1 : Df K mg "_law_is_number" (topS 23) ["_law_odd"] f1 fd1) (D2 : Df K mg "_law_is_word" (topS 24) ["_law_odd"] f2 fd2) (D3 : Df K mg "_law_is_cell" (topS 25) ["_law_plan_here", "_law_odd"] f3 fd3) (B : Bt mg)
    (G1 : FnOk P w K mg base CX0 2 f1 fd1 ["_law_odd"] (spLook K dNum)) (G2 : FnOk P w K mg base CX0 2 f2 fd2 ["_law_odd"] (spLook K dWord)) (G3 : FnOk P w K mg base CX0 2 f3 fd3 ["_law_plan_here", "_law_odd"] (spCellL K)) : FnOk P w K mg base CX0 3 f fd ["_law_plan_here", "_law_odd"] (spStart K) := by
  refine D.fn.ok sc_lright (fun vs H Q E h => ?_) (fun cdv A outer s H vs Q E hr h => ?_)
  · obtain ⟨c, vo, v, zs, d, rfl, _⟩ := h
    rfl
  obtain ⟨vc, vo, v, zs, d, rfl, hC, hd, ⟨M, hf⟩, q⟩ := h
  have nd := sc_lright.nd
  have hu : (A.deeper (envOfC "_law_is_right" (defScope (topS 26)) s.heap.objs.size f cdv)).units < cLine := by have := hr.units; omega
  refine ⟨_, pss_cons (ps_if (PW.pt (pw_or (pt_not (pt_val (pe_callB call_isi (by rfl) B.isi (by decide +kernel) (pa_cons (pv 1) (pa_cons (pe_bltn (v := .ty "tuple") (by rfl) B.tuple (by decide +kernel) rfl) pa_nil)))))
      (pw_or1 (pt_cmpR op_ne (pe_callB call_len_seq (by rfl) B.len PySem.boot_len (pa_cons (pv 1) pa_nil)) pe_int (nomark _))))) (pss_one (ps_ret pe_bl)) pss_nil)
    (pss_cons (ps_for PassesOwn.never rfl (pi_range1 (by rfl) B.range (pa_cons pe_int pa_nil)) (pg_name (i := 2) nd rfl (Or.inl rfl))
      (pss_cons (ps_set (i := 3) nd rfl (Or.inl rfl) pe_non)
      (pss_cons (ps_if (pt_not (pt_val (pe_callB call_isi (by rfl) B.isi (by decide +kernel) (pa_cons (pe_ix (r := rIxT K) ix_tup (pv 1) (pv 2) (fun _ _ => rfl)) (pa_cons (pe_bltn (v := .ty "tuple") (by rfl) B.tuple (by decide +kernel) rfl) pa_nil))))) (pss_one (ps_ret pe_bl)) pss_nil)
      (pss_one (ps_for PassesOwn.never rfl (pi_tup (pe_ix (r := rIxT K) ix_tup (pv 1) (pv 2) (fun _ _ => rfl))) (pg_name (i := 4) nd rfl (Or.inl rfl))
        (pss_cons (ps_if (PW.pt (pw_or (pt_not (pt_val (pe_callB call_isi (by rfl) B.isi (by decide +kernel) (pa_cons (pv 4) (pa_cons (pe_bltn (v := .ty "tuple") (by rfl) B.tuple (by decide +kernel) rfl) pa_nil)))))
          (pw_or (pt_cmpR op_ne (pe_callB call_len_seq (by rfl) B.len PySem.boot_len (pa_cons (pv 4) pa_nil)) pe_int (nomark _))
          (pw_or1 (pt_not (pt_val (pe_call G1 hr (by rfl) D1.gl D1.fn.kp D1.bd .nil pass0 (pa_cons (pe_ix (r := rIxT K) ix_tup (pv 4) pe_int (fun _ _ => rfl)) pa_nil)))))))) (pss_one (ps_ret pe_bl)) pss_nil)
        (pss_cons (ps_if (pt_not (pt_ifE (pt_cmpR op_eq (pv 2) pe_int (nomark _)) (pt_val (pe_call G2 hr (by rfl) D2.gl D2.fn.kp D2.bd .nil pass0 (pa_cons (pe_ix (r := rIxT K) ix_tup (pv 4) pe_int (fun _ _ => rfl)) pa_nil)))
          (pt_val (pe_call G3 hr (by rfl) D3.gl D3.fn.kp D3.bd .nil pass0 (pa_cons (pv 0) (pa_cons (pe_ix (r := rIxT K) ix_tup (pv 4) pe_int (fun _ _ => rfl)) pa_nil)))))) (pss_one (ps_ret pe_bl)) pss_nil)
        (pss_cons (ps_if (PW.pt (pw_and (pt_cmpR op_notN (pv 3) pe_non (nomark _)) (pw_and1 (pt_not (pt_cmpR (r := fun x y H Q => ∃ d e, Dp K H x d ∧ Dp K H y e ∧ cmpD d e = true ∧ Q (.bl (ltD d e)) H) (op_ltD hu) (pv 3) (pe_ix (r := rIxT K) ix_tup (pv 4) pe_int (fun _ _ => rfl)) (nomark _)))))) (pss_one (ps_ret pe_bl)) pss_nil)
        (pss_one (ps_set (i := 3) nd rfl (Or.inl rfl) (pe_ix (r := rIxT K) ix_tup (pv 4) pe_int (fun _ _ => rfl))))))))))))
    (pss_one (ps_ret pe_bl))), ?_⟩
  clear G1 G2 G3 D1 D2 D3 D B hr hu
  obtain ⟨t1, ty1, k1⟩ := isa_tup hd
  refine ⟨v, rfl, v, .ty "tuple", t1, _, _, rfl, .ty _, ty1, k1, _, rfl, ?_⟩
  have q0 := q H (Same.refl H)
  cases hd with
  | @tup a xs ds hx hr0 =>
    have hlen := DpAll_len hr0
    refine iteF ⟨_, rfl, _, _, rfl, .inr hx, rfl, _, rfl, ?_⟩
    by_cases h2 : ds.length = 2
    case neg =>
      have e : dStart zs (.tuple ds) = false := by
        unfold dStart
        rw [show dPair (.tuple ds) = false from decide_eq_false h2, Bool.false_and, Bool.false_and]
      rw [e] at q0
      rw [int_two, hlen, decide_eq_false h2]
      exact iteT q0
    rw [int_two, hlen, decide_eq_true h2]
    refine iteF ?_
    match ds, h2 with
    | [d0, d1], _ =>
    cases hr0 with
    | @cons x0 _ _ _ g1 t1' =>
    cases t1' with
    | @cons x1 _ _ _ g2 t2 =>
    cases t2
    have eS : dStart zs (.tuple [d0, d1]) = (sideB zs 0 d0 && sideB zs 1 d1) := by
      rw [side0, side1]
      rfl
    rw [eS] at q
    refine ⟨2, rfl, by decide, by decide, for_range (lo := 0) (n := 2) (fun k σ H' => ∃ (a2 a3 a4 : Option V), σ = [some vc, some (.ref a), a2, a3, a4] ∧ Same H H' ∧ (∀ j, j < k → sideB zs j (sdD j d0 d1) = true)) ⟨_, _, _, rfl, Same.refl H, fun j h => absurd h (Nat.not_lt_zero _)⟩ ?_ ?_⟩
    · rintro k σ H1 hk ⟨a2, a3, a4, rfl, s1, hb⟩
      have qF : ∀ H', Same H H' → sideB zs k (sdD k d0 d1) = false → Q (.bl false) H' := fun H' s' e => by
        have hk2 : k = 0 ∨ k = 1 := by omega
        rcases hk2 with rfl | rfl
        · have e' : sideB zs 0 d0 = false := e
          rw [e', Bool.false_and] at q
          exact q H' s'
        · have e' : sideB zs 1 d1 = false := e
          rw [e', Bool.and_false] at q
          exact q H' s'
      have hxk : ∃ xk, atI [x0, x1] ((0 : Int) + (k : Nat)) = some xk ∧ Dp K H xk (sdD k d0 d1) ∧ ∃ M, Fit M 60 60 1000000 (sdD k d0 d1) := by
        have hk2 : k = 0 ∨ k = 1 := by omega
        rcases hk2 with rfl | rfl
        · exact ⟨x0, atI_nat (j := 0) rfl, g1, fit_sub hf (by simp [sdD])⟩
        · exact ⟨x1, atI_nat (j := 1) rfl, g2, fit_sub hf (by simp [sdD])⟩
      obtain ⟨xk, hat, gk, Mk, hfk⟩ := hxk
      have gk1 := Dp_same s1 gk
      obtain ⟨t3, ty3, k3⟩ := isa_tup gk1
      refine ⟨_, rfl, _, rfl, a, _, _, _, rfl, rfl, sameT s1 hx, hat, _, .ty "tuple", t3, _, _, rfl, .ty _, ty3, k3, _, rfl, ?_⟩
      clear k1 ty1 q q0 eS
      generalize hsd : sdD k d0 d1 = dk at gk1 hfk qF k3
      cases gk1 with
      | @tup ak xk' dsk hxk hrk =>
        refine iteF ?_
        have hlk := DpAll_len hrk
        refine ⟨_, rfl, _, rfl, a, _, _, _, rfl, rfl, sameT s1 hx, hat, ak, rfl, ⟨_, hxk⟩, for_it (walk_tup (xs := xk')) (fun n σ H' => ∃ (lv : V) (l : Option PyData) (a4 : Option V), σ = [some vc, some (.ref a), some (.int (0 + (k : Nat))), some lv, a4] ∧ Same H1 H' ∧ LastR K H' lv (lk zs k) l ∧ scan (lk zs k) l (dsk.drop n) = scan (lk zs k) none dsk) ⟨.non, none, _, rfl, Same.refl H1, .inl ⟨rfl, rfl⟩, rfl⟩ (fun n σ H _ h => by obtain ⟨_, _, _, _, s, _⟩ := h; exact sameT s hxk) ?_ ?_⟩
        · rintro n x σ H3 H2 hn ⟨lv, l, a4', rfl, s2, hl, hsc⟩ ⟨rfl, ex⟩
          obtain ⟨dx, fx, gx⟩ := DpAll_get hrk ex
          have hdrop : dsk.drop n = dx :: dsk.drop (n + 1) := by
            obtain ⟨hlt, e⟩ := List.getElem?_eq_some_iff.mp fx
            rw [← e]
            exact List.drop_eq_getElem_cons hlt
          rw [hdrop] at hsc
          have hF : ∀ H', Same H2 H' → scan (lk zs k) l (dx :: dsk.drop (n + 1)) = false → Q (.bl false) H' := fun H' s' e => qF H' ((s1.trans s2).trans s') (by
            show scan (lk zs k) none dsk = false
            rw [← hsc]; exact e)
          have gx2 := Dp_same s2 gx
          obtain ⟨Mx, hfx⟩ := fit_sub hfk (List.mem_of_getElem? fx)
          obtain ⟨t4, ty4, k4⟩ := isa_tup gx2
          refine ⟨_, rfl, _, .ty "tuple", t4, _, _, rfl, .ty _, ty4, k4, _, rfl, ?_⟩
          clear ty3 k3 ty4 hdrop fx gx
          cases gx2 with
          | @tup ax xe es hxe hre =>
            refine iteF ⟨_, rfl, _, _, rfl, .inr hxe, rfl, _, rfl, ?_⟩
            by_cases h2 : es.length = 2
            case neg =>
              rw [int_two, DpAll_len hre, decide_eq_false h2]
              exact iteT (hF H2 (Same.refl H2) (by
                show (numPair (.tuple es) && _) = false
                unfold numPair
                rw [show dPair (.tuple es) = false from decide_eq_false h2, Bool.false_and, Bool.false_and]))
            rw [int_two, DpAll_len hre, decide_eq_true h2]
            refine iteF ?_
            match es, h2 with
            | [e0, e1], _ =>
            cases hre with
            | @cons y0 _ _ _ h0 tt1 =>
            cases tt1 with
            | @cons y1 _ _ _ h1 tt2 =>
            cases tt2
            refine ⟨_, rfl, ax, _, 1, _, rfl, rfl, hxe, atI_nat (j := 1) rfl, y1, e1, rfl, h1, fit_sub hfx (by simp), fun H5 s5 => ⟨_, rfl, ?_⟩⟩
            by_cases hnum : dNum e1 = true
            case neg =>
              rw [Bool.eq_false_iff.mpr hnum]
              exact iteT (hF H5 s5 (by
                show (dNum e1 && _) = false
                rw [Bool.eq_false_iff.mpr hnum, Bool.false_and]))
            rw [hnum]
            refine iteF ⟨_, rfl, rfl, _, rfl, ?_⟩
            have hk2 : k = 0 ∨ k = 1 := by omega
            have hl := hl
            rcases hk2 with rfl | rfl
            · rw [show decide (V.int (0 + ((0 : Nat) : Int)) = V.int 0) = true by decide]
              refine iteT ⟨_, rfl, ax, _, 0, _, rfl, rfl, sameT s5 hxe, atI_nat (j := 0) rfl, y0, e0, rfl, Dp_same s5 h0, fit_sub hfx (by simp), fun H6 s6 => ⟨_, rfl, ?_⟩⟩
              · skip
                by_cases hg : lk zs 0 e0 = true
                case neg =>
                  rw [show dWord e0 = false from Bool.eq_false_iff.mpr hg]
                  exact iteT (hF H6 (s5.trans s6) (by
                    show (numPair _ && (lk zs 0 e0 && _)) = false
                    rw [Bool.eq_false_iff.mpr hg, Bool.false_and, Bool.and_false]))
                rw [show dWord e0 = true from hg]
                refine iteF ⟨_, rfl, rfl, _, rfl, ?_⟩
                rcases hl with ⟨rfl, rfl⟩ | ⟨ld, rfl, hld, hgl⟩
                · refine iteF (iteF ⟨_, rfl, ax, _, 0, _, rfl, rfl, sameT (s5.trans s6) hxe, atI_nat (j := 0) rfl, ?_⟩)
                  refine ⟨y0, some e0, _, rfl, s2.trans (s5.trans s6), .inr ⟨e0, rfl, Dp_same (s5.trans s6) h0, hg⟩, ?_⟩
                  rw [← hsc]
                  show _ = (numPair (.tuple [e0, e1]) && (lk zs 0 e0 && (true && scan (lk zs 0) (some e0) (dsk.drop (n + 1)))))
                  rw [hg, show numPair (.tuple [e0, e1]) = true from hnum]
                  rfl
                · have hne : decide (lv = V.non) = false := decide_eq_false (fun h => by
                    subst h
                    cases hld
                    cases hgl)
                  rw [hne]
                  refine iteT ⟨_, rfl, _, rfl, ax, _, 0, _, rfl, rfl, sameT (s5.trans s6) hxe, atI_nat (j := 0) rfl, ld, e0, Dp_same (s5.trans s6) hld, Dp_same (s5.trans s6) h0, lk_cmp hgl hg, _, rfl, ?_⟩
                  by_cases hlt : ltD ld e0 = true
                  · rw [hlt]
                    refine iteF ⟨_, rfl, ax, _, 0, _, rfl, rfl, sameT (s5.trans s6) hxe, atI_nat (j := 0) rfl, ?_⟩
                    refine ⟨y0, some e0, _, rfl, s2.trans (s5.trans s6), .inr ⟨e0, rfl, Dp_same (s5.trans s6) h0, hg⟩, ?_⟩
                    rw [← hsc]
                    show _ = (numPair (.tuple [e0, e1]) && (lk zs 0 e0 && (ltD ld e0 && scan (lk zs 0) (some e0) (dsk.drop (n + 1)))))
                    rw [hg, hlt, show numPair (.tuple [e0, e1]) = true from hnum]
                    rfl
                  · rw [Bool.eq_false_iff.mpr hlt]
                    exact iteT (hF H6 (s5.trans s6) (by
                      show (numPair _ && (lk zs 0 e0 && (ltD ld e0 && _))) = false
                      rw [Bool.eq_false_iff.mpr hlt, Bool.false_and, Bool.and_false, Bool.and_false]))
            · rw [show decide (V.int (0 + ((1 : Nat) : Int)) = V.int 0) = false by decide]
              refine iteF ⟨_, rfl, _, rfl, ax, _, 0, _, rfl, rfl, sameT s5 hxe, atI_nat (j := 0) rfl, vc, vo, y0, zs, e0, rfl, hC.same ((s1.trans s2).trans s5), Dp_same s5 h0, fit_sub hfx (by simp), fun H6 s6 => ⟨_, rfl, ?_⟩⟩
              · skip
                by_cases hg : lk zs 1 e0 = true
                case neg =>
                  rw [show dCell zs e0 = false from Bool.eq_false_iff.mpr hg]
                  exact iteT (hF H6 (s5.trans s6) (by
                    show (numPair _ && (lk zs 1 e0 && _)) = false
                    rw [Bool.eq_false_iff.mpr hg, Bool.false_and, Bool.and_false]))
                rw [show dCell zs e0 = true from hg]
                refine iteF ⟨_, rfl, rfl, _, rfl, ?_⟩
                rcases hl with ⟨rfl, rfl⟩ | ⟨ld, rfl, hld, hgl⟩
                · refine iteF (iteF ⟨_, rfl, ax, _, 0, _, rfl, rfl, sameT (s5.trans s6) hxe, atI_nat (j := 0) rfl, ?_⟩)
                  refine ⟨y0, some e0, _, rfl, s2.trans (s5.trans s6), .inr ⟨e0, rfl, Dp_same (s5.trans s6) h0, hg⟩, ?_⟩
                  rw [← hsc]
                  show _ = (numPair (.tuple [e0, e1]) && (lk zs 1 e0 && (true && scan (lk zs 1) (some e0) (dsk.drop (n + 1)))))
                  rw [hg, show numPair (.tuple [e0, e1]) = true from hnum]
                  rfl
                · have hne : decide (lv = V.non) = false := decide_eq_false (fun h => by
                    subst h
                    cases hld
                    cases hgl)
                  rw [hne]
                  refine iteT ⟨_, rfl, _, rfl, ax, _, 0, _, rfl, rfl, sameT (s5.trans s6) hxe, atI_nat (j := 0) rfl, ld, e0, Dp_same (s5.trans s6) hld, Dp_same (s5.trans s6) h0, lk_cmp hgl hg, _, rfl, ?_⟩
                  by_cases hlt : ltD ld e0 = true
                  · rw [hlt]
                    refine iteF ⟨_, rfl, ax, _, 0, _, rfl, rfl, sameT (s5.trans s6) hxe, atI_nat (j := 0) rfl, ?_⟩
                    refine ⟨y0, some e0, _, rfl, s2.trans (s5.trans s6), .inr ⟨e0, rfl, Dp_same (s5.trans s6) h0, hg⟩, ?_⟩
                    rw [← hsc]
                    show _ = (numPair (.tuple [e0, e1]) && (lk zs 1 e0 && (ltD ld e0 && scan (lk zs 1) (some e0) (dsk.drop (n + 1)))))
                    rw [hg, hlt, show numPair (.tuple [e0, e1]) = true from hnum]
                    rfl
                  · rw [Bool.eq_false_iff.mpr hlt]
                    exact iteT (hF H6 (s5.trans s6) (by
                      show (numPair _ && (lk zs 1 e0 && (ltD ld e0 && _))) = false
                      rw [Bool.eq_false_iff.mpr hlt, Bool.false_and, Bool.and_false, Bool.and_false]))
          | non => exact iteT (hF H2 (Same.refl H2) rfl)
          | bl b => exact iteT (hF H2 (Same.refl H2) rfl)
          | int i => exact iteT (hF H2 (Same.refl H2) rfl)
          | str z => exact iteT (hF H2 (Same.refl H2) rfl)
          | lst h r => exact iteT (hF H2 (Same.refl H2) rfl)
        · rintro σ H2 ⟨lv, l, a4', rfl, s2, hl, hsc⟩
          rw [hlk, List.drop_length] at hsc
          refine ⟨_, _, _, rfl, s1.trans s2, fun j hj => ?_⟩
          by_cases hjk : j < k
          · exact hb j hjk
          · have : j = k := by omega
            subst this
            rw [hsd]
            exact hsc.symm
      | non => exact iteT (qF H1 s1 rfl)
      | bl b => exact iteT (qF H1 s1 rfl)
      | int i => exact iteT (qF H1 s1 rfl)
      | str z => exact iteT (qF H1 s1 rfl)
      | lst h r => exact iteT (qF H1 s1 rfl)
    · rintro σ H1 ⟨a2, a3, a4, rfl, s1, hb⟩
      have e0 : sideB zs 0 d0 = true := hb 0 (by omega)
      have e1 : sideB zs 1 d1 = true := hb 1 (by omega)
      rw [e0, e1] at q
      exact q H1 s1
  | non => exact iteT q0
  | bl b => exact iteT q0
  | int i => exact iteT q0
  | str z => exact iteT q0
  | lst h r => exact iteT q0
end
end Sw
set_option maxRecDepth 100000
set_option maxHeartbeats 4000000
namespace Sw
open PySem PySem.Spec PyProof.Rows L2
/-- what the things are made of -/
structure Gh where
  p : Addr
  ks : List (Str × Int)
  ss : List ((Str × Int) × Int)
  own : Str
  n : Int
  hk : ks.length ≤ 60
  hs : ss.length ≤ 60
abbrev kD (x : Gh) : PyData := .tuple (x.ks.map knD)
abbrev sD (x : Gh) : PyData := .tuple (x.ss.map clD)
abbrev fD (x : Gh) : PyData := .tuple [kD x, sD x]
def th0 (x : Gh) : List PyData := [fD x, .none, .tuple [.tuple [], .tuple []], .tuple [.tuple [], .tuple [], .tuple []], .tuple [.tuple []], .list [kD x, sD x]]
def th1 (x : Gh) : List PyData := [.tuple [sD x, kD x], .tuple [.tuple (x.ks.map knD ++ x.ks.map knD), sD x]]
def th2 (x : Gh) : List PyData := [.tuple [.tuple (x.ks.map knD).reverse, sD x], .tuple [kD x, .tuple (x.ss.map clD ++ x.ss.map clD)]]
def th3 (x : Gh) : List PyData := [.tuple [.tuple [], .tuple [.tuple [.tuple [(.str x.own), (.int x.n)], .int 0]]], .tuple [.list (x.ks.map knD), sD x]]
def th4 (x : Gh) : List PyData := [.tuple [.tuple [], .tuple [.tuple [.tuple [(.str x.own), .int (x.n - 1)], .int (10 ^ (60 : Int).toNat)]]], .tuple [.tuple [], .tuple [.tuple [.tuple [(.str x.own), .bool true], .int 0]]], .tuple [.tuple [], .tuple [.tuple [.tuple [.str (Str.ofString "nobody"), .int 0], .int 0]]]]
def th5 (x : Gh) : List PyData := [.tuple [.tuple [.tuple [.str (Str.ofString "Name"), .int 1]], .tuple []], .tuple [.tuple [.tuple [.str (Str.ofString "a"), .bool true]], .tuple []], .tuple [.tuple [.tuple [.str (Str.ofString "nobodyis"), .int 1]], .tuple []], .tuple [.tuple [.tuple [.str (Str.ofString "a")]], .tuple []]]
def th6 (x : Gh) : List PyData := [.tuple [.tuple [], .tuple [.tuple [.tuple [(.str x.own), .int (-1)], .int 0]]], .tuple [.tuple [], .tuple [.tuple [.tuple [.list [(.str x.own)], .int 0], .int 0]]], .tuple [.tuple [.tuple [.list [], .int 1]], .tuple []]]
def th7 (x : Gh) : List PyData := [.tuple [.tuple [.tuple [.str (Str.ofString "nobodyisx"), .int 1]], .tuple []]]
def th7a (x : Gh) : PyData := .tuple [.tuple [.tuple [.str (Str.ofString "nobodyisx"), .int 1]], .tuple []]

def GG (K : PySem.W.Frag) (x : Gh) (σ : L2.St) (H : Hp) : Prop := (∃ u, H x.p = some u) ∧ (∃ v, σ[4]? = some (some v) ∧ Dp K (del H x.p) v (fD x)) ∧ (∃ v, σ[5]? = some (some v) ∧ Dp K (del H x.p) v (kD x)) ∧ (∃ v, σ[6]? = some (some v) ∧ Dp K (del H x.p) v (sD x)) ∧ (∃ v, σ[7]? = some (some v) ∧ Dp K (del H x.p) v (.str x.own)) ∧ (∃ v, σ[8]? = some (some v) ∧ Dp K (del H x.p) v (.int x.n))
theorem gg_dc {K : PySem.W.Frag} (x : Gh) : Dc (fun _ H => del H x.p) (GG K x) := by
  have k : ∀ {σ : L2.St} {H H' : Hp} {i : Nat} {d : PyData}, (∃ v, σ[i]? = some (some v) ∧ Dp K (del H x.p) v d) → Same H H' → ∃ v, σ[i]? = some (some v) ∧ Dp K (del H' x.p) v d := fun h s => by
    obtain ⟨v, e, hd⟩ := h
    exact ⟨v, e, Dp_same (same_del s) hd⟩
  refine ⟨fun s => same_del s, del_same _ _, fun h s => ?_, fun h ha => ?_⟩
  · obtain ⟨⟨u, h0⟩, h1, h2, h3, h4, h5⟩ := h
    exact ⟨⟨u, s _ _ h0⟩, k h1 s, k h2 s, k h3 s, k h4 s, k h5 s⟩
  · obtain ⟨⟨u, h0⟩, _⟩ := h
    exact new_del h0 ha
section
variable {K : PySem.W.Frag} {x : Gh} {σ : L2.St} {H : Hp}
theorem vF (g : GG K x σ H) : ∃ v, σ[4]? = some (some v) ∧ Dp K (del H x.p) v (fD x) := g.2.1
theorem vK (g : GG K x σ H) : ∃ v, σ[5]? = some (some v) ∧ Dp K (del H x.p) v (kD x) := g.2.2.1
theorem vS (g : GG K x σ H) : ∃ v, σ[6]? = some (some v) ∧ Dp K (del H x.p) v (sD x) := g.2.2.2.1
theorem vO (g : GG K x σ H) : ∃ v, σ[7]? = some (some v) ∧ Dp K (del H x.p) v (.str x.own) := g.2.2.2.2.1
theorem vZ (g : GG K x σ H) : ∃ v, σ[8]? = some (some v) ∧ Dp K (del H x.p) v (.int x.n) := g.2.2.2.2.2
end
def tGs (K : PySem.W.Frag) (ds : Gh → List PyData) : TA := fun σ H Q => ∃ x : Gh, tDs K (fun _ H => del H x.p) (GG K x) (ds x) σ H Q
def tG1 (K : PySem.W.Frag) (d : Gh → PyData) : TE := fun σ H Q => ∃ x : Gh, tD K (fun _ H => del H x.p) (GG K x) (d x) σ H Q
theorem pa_gh {X : Cx} {K : PySem.W.Frag} {es : List Expr} {ds : Gh → List PyData} (h : ∀ x : Gh, PA X es (tDs K (fun _ H => del H x.p) (GG K x) (ds x))) : PA X es (tGs K ds) :=
  ⟨fun pos pins s σ H Q I ⟨x, hx⟩ => (h x).run pos pins s σ H Q I hx⟩
theorem pe_gh {X : Cx} {K : PySem.W.Frag} {e : Expr} {d : Gh → PyData} (h : ∀ x : Gh, PE X e (tD K (fun _ H => del H x.p) (GG K x) (d x))) : PE X e (tG1 K d) :=
  ⟨fun pins s σ H Q I ⟨x, hx⟩ => (h x).run pins s σ H Q I hx⟩
end Sw
set_option maxRecDepth 100000
set_option maxHeartbeats 4000000
namespace Sw
open PySem PySem.Spec PyProof.Rows L2
theorem PlanAt.same {K : PySem.W.Frag} {H H' : Hp} {v : V} {zs : List (Str × Int)} {cs : List Str} {rs : List PyData} (h : PlanAt K H v zs cs rs) (s : Same H H') : PlanAt K H' v zs cs rs := by
  obtain ⟨C, vo, vr, e, h1, h2, h3⟩ := h.ex
  exact ⟨⟨C, vo, vr, e, sameT s h1, h2.same s, Dp_same s h3⟩, h.cs3, h.fits⟩
/-- the things while they grow, with the plan and the beginning beside -/
structure LK (K : PySem.W.Frag) (p fq T : Addr) (vp : V) (zs : List (Str × Int)) (cs : List Str) (rs : List PyData) (x : Gh) (vf vk vs : V) (M b : Nat) (H : Hp) (us : List V) (ds : List PyData) : Prop where
  xp : x.p = p
  feed : FeedAt H p fq b
  at_ : H T = some (.lst us)
  np : T ≠ p
  nq : T ≠ fq
  dat : DpAll K (del (del H p) T) us ds
  pl : PlanAt K (del (del H p) T) vp zs cs rs
  df : Dp K (del (del H p) T) vf (fD x)
  dk : Dp K (del (del H p) T) vk (kD x)
  dS : Dp K (del (del H p) T) vs (sD x)
  fit : ∀ d ∈ ds, Fit M 44 10 60000 d
section
variable {K : PySem.W.Frag} {p fq T : Addr} {vp : V} {zs : List (Str × Int)} {cs : List Str} {rs : List PyData} {x : Gh} {vf vk vs : V} {M b : Nat} {H H' : Hp} {us : List V} {ds : List PyData}
theorem LK.next {b' : Nat} (I : LK K p fq T vp zs cs rs x vf vk vs M b H us ds) (s : Same (del H p) (del H' p)) (F : FeedAt H' p fq b') : LK K p fq T vp zs cs rs x vf vk vs M b' H' us ds :=
  ⟨I.xp, F, (of_del (s _ _ (del_some I.at_ I.np))).1, I.np, I.nq, DpAll_same (same_del s) I.dat, I.pl.same (same_del s), Dp_same (same_del s) I.df, Dp_same (same_del s) I.dk, Dp_same (same_del s) I.dS, I.fit⟩
theorem LK.lay (I : LK K p fq T vp zs cs rs x vf vk vs M b H us ds) (s : Same H H') : LK K p fq T vp zs cs rs x vf vk vs M b H' us ds := I.next (same_del s) (I.feed.same s)
theorem LK.mono {c : Nat} (I : LK K p fq T vp zs cs rs x vf vk vs M b H us ds) (h : b ≤ c) : LK K p fq T vp zs cs rs x vf vk vs M c H us ds := ⟨I.xp, I.feed.mono h, I.at_, I.np, I.nq, I.dat, I.pl, I.df, I.dk, I.dS, I.fit⟩
/-- what a new list is apart from -/
theorem same_apart {T' : Addr} {o : HO} (hN : H T' = none) : Same (del H p) (del (del (upd H T' o) p) T') := fun c u e => by
  obtain ⟨e1, e2⟩ := of_del e
  have hc := ne_of_none e1 hN
  exact del_some (del_some (by rw [upd_ne hc]; exact e1) e2) hc
/-- things + more -/
theorem LK.plus (I : LK K p fq T vp zs cs rs x vf vk vs M b H us ds) {T' : Addr} (hN : H T' = none) {ws : List V} {es : List PyData} (h : DpAll K (del H p) ws es) (hf : ∀ d ∈ es, Fit M 44 10 60000 d) : LK K p fq T' vp zs cs rs x vf vk vs M b (upd H T' (.lst (us ++ ws))) (us ++ ws) (ds ++ es) := by
  have s1 : Same (del H p) (del (del (upd H T' (.lst (us ++ ws))) p) T') := same_apart hN
  have s : Same (del (del H p) T) (del (del (upd H T' (.lst (us ++ ws))) p) T') := (del_same _ _).trans s1
  obtain ⟨n1, n2⟩ := I.feed.ne hN
  exact ⟨I.xp, I.feed.same (same_new hN), upd_same, n1, n2, DpAll_append (DpAll_same s I.dat) (DpAll_same s1 h), I.pl.same s, Dp_same s I.df, Dp_same s I.dk, Dp_same s I.dS, fun d hd => (List.mem_append.mp hd).elim (I.fit d) (hf d)⟩
/-- things.append(v), v without lists -/
theorem LK.push (I : LK K p fq T vp zs cs rs x vf vk vs M b H us ds) {v : V} {d : PyData} (h : Dp K (del H p) v d) (hn : noL d = true) (hf : Fit M 44 10 60000 d) : LK K p fq T vp zs cs rs x vf vk vs M b (upd H T (.lst (us ++ [v]))) (us ++ [v]) (ds ++ [d]) := by
  have s : Same (del (del H p) T) (del (del (upd H T (.lst (us ++ [v]))) p) T) := fun c o e => by
    obtain ⟨e1, e2⟩ := of_del e
    obtain ⟨e3, e4⟩ := of_del e1
    exact del_some (del_some (by rw [upd_ne e2]; exact e3) e4) e2
  have sT : Same (tps (del H p)) (del (del H p) T) := fun c o e => by
    have e1 := tps_sub _ _ e
    refine del_some e1 (fun h => ?_)
    subst h
    have h2 := del_some I.at_ I.np
    unfold tps at e
    rw [h2] at e
    cases e
  exact ⟨I.xp, I.feed.upd I.np I.nq, upd_same, I.np, I.nq, DpAll_same s (DpAll_append I.dat (.cons (Dp_same sT (Dp_tps h hn)) .nil)), I.pl.same s, Dp_same s I.df, Dp_same s I.dk, Dp_same s I.dS, fun e he => (List.mem_append.mp he).elim (I.fit e) (fun h => by rw [List.mem_singleton.mp h]; exact hf)⟩
theorem LK.code (I : LK K p fq T vp zs cs rs x vf vk vs M b H us ds) : ∃ vo, CodeAt K H vp vo zs := by
  have s : Same (del (del H p) T) H := (del_same _ _).trans (del_same _ _)
  obtain ⟨C, vo, vr, e, h1, h2, h3⟩ := I.pl.ex
  exact ⟨vo, ⟨C, vr, e, sameT s h1⟩, h2.same s⟩
theorem LK.told (I : LK K p fq T vp zs cs rs x vf vk vs M b H us ds) : Dp K H vp (.tuple [.tuple (zs.map cellD), .tuple rs]) := by
  have s : Same (del (del H p) T) H := (del_same _ _).trans (del_same _ _)
  obtain ⟨C, vo, vr, rfl, h1, h2, h3⟩ := I.pl.ex
  exact .tup (sameT s h1) (.cons (h2.same s).dat (.cons (Dp_same s h3) .nil))
theorem LK.gg (I : LK K p fq T vp zs cs rs x vf vk vs M b H us ds) {σ : L2.St} (h4 : σ[4]? = some (some vf)) (h5 : σ[5]? = some (some vk)) (h6 : σ[6]? = some (some vs)) (h7 : σ[7]? = some (some (.str x.own))) (h8 : σ[8]? = some (some (.int x.n))) : GG K x σ H := by
  have e := I.xp
  unfold GG
  rw [e]
  exact ⟨I.feed.there, ⟨_, h4, Dp_same (del_same _ _) I.df⟩, ⟨_, h5, Dp_same (del_same _ _) I.dk⟩, ⟨_, h6, Dp_same (del_same _ _) I.dS⟩, ⟨_, h7, .str _⟩, ⟨_, h8, .int _⟩⟩
end
end Sw
set_option maxRecDepth 100000
set_option maxHeartbeats 4000000
namespace Sw
open PySem PySem.Spec PyProof.Rows L2
/-- what is known of what the things are made of -/
structure GhOk (M : Nat) (x : Gh) : Prop where
  kn : ∀ c ∈ x.ks, IsWord c.1 ∧ c.2.natAbs ≤ M
  cl : ∀ c ∈ x.ss, IsWord c.1.1 ∧ c.1.2.natAbs ≤ M ∧ c.2.natAbs ≤ M
  own : IsWord x.own
  n : x.n.natAbs ≤ M ∧ (x.n - 1).natAbs ≤ M
  lk : x.ks.length ≤ 4
  ls : x.ss.length ≤ 16
section
variable {M n A B C : Nat} {a b c : PyData} {x : Gh}
theorem GhOk.up {N : Nat} (h : GhOk M x) (hN : M ≤ N) : GhOk N x := ⟨fun c hc => ⟨(h.kn c hc).1, Nat.le_trans (h.kn c hc).2 hN⟩, fun c hc => ⟨(h.cl c hc).1, Nat.le_trans (h.cl c hc).2.1 hN, Nat.le_trans (h.cl c hc).2.2 hN⟩, h.own, ⟨Nat.le_trans h.n.1 hN, Nat.le_trans h.n.2 hN⟩, h.lk, h.ls⟩
theorem ft0 : Fit M 40 (n + 1) 5 (.tuple []) := Fit.tup (Nat.zero_le _) (fun x hx => by cases hx) (Nat.le_refl _)
theorem fl0 : Fit M 40 (n + 1) 5 (.list []) := Fit.lst (Nat.zero_le _) (fun x hx => by cases hx) (Nat.le_refl _)
theorem ft1 (h : Fit M 40 n A a) : Fit M 40 (n + 1) (A + 7) (.tuple [a]) := Fit.tup (by show 1 ≤ 40; decide) (fun x hx => by rw [List.mem_singleton.mp hx]; exact ⟨h.lf, h.ln, h.dp⟩) (by have := h.wg; simp only [wtAll]; omega)
theorem fl1 (h : Fit M 40 n A a) : Fit M 40 (n + 1) (A + 7) (.list [a]) := Fit.lst (by show 1 ≤ 40; decide) (fun x hx => by rw [List.mem_singleton.mp hx]; exact ⟨h.lf, h.ln, h.dp⟩) (by have := h.wg; simp only [wtAll]; omega)
theorem two_mem {P : PyData → Prop} (h1 : P a) (h2 : P b) : ∀ x ∈ [a, b], P x := fun x hx => by
  simp only [List.mem_cons, List.not_mem_nil, or_false] at hx
  rcases hx with rfl | rfl
  · exact h1
  · exact h2
theorem ft2 (h : Fit M 40 n A a) (g : Fit M 40 n B b) : Fit M 40 (n + 1) (A + B + 9) (.tuple [a, b]) := Fit.tup (by show 2 ≤ 40; decide) (two_mem ⟨h.lf, h.ln, h.dp⟩ ⟨g.lf, g.ln, g.dp⟩) (by have := h.wg; have := g.wg; simp only [wtAll]; omega)
theorem fl2 (h : Fit M 40 n A a) (g : Fit M 40 n B b) : Fit M 40 (n + 1) (A + B + 9) (.list [a, b]) := Fit.lst (by show 2 ≤ 40; decide) (two_mem ⟨h.lf, h.ln, h.dp⟩ ⟨g.lf, g.ln, g.dp⟩) (by have := h.wg; have := g.wg; simp only [wtAll]; omega)
theorem ft3 (h : Fit M 40 n A a) (g : Fit M 40 n B b) (k : Fit M 40 n C c) : Fit M 40 (n + 1) (A + B + C + 11) (.tuple [a, b, c]) := Fit.tup (by show 3 ≤ 40; decide) (fun x hx => by
  simp only [List.mem_cons, List.not_mem_nil, or_false] at hx
  rcases hx with rfl | rfl | rfl
  · exact ⟨h.lf, h.ln, h.dp⟩
  · exact ⟨g.lf, g.ln, g.dp⟩
  · exact ⟨k.lf, k.ln, k.dp⟩) (by have := h.wg; have := g.wg; have := k.wg; simp only [wtAll]; omega)
theorem sm_fit {i : Int} (hM : 10 ≤ M) (h : i.natAbs ≤ 10) : Fit M 40 n 250 (.int i) := Fit.int (Nat.le_trans h hM) (Nat.le_refl _)
theorem wd_fit {z : Str} (h : IsWord z) : Fit M 40 n 85 (.str z) := Fit.str h.ascii (by have := h.hi; omega)
theorem own_fit (h : GhOk M x) : Fit M 40 n 85 (.str x.own) := wd_fit h.own
theorem n_fit (h : GhOk M x) : Fit M 40 n 250 (.int x.n) := Fit.int h.n.1 (Nat.le_refl _)
theorem n1_fit (h : GhOk M x) : Fit M 40 n 250 (.int (x.n - 1)) := Fit.int h.n.2 (Nat.le_refl _)
theorem many {ds : List PyData} {k : Nat} (h : ∀ d ∈ ds, Fit M 40 n A d) (hl : ds.length ≤ k) (hk : k ≤ 40) : Fit M 40 (n + 1) ((A + 2) * k + 5) (.tuple ds) ∧ Fit M 40 (n + 1) ((A + 2) * k + 5) (.list ds) := by
  have w1 := wt_le (B := A) (fun d hd => (h d hd).wg)
  have w2 : (A + 2) * ds.length ≤ (A + 2) * k := Nat.mul_le_mul_left _ hl
  have hx : ∀ d ∈ ds, leaf M d = true ∧ lens 40 d = true ∧ d.depth ≤ n := fun d hd => ⟨(h d hd).lf, (h d hd).ln, (h d hd).dp⟩
  exact ⟨Fit.tup (by omega) hx (by omega), Fit.lst (by omega) hx (by omega)⟩
theorem kn_all (h : GhOk M x) : ∀ d ∈ x.ks.map knD, Fit M 40 (n + 1) 344 d := fun d hd => by
  obtain ⟨c, hc, rfl⟩ := List.mem_map.mp hd
  exact ft2 (wd_fit (h.kn c hc).1) (Fit.int (h.kn c hc).2 (Nat.le_refl _))
theorem cl_all (h : GhOk M x) : ∀ d ∈ x.ss.map clD, Fit M 40 (n + 2) 603 d := fun d hd => by
  obtain ⟨c, hc, rfl⟩ := List.mem_map.mp hd
  exact ft2 (ft2 (wd_fit (h.cl c hc).1) (Fit.int (h.cl c hc).2.1 (Nat.le_refl _))) (Fit.int (h.cl c hc).2.2 (Nat.le_refl _))
theorem kD_fit (h : GhOk M x) : Fit M 40 (n + 2) 1389 (kD x) := (many (kn_all h) (by rw [List.length_map]; exact h.lk) (by decide)).1
theorem kl_fit (h : GhOk M x) : Fit M 40 (n + 2) 1389 (.list (x.ks.map knD)) := (many (kn_all h) (by rw [List.length_map]; exact h.lk) (by decide)).2
theorem kr_fit (h : GhOk M x) : Fit M 40 (n + 2) 1389 (.tuple (x.ks.map knD).reverse) := (many (fun d hd => kn_all h d (List.mem_reverse.mp hd)) (by rw [List.length_reverse, List.length_map]; exact h.lk) (by decide)).1
theorem kk_fit (h : GhOk M x) : Fit M 40 (n + 2) 2773 (.tuple (x.ks.map knD ++ x.ks.map knD)) := (many (k := 8) (fun d hd => (List.mem_append.mp hd).elim (kn_all h d) (kn_all h d)) (by rw [List.length_append, List.length_map]; have := h.lk; omega) (by decide)).1
theorem sD_fit (h : GhOk M x) : Fit M 40 (n + 3) 9685 (sD x) := (many (cl_all h) (by rw [List.length_map]; exact h.ls) (by decide)).1
theorem ss_fit (h : GhOk M x) : Fit M 40 (n + 3) 19365 (.tuple (x.ss.map clD ++ x.ss.map clD)) := (many (k := 32) (fun d hd => (List.mem_append.mp hd).elim (cl_all h d) (cl_all h d)) (by rw [List.length_append, List.length_map]; have := h.ls; omega) (by decide)).1
theorem fD_fit (h : GhOk M x) : Fit M 40 (n + 4) 11083 (fD x) := ft2 (kD_fit h) (sD_fit h)
theorem th0_fit (h : GhOk M x) (hM : 10 ≤ M) (hM60 : ((10 : Int) ^ (60 : Int).toNat).natAbs ≤ M) : ∀ d ∈ th0 x, Fit M 44 10 60000 d := fun d hd => by
  unfold th0 at hd
  simp only [List.mem_cons, List.not_mem_nil, or_false] at hd
  rcases hd with rfl | rfl | rfl | rfl | rfl | rfl
  · exact Fit.mono (M := M) (l := 40) (n := 10) (fD_fit h) (Nat.le_refl _) (by decide) (Nat.le_refl _) (Nat.le_of_ble_eq_true rfl)
  · exact Fit.mono (M := M) (l := 40) (n := 10) (Fit.none (Nat.le_refl _)) (Nat.le_refl _) (by decide) (Nat.le_refl _) (Nat.le_of_ble_eq_true rfl)
  · exact Fit.mono (M := M) (l := 40) (n := 10) (ft2 ft0 ft0) (Nat.le_refl _) (by decide) (Nat.le_refl _) (Nat.le_of_ble_eq_true rfl)
  · exact Fit.mono (M := M) (l := 40) (n := 10) (ft3 ft0 ft0 ft0) (Nat.le_refl _) (by decide) (Nat.le_refl _) (Nat.le_of_ble_eq_true rfl)
  · exact Fit.mono (M := M) (l := 40) (n := 10) (ft1 ft0) (Nat.le_refl _) (by decide) (Nat.le_refl _) (Nat.le_of_ble_eq_true rfl)
  · exact Fit.mono (M := M) (l := 40) (n := 10) (fl2 (kD_fit h) (sD_fit h)) (Nat.le_refl _) (by decide) (Nat.le_refl _) (Nat.le_of_ble_eq_true rfl)
theorem th1_fit (h : GhOk M x) (hM : 10 ≤ M) (hM60 : ((10 : Int) ^ (60 : Int).toNat).natAbs ≤ M) : ∀ d ∈ th1 x, Fit M 44 10 60000 d := fun d hd => by
  unfold th1 at hd
  simp only [List.mem_cons, List.not_mem_nil, or_false] at hd
  rcases hd with rfl | rfl
  · exact Fit.mono (M := M) (l := 40) (n := 10) (ft2 (sD_fit h) (kD_fit h)) (Nat.le_refl _) (by decide) (Nat.le_refl _) (Nat.le_of_ble_eq_true rfl)
  · exact Fit.mono (M := M) (l := 40) (n := 10) (ft2 (kk_fit h) (sD_fit h)) (Nat.le_refl _) (by decide) (Nat.le_refl _) (Nat.le_of_ble_eq_true rfl)
theorem th2_fit (h : GhOk M x) (hM : 10 ≤ M) (hM60 : ((10 : Int) ^ (60 : Int).toNat).natAbs ≤ M) : ∀ d ∈ th2 x, Fit M 44 10 60000 d := fun d hd => by
  unfold th2 at hd
  simp only [List.mem_cons, List.not_mem_nil, or_false] at hd
  rcases hd with rfl | rfl
  · exact Fit.mono (M := M) (l := 40) (n := 10) (ft2 (kr_fit h) (sD_fit h)) (Nat.le_refl _) (by decide) (Nat.le_refl _) (Nat.le_of_ble_eq_true rfl)
  · exact Fit.mono (M := M) (l := 40) (n := 10) (ft2 (kD_fit h) (ss_fit h)) (Nat.le_refl _) (by decide) (Nat.le_refl _) (Nat.le_of_ble_eq_true rfl)
theorem th3_fit (h : GhOk M x) (hM : 10 ≤ M) (hM60 : ((10 : Int) ^ (60 : Int).toNat).natAbs ≤ M) : ∀ d ∈ th3 x, Fit M 44 10 60000 d := fun d hd => by
  unfold th3 at hd
  simp only [List.mem_cons, List.not_mem_nil, or_false] at hd
  rcases hd with rfl | rfl
  · exact Fit.mono (M := M) (l := 40) (n := 10) (ft2 ft0 (ft1 (ft2 (ft2 (own_fit h) (n_fit h)) (sm_fit hM (by decide))))) (Nat.le_refl _) (by decide) (Nat.le_refl _) (Nat.le_of_ble_eq_true rfl)
  · exact Fit.mono (M := M) (l := 40) (n := 10) (ft2 (kl_fit h) (sD_fit h)) (Nat.le_refl _) (by decide) (Nat.le_refl _) (Nat.le_of_ble_eq_true rfl)
theorem th4_fit (h : GhOk M x) (hM : 10 ≤ M) (hM60 : ((10 : Int) ^ (60 : Int).toNat).natAbs ≤ M) : ∀ d ∈ th4 x, Fit M 44 10 60000 d := fun d hd => by
  unfold th4 at hd
  simp only [List.mem_cons, List.not_mem_nil, or_false] at hd
  rcases hd with rfl | rfl | rfl
  · exact Fit.mono (M := M) (l := 40) (n := 10) (ft2 ft0 (ft1 (ft2 (ft2 (own_fit h) (n1_fit h)) (Fit.int hM60 (Nat.le_refl _))))) (Nat.le_refl _) (by decide) (Nat.le_refl _) (Nat.le_of_ble_eq_true rfl)
  · exact Fit.mono (M := M) (l := 40) (n := 10) (ft2 ft0 (ft1 (ft2 (ft2 (own_fit h) (Fit.bool (Nat.le_refl _))) (sm_fit hM (by decide))))) (Nat.le_refl _) (by decide) (Nat.le_refl _) (Nat.le_of_ble_eq_true rfl)
  · exact Fit.mono (M := M) (l := 40) (n := 10) (ft2 ft0 (ft1 (ft2 (ft2 (Fit.str (B := 95) (fun c hc => by have := List.all_eq_true.mp (show (Str.ofString "nobody").cps.toList.all (fun c => decide (c < 128)) = true by decide +kernel) c hc; simpa using this) (by decide +kernel)) (sm_fit hM (by decide))) (sm_fit hM (by decide))))) (Nat.le_refl _) (by decide) (Nat.le_refl _) (Nat.le_of_ble_eq_true rfl)
theorem th5_fit (h : GhOk M x) (hM : 10 ≤ M) (hM60 : ((10 : Int) ^ (60 : Int).toNat).natAbs ≤ M) : ∀ d ∈ th5 x, Fit M 44 10 60000 d := fun d hd => by
  unfold th5 at hd
  simp only [List.mem_cons, List.not_mem_nil, or_false] at hd
  rcases hd with rfl | rfl | rfl | rfl
  · exact Fit.mono (M := M) (l := 40) (n := 10) (ft2 (ft1 (ft2 (Fit.str (B := 95) (fun c hc => by have := List.all_eq_true.mp (show (Str.ofString "Name").cps.toList.all (fun c => decide (c < 128)) = true by decide +kernel) c hc; simpa using this) (by decide +kernel)) (sm_fit hM (by decide)))) ft0) (Nat.le_refl _) (by decide) (Nat.le_refl _) (Nat.le_of_ble_eq_true rfl)
  · exact Fit.mono (M := M) (l := 40) (n := 10) (ft2 (ft1 (ft2 (Fit.str (B := 95) (fun c hc => by have := List.all_eq_true.mp (show (Str.ofString "a").cps.toList.all (fun c => decide (c < 128)) = true by decide +kernel) c hc; simpa using this) (by decide +kernel)) (Fit.bool (Nat.le_refl _)))) ft0) (Nat.le_refl _) (by decide) (Nat.le_refl _) (Nat.le_of_ble_eq_true rfl)
  · exact Fit.mono (M := M) (l := 40) (n := 10) (ft2 (ft1 (ft2 (Fit.str (B := 95) (fun c hc => by have := List.all_eq_true.mp (show (Str.ofString "nobodyis").cps.toList.all (fun c => decide (c < 128)) = true by decide +kernel) c hc; simpa using this) (by decide +kernel)) (sm_fit hM (by decide)))) ft0) (Nat.le_refl _) (by decide) (Nat.le_refl _) (Nat.le_of_ble_eq_true rfl)
  · exact Fit.mono (M := M) (l := 40) (n := 10) (ft2 (ft1 (ft1 (Fit.str (B := 95) (fun c hc => by have := List.all_eq_true.mp (show (Str.ofString "a").cps.toList.all (fun c => decide (c < 128)) = true by decide +kernel) c hc; simpa using this) (by decide +kernel)))) ft0) (Nat.le_refl _) (by decide) (Nat.le_refl _) (Nat.le_of_ble_eq_true rfl)
theorem th6_fit (h : GhOk M x) (hM : 10 ≤ M) (hM60 : ((10 : Int) ^ (60 : Int).toNat).natAbs ≤ M) : ∀ d ∈ th6 x, Fit M 44 10 60000 d := fun d hd => by
  unfold th6 at hd
  simp only [List.mem_cons, List.not_mem_nil, or_false] at hd
  rcases hd with rfl | rfl | rfl
  · exact Fit.mono (M := M) (l := 40) (n := 10) (ft2 ft0 (ft1 (ft2 (ft2 (own_fit h) (sm_fit hM (by decide))) (sm_fit hM (by decide))))) (Nat.le_refl _) (by decide) (Nat.le_refl _) (Nat.le_of_ble_eq_true rfl)
  · exact Fit.mono (M := M) (l := 40) (n := 10) (ft2 ft0 (ft1 (ft2 (ft2 (fl1 (own_fit h)) (sm_fit hM (by decide))) (sm_fit hM (by decide))))) (Nat.le_refl _) (by decide) (Nat.le_refl _) (Nat.le_of_ble_eq_true rfl)
  · exact Fit.mono (M := M) (l := 40) (n := 10) (ft2 (ft1 (ft2 fl0 (sm_fit hM (by decide)))) ft0) (Nat.le_refl _) (by decide) (Nat.le_refl _) (Nat.le_of_ble_eq_true rfl)
theorem th7a_fit (hM : 10 ≤ M) : Fit M 44 10 60000 (th7a x) := Fit.mono (M := M) (l := 40) (n := 10) (ft2 (ft1 (ft2 (Fit.str (B := 95) (fun c hc => by have := List.all_eq_true.mp (show (Str.ofString "nobodyisx").cps.toList.all (fun c => decide (c < 128)) = true by decide +kernel) c hc; simpa using this) (by decide +kernel)) (sm_fit hM (by decide)))) ft0) (Nat.le_refl _) (by decide) (Nat.le_refl _) (Nat.le_of_ble_eq_true rfl)
end
end Sw
set_option maxRecDepth 100000
set_option maxHeartbeats 4000000
namespace Sw
open PySem PySem.Spec PyProof.Rows L2
/-- repr of True, of False -/
theorem call_reprB {X : Cx} : CallR X (.builtin "repr") (fun xs H Q => ∃ b : Bool, xs = [.bl b] ∧ Q (.str (if b then "True" else "False")) H) := by
  intro pins s σ H xs us Q I r h
  obtain ⟨b, rfl, q⟩ := h
  cases r with
  | cons r0 r1 =>
    cases r1
    cases r0
    exact PySem.P.repr_of_bool ⟨.str _, H, I.tok _, ⟨_, rfl⟩, q⟩
section
variable {K : PySem.W.Frag} {p fq T : Addr} {vp : V} {zs : List (Str × Int)} {cs : List Str} {rs : List PyData} {x : Gh} {vf vk vs : V} {M b : Nat} {H H' : Hp} {us : List V} {ds : List PyData}
/-- things = things + [..] -/
theorem LK.step (I : LK K p fq T vp zs cs rs x vf vk vs M b H us ds) {Q : VK} {σ : L2.St} {es : Gh → List PyData} (h9 : σ[9]? = some (some (.ref T))) (hg : GG K x σ H) (hf : ∀ d ∈ es x, Fit M 44 10 60000 d) (hl : ds.length + (es x).length ≤ 500)
    (q : ∀ T' H' us', LK K p fq T' vp zs cs rs x vf vk vs M b H' us' (ds ++ es x) → Q (.ref T') H') : tOp rCat (tVar 9) (tLst (tGs K es)) σ H Q := by
  refine ⟨_, h9, x, hg, fun ws H1 s1 d1 => ?_⟩
  have l1 := DpAll_len d1
  have l2 := DpAll_len I.dat
  refine ⟨Nat.le_of_lt (big_size (by omega)), fun N hN => ?_⟩
  have I1 := I.lay s1
  have s2 := same_new (o := .lst ws) hN
  have I2 := I1.lay s2
  refine ⟨T, N, us, ws, rfl, rfl, I2.at_, upd_same, Nat.le_of_lt (big_size (by omega)), fun T' hT' => ?_⟩
  have e := I.xp
  rw [e] at d1
  exact q T' _ _ (I2.plus hT' (DpAll_same (same_del s2) d1) hf)
/-- things = [..] -/
theorem LK.first {Q : VK} {σ : L2.St} {es : Gh → List PyData} (xp : x.p = p) (F : FeedAt H p fq b) (P : PlanAt K (del H p) vp zs cs rs) (df : Dp K (del H p) vf (fD x)) (dk : Dp K (del H p) vk (kD x)) (dS : Dp K (del H p) vs (sD x)) (hg : GG K x σ H) (hf : ∀ d ∈ es x, Fit M 44 10 60000 d) (hl : (es x).length ≤ 500)
    (q : ∀ T' H' us', LK K p fq T' vp zs cs rs x vf vk vs M b H' us' (es x) → Q (.ref T') H') : tLst (tGs K es) σ H Q := by
  refine ⟨x, hg, fun ws H1 s1 d1 => ?_⟩
  have l1 := DpAll_len d1
  refine ⟨Nat.le_of_lt (big_size (by omega)), fun T hT => ?_⟩
  rw [xp] at d1
  have sa : Same (del H1 p) (del (del (upd H1 T (.lst ws)) p) T) := same_apart hT
  have sb := (same_del (p := p) s1).trans sa
  have F1 := F.same s1
  obtain ⟨n1, n2⟩ := F1.ne hT
  exact q T _ ws ⟨xp, F1.same (same_new hT), upd_same, n1, n2, DpAll_same sa d1, P.same sb, Dp_same sb df, Dp_same sb dk, Dp_same sb dS, hf⟩
theorem LK.len (I : LK K p fq T vp zs cs rs x vf vk vs M b H us ds) : us.length = ds.length := DpAll_len I.dat
theorem LK.step2 (I : LK K p fq T vp zs cs rs x vf vk vs M b H us ds) {H1 : Hp} {ws : List V} {es : List PyData} {N T' : Addr} (s1 : Same H H1) (hN : H1 N = none) (d1 : DpAll K (del H1 x.p) ws es) (hT' : upd H1 N (.lst ws) T' = none) (hf : ∀ d ∈ es, Fit M 44 10 60000 d) :
    LK K p fq T' vp zs cs rs x vf vk vs M b (upd (upd H1 N (.lst ws)) T' (.lst (us ++ ws))) (us ++ ws) (ds ++ es) := by
  have s2 := same_new (o := .lst ws) hN
  have I2 := (I.lay s1).lay s2
  rw [I.xp] at d1
  exact I2.plus hT' (DpAll_same (same_del s2) d1) hf
theorem LK.at2 (I : LK K p fq T vp zs cs rs x vf vk vs M b H us ds) {H1 : Hp} {ws : List V} {N : Addr} (s1 : Same H H1) (hN : H1 N = none) : upd H1 N (.lst ws) T = some (.lst us) := ((I.lay s1).lay (same_new hN)).at_
theorem LK.first2 {H1 : Hp} {ws : List V} {es : List PyData} (xp : x.p = p) (F : FeedAt H p fq b) (P : PlanAt K (del H p) vp zs cs rs) (df : Dp K (del H p) vf (fD x)) (dk : Dp K (del H p) vk (kD x)) (dS : Dp K (del H p) vs (sD x)) (s1 : Same H H1) (d1 : DpAll K (del H1 x.p) ws es) (hT : H1 T = none) (hf : ∀ d ∈ es, Fit M 44 10 60000 d) :
    LK K p fq T vp zs cs rs x vf vk vs M b (upd H1 T (.lst ws)) ws es := by
  rw [xp] at d1
  have sa : Same (del H1 p) (del (del (upd H1 T (.lst ws)) p) T) := same_apart hT
  have sb := (same_del (p := p) s1).trans sa
  have F1 := F.same s1
  obtain ⟨n1, n2⟩ := F1.ne hT
  exact ⟨xp, F1.same (same_new hT), upd_same, n1, n2, DpAll_same sa d1, P.same sb, Dp_same sb df, Dp_same sb dk, Dp_same sb dS, hf⟩
theorem gg_of {σ : L2.St} (xp : x.p = p) (F : FeedAt H p fq b) (df : Dp K (del H p) vf (fD x)) (dk : Dp K (del H p) vk (kD x)) (dS : Dp K (del H p) vs (sD x)) (h4 : σ[4]? = some (some vf)) (h5 : σ[5]? = some (some vk)) (h6 : σ[6]? = some (some vs)) (h7 : σ[7]? = some (some (.str x.own))) (h8 : σ[8]? = some (some (.int x.n))) : GG K x σ H := by
  unfold GG
  rw [xp]
  exact ⟨F.there, ⟨_, h4, df⟩, ⟨_, h5, dk⟩, ⟨_, h6, dS⟩, ⟨_, h7, .str _⟩, ⟨_, h8, .int _⟩⟩
theorem plan_fitM {M : Nat} (h : ∀ z ∈ zs, IsWord z.1 ∧ z.2.natAbs ≤ M) (hz : zs.length ≤ 4) (hr : ∀ d ∈ rs, Fit M 44 7 100000 d) (hl : rs.length ≤ 3) {d : PyData} (hd : Fit M 44 10 60000 d) : Fit M 44 53 16000000 (.tuple [.tuple [.tuple (zs.map cellD), .tuple rs], d]) := by
  have e1 : ∀ {n : Nat}, ∀ c ∈ zs.map cellD, leaf M c = true ∧ lens 44 c = true ∧ c.depth ≤ n + 1 ∧ wt c ≤ 344 := fun {n} c hc => by
    obtain ⟨z, hz, rfl⟩ := List.mem_map.mp hc
    have := (ft2 (n := n) (M := M) (wd_fit (h z hz).1) (Fit.int (h z hz).2 (Nat.le_refl _))).mono (Nat.le_refl _) (show 40 ≤ 44 by decide) (Nat.le_refl _) (Nat.le_refl _)
    exact ⟨this.lf, this.ln, this.dp, this.wg⟩
  have w1 := wt_le (B := 344) (fun c hc => (e1 (n := 0) c hc).2.2.2)
  rw [List.length_map] at w1
  have f1 : Fit M 44 9 1389 (.tuple (zs.map cellD)) := Fit.tup (by rw [List.length_map]; omega) (fun c hc => ⟨(e1 (n := 7) c hc).1, (e1 (n := 7) c hc).2.1, (e1 (n := 7) c hc).2.2.1⟩) (by omega)
  have w2 := wt_le (B := 100000) (fun c hc => (hr c hc).wg)
  have f2 : Fit M 44 9 300011 (.tuple rs) := (Fit.tup (n := 7) (B := 300011) (by omega) (fun c hc => ⟨(hr c hc).lf, (hr c hc).ln, (hr c hc).dp⟩) (by omega)).mono (Nat.le_refl _) (Nat.le_refl _) (by decide) (Nat.le_refl _)
  have w3 := f1.wg
  have w4 := f2.wg
  have f3 : Fit M 44 10 301409 (.tuple [.tuple (zs.map cellD), .tuple rs]) := Fit.tup (n := 9) (by show 2 ≤ 44; decide) (two_mem ⟨f1.lf, f1.ln, f1.dp⟩ ⟨f2.lf, f2.ln, f2.dp⟩) (by simp only [wtAll]; omega)
  have w5 := f3.wg
  have w6 := hd.wg
  have f4 : Fit M 44 11 361500 (.tuple [.tuple [.tuple (zs.map cellD), .tuple rs], d]) := Fit.tup (n := 10) (by show 2 ≤ 44; decide) (two_mem ⟨f3.lf, f3.ln, f3.dp⟩ ⟨hd.lf, hd.ln, hd.dp⟩) (by simp only [wtAll]; omega)
  exact f4.mono (Nat.le_refl _) (Nat.le_refl _) (by decide) (by decide)
end
end Sw
set_option maxRecDepth 100000
set_option maxHeartbeats 4000000
namespace Sw
open PySem PySem.Spec PyProof.Rows L2
section
variable {P : Program} {w : World} {K : PySem.W.Frag} {mg : Str → Option Value} {base : Heap}
theorem nms_ok : ∀ z ∈ nms, IsWord z := fun z hz => by
  unfold nms at hz
  simp only [List.mem_cons, List.not_mem_nil, or_false] at hz
  rcases hz with rfl | rfl | rfl | rfl <;> exact ⟨by decide +kernel, by decide +kernel, by decide +kernel⟩
theorem fits_mem {zs : List (Str × Int)} {cs : List Str} : ∀ {ns : List Str} {rs : List PyData}, fitsP (ns.map (RtnD zs cs)) rs → ∀ d ∈ rs, ∃ n ∈ ns, RtnD zs cs n d
  | [], [], _ => fun d hd => by cases hd
  | n :: ns, r :: rs, h => fun d hd => by
    rcases List.mem_cons.mp hd with rfl | hd
    · exact ⟨n, List.mem_cons_self, h.1⟩
    · obtain ⟨m, hm, h2⟩ := fits_mem h.2 d hd
      exact ⟨m, List.mem_cons_of_mem _ hm, h2⟩
def spLaw (K : PySem.W.Frag) : Sp := fun vs H Q _ => ∃ (a : Addr) (ns : List Int), vs = [.ref a] ∧ SqL K H a (ns.map V.int) ∧ ns.length ≤ 63 ∧ ∀ H', Q (.bl true) H'
theorem sc_law : FnScope ["_law_script", "_law_feed_here", "_law_turn", "_law_plan_here", "_law_first", "_law_known", "_law_stored_now", "_law_own", "_law_size", "_law_things", "_law_lap", "_law_bent_here", "_law_odd", "_law_seen"] ["_law_script"] (defScope (topS 27)) := ⟨rfl, rfl, rfl, by decide +kernel, rfl, by decide +kernel, by decide +kernel⟩
theorem ok_law {f fFE fPL fBG fIS fRI fD1 fBT : Addr} {fd dFE dPL dBG dIS dRI dD1 dBT : FuncData} (D : Fun K "law" "law" (topS 27) f fd) (B : Bt mg) (bL : mg "list" = none) (DFE : Df K mg "_law_feed" (topS 14) ["_law_script"] fFE dFE) (GFE : FnOk P w K mg base CX0 1 fFE dFE ["_law_script"] (spFeedB K)) (DPL : Df K mg "_law_plan" (topS 20) ["_law_feed_here"] fPL dPL) (GPL : FnOk P w K mg base CX0 4 fPL dPL ["_law_feed_here"] (spPlan K)) (DBG : Df K mg "_law_beginning" (topS 21) ["_law_feed_here", "_law_plan_here"] fBG dBG) (GBG : FnOk P w K mg base CX0 2 fBG dBG ["_law_feed_here", "_law_plan_here"] (spBegin K)) (DIS : Df K mg "is_start" (topS 12) ["code", "thing"] fIS dIS) (GIS : FnOk P w K mg base CX0 4 fIS dIS ["code", "thing"] (spStart K)) (DRI : Df K mg "_law_is_right" (topS 26) ["_law_plan_here", "_law_odd"] fRI dRI) (GRI : FnOk P w K mg base CX0 3 fRI dRI ["_law_plan_here", "_law_odd"] (spStart K)) (DD : Df K mg "_law_draw" (topS 15) ["_law_feed_here", "_law_many"] fD1 dD1) (GD : FnOk P w K mg base CX0 1 fD1 dD1 ["_law_feed_here", "_law_many"] spDraw) (DBT : Df K mg "_law_bent" (topS 22) ["_law_feed_here", "_law_odd"] fBT dBT) (GB5 : FnOk P w K mg base CX0 6 fBT dBT ["_law_feed_here", "_law_odd"] (spBent K 5)) (GB7 : FnOk P w K mg base CX0 8 fBT dBT ["_law_feed_here", "_law_odd"] (spBent K 7)) :
    FnG P w K mg base 9 f fd ["_law_script"] (spLaw K) := by
  refine fun_okG D sc_law (fun vs H Q E h => ?_) (fun cdv A outer s H vs Q E hg hr h => ?_)
  · obtain ⟨a, ns, rfl, _⟩ := h
    rfl
  obtain ⟨a, ns, rfl, hS, hn, q⟩ := h
  have nd := sc_law.nd
  have hu := hr.units
  have hg2 : (A.deeper (envOfC "law" (defScope (topS 27)) s.heap.objs.size f cdv)).guards = some [] := hg
  have cR : Dc (fun σ H' => del H' (refAt 1 σ)) (fun σ H' => ∃ u, H' (refAt 1 σ) = some u) := dc_delS
  refine ⟨_, pss_cons (ps_set (i := 1) nd rfl (Or.inl rfl) (pe_call GFE (hr.mono (by decide)) (by rfl) DFE.gl DFE.fn.kp DFE.bd .nil pass0 (pa_cons (pv 0) pa_nil)))
    (pss_cons (ps_for PassesOwn.never rfl (pi_range1 (by rfl) B.range (pa_cons pe_int pa_nil)) (pg_name (i := 2) nd rfl (Or.inl rfl))
      (pss_cons (ps_set (i := 3) nd rfl (Or.inl rfl) (pe_call GPL (hr.mono (by decide)) (by rfl) DPL.gl DPL.fn.kp DPL.bd .nil pass0 (pa_cons (pv 1) pa_nil)))
      (C8.pss_cut (ps_set (i := 4) nd rfl (Or.inl rfl) (pe_orT (pe_call GBG (hr.mono (by decide)) (by rfl) DBG.gl DBG.fn.kp DBG.bd .nil pass0 (pa_cons (pv 1) (pa_cons (pv 3) pa_nil))) (pe_one (t := tD K (fun σ H' => del H' (refAt 1 σ)) (fun σ H' => ∃ u, H' (refAt 1 σ) = some u) (.tuple [.tuple [], .tuple []])) (pd_tup cR (pds_cons cR (pd_tup cR pds_nil) (pds_cons cR (pd_tup cR pds_nil) pds_nil))))))
      (pss_cons (ps_asg (pv 4) (pg_tup rfl (pgs_cons (pg_name (i := 5) nd rfl (Or.inl rfl)) (pgs_cons (pg_name (i := 6) nd rfl (Or.inl rfl)) pgs_nil))))
      (pss_cons (ps_asg (pe_ix (r := rIxT K) ix_tup (pe_ix (r := rIxT K) ix_tup (pv 3) pe_int (fun _ _ => rfl)) (pe_call GD (hr.mono (by decide)) (by rfl) DD.gl DD.fn.kp DD.bd .nil pass0 (pa_cons (pv 1) (pa_cons (pe_callB call_len_seq (by rfl) B.len PySem.boot_len (pa_cons (pe_ix (r := rIxT K) ix_tup (pv 3) pe_int (fun _ _ => rfl)) pa_nil)) pa_nil))) (fun _ _ => rfl)) (pg_tup rfl (pgs_cons (pg_name (i := 7) nd rfl (Or.inl rfl)) (pgs_cons (pg_name (i := 8) nd rfl (Or.inl rfl)) pgs_nil))))
      (pss_cons (ps_set (i := 9) nd rfl (Or.inl rfl) (pe_lst (pa_gh (ds := th0) (fun x => (fun C => (pds_cons C (pd_var (pv 4) (fun σ H g => vF g)) (pds_cons C pd_non (pds_cons C (pd_tup C (pds_cons C (pd_tup C pds_nil) (pds_cons C (pd_tup C pds_nil) pds_nil))) (pds_cons C (pd_tup C (pds_cons C (pd_tup C pds_nil) (pds_cons C (pd_tup C pds_nil) (pds_cons C (pd_tup C pds_nil) pds_nil)))) (pds_cons C (pd_tup C (pds_cons C (pd_tup C pds_nil) pds_nil)) (pds_cons C (pd_list C rfl (by rfl) bL (pd_var (pv 4) (fun σ H g => vF g))) pds_nil))))))) (gg_dc (K := K) x)))))
      (pss_cons (ps_set (i := 9) nd rfl (Or.inl rfl) (pe_op op_cat (pv 9) (pe_lst (pa_gh (ds := th1) (fun x => (fun C => (pds_cons C (pd_tup C (pds_cons C (pd_var (pv 6) (fun σ H g => vS g)) (pds_cons C (pd_var (pv 5) (fun σ H g => vK g)) pds_nil))) (pds_cons C (pd_tup C (pds_cons C (pd_cat C rfl (pd_var (pv 5) (fun σ H g => vK g)) (pd_var (pv 5) (fun σ H g => vK g)) (by have := x.hk; rw [List.length_map]; omega)) (pds_cons C (pd_var (pv 6) (fun σ H g => vS g)) pds_nil))) pds_nil))) (gg_dc (K := K) x))))))
      (pss_cons (ps_set (i := 9) nd rfl (Or.inl rfl) (pe_op op_cat (pv 9) (pe_lst (pa_gh (ds := th2) (fun x => (fun C => (pds_cons C (pd_tup C (pds_cons C (pd_rev C rfl (pd_var (pv 5) (fun σ H g => vK g))) (pds_cons C (pd_var (pv 6) (fun σ H g => vS g)) pds_nil))) (pds_cons C (pd_tup C (pds_cons C (pd_var (pv 5) (fun σ H g => vK g)) (pds_cons C (pd_cat C rfl (pd_var (pv 6) (fun σ H g => vS g)) (pd_var (pv 6) (fun σ H g => vS g)) (by have := x.hs; rw [List.length_map]; omega)) pds_nil))) pds_nil))) (gg_dc (K := K) x))))))
      (pss_cons (ps_set (i := 9) nd rfl (Or.inl rfl) (pe_op op_cat (pv 9) (pe_lst (pa_gh (ds := th3) (fun x => (fun C => (pds_cons C (pd_tup C (pds_cons C (pd_tup C pds_nil) (pds_cons C (pd_tup C (pds_cons C (pd_tup C (pds_cons C (pd_tup C (pds_cons C (pd_var (pv 7) (fun σ H g => vO g)) (pds_cons C (pd_var (pv 8) (fun σ H g => vZ g)) pds_nil))) (pds_cons C pd_int pds_nil))) pds_nil)) pds_nil))) (pds_cons C (pd_tup C (pds_cons C (pd_list C rfl (by rfl) bL (pd_var (pv 5) (fun σ H g => vK g))) (pds_cons C (pd_var (pv 6) (fun σ H g => vS g)) pds_nil))) pds_nil))) (gg_dc (K := K) x))))))
      (pss_cons (ps_set (i := 9) nd rfl (Or.inl rfl) (pe_op op_cat (pv 9) (pe_lst (pa_gh (ds := th4) (fun x => (fun C => (pds_cons C (pd_tup C (pds_cons C (pd_tup C pds_nil) (pds_cons C (pd_tup C (pds_cons C (pd_tup C (pds_cons C (pd_tup C (pds_cons C (pd_var (pv 7) (fun σ H g => vO g)) (pds_cons C (pd_sub C (pd_var (pv 8) (fun σ H g => vZ g)) pd_int) pds_nil))) (pds_cons C (pd_imp (d := .int (10 ^ (60 : Int).toNat)) (pe_op op_pow pe_int pe_int) (fun σ H Q g q => ⟨10, 60, rfl, rfl, ⟨by decide, by decide, by decide⟩, q _ H (Same.refl _) (.int _)⟩)) pds_nil))) pds_nil)) pds_nil))) (pds_cons C (pd_tup C (pds_cons C (pd_tup C pds_nil) (pds_cons C (pd_tup C (pds_cons C (pd_tup C (pds_cons C (pd_tup C (pds_cons C (pd_var (pv 7) (fun σ H g => vO g)) (pds_cons C pd_bl pds_nil))) (pds_cons C pd_int pds_nil))) pds_nil)) pds_nil))) (pds_cons C (pd_tup C (pds_cons C (pd_tup C pds_nil) (pds_cons C (pd_tup C (pds_cons C (pd_tup C (pds_cons C (pd_tup C (pds_cons C pd_str (pds_cons C pd_int pds_nil))) (pds_cons C pd_int pds_nil))) pds_nil)) pds_nil))) pds_nil)))) (gg_dc (K := K) x))))))
      (pss_cons (ps_set (i := 9) nd rfl (Or.inl rfl) (pe_op op_cat (pv 9) (pe_lst (pa_gh (ds := th5) (fun x => (fun C => (pds_cons C (pd_tup C (pds_cons C (pd_tup C (pds_cons C (pd_tup C (pds_cons C pd_str (pds_cons C pd_int pds_nil))) pds_nil)) (pds_cons C (pd_tup C pds_nil) pds_nil))) (pds_cons C (pd_tup C (pds_cons C (pd_tup C (pds_cons C (pd_tup C (pds_cons C pd_str (pds_cons C pd_bl pds_nil))) pds_nil)) (pds_cons C (pd_tup C pds_nil) pds_nil))) (pds_cons C (pd_tup C (pds_cons C (pd_tup C (pds_cons C (pd_tup C (pds_cons C pd_str (pds_cons C pd_int pds_nil))) pds_nil)) (pds_cons C (pd_tup C pds_nil) pds_nil))) (pds_cons C (pd_tup C (pds_cons C (pd_tup C (pds_cons C (pd_tup C (pds_cons C pd_str pds_nil)) pds_nil)) (pds_cons C (pd_tup C pds_nil) pds_nil))) pds_nil))))) (gg_dc (K := K) x))))))
      (pss_cons (ps_set (i := 9) nd rfl (Or.inl rfl) (pe_op op_cat (pv 9) (pe_lst (pa_gh (ds := th6) (fun x => (fun C => (pds_cons C (pd_tup C (pds_cons C (pd_tup C pds_nil) (pds_cons C (pd_tup C (pds_cons C (pd_tup C (pds_cons C (pd_tup C (pds_cons C (pd_var (pv 7) (fun σ H g => vO g)) (pds_cons C (pd_neg pd_int) pds_nil))) (pds_cons C pd_int pds_nil))) pds_nil)) pds_nil))) (pds_cons C (pd_tup C (pds_cons C (pd_tup C pds_nil) (pds_cons C (pd_tup C (pds_cons C (pd_tup C (pds_cons C (pd_tup C (pds_cons C (pd_lst C (pds_cons C (pd_var (pv 7) (fun σ H g => vO g)) pds_nil)) (pds_cons C pd_int pds_nil))) (pds_cons C pd_int pds_nil))) pds_nil)) pds_nil))) (pds_cons C (pd_tup C (pds_cons C (pd_tup C (pds_cons C (pd_tup C (pds_cons C (pd_lst C pds_nil) (pds_cons C pd_int pds_nil))) pds_nil)) (pds_cons C (pd_tup C pds_nil) pds_nil))) pds_nil)))) (gg_dc (K := K) x))))))
      (pss_cons (ps_expr (pe_bm PySem.F.plainAttrs_list PySem.F.slot_list_append PySem.F.type_list_append mt_append (pv 9) (pa_cons (pe_gh (d := fun x => th7a x) (fun x => (fun C => (pd_tup C (pds_cons C (pd_tup C (pds_cons C (pd_tup C (pds_cons C pd_str (pds_cons C pd_int pds_nil))) pds_nil)) (pds_cons C (pd_tup C pds_nil) pds_nil)))) (gg_dc (K := K) x))) pa_nil)))
      (C8.pss_cut (ps_for PassesOwn.never rfl (pi_range1 (by rfl) B.range (pa_cons pe_int pa_nil)) (pg_name (i := 10) nd rfl (Or.inl rfl))
        (pss_cons (ps_set (i := 11) nd rfl (Or.inl rfl) (pe_call GB5 (hr.mono (by decide)) (by rfl) DBT.gl DBT.fn.kp DBT.bd .nil pass0 (pa_cons (pv 1) (pa_cons (pv 4) pa_nil))))
        (pss_one (ps_set (i := 9) nd rfl (Or.inl rfl) (pe_op op_cat (pv 9) (pe_lst (pa_cons (pv 11) (pa_cons (pe_call GB7 (hr.mono (by decide)) (by rfl) DBT.gl DBT.fn.kp DBT.bd .nil pass0 (pa_cons (pv 1) (pa_cons (pv 11) pa_nil))) pa_nil))))))))
      (pss_one (ps_for PassesOwn.never rfl (pi_list (pv 9)) (pg_name (i := 12) nd rfl (Or.inl rfl))
        (pss_cons (ps_set (i := 13) nd rfl (Or.inl rfl) (pe_callB (call_repr hg2 hu) (by rfl) B.repr (by decide +kernel) (pa_cons (pe_tup (pa_cons (pv 3) (pa_cons (pv 12) pa_nil))) pa_nil)))
        (pss_one (ps_if (PW.pt (pw_or (pt_cmpR op_ne (pe_callB call_reprB (by rfl) B.repr (by decide +kernel) (pa_cons (pe_call GIS (hr.mono (by decide)) (by rfl) DIS.gl DIS.fn.kp DIS.bd .nil pass0 (pa_cons (pv 3) (pa_cons (pv 12) pa_nil))) pa_nil)) (pe_callB call_reprB (by rfl) B.repr (by decide +kernel) (pa_cons (pe_call GRI (hr.mono (by decide)) (by rfl) DRI.gl DRI.fn.kp DRI.bd .nil pass0 (pa_cons (pv 3) (pa_cons (pv 12) pa_nil))) pa_nil)) (nomark _)) (pw_or1 (pt_cmpR op_ne (pe_callB (call_repr hg2 hu) (by rfl) B.repr (by decide +kernel) (pa_cons (pe_tup (pa_cons (pv 3) (pa_cons (pv 12) pa_nil))) pa_nil)) (pv 13) (nomark _))))) (pss_one (ps_ret pe_bl)) pss_nil)))))))))))))))))))
    (pss_one (ps_ret pe_bl))), ?_⟩
  clear D B bL DFE GFE DPL GPL DBG GBG DIS GIS DRI GRI DD GD DBT GB5 GB7 hr nd hu hg hg2 cR
  refine ⟨_, rfl, a, ns, rfl, hS, hn, fun p fq H1 s1 np F1 => ?_⟩
  refine ⟨3, rfl, by decide, by decide, for_range (lo := 0) (n := 3) (fun i σ H' => ∃ (x2 x3 x4 x5 x6 x7 x8 x9 x10 x11 x12 x13 : Option V), σ = [some (.ref a), some (.ref p), x2, x3, x4, x5, x6, x7, x8, x9, x10, x11, x12, x13] ∧ FeedAt H' p fq (3000 * i))
    ⟨_, _, _, _, _, _, _, _, _, _, _, _, rfl, F1⟩ ?_ ?_⟩
  rotate_left
  · rintro σ H2 ⟨x2, x3, x4, x5, x6, x7, x8, x9, x10, x11, x12, x13, rfl, F2⟩
    exact q H2
  rintro i σ H2 hi ⟨x2, x3, x4, x5, x6, x7, x8, x9, x10, x11, x12, x13, rfl, F2⟩
  refine ⟨_, rfl, p, fq, _, rfl, F2, by omega, fun vp H3 zs cs rs s3 F3 P3 => ?_⟩
  clear s3 F2
  refine ⟨fun σ H' => ∃ (vf : V) (ks : List (Str × Int)) (ss : List ((Str × Int) × Int)), σ = [some (.ref a), some (.ref p), some (.int (0 + (i : Nat))), some vp, some vf, x5, x6, x7, x8, x9, x10, x11, x12, x13] ∧ PlanAt K (del H' p) vp zs cs rs ∧ FeedAt H' p fq (3000 * i + 2060) ∧ Dp K (del H' p) vf (.tuple [.tuple (ks.map knD), .tuple (ss.map clD)]) ∧ StartD zs ks ss, ?_, ?_⟩
  · refine ⟨_, rfl, _, rfl, p, fq, vp, zs, cs, rs, _, rfl, F3, by omega, P3, fun H4 s4 F4 => ?_, fun v H4 ks ss s4 F4 d4 st ev => ?_⟩
    · refine ⟨false, rfl, ?_⟩
      refine iteF ⟨F4.there, fun v H5 s5 d5 => ?_⟩
      refine ⟨v, [], [], rfl, (P3.same s4).same (same_del s5), F4.same s5, d5, ⟨List.nil_sublist _, fun x hx => (by cases hx), List.nil_sublist _, fun x hx => (by cases hx)⟩⟩
    · obtain ⟨av, rfl⟩ := ev
      refine ⟨true, ?_, iteT ⟨_, ks, ss, rfl, P3.same s4, F4, d4, st⟩⟩
      cases d4 with
      | @tup _ xs _ hx hr0 =>
        have hl := DpAll_len hr0
        refine .inr (.inl ⟨xs, sameT (del_same _ _) hx, ?_⟩)
        cases xs with
        | nil => simp at hl
        | cons _ _ => rfl
  rintro σ H4 ⟨vf, ks, ss, rfl, P4, F4, d4, st⟩
  clear P3 F3
  obtain ⟨M, h10, h9, h60, h199, h200⟩ : ∃ M : Nat, 10 ≤ M ∧ 1000000000 ≤ M ∧ ((10 : Int) ^ (60 : Int).toNat).natAbs ≤ M ∧ 10 ^ 199 ≤ M ∧ M + 2 ≤ 10 ^ 200 := ⟨10 ^ 199, by decide +kernel, by decide +kernel, by decide +kernel, Nat.le_refl _, by decide +kernel⟩
  have hlk : ks.length ≤ 4 := by
    have := st.kn.length_le
    rw [List.length_map] at this
    exact this
  have hO4 : ∃ vo, ObjsAt K (del H4 p) vo zs := by
    obtain ⟨C, vo, vr, e, hC, hO, hR⟩ := P4.ex
    exact ⟨vo, hO⟩
  have few : 1 ≤ zs.length ∧ zs.length ≤ 4 := by
    obtain ⟨vo, h⟩ := hO4
    exact h.few
  have wd : ∀ z ∈ zs, IsWord z.1 ∧ 1 ≤ z.2 ∧ z.2 ≤ 4 := by
    obtain ⟨vo, h⟩ := hO4
    exact h.wd
  have hls : ss.length ≤ 16 := by
    have h1 := st.cl.length_le
    have h2 := cells_len few.2 (fun z hz => (wd z hz).2.2)
    rw [List.length_map] at h1
    omega
  have hkn : ∀ c ∈ ks, IsWord c.1 ∧ c.2.natAbs ≤ M := fun c hc => by
    have h1 := st.kn.subset (List.mem_map_of_mem (f := (·.1)) hc)
    refine ⟨nms_ok _ h1, ?_⟩
    have := st.kb c hc
    omega
  have hcl : ∀ c ∈ ss, IsWord c.1.1 ∧ c.1.2.natAbs ≤ M ∧ c.2.natAbs ≤ M := fun c hc => by
    have h1 := st.cl.subset (List.mem_map_of_mem (f := (·.1)) hc)
    have h2 := cells_wd wd _ h1
    have h3 := st.cb c hc
    exact ⟨h2.1, by omega, by omega⟩
  have hrs : (∀ d ∈ rs, Fit (M + 2) 44 7 100000 d) ∧ rs.length ≤ 3 := by
    have hc := cs_ok P4.cs3
    have hl := fitsP_len P4.fits
    rw [List.length_map, List.length_append] at hl
    refine ⟨fun d hd => ?_, by have := hc.1; simp at hl; omega⟩
    obtain ⟨n, hn, h⟩ := fits_mem P4.fits d hd
    exact (h.fit (hc.2.2 n hn) hc.2.1).mono (Nat.le_trans h199 (Nat.le_add_right _ _)) (by decide) (Nat.le_refl _) (Nat.le_refl _)
  clear hO4 st
  -- the parts of the first one
  cases id d4 with
  | @tup af xs _ hxf hrf =>
  cases hrf with
  | @cons vk _ _ _ dk4 t1 =>
  cases t1 with
  | @cons vs _ _ _ ds4 t2 =>
  cases t2
  refine ⟨_, rfl, af, _, rfl, sameT (del_same _ _) hxf, rfl, _, _, rfl, _, _, rfl, rfl, ?_⟩
  clear hxf
  -- an object
  obtain ⟨C, vo, vr, rfl, hC, hO, hR⟩ := P4.ex
  obtain ⟨ao, ps, rfl, hfo, hpo⟩ := hO.ex
  have hpl := plen hpo
  refine ⟨_, rfl, C, _, 0, _, rfl, rfl, sameT (del_same _ _) hC, atI_nat (j := 0) rfl, _, rfl, _, rfl, C, _, 0, _, rfl, rfl, sameT (del_same _ _) hC, atI_nat (j := 0) rfl, _, _, rfl, .inr (sameT (del_same _ _) hfo.sq), p, fq, _, _, rfl, F4, by omega, by rw [List.length_map]; omega, by rw [List.length_map]; omega, fun r H5 r0 r1 s5 F5 => ?_⟩
  rw [List.length_map] at r1
  obtain ⟨j, rfl⟩ : ∃ j : Nat, r = j := ⟨r.toNat, by omega⟩
  obtain ⟨p0, hp0⟩ : ∃ p0, ps[j]? = some p0 := ⟨_, List.getElem?_eq_getElem (by omega)⟩
  obtain ⟨pz, hz, hsq⟩ := paired_get hpo hp0
  have hwz := wd pz (List.mem_of_getElem? hz)
  refine ⟨ao, _, _, _, rfl, rfl, sameT ((s5).trans (del_same _ _)) hfo.sq, atI_nat (j := j) (by rw [List.getElem?_map, hp0]; rfl), p0, _, rfl, sameT ((s5).trans (del_same _ _)) hsq, rfl, _, _, rfl, _, _, rfl, rfl, ?_⟩
  have P5 := P4.same s5
  have d5 := Dp_same s5 d4
  have dk5 := Dp_same s5 dk4
  have ds5 := Dp_same s5 ds4
  clear hC hO hR hfo hpo hpl hp0 hsq r0 r1 P4 F4 d4 dk4 ds4 s5
  generalize hxx : (⟨p, ks, ss, pz.1, pz.2, by omega, by omega⟩ : Gh) = x
  have xp : x.p = p := by rw [← hxx]
  have eo : x.own = pz.1 := by rw [← hxx]
  have en : x.n = pz.2 := by rw [← hxx]
  have okM : GhOk M x := by
    rw [← hxx]
    exact ⟨hkn, hcl, hwz.1, ⟨by show pz.2.natAbs ≤ M; omega, by show (pz.2 - 1).natAbs ≤ M; omega⟩, hlk, hls⟩
  have ok : GhOk (M + 2) x := okM.up (Nat.le_add_right _ _)
  have d5' : Dp K (del H5 p) (.ref af) (fD x) := by rw [← hxx]; exact d5
  have dk5' : Dp K (del H5 p) vk (kD x) := by rw [← hxx]; exact dk5
  have ds5' : Dp K (del H5 p) vs (sD x) := by rw [← hxx]; exact ds5
  clear hxx hkn hcl hlk hls d5 dk5 ds5
  rw [← eo, ← en]
  have h10' : 10 ≤ M + 2 := by omega
  have h60' : ((10 : Int) ^ (60 : Int).toNat).natAbs ≤ M + 2 := Nat.le_trans h60 (Nat.le_add_right _ _)
  refine ⟨x, gg_of xp F5 d5' dk5' ds5' rfl rfl rfl rfl rfl, fun ws H6 s6 d6 => ⟨Nat.le_of_lt (big_size (by have := DpAll_len d6; have e : (th0 x).length = 6 := rfl; omega)), fun T hT => ?_⟩⟩
  have I0 := LK.first2 (M := M + 2) xp F5 P5 d5' dk5' ds5' s6 d6 hT (th0_fit ok h10' h60')
  generalize upd H6 T (.lst ws) = H7 at I0
  have l0 : (th0 x).length = 6 := rfl
  generalize th0 x = e0 at I0 l0
  clear s6 d6 hT F5 P5 d5' dk5' ds5'
  have u0 := I0.len
  refine ⟨_, rfl, x, I0.gg rfl rfl rfl rfl rfl, fun ws1 J1 s1 d1 => ⟨Nat.le_of_lt (big_size (by have := DpAll_len d1; have e : (th1 x).length = 2 := rfl; omega)), fun N1 hN1 => ⟨_, N1, _, ws1, rfl, rfl, I0.at2 s1 hN1, upd_same, Nat.le_of_lt (big_size (by have := DpAll_len d1; have e : (th1 x).length = 2 := rfl; omega)), fun T1 hT1 => ?_⟩⟩⟩
  have I1 := I0.step2 s1 hN1 d1 hT1 (th1_fit ok h10' h60')
  have l1 : (e0 ++ th1 x).length = 8 := by rw [List.length_append, l0]; rfl
  generalize e0 ++ th1 x = e1 at I1 l1
  generalize upd (upd J1 N1 (.lst ws1)) T1 _ = HH1 at I1
  clear s1 hN1 d1 hT1 I0 l0 u0
  have u1 := I1.len
  refine ⟨_, rfl, x, I1.gg rfl rfl rfl rfl rfl, fun ws2 J2 s2 d2 => ⟨Nat.le_of_lt (big_size (by have := DpAll_len d2; have e : (th2 x).length = 2 := rfl; omega)), fun N2 hN2 => ⟨_, N2, _, ws2, rfl, rfl, I1.at2 s2 hN2, upd_same, Nat.le_of_lt (big_size (by have := DpAll_len d2; have e : (th2 x).length = 2 := rfl; omega)), fun T2 hT2 => ?_⟩⟩⟩
  have I2 := I1.step2 s2 hN2 d2 hT2 (th2_fit ok h10' h60')
  have l2 : (e1 ++ th2 x).length = 10 := by rw [List.length_append, l1]; rfl
  generalize e1 ++ th2 x = e2 at I2 l2
  generalize upd (upd J2 N2 (.lst ws2)) T2 _ = HH2 at I2
  clear s2 hN2 d2 hT2 I1 l1 u1
  have u2 := I2.len
  refine ⟨_, rfl, x, I2.gg rfl rfl rfl rfl rfl, fun ws3 J3 s3 d3 => ⟨Nat.le_of_lt (big_size (by have := DpAll_len d3; have e : (th3 x).length = 2 := rfl; omega)), fun N3 hN3 => ⟨_, N3, _, ws3, rfl, rfl, I2.at2 s3 hN3, upd_same, Nat.le_of_lt (big_size (by have := DpAll_len d3; have e : (th3 x).length = 2 := rfl; omega)), fun T3 hT3 => ?_⟩⟩⟩
  have I3 := I2.step2 s3 hN3 d3 hT3 (th3_fit ok h10' h60')
  have l3 : (e2 ++ th3 x).length = 12 := by rw [List.length_append, l2]; rfl
  generalize e2 ++ th3 x = e3 at I3 l3
  generalize upd (upd J3 N3 (.lst ws3)) T3 _ = HH3 at I3
  clear s3 hN3 d3 hT3 I2 l2 u2
  have u3 := I3.len
  refine ⟨_, rfl, x, I3.gg rfl rfl rfl rfl rfl, fun ws4 J4 s4 d4 => ⟨Nat.le_of_lt (big_size (by have := DpAll_len d4; have e : (th4 x).length = 3 := rfl; omega)), fun N4 hN4 => ⟨_, N4, _, ws4, rfl, rfl, I3.at2 s4 hN4, upd_same, Nat.le_of_lt (big_size (by have := DpAll_len d4; have e : (th4 x).length = 3 := rfl; omega)), fun T4 hT4 => ?_⟩⟩⟩
  have I4 := I3.step2 s4 hN4 d4 hT4 (th4_fit ok h10' h60')
  have l4 : (e3 ++ th4 x).length = 15 := by rw [List.length_append, l3]; rfl
  generalize e3 ++ th4 x = e4 at I4 l4
  generalize upd (upd J4 N4 (.lst ws4)) T4 _ = HH4 at I4
  clear s4 hN4 d4 hT4 I3 l3 u3
  have u4 := I4.len
  refine ⟨_, rfl, x, I4.gg rfl rfl rfl rfl rfl, fun ws5 J5 s5 d5 => ⟨Nat.le_of_lt (big_size (by have := DpAll_len d5; have e : (th5 x).length = 4 := rfl; omega)), fun N5 hN5 => ⟨_, N5, _, ws5, rfl, rfl, I4.at2 s5 hN5, upd_same, Nat.le_of_lt (big_size (by have := DpAll_len d5; have e : (th5 x).length = 4 := rfl; omega)), fun T5 hT5 => ?_⟩⟩⟩
  have I5 := I4.step2 s5 hN5 d5 hT5 (th5_fit ok h10' h60')
  have l5 : (e4 ++ th5 x).length = 19 := by rw [List.length_append, l4]; rfl
  generalize e4 ++ th5 x = e5 at I5 l5
  generalize upd (upd J5 N5 (.lst ws5)) T5 _ = HH5 at I5
  clear s5 hN5 d5 hT5 I4 l4 u4
  have u5 := I5.len
  refine ⟨_, rfl, x, I5.gg rfl rfl rfl rfl rfl, fun ws6 J6 s6 d6 => ⟨Nat.le_of_lt (big_size (by have := DpAll_len d6; have e : (th6 x).length = 3 := rfl; omega)), fun N6 hN6 => ⟨_, N6, _, ws6, rfl, rfl, I5.at2 s6 hN6, upd_same, Nat.le_of_lt (big_size (by have := DpAll_len d6; have e : (th6 x).length = 3 := rfl; omega)), fun T6 hT6 => ?_⟩⟩⟩
  have I6 := I5.step2 s6 hN6 d6 hT6 (th6_fit ok h10' h60')
  have l6 : (e5 ++ th6 x).length = 22 := by rw [List.length_append, l5]; rfl
  generalize e5 ++ th6 x = e6 at I6 l6
  generalize upd (upd J6 N6 (.lst ws6)) T6 _ = HH6 at I6
  clear s6 hN6 d6 hT6 I5 l5 u5
  have u6 := I6.len
  refine ⟨_, rfl, .inl ⟨rfl, _, SqL.of I6.at_⟩, x, I6.gg rfl rfl rfl rfl rfl, fun v7 J7 s7 d7 => ?_⟩
  have I7' := I6.lay s7
  have d7' : Dp K (del J7 p) v7 (th7a x) := by rw [xp] at d7; exact d7
  refine ⟨_, _, v7, rfl, rfl, I7'.at_, big_size (by omega), ?_⟩
  have I7 := I7'.push d7' rfl (th7a_fit h10')
  have l7 : (e6 ++ [th7a x]).length = 23 := by rw [List.length_append, l6]; rfl
  generalize e6 ++ [th7a x] = e7 at I7 l7
  generalize upd J7 T6 _ = H8 at I7
  clear I7' d7 d7' s7 I6 u6 l6
  refine ⟨fun σ H' => ∃ (T : Addr) (us : List V) (ds : List PyData) (y10 y11 : Option V), σ = [some (.ref a), some (.ref p), some (.int (0 + (i : Nat))), some (.ref C), some (.ref af), some vk, some vs, some (.str x.own), some (.int x.n), some (.ref T), y10, y11, x12, x13] ∧ LK K p fq T (.ref C) zs cs rs x (.ref af) vk vs (M + 2) (3000 * i + 2800) H' us ds ∧ ds.length = 35, ?_, ?_⟩
  · refine ⟨6, rfl, by decide, by decide, for_range (lo := 0) (n := 6) (fun j σ H' => ∃ (T : Addr) (us : List V) (ds : List PyData) (y10 y11 : Option V), σ = [some (.ref a), some (.ref p), some (.int (0 + (i : Nat))), some (.ref C), some (.ref af), some vk, some vs, some (.str x.own), some (.int x.n), some (.ref T), y10, y11, x12, x13] ∧ LK K p fq T (.ref C) zs cs rs x (.ref af) vk vs (M + 2) (3000 * i + 2061 + 120 * j) H' us ds ∧ ds.length = 23 + 2 * j)
      ⟨_, _, _, _, _, rfl, I7.mono (by omega), l7⟩ ?_ ?_⟩
    rotate_left
    · rintro σ H9 ⟨T, us, ds, y10, y11, rfl, I9, l9⟩
      exact ⟨T, us, ds, _, _, rfl, I9.mono (by omega), by omega⟩
    rintro j σ H9 hj ⟨T, us, ds, y10, y11, rfl, I9, l9⟩
    refine ⟨_, rfl, _, rfl, p, fq, .ref af, _, 4, M, 40, 11083, fD x, rfl, rfl, by decide, I9.feed, by omega, Dp_same (del_same _ _) I9.df, fD_fit okM, h199, by decide, by decide, fun v1 d1 H10 hd1 hf1 s10 F10 => ?_⟩
    have I10 := I9.next s10 F10
    refine ⟨_, rfl, _, rfl, _, rfl, _, rfl, p, fq, v1, _, 6, M + 1, 42, 23266, d1, rfl, rfl, by decide, I10.feed, by omega, hd1, hf1, Nat.le_trans h199 (Nat.le_add_right _ _), by decide, by decide, fun v2 d2 H11 hd2 hf2 s11 F11 => ?_⟩
    have I11 := I10.next s11 F11
    have u11 := I11.len
    refine ⟨by show 2 ≤ sizeLine; decide, fun N hN => ⟨T, N, us, [v1, v2], rfl, rfl, I11.at2 (Same.refl H11) hN, upd_same, Nat.le_of_lt (big_size (by simp only [List.length_cons, List.length_nil]; omega)), fun T' hT' => ?_⟩⟩
    have I12 := I11.step2 (es := [d1, d2]) (Same.refl H11) hN (by rw [xp]; exact .cons (Dp_same s11 hd1) (.cons hd2 .nil)) hT' (two_mem (hf1.mono (by omega) (by decide) (by decide) (by decide)) (hf2.mono (by omega) (by decide) (by decide) (by decide)))
    exact ⟨T', _, _, _, _, rfl, I12.mono (by omega), by rw [List.length_append, l9]; simp only [List.length_cons, List.length_nil]; omega⟩
  rintro σ H9 ⟨T, us, ds, y10, y11, rfl, I9, l9⟩
  clear I7 l7
  have dA : DpAll K H9 us ds := DpAll_same ((del_same _ _).trans (del_same _ _)) I9.dat
  refine ⟨_, rfl, T, rfl, ⟨_, SqL.of I9.at_⟩, for_it (walk_list (xs := us)) (fun j σ H' => Same H9 H' ∧ ∃ (y12 y13 : Option V), σ = [some (.ref a), some (.ref p), some (.int (0 + (i : Nat))), some (.ref C), some (.ref af), some vk, some vs, some (.str x.own), some (.int x.n), some (.ref T), y10, y11, y12, y13])
    ⟨Same.refl _, _, _, rfl⟩ (fun j σ H' _ h => SqL.of (h.1 _ _ I9.at_)) ?_ ?_⟩
  rotate_left
  · rintro σ H10 ⟨s10, y12, y13, rfl⟩
    exact ⟨_, _, _, _, _, _, _, _, _, _, _, _, rfl, (I9.feed.same s10).mono (by omega)⟩
  rintro j v σ H11 H10 hj ⟨s10, y12, y13, rfl⟩ ⟨rfl, hx⟩
  obtain ⟨d, hd, dx⟩ := DpAll_get (DpAll_same s10 dA) hx
  have hfd := I9.fit d (List.mem_of_getElem? hd)
  have I10 := I9.lay s10
  have tC := I10.told
  have hfit := plan_fitM (M := M + 2) (zs := zs) (rs := rs) (fun z hz => ⟨(wd z hz).1, by have := (wd z hz).2; omega⟩) few.2 hrs.1 hrs.2 hfd
  obtain ⟨g1, g2, g3, g4⟩ := repr_of hfit h200 (by decide) (by decide)
  have hfx : ∃ M, Fit M 60 60 1000000 d := ⟨_, hfd.mono (Nat.le_refl _) (by decide) (by decide) (by decide)⟩
  refine ⟨_, rfl, _, rfl, by show 2 ≤ sizeLine; decide, fun U hU => ?_⟩
  have sU := same_new (o := .tup [.ref C, v]) hU
  refine ⟨U, .tuple [.tuple [.tuple (zs.map cellD), .tuple rs], d], rfl, .tup (SqT.of upd_same) (.cons (Dp_same sU tC) (.cons (Dp_same sU dx) .nil)), g1, g2, g3, g4, ?_⟩
  generalize hkp : (PyData.tuple [.tuple [.tuple (zs.map cellD), .tuple rs], d]).shown = kept at g4
  have I11 := I10.lay sU
  have dx11 := Dp_same sU dx
  have tC11 := Dp_same sU tC
  have s11 := s10.trans sU
  generalize upd H10 U (.tup [.ref C, v]) = H12 at I11 dx11 tC11 s11
  obtain ⟨vo, hcode⟩ := I11.code
  refine ⟨_, rfl, _, rfl, .ref C, vo, v, zs, d, rfl, hcode, dx11, hfx, fun J1 q1 => ⟨_, rfl, ?_⟩⟩
  refine ⟨_, rfl, _, rfl, .ref C, vo, v, zs, d, rfl, hcode.same q1, Dp_same q1 dx11, hfx, fun J2 q2 => ⟨_, rfl, rfl, _, rfl, ?_⟩⟩
  refine ite2 (fun c => absurd c (by simp)) (fun _ => ?_)
  refine ⟨_, rfl, _, rfl, by show 2 ≤ sizeLine; decide, fun U2 hU2 => ?_⟩
  have sV := same_new (o := .tup [.ref C, v]) hU2
  have s12 := (q1.trans q2).trans sV
  refine ⟨U2, .tuple [.tuple [.tuple (zs.map cellD), .tuple rs], d], rfl, .tup (SqT.of upd_same) (.cons (Dp_same s12 tC11) (.cons (Dp_same s12 dx11) .nil)), g1, g2, g3, (by rw [hkp]; exact g4), _, rfl, rfl, _, rfl, ?_⟩
  refine ite2 (fun c => absurd c (by rw [hkp]; simp)) (fun _ => ?_)
  exact ⟨s11.trans s12, _, _, rfl⟩
end
end Sw
set_option maxRecDepth 100000
set_option maxHeartbeats 4000000
namespace Sw
open PySem PySem.Spec PyProof.Rows L2
theorem all_mk {l : PySem.W.OpenLaw} {w : World} {K : PySem.W.Frag} {h : Heap} {mg : Str → Option Value} {fa f2 f3 f4 f5 f7 f9 f10 f11 f12 f14 f15 f16 f17 f18 f19 f20 f21 f22 f23 f24 f25 f26 f27 : Addr} (X : K.In h) (G : h.Ns mainGlobals mg) (hfa : mg "law" = some (.ref fa))
    {od2 od3 od4 od5 od7 od9 od10 od11 od12 od14 od15 od16 od17 od18 od19 od20 od21 od22 od23 od24 od25 od26 od27 an2 an3 an4 an5 an7 an9 an10 an11 an12 an14 an15 an16 an17 an18 an19 an20 an21 an22 an23 an24 an25 an26 an27 : Option Addr} {sl2 sl3 sl4 sl5 sl7 sl9 sl10 sl11 sl12 sl14 sl15 sl16 sl17 sl18 sl19 sl20 sl21 sl22 sl23 sl24 sl25 sl26 sl27 : Array (Option Value)} {oc2 oc3 oc4 oc5 oc7 oc9 oc10 oc11 oc12 oc14 oc15 oc16 oc17 oc18 oc19 oc20 oc21 oc22 oc23 oc24 oc25 oc26 oc27 kV2 kV3 kV4 kV5 kV7 kV9 kV10 kV11 kV12 kV14 kV15 kV16 kV17 kV18 kV19 kV20 kV21 kV22 kV23 kV24 kV25 kV26 kV27 dc2 dc3 dc4 dc5 dc7 dc9 dc10 dc11 dc12 dc14 dc15 dc16 dc17 dc18 dc19 dc20 dc21 dc22 dc23 dc24 dc25 dc26 dc27 pm2 pm3 pm4 pm5 pm7 pm9 pm10 pm11 pm12 pm14 pm15 pm16 pm17 pm18 pm19 pm20 pm21 pm22 pm23 pm24 pm25 pm26 pm27 cd2 cd3 cd4 cd5 cd7 cd9 cd10 cd11 cd12 cd14 cd15 cd16 cd17 cd18 cd19 cd20 cd21 cd22 cd23 cd24 cd25 cd26 cd27 ct2 ct3 ct4 ct5 ct7 ct9 ct10 ct11 ct12 ct14 ct15 ct16 ct17 ct18 ct19 ct20 ct21 ct22 ct23 ct24 ct25 ct26 ct27 : Value} {tL : Tok}
    (a2 : PySem.W.nsIn K mainGlobals "is_number" = some (some (.ref f2))) (l2 : K.lookup f2 = some ⟨oc2, od2, .func (PySem.W.fnOf "is_number" "is_number" (defArgs (topS 2)) (defBody (topS 2)) (defScope (topS 2)) .none kV2 dc2 pm2 an2 cd2 ct2), sl2⟩) (c2 : PySem.W.codeIn K cd2 "is_number" = true) (k2 : PySem.W.keepIn K (.ref f2) = true)
    (a3 : PySem.W.nsIn K mainGlobals "is_word" = some (some (.ref f3))) (l3 : K.lookup f3 = some ⟨oc3, od3, .func (PySem.W.fnOf "is_word" "is_word" (defArgs (topS 3)) (defBody (topS 3)) (defScope (topS 3)) .none kV3 dc3 pm3 an3 cd3 ct3), sl3⟩) (c3 : PySem.W.codeIn K cd3 "is_word" = true) (k3 : PySem.W.keepIn K (.ref f3) = true)
    (a4 : PySem.W.nsIn K mainGlobals "is_pair" = some (some (.ref f4))) (l4 : K.lookup f4 = some ⟨oc4, od4, .func (PySem.W.fnOf "is_pair" "is_pair" (defArgs (topS 4)) (defBody (topS 4)) (defScope (topS 4)) .none kV4 dc4 pm4 an4 cd4 ct4), sl4⟩) (c4 : PySem.W.codeIn K cd4 "is_pair" = true) (k4 : PySem.W.keepIn K (.ref f4) = true)
    (a5 : PySem.W.nsIn K mainGlobals "has_rising_firsts" = some (some (.ref f5))) (l5 : K.lookup f5 = some ⟨oc5, od5, .func (PySem.W.fnOf "has_rising_firsts" "has_rising_firsts" (defArgs (topS 5)) (defBody (topS 5)) (defScope (topS 5)) .none kV5 dc5 pm5 an5 cd5 ct5), sl5⟩) (c5 : PySem.W.codeIn K cd5 "has_rising_firsts" = true) (k5 : PySem.W.keepIn K (.ref f5) = true)
    (a7 : PySem.W.nsIn K mainGlobals "is_cell" = some (some (.ref f7))) (l7 : K.lookup f7 = some ⟨oc7, od7, .func (PySem.W.fnOf "is_cell" "is_cell" (defArgs (topS 7)) (defBody (topS 7)) (defScope (topS 7)) .none kV7 dc7 pm7 an7 cd7 ct7), sl7⟩) (c7 : PySem.W.codeIn K cd7 "is_cell" = true) (k7 : PySem.W.keepIn K (.ref f7) = true)
    (a9 : PySem.W.nsIn K mainGlobals "is_numbered" = some (some (.ref f9))) (l9 : K.lookup f9 = some ⟨oc9, od9, .func (PySem.W.fnOf "is_numbered" "is_numbered" (defArgs (topS 9)) (defBody (topS 9)) (defScope (topS 9)) .none kV9 dc9 pm9 an9 cd9 ct9), sl9⟩) (c9 : PySem.W.codeIn K cd9 "is_numbered" = true) (k9 : PySem.W.keepIn K (.ref f9) = true)
    (a10 : PySem.W.nsIn K mainGlobals "are_start_names" = some (some (.ref f10))) (l10 : K.lookup f10 = some ⟨oc10, od10, .func (PySem.W.fnOf "are_start_names" "are_start_names" (defArgs (topS 10)) (defBody (topS 10)) (defScope (topS 10)) .none kV10 dc10 pm10 an10 cd10 ct10), sl10⟩) (c10 : PySem.W.codeIn K cd10 "are_start_names" = true) (k10 : PySem.W.keepIn K (.ref f10) = true)
    (a11 : PySem.W.nsIn K mainGlobals "are_start_cells" = some (some (.ref f11))) (l11 : K.lookup f11 = some ⟨oc11, od11, .func (PySem.W.fnOf "are_start_cells" "are_start_cells" (defArgs (topS 11)) (defBody (topS 11)) (defScope (topS 11)) .none kV11 dc11 pm11 an11 cd11 ct11), sl11⟩) (c11 : PySem.W.codeIn K cd11 "are_start_cells" = true) (k11 : PySem.W.keepIn K (.ref f11) = true)
    (a12 : PySem.W.nsIn K mainGlobals "is_start" = some (some (.ref f12))) (l12 : K.lookup f12 = some ⟨oc12, od12, .func (PySem.W.fnOf "is_start" "is_start" (defArgs (topS 12)) (defBody (topS 12)) (defScope (topS 12)) .none kV12 dc12 pm12 an12 cd12 ct12), sl12⟩) (c12 : PySem.W.codeIn K cd12 "is_start" = true) (k12 : PySem.W.keepIn K (.ref f12) = true)
    (a14 : PySem.W.nsIn K mainGlobals "_law_feed" = some (some (.ref f14))) (l14 : K.lookup f14 = some ⟨oc14, od14, .func (PySem.W.fnOf "_law_feed" "_law_feed" (defArgs (topS 14)) (defBody (topS 14)) (defScope (topS 14)) .none kV14 dc14 pm14 an14 cd14 ct14), sl14⟩) (c14 : PySem.W.codeIn K cd14 "_law_feed" = true) (k14 : PySem.W.keepIn K (.ref f14) = true)
    (a15 : PySem.W.nsIn K mainGlobals "_law_draw" = some (some (.ref f15))) (l15 : K.lookup f15 = some ⟨oc15, od15, .func (PySem.W.fnOf "_law_draw" "_law_draw" (defArgs (topS 15)) (defBody (topS 15)) (defScope (topS 15)) .none kV15 dc15 pm15 an15 cd15 ct15), sl15⟩) (c15 : PySem.W.codeIn K cd15 "_law_draw" = true) (k15 : PySem.W.keepIn K (.ref f15) = true)
    (a16 : PySem.W.nsIn K mainGlobals "_law_objects" = some (some (.ref f16))) (l16 : K.lookup f16 = some ⟨oc16, od16, .func (PySem.W.fnOf "_law_objects" "_law_objects" (defArgs (topS 16)) (defBody (topS 16)) (defScope (topS 16)) .none kV16 dc16 pm16 an16 cd16 ct16), sl16⟩) (c16 : PySem.W.codeIn K cd16 "_law_objects" = true) (k16 : PySem.W.keepIn K (.ref f16) = true)
    (a17 : PySem.W.nsIn K mainGlobals "_law_where" = some (some (.ref f17))) (l17 : K.lookup f17 = some ⟨oc17, od17, .func (PySem.W.fnOf "_law_where" "_law_where" (defArgs (topS 17)) (defBody (topS 17)) (defScope (topS 17)) .none kV17 dc17 pm17 an17 cd17 ct17), sl17⟩) (c17 : PySem.W.codeIn K cd17 "_law_where" = true) (k17 : PySem.W.keepIn K (.ref f17) = true)
    (a18 : PySem.W.nsIn K mainGlobals "_law_operand" = some (some (.ref f18))) (l18 : K.lookup f18 = some ⟨oc18, od18, .func (PySem.W.fnOf "_law_operand" "_law_operand" (defArgs (topS 18)) (defBody (topS 18)) (defScope (topS 18)) .none kV18 dc18 pm18 an18 cd18 ct18), sl18⟩) (c18 : PySem.W.codeIn K cd18 "_law_operand" = true) (k18 : PySem.W.keepIn K (.ref f18) = true)
    (a19 : PySem.W.nsIn K mainGlobals "_law_row" = some (some (.ref f19))) (l19 : K.lookup f19 = some ⟨oc19, od19, .func (PySem.W.fnOf "_law_row" "_law_row" (defArgs (topS 19)) (defBody (topS 19)) (defScope (topS 19)) .none kV19 dc19 pm19 an19 cd19 ct19), sl19⟩) (c19 : PySem.W.codeIn K cd19 "_law_row" = true) (k19 : PySem.W.keepIn K (.ref f19) = true)
    (a20 : PySem.W.nsIn K mainGlobals "_law_plan" = some (some (.ref f20))) (l20 : K.lookup f20 = some ⟨oc20, od20, .func (PySem.W.fnOf "_law_plan" "_law_plan" (defArgs (topS 20)) (defBody (topS 20)) (defScope (topS 20)) .none kV20 dc20 pm20 an20 cd20 ct20), sl20⟩) (c20 : PySem.W.codeIn K cd20 "_law_plan" = true) (k20 : PySem.W.keepIn K (.ref f20) = true)
    (a21 : PySem.W.nsIn K mainGlobals "_law_beginning" = some (some (.ref f21))) (l21 : K.lookup f21 = some ⟨oc21, od21, .func (PySem.W.fnOf "_law_beginning" "_law_beginning" (defArgs (topS 21)) (defBody (topS 21)) (defScope (topS 21)) .none kV21 dc21 pm21 an21 cd21 ct21), sl21⟩) (c21 : PySem.W.codeIn K cd21 "_law_beginning" = true) (k21 : PySem.W.keepIn K (.ref f21) = true)
    (a22 : PySem.W.nsIn K mainGlobals "_law_bent" = some (some (.ref f22))) (l22 : K.lookup f22 = some ⟨oc22, od22, .func (PySem.W.fnOf "_law_bent" "_law_bent" (defArgs (topS 22)) (defBody (topS 22)) (defScope (topS 22)) .none kV22 dc22 pm22 an22 cd22 ct22), sl22⟩) (c22 : PySem.W.codeIn K cd22 "_law_bent" = true) (k22 : PySem.W.keepIn K (.ref f22) = true)
    (a23 : PySem.W.nsIn K mainGlobals "_law_is_number" = some (some (.ref f23))) (l23 : K.lookup f23 = some ⟨oc23, od23, .func (PySem.W.fnOf "_law_is_number" "_law_is_number" (defArgs (topS 23)) (defBody (topS 23)) (defScope (topS 23)) .none kV23 dc23 pm23 an23 cd23 ct23), sl23⟩) (c23 : PySem.W.codeIn K cd23 "_law_is_number" = true) (k23 : PySem.W.keepIn K (.ref f23) = true)
    (a24 : PySem.W.nsIn K mainGlobals "_law_is_word" = some (some (.ref f24))) (l24 : K.lookup f24 = some ⟨oc24, od24, .func (PySem.W.fnOf "_law_is_word" "_law_is_word" (defArgs (topS 24)) (defBody (topS 24)) (defScope (topS 24)) .none kV24 dc24 pm24 an24 cd24 ct24), sl24⟩) (c24 : PySem.W.codeIn K cd24 "_law_is_word" = true) (k24 : PySem.W.keepIn K (.ref f24) = true)
    (a25 : PySem.W.nsIn K mainGlobals "_law_is_cell" = some (some (.ref f25))) (l25 : K.lookup f25 = some ⟨oc25, od25, .func (PySem.W.fnOf "_law_is_cell" "_law_is_cell" (defArgs (topS 25)) (defBody (topS 25)) (defScope (topS 25)) .none kV25 dc25 pm25 an25 cd25 ct25), sl25⟩) (c25 : PySem.W.codeIn K cd25 "_law_is_cell" = true) (k25 : PySem.W.keepIn K (.ref f25) = true)
    (a26 : PySem.W.nsIn K mainGlobals "_law_is_right" = some (some (.ref f26))) (l26 : K.lookup f26 = some ⟨oc26, od26, .func (PySem.W.fnOf "_law_is_right" "_law_is_right" (defArgs (topS 26)) (defBody (topS 26)) (defScope (topS 26)) .none kV26 dc26 pm26 an26 cd26 ct26), sl26⟩) (c26 : PySem.W.codeIn K cd26 "_law_is_right" = true) (k26 : PySem.W.keepIn K (.ref f26) = true)
    (a27 : PySem.W.nsIn K mainGlobals "law" = some (some (.ref f27))) (l27 : K.lookup f27 = some ⟨oc27, od27, .func (PySem.W.fnOf "law" "law" (defArgs (topS 27)) (defBody (topS 27)) (defScope (topS 27)) .none kV27 dc27 pm27 an27 cd27 ct27), sl27⟩) (c27 : PySem.W.codeIn K cd27 "law" = true) (k27 : PySem.W.keepIn K (.ref f27) = true)
    (aL : PySem.W.nsIn K mainGlobals "LONGEST_WORD" = some (some (.int 8 tL))) (z0 : PySem.W.nsIn K mainGlobals "isinstance" = some none) (z1 : PySem.W.nsIn K mainGlobals "int" = some none) (z2 : PySem.W.nsIn K mainGlobals "bool" = some none) (z3 : PySem.W.nsIn K mainGlobals "str" = some none) (z4 : PySem.W.nsIn K mainGlobals "tuple" = some none) (z5 : PySem.W.nsIn K mainGlobals "list" = some none) (z6 : PySem.W.nsIn K mainGlobals "len" = some none) (z7 : PySem.W.nsIn K mainGlobals "all" = some none) (z8 : PySem.W.nsIn K mainGlobals "zip" = some none) (z9 : PySem.W.nsIn K mainGlobals "range" = some none) (z10 : PySem.W.nsIn K mainGlobals "ord" = some none) (z11 : PySem.W.nsIn K mainGlobals "sorted" = some none) (z12 : PySem.W.nsIn K mainGlobals "set" = some none) (z13 : PySem.W.nsIn K mainGlobals "repr" = some none) (z14 : PySem.W.nsIn K mainGlobals "dict" = some none) (z15 : PySem.W.nsIn K mainGlobals "min" = some none) (z16 : PySem.W.nsIn K mainGlobals "max" = some none) :
    ∃ fd : FuncData, (∀ (s : Shared) (v : Value), BindsTo s fd ⟨[v], []⟩ [("_law_script", v)]) ∧ ∀ base : Heap, K.In base → base.Ns mainGlobals mg → FnG l.prog w K mg base 9 fa fd ["_law_script"] (spLaw K) := by
  have e := hfa.symm.trans (PySem.W.mg_of X G a27)
  cases e
  have B : Bt mg := ⟨PySem.W.mg_none_of X G z0, PySem.W.mg_none_of X G z1, PySem.W.mg_none_of X G z2, PySem.W.mg_none_of X G z3, PySem.W.mg_none_of X G z4, PySem.W.mg_none_of X G z5, PySem.W.mg_none_of X G z6, PySem.W.mg_none_of X G z7, PySem.W.mg_none_of X G z8, PySem.W.mg_none_of X G z9, PySem.W.mg_none_of X G z10, PySem.W.mg_none_of X G z11, PySem.W.mg_none_of X G z12, PySem.W.mg_none_of X G z13⟩
  have bD : mg "dict" = none := PySem.W.mg_none_of X G z14
  have bMin : mg "min" = none := PySem.W.mg_none_of X G z15
  have bMax : mg "max" = none := PySem.W.mg_none_of X G z16
  have F2 := fun_mk (st := topS 2) l2 c2 k2
  have D2 : Df K mg "is_number" (topS 2) ["thing"] f2 _ := ⟨F2, F2.binds (ps := ["thing"]) fun _ _ _ _ _ _ us hl => match us, hl with | [_], _ => rfl, PySem.W.mg_of X G a2⟩
  have F3 := fun_mk (st := topS 3) l3 c3 k3
  have D3 : Df K mg "is_word" (topS 3) ["thing"] f3 _ := ⟨F3, F3.binds (ps := ["thing"]) fun _ _ _ _ _ _ us hl => match us, hl with | [_], _ => rfl, PySem.W.mg_of X G a3⟩
  have F4 := fun_mk (st := topS 4) l4 c4 k4
  have D4 : Df K mg "is_pair" (topS 4) ["thing"] f4 _ := ⟨F4, F4.binds (ps := ["thing"]) fun _ _ _ _ _ _ us hl => match us, hl with | [_], _ => rfl, PySem.W.mg_of X G a4⟩
  have F5 := fun_mk (st := topS 5) l5 c5 k5
  have D5 : Df K mg "has_rising_firsts" (topS 5) ["pairs"] f5 _ := ⟨F5, F5.binds (ps := ["pairs"]) fun _ _ _ _ _ _ us hl => match us, hl with | [_], _ => rfl, PySem.W.mg_of X G a5⟩
  have F7 := fun_mk (st := topS 7) l7 c7 k7
  have D7 : Df K mg "is_cell" (topS 7) ["code", "thing"] f7 _ := ⟨F7, F7.binds (ps := ["code", "thing"]) fun _ _ _ _ _ _ us hl => match us, hl with | [_, _], _ => rfl, PySem.W.mg_of X G a7⟩
  have F9 := fun_mk (st := topS 9) l9 c9 k9
  have D9 : Df K mg "is_numbered" (topS 9) ["thing"] f9 _ := ⟨F9, F9.binds (ps := ["thing"]) fun _ _ _ _ _ _ us hl => match us, hl with | [_], _ => rfl, PySem.W.mg_of X G a9⟩
  have F10 := fun_mk (st := topS 10) l10 c10 k10
  have D10 : Df K mg "are_start_names" (topS 10) ["thing"] f10 _ := ⟨F10, F10.binds (ps := ["thing"]) fun _ _ _ _ _ _ us hl => match us, hl with | [_], _ => rfl, PySem.W.mg_of X G a10⟩
  have F11 := fun_mk (st := topS 11) l11 c11 k11
  have D11 : Df K mg "are_start_cells" (topS 11) ["code", "thing"] f11 _ := ⟨F11, F11.binds (ps := ["code", "thing"]) fun _ _ _ _ _ _ us hl => match us, hl with | [_, _], _ => rfl, PySem.W.mg_of X G a11⟩
  have F12 := fun_mk (st := topS 12) l12 c12 k12
  have D12 : Df K mg "is_start" (topS 12) ["code", "thing"] f12 _ := ⟨F12, F12.binds (ps := ["code", "thing"]) fun _ _ _ _ _ _ us hl => match us, hl with | [_, _], _ => rfl, PySem.W.mg_of X G a12⟩
  have F14 := fun_mk (st := topS 14) l14 c14 k14
  have D14 : Df K mg "_law_feed" (topS 14) ["_law_script"] f14 _ := ⟨F14, F14.binds (ps := ["_law_script"]) fun _ _ _ _ _ _ us hl => match us, hl with | [_], _ => rfl, PySem.W.mg_of X G a14⟩
  have F15 := fun_mk (st := topS 15) l15 c15 k15
  have D15 : Df K mg "_law_draw" (topS 15) ["_law_feed_here", "_law_many"] f15 _ := ⟨F15, F15.binds (ps := ["_law_feed_here", "_law_many"]) fun _ _ _ _ _ _ us hl => match us, hl with | [_, _], _ => rfl, PySem.W.mg_of X G a15⟩
  have F16 := fun_mk (st := topS 16) l16 c16 k16
  have D16 : Df K mg "_law_objects" (topS 16) ["_law_feed_here"] f16 _ := ⟨F16, F16.binds (ps := ["_law_feed_here"]) fun _ _ _ _ _ _ us hl => match us, hl with | [_], _ => rfl, PySem.W.mg_of X G a16⟩
  have F17 := fun_mk (st := topS 17) l17 c17 k17
  have D17 : Df K mg "_law_where" (topS 17) ["_law_feed_here", "_law_objects_here"] f17 _ := ⟨F17, F17.binds (ps := ["_law_feed_here", "_law_objects_here"]) fun _ _ _ _ _ _ us hl => match us, hl with | [_, _], _ => rfl, PySem.W.mg_of X G a17⟩
  have F18 := fun_mk (st := topS 18) l18 c18 k18
  have D18 : Df K mg "_law_operand" (topS 18) ["_law_feed_here"] f18 _ := ⟨F18, F18.binds (ps := ["_law_feed_here"]) fun _ _ _ _ _ _ us hl => match us, hl with | [_], _ => rfl, PySem.W.mg_of X G a18⟩
  have F19 := fun_mk (st := topS 19) l19 c19 k19
  have D19 : Df K mg "_law_row" (topS 19) ["_law_feed_here", "_law_objects_here", "_law_called"] f19 _ := ⟨F19, F19.binds (ps := ["_law_feed_here", "_law_objects_here", "_law_called"]) fun _ _ _ _ _ _ us hl => match us, hl with | [_, _, _], _ => rfl, PySem.W.mg_of X G a19⟩
  have F20 := fun_mk (st := topS 20) l20 c20 k20
  have D20 : Df K mg "_law_plan" (topS 20) ["_law_feed_here"] f20 _ := ⟨F20, F20.binds (ps := ["_law_feed_here"]) fun _ _ _ _ _ _ us hl => match us, hl with | [_], _ => rfl, PySem.W.mg_of X G a20⟩
  have F21 := fun_mk (st := topS 21) l21 c21 k21
  have D21 : Df K mg "_law_beginning" (topS 21) ["_law_feed_here", "_law_plan_here"] f21 _ := ⟨F21, F21.binds (ps := ["_law_feed_here", "_law_plan_here"]) fun _ _ _ _ _ _ us hl => match us, hl with | [_, _], _ => rfl, PySem.W.mg_of X G a21⟩
  have F22 := fun_mk (st := topS 22) l22 c22 k22
  have D22 : Df K mg "_law_bent" (topS 22) ["_law_feed_here", "_law_odd"] f22 _ := ⟨F22, F22.binds (ps := ["_law_feed_here", "_law_odd"]) fun _ _ _ _ _ _ us hl => match us, hl with | [_, _], _ => rfl, PySem.W.mg_of X G a22⟩
  have F23 := fun_mk (st := topS 23) l23 c23 k23
  have D23 : Df K mg "_law_is_number" (topS 23) ["_law_odd"] f23 _ := ⟨F23, F23.binds (ps := ["_law_odd"]) fun _ _ _ _ _ _ us hl => match us, hl with | [_], _ => rfl, PySem.W.mg_of X G a23⟩
  have F24 := fun_mk (st := topS 24) l24 c24 k24
  have D24 : Df K mg "_law_is_word" (topS 24) ["_law_odd"] f24 _ := ⟨F24, F24.binds (ps := ["_law_odd"]) fun _ _ _ _ _ _ us hl => match us, hl with | [_], _ => rfl, PySem.W.mg_of X G a24⟩
  have F25 := fun_mk (st := topS 25) l25 c25 k25
  have D25 : Df K mg "_law_is_cell" (topS 25) ["_law_plan_here", "_law_odd"] f25 _ := ⟨F25, F25.binds (ps := ["_law_plan_here", "_law_odd"]) fun _ _ _ _ _ _ us hl => match us, hl with | [_, _], _ => rfl, PySem.W.mg_of X G a25⟩
  have F26 := fun_mk (st := topS 26) l26 c26 k26
  have D26 : Df K mg "_law_is_right" (topS 26) ["_law_plan_here", "_law_odd"] f26 _ := ⟨F26, F26.binds (ps := ["_law_plan_here", "_law_odd"]) fun _ _ _ _ _ _ us hl => match us, hl with | [_, _], _ => rfl, PySem.W.mg_of X G a26⟩
  have F27 := fun_mk (st := topS 27) l27 c27 k27
  refine ⟨PySem.W.fnOf "law" "law" (defArgs (topS 27)) (defBody (topS 27)) (defScope (topS 27)) .none kV27 dc27 pm27 an27 cd27 ct27, fun s v => .of_eq rfl, fun base _ _ => ?_⟩
  have G2 := ok_num (P := l.prog) (w := w) (base := base) D2 B
  have G3 := ok_word (P := l.prog) (w := w) (base := base) D3 B ⟨_, PySem.W.mg_of X G aL⟩
  have G4 := ok_pair (P := l.prog) (w := w) (base := base) D4 B
  have G5 := ok_rise2 (P := l.prog) (w := w) (base := base) D5 B
  have G7 := ok_cell D7 D4 D3 D2 B bD G4 G3 G2
  have G9 := ok_numbered D9 D4 D2 B G4 G2
  have G10 := ok_snames D10 D9 D3 D5 B G9 (G3.mono (by decide)) (G5.mono (by decide))
  have G11 := ok_scells D11 D9 D7 D5 B G9 G7 (G5.mono (by decide))
  have G12 := ok_start D12 D4 D10 D11 (G4.mono (by decide)) G10 G11
  have G14 := ok_feed (P := l.prog) (w := w) (base := base) D14 B
  have G15 := ok_draw (P := l.prog) (w := w) (base := base) D15 B
  have G16 := ok_objsB D16 D15 B G15
  have G17 := ok_where D17 D15 B bD bMin G15
  have G18 := ok_operB D18 D15 G15
  have G19 := ok_rowB D19 D15 D17 D18 B G15 G17 G18
  have G20 := ok_plan D20 D15 D16 D18 D19 B G15 G16 G18 G19
  have G21 := ok_begin D21 D15 B G15
  have G22 := ok_bent D22 D15 B G15
  have G23 := ok_lnum (P := l.prog) (w := w) (base := base) D23 B
  have G24 := ok_lword (P := l.prog) (w := w) (base := base) D24 B
  have G25 := ok_lcell D25 D23 B B.list G23
  have G26 := ok_lright D26 D23 D24 D25 B (G23.mono (by decide)) (G24.mono (by decide)) G25
  exact ok_law F27 B B.list D14 G14 D20 G20 D21 G21 D12 G12 D26 G26 D15 G15 D22 (G22 5) (G22 7)
theorem walk {l : PySem.W.OpenLaw} {q : Program} {loose : List Str} {XP : (Str → Option Value) → Heap → Prop} {YP : World → Heap → Prop} {d : DefRec} {K : Params → PySem.W.Frag} (hn : l.most = some 63) (hdf : d.params.defaults = [])
    (hY : ∀ (w : World) (h : Heap), YP w h → (K w.params).In h)
    (F : ∀ (w : World) (mg : Str → Option Value) (fa : Addr) (h : Heap), (K w.params).In h → h.Ns mainGlobals mg → mg d.name = some (.ref fa) →
      ∃ fd : FuncData, (∀ (s : Shared) (u : Value), BindsTo s fd ⟨[u], []⟩ [("_law_script", u)]) ∧ ∀ base : Heap, (K w.params).In base → base.Ns mainGlobals mg → FnG l.prog w (K w.params) mg base 9 fa fd ["_law_script"] (spLaw (K w.params))) :
    PySem.W.WalkO q loose XP YP l.row.toRowW d [] (fun f vs => PySem.call f vs) :=
  walkG (n := 63) (k := 9) (x := "_law_script") (sp := spLaw) hn (by decide) hdf ⟨rfl, by decide, by decide⟩ hY F (fun K H a ns hl _ hS => ⟨a, ns, rfl, hS, hl, fun _ => rfl⟩)
end Sw
open PySem PySem.W PyProof.Rows
set_option maxRecDepth 100000 in
set_option maxHeartbeats 0 in
theorem PySem.Challenge.cw_storeways_k19_starts_by_kind_holds : PySem.Challenge.rw_storeways_k19_starts_by_kind.Holds := by
  w_on; o_law; k_head; (case hw => w_witness2)
  k_fill
  refine Sw.walk (l := PySem.Challenge.rw_storeways_k19_starts_by_kind) rfl rfl (fun w h Y => PySem.W.kIn_of Y) ?F
  case F =>
    intro w mg fa h KX G hmg
    refine' Sw.all_mk KX G hmg ?a2 ?l2 ?c2 ?k2 ?a3 ?l3 ?c3 ?k3 ?a4 ?l4 ?c4 ?k4 ?a5 ?l5 ?c5 ?k5 ?a7 ?l7 ?c7 ?k7 ?a9 ?l9 ?c9 ?k9 ?a10 ?l10 ?c10 ?k10 ?a11 ?l11 ?c11 ?k11 ?a12 ?l12 ?c12 ?k12 ?a14 ?l14 ?c14 ?k14 ?a15 ?l15 ?c15 ?k15 ?a16 ?l16 ?c16 ?k16 ?a17 ?l17 ?c17 ?k17 ?a18 ?l18 ?c18 ?k18 ?a19 ?l19 ?c19 ?k19 ?a20 ?l20 ?c20 ?k20 ?a21 ?l21 ?c21 ?k21 ?a22 ?l22 ?c22 ?k22 ?a23 ?l23 ?c23 ?k23 ?a24 ?l24 ?c24 ?k24 ?a25 ?l25 ?c25 ?k25 ?a26 ?l26 ?c26 ?k26 ?a27 ?l27 ?c27 ?k27 ?aL ?z0 ?z1 ?z2 ?z3 ?z4 ?z5 ?z6 ?z7 ?z8 ?z9 ?z10 ?z11 ?z12 ?z13 ?z14 ?z15 ?z16
    (case a2 => k_is); (case l2 => k_is); (case c2 => k_is); (case k2 => k_is); (case a3 => k_is); (case l3 => k_is); (case c3 => k_is); (case k3 => k_is)
    (case a4 => k_is); (case l4 => k_is); (case c4 => k_is); (case k4 => k_is); (case a5 => k_is); (case l5 => k_is); (case c5 => k_is); (case k5 => k_is)
    (case a7 => k_is); (case l7 => k_is); (case c7 => k_is); (case k7 => k_is); (case a9 => k_is); (case l9 => k_is); (case c9 => k_is); (case k9 => k_is)
    (case a10 => k_is); (case l10 => k_is); (case c10 => k_is); (case k10 => k_is); (case a11 => k_is); (case l11 => k_is); (case c11 => k_is); (case k11 => k_is)
    (case a12 => k_is); (case l12 => k_is); (case c12 => k_is); (case k12 => k_is); (case a14 => k_is); (case l14 => k_is); (case c14 => k_is); (case k14 => k_is)
    (case a15 => k_is); (case l15 => k_is); (case c15 => k_is); (case k15 => k_is); (case a16 => k_is); (case l16 => k_is); (case c16 => k_is); (case k16 => k_is)
    (case a17 => k_is); (case l17 => k_is); (case c17 => k_is); (case k17 => k_is); (case a18 => k_is); (case l18 => k_is); (case c18 => k_is); (case k18 => k_is)
    (case a19 => k_is); (case l19 => k_is); (case c19 => k_is); (case k19 => k_is); (case a20 => k_is); (case l20 => k_is); (case c20 => k_is); (case k20 => k_is)
    (case a21 => k_is); (case l21 => k_is); (case c21 => k_is); (case k21 => k_is); (case a22 => k_is); (case l22 => k_is); (case c22 => k_is); (case k22 => k_is)
    (case a23 => k_is); (case l23 => k_is); (case c23 => k_is); (case k23 => k_is); (case a24 => k_is); (case l24 => k_is); (case c24 => k_is); (case k24 => k_is)
    (case a25 => k_is); (case l25 => k_is); (case c25 => k_is); (case k25 => k_is); (case a26 => k_is); (case l26 => k_is); (case c26 => k_is); (case k26 => k_is)
    (case a27 => k_is); (case l27 => k_is); (case c27 => k_is); (case k27 => k_is); (case aL => k_is); (case z0 => k_is); (case z1 => k_is); (case z2 => k_is)
    (case z3 => k_is); (case z4 => k_is); (case z5 => k_is); (case z6 => k_is); (case z7 => k_is); (case z8 => k_is); (case z9 => k_is); (case z10 => k_is)
    (case z11 => k_is); (case z12 => k_is); (case z13 => k_is); (case z14 => k_is); (case z15 => k_is); (case z16 => k_is)
