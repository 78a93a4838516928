import PyProof.Rows.All
import Wide.All
import OpenK.AllK
import Wide.FinOn
import HandS.ForMost
import HandS.EndBits
import HandS.IsInst
import HandS.TupAny
import HandS.Wide
import HandS.Style
import HandS.Walk
import HandS.Flow
import HandS.RaiseMore
import HandS.Codes
import KE.GoesEnum
import KE.GoesZip
import HandS.StrMore
import HandS.DictComp
import PyProof.ReprLen
import PySem.Challenge.RW_surelyorders_k36_verdicts_of_words
set_option Elab.async false
set_option linter.all false
set_option maxRecDepth 100000
/-! The law's own call where nothing is being shown: A.guards is known there, so repr of lists and tuples is told. -/
namespace Sk
open PySem PySem.Spec PyProof.Rows L2
abbrev XTop (P : Program) (w : World) (K : PySem.W.Frag) (mg : Str → Option Value) (base : Heap) (N : List Str) (qual : Str) (st : Stmt) (f : Addr) (cdv : Value) (s : Shared) (H : Hp) (E : XK) : Cx :=
  cxOf CX0 P w K mg base N qual (defScope st) f cdv callerA [] s H E
/-- a def of the top, called by the claim's own caller and by nobody else -/
def TopOk (P : Program) (w : World) (K : PySem.W.Frag) (mg : Str → Option Value) (base : Heap) (f : Addr) (fd : FuncData) (ps : List Str) (sp : Sp) : Prop :=
  ∀ (s : Shared) (H : Hp) (args : Args) (us : List Value) (vs : List V) (Q : VK) (E : XK), Env0 P w K mg base callerA [] s H → BindsTo s fd args (ps.zip us) → Vals vs us → sp vs H Q E →
    codeAny (model P w) callerA (.call (.ref f) args) (CR CX0 [] P w H s Q E) s
section
variable {P : Program} {w : World} {K : PySem.W.Frag} {mg : Str → Option Value} {base : Heap}
theorem topOk {x qual : Str} {st : Stmt} {f : Addr} {fd : FuncData} {N ps : List Str} {k : Nat} {sp : Sp} (F : Fun K x qual st f fd) (S : FnScope N ps (defScope st)) (room : Room (k + 1) callerA)
    (len : ∀ vs H Q E, sp vs H Q E → vs.length = ps.length)
    (body : ∀ (cdv : Value) (s : Shared) (H : Hp) (vs : List V) (Q : VK) (E : XK), Room k (callerA.deeper (envOfC qual (defScope st) s.heap.objs.size f cdv)) → sp vs H Q E →
      ∃ t, PSs (XTop P w K mg base N qual st f cdv s H E).nox (defBody st) t ∧ t { nx := fun _ H1 => Q .non H1, rt := Q } (start N vs) H) : TopOk P w K mg base f fd ps sp := by
  obtain ⟨oc, od, kV, doc, pm, an, cdv, ct, osl, rfl, look, hc⟩ := F.ex
  intro s H args us vs Q E env hb hv hsp
  have size := len _ _ _ _ hsp
  have here : K.In s.heap := env.mod.kin.keeps fun b o q => (env.bs b o q).1
  have nolim : s.heap.NoLimit := env.mod.nolimit.keeps fun b o q => (env.bs b o q).1
  refine codeAny_call_function room.depth (here _ _ look) rfl S.co S.gen rfl (PySem.W.codeRec_of here hc) (hb _ _ _ _ (wpAny_newFunctionEnv_cells S.kind ?par fun e1 q1 s1 x1 => ?go))
  case par =>
    rintro ⟨n, v⟩ hm
    rcases S.par n (List.of_mem_zip hm).1 with a | a
    · exact Or.inl a
    · exact Or.inr ⟨a, PySem.W.cellsFrom_some _ _ _ (Or.inl a)⟩
  case go =>
    subst q1
    obtain ⟨t, d, z⟩ := body cdv s H vs Q E (room.deeper _) hsp
    have inv : Inv (XTop P w K mg base N qual st f cdv s H E) [] (start N vs) H s1 := inv_start S room.hd env size hv x1
    refine ⟨nolim.keeps x1.toInCall.keep, codeAny_func (wpAny_mono (d.nox.run [] s1 (start N vs) H _ inv z) (fun fl s2 g => ?_) fun _ _ g => g)⟩
    cases fl with
    | ret u => exact let ⟨v, σ, G, J, rv, q⟩ := g; ⟨v, G, J.os, J.bare, J.base, J.hok, rv, q⟩
    | next => exact let ⟨σ, G, J, q⟩ := g; ⟨V.non, G, J.os, J.bare, J.base, J.hok, rfl, q⟩
    | brk => exact let ⟨_, _, _, q⟩ := g; q.elim
    | cont => exact let ⟨_, _, _, q⟩ := g; q.elim

theorem topCall {mb : Str → Option Value} {fa a : Addr} {fd : FuncData} {x : Str} {sp : Sp} {s : Shared} {vs : List Value} {ns : List Int}
    (here : K.In s.heap) (glo : s.heap.Ns mainGlobals mg) (bl : s.heap.Ns builtinsNs mb) (bl2 : ∀ y : Str, y ≠ "__name__" → mb y = bootBuiltins y) (lim : s.heap.NoLimit) (gens : s.gens = #[])
    (sc : s.heap.get? a = some { cls := .type "list", data := .seq vs.toArray }) (allInt : IntsAre vs ns) (small : ns.length ≤ sizeLine)
    (F : ∀ base : Heap, K.In base → base.Ns mainGlobals mg → TopOk P w K mg base fa fd [x] sp) (bind : ∀ (s1 : Shared) (u : Value), BindsTo s1 fd ⟨[u], []⟩ [(x, u)])
    (want : ∀ H : Hp, Only H → SqL K H a (ns.map V.int) → sp [.ref a] H (fun v _ => v = .bl true) fun _ _ _ => False) :
    codeAny (model P w) callerA (.call (.ref fa) ⟨[.ref a], []⟩) (fun r t => r = .ok (.ret (.bool true)) ∧ OldK s.heap t.heap ∧ t.os = s.os ∧ AllBare t.gens) s := by
  have vi := vals_ints allInt
  have li := allInt.length
  -- over an abstract heap that tracks the script or nothing
  have main : ∀ H : Hp, Only H → SqL K H a (ns.map V.int) → HOk P w H s.heap → (∀ b, H b ≠ none → b = a) → (H a ≠ none → K.lookup a = none) →
      codeAny (model P w) callerA (.call (.ref fa) ⟨[.ref a], []⟩) (fun r t => r = .ok (.ret (.bool true)) ∧ OldK s.heap t.heap ∧ t.os = s.os ∧ AllBare t.gens) s := by
    intro H only sq hok one off
    have free : ∀ {b : Addr} {o : Obj} {es : Array DictEntry} {n : Nat}, s.heap.get? b = some o → o.data = .dict es n → H b = none := by
      intro b o es n q d
      refine Classical.byContradiction fun c => ?_
      have eb := one b c
      subst eb
      rw [sc] at q
      cases q
      exact nomatch (show Data.seq vs.toArray _ = Data.dict es n from d)
    have ns1 : ∀ {b : Addr} {m : Str → Option Value}, s.heap.Ns b m → (hidT s.heap H).Ns b m := by
      rintro b m ⟨o, es, n, q, d, r⟩
      exact ⟨o, es, n, hidT_get q (free q d), d, r⟩
    have kin : K.In (hidT s.heap H) := by
      intro b o q
      refine hidT_get (here b o q) (Classical.byContradiction fun c => ?_)
      have eb := one b c
      subst eb
      rw [off c] at q
      exact nomatch q
    have limit : (hidT s.heap H).NoLimit := by
      obtain ⟨mc, c1, c2⟩ := lim
      exact ⟨mc, ns1 c1, c2⟩
    have env : Env0 P w K mg (hidT s.heap H) callerA [] s H :=
      ⟨rfl, ⟨kin, ns1 glo, ⟨mb, ns1 bl, bl2⟩, limit⟩, fun b o q => of_hidT q, Nat.le_of_eq (hidT_size _ _), trivial, fun b hb => absurd (show b ∈ ([] : List Addr) from hb) (by simp), hok, .of_eq gens⟩
    refine codeAny_mono (F _ kin (ns1 glo) s H ⟨[.ref a], []⟩ [.ref a] [.ref a] _ _ env (bind s (.ref a)) (.cons rfl .nil) (want H only sq)) fun r t g => ?_
    match r, g with
    | .error e, g => exact g.elim
    | .ok .next, g => exact False.elim g
    | .ok .brk, g => exact False.elim g
    | .ok .cont, g => exact False.elim g
    | .ok (.ret u), g =>
      obtain ⟨v, G, g1, g2, g3, g4, g5, g6⟩ := g
      cases (show v = .bl true from g6)
      cases (show u = Value.bool true from g5)
      refine ⟨rfl, OldK.of_keep fun b o q => ?_, g1, g2⟩
      cases hb : H b with
      | none => exact g3.keep b o q hb (fun z => absurd (show b ∈ ([] : List Addr) from z) (by simp)) (by simp)
      | some u =>
        rcases only b with z | ⟨ob, xs, z⟩
        · rw [hb] at z
          exact nomatch z
        · have p1 := (hok b _ z).1
          have p2 := (g4 b _ (g3.frzs b ob _ z)).1
          rw [q] at p1
          cases p1
          exact p2
  cases hk : K.lookup a with
  | some o =>
    have q := here a o hk
    rw [sc] at q
    cases q
    refine main (fun _ => none) (fun _ => Or.inl rfl) (Or.inr ⟨_, vs.toArray, _, hk, rfl, rfl, rfl, by rw [List.size_toArray, li]; exact small, by simpa using vi⟩) (fun b u z => nomatch z) (fun b z => absurd rfl z) fun z => absurd rfl z
  | none =>
    refine main (fun b => if b = a then some (.frz { cls := .type "list", data := .seq vs.toArray } (.lst (ns.map V.int))) else none) ?_ (Or.inl (Or.inr ⟨_, if_pos rfl⟩)) ?_ ?_ fun _ => hk
    · intro b
      by_cases e : b = a
      · exact Or.inr ⟨_, _, if_pos e⟩
      · exact Or.inl (if_neg e)
    · intro b u z
      by_cases e : b = a
      · subst e
        cases (if_pos rfl).symm.trans z
        exact ⟨sc, by rw [List.length_map]; exact small, vs, _, vi, sc⟩
      · exact nomatch (if_neg e).symm.trans z
    · intro b z
      exact Classical.byContradiction fun e => z (if_neg e)
end
theorem topWalk {l : PySem.W.OpenLaw} {n : Nat} {q : Program} {loose : List Str} {XP : (Str → Option Value) → Heap → Prop} {YP : World → Heap → Prop} {d : DefRec} {K : Params → PySem.W.Frag} {sp : World → Sp} {x : Str}
    (hn : l.most = some n) (hn2 : n ≤ sizeLine) (hdf : d.params.defaults = [])
    (hY : ∀ (w : World) (h : Heap), YP w h → (K w.params).In h)
    (F : ∀ (w : World) (mg : Str → Option Value) (fa : Addr) (h : Heap), (K w.params).In h → h.Ns mainGlobals mg → mg d.name = some (.ref fa) →
      ∃ fd : FuncData, (∀ (s : Shared) (u : Value), BindsTo s fd ⟨[u], []⟩ [(x, u)]) ∧ ∀ base : Heap, (K w.params).In base → base.Ns mainGlobals mg → TopOk l.prog w (K w.params) mg base fa fd [x] (sp w))
    (want : ∀ (w : World) (H : Hp) (a : Addr) (ns : List Int), ns.length ≤ n → (∀ z ∈ ns, Builtin.Int.intBits z ≤ 1048576) → Only H → SqL (K w.params) H a (ns.map V.int) → sp w [.ref a] H (fun v _ => v = .bl true) fun _ _ _ => False) :
    PySem.W.WalkO q loose XP YP l.row.toRowW d [] (fun f vs => PySem.call f vs) := by
  refine Att.attach_callB hn hdf fun w s₀ s₁ mg mb fa o pm cd doc a vs ns G Y _ _ _ hmg hobj hints hlen hbits hg => ?_
  have kin := hY w _ Y
  obtain ⟨fd, hb, hF⟩ := F w mg fa _ kin G.T.g hmg
  exact topCall kin G.T.g G.T.b G.T.builtins G.T.nolimit hg hobj hints (Nat.le_trans hlen hn2) hF hb fun H hO hS => want w H a ns hlen hbits hO hS
end Sk


set_option Elab.async false
set_option linter.all false
set_option maxRecDepth 100000
set_option maxHeartbeats 4000000
namespace Sk
open PySem PySem.Spec PyProof.Rows L2

/-! repr of data, where nothing is being shown -/
def rRepr (K : PySem.W.Frag) : List V → Hp → VK → Prop := fun xs H Q => ∃ (x : V) (d : PyData), xs = [x] ∧ Dp K H x d ∧ ((x = .non ∧ d = .none) ∨ ∃ a, x = .ref a) ∧ d.showable = true ∧ d.hasDict = false ∧ d.depth ≤ 60 ∧ d.shown.length ≤ sizeLine ∧ Q (.str d.shown) H
section
variable {X : Cx}
theorem call_reprD (hg : X.A.guards = some []) (hu : X.A.units + 64 < cLine) : CallR X (.builtin "repr") (rRepr X.K) := by
  intro pins s σ H xs us Q I r h
  obtain ⟨x, d, rfl, hd, kind, sh, nd, dep, sz, q⟩ := h
  obtain ⟨u, rfl, rx⟩ := vals1 r
  rcases kind with ⟨rfl, rfl⟩ | ⟨a, rfl⟩
  · cases rx
    exact PySem.P.repr_of_none ⟨.str _, H, I.tok _, ⟨_, rfl⟩, q⟩
  · cases rx
    obtain ⟨as, rd⟩ := Dp.reads I d _ _ hd rfl
    refine repr_of_reads' rd sh (PyData.noDict_hsm nd) hg (by omega) (fun _ _ e => e) (fun h2 u tk hk => ?_) sz
    exact ⟨.str _, H, I.kept (h' := h2) (t' := tk) hk, ⟨_, rfl⟩, q⟩

/-! a list beside an empty list, a tuple beside an empty tuple: whatever the items are -/
def rNeNil (K : PySem.W.Frag) : R2 := fun x y H Q => ∃ a b xs, x = .ref a ∧ y = .ref b ∧ SqL K H a xs ∧ SqL K H b [] ∧ Q (.bl (!xs.isEmpty)) H
def rEqNil (K : PySem.W.Frag) : R2 := fun x y H Q => ∃ a b xs, x = .ref a ∧ y = .ref b ∧ SqL K H a xs ∧ SqL K H b [] ∧ Q (.bl xs.isEmpty) H
def rEqNilT (K : PySem.W.Frag) : R2 := fun x y H Q => ∃ a b xs, x = .ref a ∧ y = .ref b ∧ SqT K H a xs ∧ SqT K H b [] ∧ Q (.bl xs.isEmpty) H
theorem op_eqNil (hu : X.A.units + 64 < cLine) : OpR X (compareOp .Eq) (rEqNil X.K) := by
  intro pins s σ H x y v u Q I rx ry h
  obtain ⟨a, b, xs, rfl, rfl, ha, hb, q⟩ := h
  cases rx
  cases ry
  obtain ⟨its, r1, p1, _⟩ := I.list ha
  obtain ⟨its2, r2, p2, _⟩ := I.list hb
  cases r2
  have hl := r1.length
  cases xs with
  | nil =>
    cases r1
    refine SeqAt.eq_listAt (e := fun _ => true) p1.isList p2.isList rfl (by omega) (fun j h1 _ => absurd h1 (by simp)) ?_
    exact ⟨.bl true, H, I, rfl, q⟩
  | cons z zs =>
    refine SeqAt.eq_list_lengthsAt p1.isList p2.isList ?_ (by omega) ⟨.bl false, H, I, rfl, q⟩
    rw [List.size_toArray, ← hl]
    simp
theorem op_neNil (hu : X.A.units + 64 < cLine) : OpR X (compareOp .NotEq) (rNeNil X.K) := by
  intro pins s σ H x y v u Q I rx ry h
  obtain ⟨a, b, xs, rfl, rfl, ha, hb, q⟩ := h
  cases rx
  cases ry
  obtain ⟨its, r1, p1, _⟩ := I.list ha
  obtain ⟨its2, r2, p2, _⟩ := I.list hb
  cases r2
  have hl := r1.length
  cases xs with
  | nil =>
    cases r1
    have z := SeqAt.RcNeAt.lists (A := X.A) (e := fun _ => true) p1.isList p2.isList rfl (by omega) (fun j h1 _ => absurd h1 (by simp))
    exact z _ _ _ _ ⟨.bl false, H, I, rfl, q⟩
  | cons z zs =>
    have z := SeqAt.RcNeAt.lists_lengths (A := X.A) p1.isList p2.isList (by rw [List.size_toArray, ← hl]; simp) (by omega)
    exact z _ _ _ _ ⟨.bl true, H, I, rfl, q⟩
theorem op_eqNilT (hu : X.A.units + 64 < cLine) : OpR X (compareOp .Eq) (rEqNilT X.K) := by
  intro pins s σ H x y v u Q I rx ry h
  obtain ⟨a, b, xs, rfl, rfl, ha, hb, q⟩ := h
  cases rx
  cases ry
  obtain ⟨its, r1, p1, _⟩ := I.tuple ha
  obtain ⟨its2, r2, p2, _⟩ := I.tuple hb
  cases r2
  have hl := r1.length
  refine SeqAt.eq_tupleAt (e := fun _ => true) (show s.heap.IsTuple a its.toArray from p1) (show s.heap.IsTuple b ([] : List Value).toArray from p2) (by omega) (fun j _ h2 => absurd h2 (by simp)) ?_
  refine ⟨.bl xs.isEmpty, H, I, ?_, q⟩
  show Value.bool _ = Value.bool _
  congr 1
  rw [List.size_toArray, ← hl]
  cases xs <;> simp

/-! t[::-1] -/
end
section
variable {prog : Program} {w : World} {A : Around} {E : Value → Shared → Prop} {s : Shared}
theorem fm_map {α β : Type} {f : α → Option β} {g : α → β} : ∀ l : List α, (∀ m ∈ l, f m = some (g m)) → l.filterMap f = l.map g
  | [], _ => rfl
  | a :: l, h => by
    rw [List.filterMap_cons, h a List.mem_cons_self, List.map_cons, fm_map l fun m hm => h m (List.mem_cons_of_mem _ hm)]
theorem rev_pick (xs : Array Value) : ((List.range xs.size).filterMap fun (m : Nat) => xs[(((xs.size : Int) - 1) + (m : Int) * (-1)).toNat]?) = xs.toList.reverse := by
  refine List.ext_getElem? fun i => ?_
  have e : ((List.range xs.size).filterMap fun (m : Nat) => xs[(((xs.size : Int) - 1) + (m : Int) * (-1)).toNat]?) = (List.range xs.size).map fun m => xs[xs.size - 1 - m]! := by
    refine fm_map _ fun m hm => ?_
    have h1 := List.mem_range.mp hm
    have h2 : (((xs.size : Int) - 1) + (m : Int) * (-1)).toNat = xs.size - 1 - m := by omega
    have h3 : xs.size - 1 - m < xs.size := by omega
    rw [h2]
    simp [h3]
  rw [e, List.getElem?_map]
  by_cases hi : i < xs.size
  · rw [List.getElem?_range hi, List.getElem?_reverse (by simpa using hi)]
    have h3 : xs.size - 1 - i < xs.size := by omega
    simp [h3]
  · rw [List.getElem?_eq_none (by simpa using Nat.le_of_not_lt hi), List.getElem?_eq_none (by simpa using Nat.le_of_not_lt hi)]
    rfl
theorem getItem_tuple_back {t sl : Addr} {items : Array Value} {vk : Value} {Q : Value → Shared → Prop} (ht : IsTup s.heap t items) (hs : s.heap.IsSliceOf sl .none .none vk) (pk : IsPart vk (some (-1)))
    (h : Q (.ref s.heap.objs.size) { s with heap := s.heap.push { cls := .type "tuple", data := .seq items.toList.reverse.toArray } }) (hsz : items.size ≤ sizeLine) : wpAny (model prog w) A (getItem (.ref t) (.ref sl)) Q E s := by
  obtain ⟨os, hos, hcs, hds⟩ := id hs
  have isSlice : s.TypeIs (.ref sl) "slice" := ⟨os, hos, hcs⟩
  cases pk with
  | int i tk =>
  unfold getItem
  try with_reducible refine wpAny_holding ?_
  first | refine wpAny_bind (wpAny_pure ?_) | skip
  refine wpAny_bind (wpAny_sequenceKey ht.typeIs (by decide) ?_)
  refine wpAny_bind (wpAny_callSpecial?_slot (name := Str.ofString "__getitem__") ht.typeIs PyProof.Rows.slot_tuple_getitem (wpAny_call_entry PyProof.Rows.slot_tuple_getitem ht.typeIs entry_tuple_getitem ?_ (args_tuple_getitem _ _)))
  show wpAny _ _ (Builtin.Tuple.tupleItemsOf (.ref t) >>= _) _ _ s
  refine wpAny_bind (tupleItemsOf_ ht (wpAny_bind (wpAny_typeOf isSlice ?_)))
  rw [if_pos (by decide)]
  have cut : wpAny (model prog w) A.in1 (Builtin.Slice.sliceApplied (.ref sl) (pure (items.size : Int))) (fun r s2 => r = ((items.size : Int) - 1, -1, items.size) ∧ s2 = s) E s := by
    unfold Builtin.Slice.sliceApplied Builtin.Slice.sliceFields
    refine wpAny_bind (wpAny_bind (wpAny_field hos hds (x := .none) rfl (wpAny_bind (wpAny_field hos hds (x := .none) rfl (wpAny_bind (wpAny_field hos hds (x := .int (-1) tk) rfl (wpAny_pure ?_)))))))
    refine wpAny_bind (slicePart_int ?_)
    show wpAny _ _ (if ((-1 : Int) == 0) = true then _ else _) _ _ s
    rw [if_neg (by decide)]
    refine wpAny_bind (slicePart_none (wpAny_bind (slicePart_none (wpAny_bind (wpAny_pure ?_)))))
    show wpAny _ _ (pure ((items.size : Int) - 1, (-1 : Int), Builtin.Slice.slicePlaces ((items.size : Int) - 1) (-1) (-1))) _ _ s
    refine wpAny_pure ⟨?_, rfl⟩
    have e : Builtin.Slice.slicePlaces ((items.size : Int) - 1) (-1) (-1) = items.size := by
      unfold Builtin.Slice.slicePlaces
      rw [if_neg (by decide), show (- -1 : Int) = 1 from rfl, Int.ediv_one]
      split <;> omega
    rw [e]
  refine wpAny_bind (wpAny_mono cut ?_ fun _ _ z => z)
  rintro _ _ ⟨rfl, rfl⟩
  show wpAny _ _ (if ((((items.size : Int) - 1) == 0 && (-1 : Int) == 1 && items.size == items.size) = true) then _ else _) _ _ _
  rw [if_neg (by simp), rev_pick]
  have fits : sizeOk (.seq items.toList.reverse.toArray) := by
    show items.toList.reverse.toArray.size ≤ sizeLine
    simpa using hsz
  exact wpAny_bind (m := Builtin.Tuple.tupleExact _) (wpAny_newObj_type (wpAny_pure ⟨_, rfl, wpAny_pure h⟩) fits)
end
section
variable {X : Cx}
def tRevT (K : PySem.W.Frag) (te : TE) : TE := fun σ H Q => te σ H fun x H1 => ∃ a xs, x = .ref a ∧ SqT K H1 a xs ∧ ∀ p, H1 p = none → Q (.ref p) (upd H1 p (.tup xs.reverse))
theorem pe_revT {e : Expr} {te : TE} {k : Nat} {p1 p2 p3 pos : Pos} (he : PE X e te) : PE X (.Subscript e (.Slice none none (some (.UnaryOp .USub (.Constant (.int 1) k p1) p2)) p3) pos) (tRevT X.K te) := by
  refine ⟨fun pins s σ H Q I h => Subscript_ (thn (he.run pins s σ H _ I h) ?_)⟩
  rintro v s1 ⟨x, G, J, rx, a, xs, rfl, hx, q⟩
  cases rx
  have step : PO X (some (.UnaryOp .USub (.Constant (.int 1) k p1) p2)) (tPart (tUn (rU fun i => .int (-i)) (tC (.int 1)))) := po_some (pe_un un_neg pe_int)
  refine wpAny_Slice (thn (po_none.run pins s1 σ G (fun o G2 => o = none ∧ G2 = G) J ⟨rfl, rfl⟩) ?_)
  rintro vl s2 ⟨l, G2, J2, pl, rfl, rfl⟩
  refine thn (po_none.run pins s2 σ G2 (fun o G3 => o = none ∧ G3 = G2) J2 ⟨rfl, rfl⟩) ?_
  rintro vu s3 ⟨u, G3, J3, pu, rfl, rfl⟩
  refine thn (step.run pins s3 σ G3 (fun o G4 => o = some (-1) ∧ G4 = G3) J3 ⟨1, rfl, -1, rfl, rfl, rfl⟩) ?_
  rintro vs s4 ⟨o, G4, J4, ps, rfl, rfl⟩
  cases pl
  cases pu
  have J5 : Inv X pins σ G4 { s4 with heap := s4.heap.push { cls := .type "slice", data := .fields #[.none, .none, vs] } } := J4.kept (t' := s4.toks) fun b ob z => Heap.get?_push_of_some _ z
  obtain ⟨its, rv, ht, hz⟩ := J5.tuple hx
  have hl := rv.length
  refine tail_any (ops := [.ref a, .ref s4.heap.objs.size]) ht.typeIs (PyProof.Rows.slot_tuple_getitem.lookup) ?_ (by with_unfolding_all rfl)
  refine getItem_tuple_back ht (Heap.IsSliceOf.new _ .none .none vs) ps ?_ (by rw [List.size_toArray]; omega)
  refine ⟨.ref _, _, J5.laid (t' := s4.toks) (o := .tup xs.reverse) (fun b ob z => Heap.get?_push_of_some _ z) (Nat.le_refl _) ?_, rfl, q _ (J5.hok.fresh (Nat.le_refl _))⟩
  exact ⟨by rw [List.length_reverse]; exact hz, _, rv.reverse, IsTup.new _ _⟩
end
end Sk


set_option Elab.async false
set_option linter.all false
set_option maxRecDepth 100000
set_option maxHeartbeats 4000000
namespace Sk
open PySem PySem.Spec PyProof.Rows L2
/-! enumerate of a tuple -/
set_option maxHeartbeats 1000000 in
theorem meets_enum1 {v : Value} {o : Obj} {N : Heap → Prop} (B : Begins v o N) :
    Meets (Builtin.«enumerate.__new__» ⟨[.type "enumerate", v], []⟩) (fun _ R s => N s.heap ∧ R (.ok (.ret (.ref (s.heap.push o).objs.size)))
      { s with heap := (s.heap.push o).push { cls := .type "enumerate", data := .fields #[.none, .bool false, .ref s.heap.objs.size, rawInt 0, .none, .none] } }) := by
  refine .of_wp fun prog w A R s h => ?_
  obtain ⟨hp, g, d, tk, os⟩ := s
  obtain ⟨h1, h⟩ := h
  have hsub := sub_enumerate
  have q1 : ∀ {A1 : Around} {E1 : Value → Shared → Prop} {Q1 : Value → Shared → Prop}, Q1 (.ref hp.objs.size) ⟨hp.push o, g, d, tk, os⟩ → wpAny (model prog w) A1 (pyIter v) Q1 E1 ⟨hp, g, d, tk, os⟩ := fun q => B.iter prog w _ _ _ _ h1 q
  wp_walk using q1
  refine wpAny_stack_any fun st => wpAny_pure ?_
  split
  · rename_i c _ _ _ _ _
    cases (c == Value.type "enumerate") <;> (wp_walk using q1; exact ⟨_, rfl, h⟩)
  · wp_walk using q1
    exact ⟨_, rfl, h⟩
section
variable {prog : Program} {w : World} {A : Around} {E : Value → Shared → Prop} {s : Shared}
theorem enum_new {v : Value} {o : Obj} {N : Heap → Prop} {Q : Value → Shared → Prop} (B : Begins v o N) (h1 : N s.heap)
    (h : ∀ h2, IsEnum h2 (s.heap.objs.size + 1) s.heap.objs.size 0 .none → h2.get? s.heap.objs.size = some o → (∀ b u, s.heap.get? b = some u → h2.get? b = some u) → Q (.ref (s.heap.objs.size + 1)) { s with heap := h2 }) :
    wpAny (model prog w) A (call (.type "enumerate") [v]) Q E s := by
  refine callType_new F.called_enumerate (by decide) (F.typeCall_enumerate_1 _) (F.newCall_enumerate_1 _) (fun obj => F.args_object_init_2 obj _) F.entry_enumerate_new (meets_enum1 B) ⟨h1, ?_⟩
  have z : (s.heap.push o).objs.size = s.heap.objs.size + 1 := Heap.size_push ..
  show _ ∧ _
  rw [z]
  have e1 : IsEnum ((s.heap.push o).push { cls := .type "enumerate", data := .fields #[.none, .bool false, .ref s.heap.objs.size, rawInt 0, .none, .none] }) (s.heap.objs.size + 1) s.heap.objs.size 0 .none := by
    rw [← z]
    exact Heap.get?_push_size _ rfl
  exact ⟨⟨_, e1, rfl⟩, h _ e1 (Heap.get?_push_of_some _ (Heap.get?_push_size _ B.free)) fun b u x => Heap.get?_push_of_some _ (Heap.get?_push_of_some _ x)⟩
end
/-- the tuple at a, each item in a new pair -/
def Itet (K : PySem.W.Frag) (a : Addr) : It :=
  ⟨fun i H => ∃ (xs : List V) (x : V), SqT K H a xs ∧ xs[i]? = some x, fun i H v G => ∃ T x, v = .ref T ∧ H T = none ∧ G = upd H T (.tup [.int (i : Nat), x]) ∧ ∀ xs, SqT K H a xs → xs[i]? = some x, fun i H => ∃ xs : List V, SqT K H a xs ∧ xs.length ≤ i⟩
theorem turn_enumT {P : Program} {w : World} {K : PySem.W.Frag} {elts : List Expr} {kk : Nat} {tpos : Pos} (a e it : Addr) (n1 : e ≠ it) (n2 : e ≠ a) (n3 : a ≠ it) :
    Turn P w K (.Tuple elts kk tpos) (Itet K a) [e, it] e (fun i h => (∃ old, IsEnum h e it ((i : Nat) : Int) old) ∧ h.IsTupleIter it a i) where
  mem := by simp
  obj := fun i h st b hb => by
    obtain ⟨⟨old, he⟩, ⟨o, ho, hc, hd⟩⟩ := st
    rcases (show b = e ∨ b = it by simpa using hb) with z | z
    · rw [z]; exact ⟨_, he, fun v q => nomatch q⟩
    · rw [z]; exact ⟨o, ho, fun v q => by rw [hd] at q; cases q⟩
  keep := fun i h h2 st k => by
    obtain ⟨⟨old, he⟩, hi⟩ := st
    exact ⟨⟨old, k e (by simp) _ he⟩, hi.at fun o q => k it (by simp) o q⟩
  item := by
    intro X hP hw hK hc i pins s σ H E I hf st hg
    subst hP hw hK
    obtain ⟨⟨old, he⟩, hit⟩ := st
    obtain ⟨xs, x, hq, hx⟩ := hg
    obtain ⟨its, rv, p, hz⟩ := I.tuple hq
    obtain ⟨u, hu, ru⟩ := rv.get hx
    have l1 : e < s.heap.objs.size := Heap.lt_size he
    have l2 : it < s.heap.objs.size := by obtain ⟨_, q, _⟩ := hit; exact Heap.lt_size q
    have tu : s.heap.IsTuple a its.toArray := p
    have hi : i < its.toArray.size := by
      have := (List.getElem?_eq_some_iff.mp hu).1
      simpa using this
    refine wpAny_pyNext_enum_itemC (Draws.tuple (A := X.A.in1) (I.ok.hd hc) it a n3 its.toArray) he ⟨hit, tu⟩ hi n1 (by simp [n1, n2]) fun y h1 tk hy out st1 hT hsz kept => ?_
    have ey : y = u := by
      have a1 : its.toArray[i]? = some y := hy
      have a2 : its.toArray[i]? = some u := by simpa using hu
      exact Option.some.inj (a1.symm.trans a2)
    subst ey
    refine ⟨_, rfl, wpAny_letOwnedTupleGo_enum (s := { s with heap := h1, toks := tk + 1 }) out fun h2 en sb => ?_⟩
    have hT2 : h2.get? s.heap.objs.size = some { cls := .type "tuple", data := .seq #[.int i tk, y] } := (sb.2 _ (Nat.ne_of_gt l1)).trans hT
    have new : ObjOk X.prog X.w (upd H s.heap.objs.size (.tup [.int (i : Nat), x])) h2 s.heap.objs.size (.tup [.int (i : Nat), x]) :=
      ⟨by show 2 ≤ sizeLine; decide, [.int i tk, y], .cons ⟨_, rfl⟩ (.cons ru .nil), ⟨_, hT2, rfl, _, rfl⟩⟩
    have J : Inv X pins σ (upd H s.heap.objs.size (.tup [.int (i : Nat), x])) { s with heap := h2, toks := tk + 1 } :=
      I.turnedNew (ch := [e, it]) (fun b ob hb q => (sb.2 b (fun z => hb (by simp [z]))).trans (kept b ob (fun z => hb (by simp [z])) (fun z => hb (by simp [z])) q)) hf (Nat.le_refl _) new
    refine ⟨.ref s.heap.objs.size, _, J, rfl, ⟨_, x, rfl, I.hok.fresh (Nat.le_refl _), rfl, fun ys hy => by rw [I.tuple_inj hy hq]; exact hx⟩, ⟨⟨y, ?_⟩, st1.1.at fun o q => (sb.2 it (Ne.symm n1)).trans q⟩, fun b hb => ?_⟩
    · have e1 : ((i + 1 : Nat) : Int) = (i : Int) + 1 := by omega
      rw [e1]
      exact en
    · have lb : b < s.heap.objs.size := by
        rcases (show b = e ∨ b = it by simpa using hb) with z | z <;> (rw [z]; assumption)
      rw [upd_ne (Nat.ne_of_lt lb)]
      exact (hf b hb).1
  done := by
    intro X hP hw hK hc i pins s σ H E I hf st hg
    subst hP hw hK
    obtain ⟨⟨old, he⟩, hit⟩ := st
    obtain ⟨xs, hq, hx⟩ := hg
    obtain ⟨its, rv, p, hz⟩ := I.tuple hq
    have tu : s.heap.IsTuple a its.toArray := p
    obtain ⟨f0, f1, f2, f3, f4, f5⟩ := hf it (by simp)
    have hl := rv.length
    have T : s.TypeIs (.ref e) "enumerate" := ⟨_, he, rfl⟩
    unfold pyNext
    refine wpAny_bind (wpAny_attempt (wpAny_callSpecial?_slot (name := Str.ofString "__next__") T F.slot_enumerate_next (wpAny_call_entry F.slot_enumerate_next T F.entry_enumerate_next ?_ (F.args_enumerate_next_1 _))))
    show wpAny _ _ (field (.ref e) 2 >>= _) _ _ _
    refine wpAny_bind (wpAny_field he rfl (x := .ref it) rfl (wpAny_bind (wpAny_nextOf_tuple_end (A := X.A.in1) (I.ok.hd hc) hit tu (by simp; omega) fun h1 y eb hy => ?_)))
    obtain ⟨o, ho, hcl⟩ := hy
    refine wpAny_bind (wpAny_isInstance (T := "StopIteration") (b := true) ⟨o, ho, hcl⟩ isSubtype_stop (wpAny_pure ?_))
    exact ⟨rfl, I.turned (t' := s.toks) (fun b o hb q => eb b o hb q) f0 f1 f3 f4 f5⟩
  self := fun A i s Q E st h => let ⟨⟨_, he⟩, _⟩ := st; wpAny_pyIter_enum he h
def iEnumT (K : PySem.W.Frag) (ta : TA) : TI := fun σ H R => ta σ H fun vs G => ∃ a xs, vs = [.ref a] ∧ SqT K G a xs ∧ R (Itet K a) G
theorem pi_enumT {X : Cx} {e : Expr} {ta : TA} {p pos tpos : Pos} {elts : List Expr} {kk : Nat} (hg : Gl X "enumerate") (hm : X.mg "enumerate" = none) (ha : PA X [e] ta) (hs : starEach [e] X.env = [(false, eval e X.env)] := by rfl) :
    PI X (.Tuple elts kk tpos) (.Call (.Name "enumerate" p) [e] [] pos) (iEnumT X.K ta) := by
  refine ⟨fun pins s σ H R I h => Call_ (ld_blt I hg hm boot_enumerate (PyProof.Rows.callWith_type1 (thn (ha.run pos pins s σ H _ I h) ?_) hs rfl))⟩
  rintro us s1 ⟨vs, G, J, rv, a, xs, rfl, hq, q⟩
  cases rv with
  | cons r rr =>
    cases rr
    cases r
    obtain ⟨its, rv, p1, hz⟩ := J.tuple hq
    have tu : s1.heap.IsTuple a its.toArray := p1
    refine enum_new (begins_tuple a its.toArray) tu fun h2 he hit kept => wpAny_pyIter_enum he ?_
    have la : a < s1.heap.objs.size := by obtain ⟨o, ho, _⟩ := tu; exact Heap.lt_size ho
    refine ⟨_, [s1.heap.objs.size + 1, s1.heap.objs.size], _, _, G, rfl, J.kept (t' := s1.toks) kept, turn_enumT a _ _ (Nat.succ_ne_self _) (Nat.ne_of_gt (Nat.lt_succ_of_lt la)) (Nat.ne_of_lt la), ⟨⟨.none, he⟩, ⟨_, hit, rfl, rfl⟩⟩, fun b hb => ?_, q⟩
    have lb : s1.heap.objs.size ≤ b := by
      rcases (show b = s1.heap.objs.size + 1 ∨ b = s1.heap.objs.size by simpa using hb) with z | z
      · rw [z]; exact Nat.le_succ _
      · rw [z]; exact Nat.le_refl _
    exact J.fpOk lb (J.hok.fresh lb)
theorem walk_enumT {K : PySem.W.Frag} {a : Addr} {xs : List V} : Walk (Itet K a) xs.length (fun H => SqT K H a xs) (YPair (fun i => some (.int (i : Nat))) (fun i => xs[i]?)) := by
  refine ⟨fun i _ hi q => ⟨xs, xs[i], q, by simp [hi]⟩, fun _ q => ⟨xs, q, Nat.le_refl _⟩, fun i H v G _ q y => ?_⟩
  obtain ⟨T, x, h1, h2, h3, h4⟩ := y
  exact ⟨T, .int (i : Nat), x, h1, h2, h3, rfl, h4 xs q⟩
end Sk


set_option Elab.async false
set_option linter.all false
set_option maxRecDepth 100000
set_option maxHeartbeats 4000000
namespace Sk
open PySem PySem.Spec PyProof.Rows L2
theorem yesE {σ : L2.St} {H : Hp} {A B : Hp → Prop} (h : A H) : tYes σ H (fun b G => if b = true then A G else B G) := by
  show (if true = true then A H else B H)
  rw [if_pos rfl]
  exact h
/-! a comprehension with two for: the outer walk, the inner walk -/
section
variable {J : It} {n : Nat} {G : Hp → Prop} {Y : Nat → Hp → V → Hp → Prop}
theorem lc2_out (w : Walk J n G Y) {g g1 : TG} {tt tt1 : TT} {wi1 : TI} {te : TE} {vs vs1 : List Nat} {σ : L2.St} {H1 : Hp} {D : Addr} {Qd : Hp → Prop} (Pv : Nat → Hp → Prop) (h0 : Pv 0 (upd H1 D (.lst []))) (hG : ∀ i H, i ≤ n → Pv i H → G H)
    (hs : ∀ i x H F, i < n → Pv i H → Y i H x F → g x (wipe σ vs) F fun σ2 H2 => wipe σ2 vs = wipe σ vs ∧ tt σ2 H2 fun b H3 =>
      if b = true then wi1 σ2 H3 fun J1 H4 => ∃ W1 : Nat → Nat → Hp → Prop, (∃ m, W1 0 m H4) ∧ ∀ j k H, W1 j k H →
        (J1.stop j H ∧ Pv (i + 1) H) ∨ (J1.go j H ∧ ∃ N1 : Hp → Prop, (∀ F, N1 F → ∃ m, m < k ∧ W1 (j + 1) m F) ∧ ∀ x F, J1.yld j H x F → g1 x (wipe σ2 vs1) F fun σ3 H5 => wipe σ3 vs1 = wipe σ2 vs1 ∧ tt1 σ3 H5 fun b H6 =>
          if b = true then te σ3 H6 fun y H7 => ∃ acc, H7 D = some (.lst acc) ∧ acc.length < sizeLine ∧ N1 (upd H7 D (.lst (acc ++ [y]))) else N1 H6)
      else Pv (i + 1) H3) (hd : ∀ H, Pv n H → Qd H) :
    ∃ W : Nat → Nat → Hp → Prop, (∃ m, W 0 m (upd H1 D (.lst []))) ∧ ∀ i m H, W i m H →
      (J.stop i H ∧ Qd H) ∨ (J.go i H ∧ ∃ N : Hp → Prop, (∀ F, N F → ∃ k, k < m ∧ W (i + 1) k F) ∧ ∀ x F, J.yld i H x F → g x (wipe σ vs) F fun σ2 H2 => wipe σ2 vs = wipe σ vs ∧ tt σ2 H2 fun b H3 =>
        if b = true then wi1 σ2 H3 fun J1 H4 => ∃ W1 : Nat → Nat → Hp → Prop, (∃ m, W1 0 m H4) ∧ ∀ j k H, W1 j k H →
          (J1.stop j H ∧ N H) ∨ (J1.go j H ∧ ∃ N1 : Hp → Prop, (∀ F, N1 F → ∃ m, m < k ∧ W1 (j + 1) m F) ∧ ∀ x F, J1.yld j H x F → g1 x (wipe σ2 vs1) F fun σ3 H5 => wipe σ3 vs1 = wipe σ2 vs1 ∧ tt1 σ3 H5 fun b H6 =>
            if b = true then te σ3 H6 fun y H7 => ∃ acc, H7 D = some (.lst acc) ∧ acc.length < sizeLine ∧ N1 (upd H7 D (.lst (acc ++ [y]))) else N1 H6)
        else N H3) := by
  refine ⟨fun i m H => m = n - i ∧ i ≤ n ∧ Pv i H, ⟨n, by simp, Nat.zero_le _, h0⟩, ?_⟩
  rintro i m H ⟨rfl, hi, p⟩
  have q := hG i H hi p
  by_cases lt : i < n
  · exact .inr ⟨w.goes i H lt q, Pv (i + 1), fun F p2 => ⟨n - (i + 1), by omega, rfl, lt, p2⟩, fun x F y => hs i x H F lt p (w.yields i H x F lt q y)⟩
  · obtain rfl : i = n := by omega
    exact .inl ⟨w.stops H q, hd H p⟩
theorem lc2_in (w : Walk J n G Y) {g1 : TG} {tt1 : TT} {te : TE} {vs1 : List Nat} {σ : L2.St} {H4 : Hp} {D : Addr} {Nd : Hp → Prop} (Pv : Nat → Hp → Prop) (h0 : Pv 0 H4) (hG : ∀ i H, i ≤ n → Pv i H → G H)
    (hs : ∀ j x H F, j < n → Pv j H → Y j H x F → g1 x (wipe σ vs1) F fun σ3 H5 => wipe σ3 vs1 = wipe σ vs1 ∧ tt1 σ3 H5 fun b H6 =>
      if b = true then te σ3 H6 fun y H7 => ∃ acc, H7 D = some (.lst acc) ∧ acc.length < sizeLine ∧ Pv (j + 1) (upd H7 D (.lst (acc ++ [y]))) else Pv (j + 1) H6) (hd : ∀ H, Pv n H → Nd H) :
    ∃ W1 : Nat → Nat → Hp → Prop, (∃ m, W1 0 m H4) ∧ ∀ j k H, W1 j k H →
      (J.stop j H ∧ Nd H) ∨ (J.go j H ∧ ∃ N1 : Hp → Prop, (∀ F, N1 F → ∃ m, m < k ∧ W1 (j + 1) m F) ∧ ∀ x F, J.yld j H x F → g1 x (wipe σ vs1) F fun σ3 H5 => wipe σ3 vs1 = wipe σ vs1 ∧ tt1 σ3 H5 fun b H6 =>
        if b = true then te σ3 H6 fun y H7 => ∃ acc, H7 D = some (.lst acc) ∧ acc.length < sizeLine ∧ N1 (upd H7 D (.lst (acc ++ [y]))) else N1 H6) := by
  refine ⟨fun i m H => m = n - i ∧ i ≤ n ∧ Pv i H, ⟨n, by simp, Nat.zero_le _, h0⟩, ?_⟩
  rintro i m H ⟨rfl, hi, p⟩
  have q := hG i H hi p
  by_cases lt : i < n
  · exact .inr ⟨w.goes i H lt q, Pv (i + 1), fun F p2 => ⟨n - (i + 1), by omega, rfl, lt, p2⟩, fun x F y => hs i x H F lt p (w.yields i H x F lt q y)⟩
  · obtain rfl : i = n := by omega
    exact .inl ⟨w.stops H q, hd H p⟩
end
end Sk


set_option Elab.async false
set_option linter.all false
set_option maxRecDepth 100000
set_option maxHeartbeats 4000000
/-! Data on the heap, as trees; what comp_error tells of a tree. -/
namespace Sk
open PySem PySem.Spec PyProof.Rows L2
inductive Tr where
  | non | bl (b : Bool) | int (i : Int) | str (x : Str) | tup (ts : List Tr) | lst (ts : List Tr) | dct
mutual
/-- v is the tree t, none of whose objects is one of av -/
inductive Dat (av : Addr → Prop) (H : Hp) : V → Tr → Prop
  | non : Dat av H .non .non
  | bl (b : Bool) : Dat av H (.bl b) (.bl b)
  | int (i : Int) : Dat av H (.int i) (.int i)
  | str (x : Str) : Dat av H (.str x) (.str x)
  | tup {a : Addr} {xs : List V} {ts : List Tr} : H a = some (.tup xs) → ¬ av a → DatA av H xs ts → Dat av H (.ref a) (.tup ts)
  | lst {a : Addr} {xs : List V} {ts : List Tr} : H a = some (.lst xs) → ¬ av a → DatA av H xs ts → Dat av H (.ref a) (.lst ts)
  | dct {a : Addr} : H a = some (.dK []) → ¬ av a → Dat av H (.ref a) .dct
inductive DatA (av : Addr → Prop) (H : Hp) : List V → List Tr → Prop
  | nil : DatA av H [] []
  | cons {v : V} {vs : List V} {t : Tr} {ts : List Tr} : Dat av H v t → DatA av H vs ts → DatA av H (v :: vs) (t :: ts)
end
/-- all that was tracked stays, but for av -/
def Keep (av : Addr → Prop) (H G : Hp) : Prop := ∀ b o, H b = some o → ¬ av b → G b = some o
theorem Keep.refl {av : Addr → Prop} {H : Hp} : Keep av H H := fun _ _ h _ => h
theorem Keep.trans {av : Addr → Prop} {H G F : Hp} (a : Keep av H G) (b : Keep av G F) : Keep av H F := fun c o h n => b c o (a c o h n) n
theorem Keep.of {av : Addr → Prop} {H G : Hp} (s : Same H G) : Keep av H G := fun c o h _ => s c o h
theorem Keep.mono {av av2 : Addr → Prop} {H G : Hp} (k : Keep av H G) (h : ∀ b, av b → av2 b) : Keep av2 H G := fun c o e n => k c o e fun z => n (h c z)
theorem Same.upd {H : Hp} {p : Addr} {o : HO} (h : H p = none) : Same H (upd H p o) := fun b u e => by rw [upd_ne (ne_of_none e h)]; exact e
section
variable {av av2 : Addr → Prop} {H G : Hp}
mutual
theorem Dat.move (k : ∀ b o, H b = some o → ¬ av b → G b = some o ∧ ¬ av2 b) : ∀ (t : Tr) (v : V), Dat av H v t → Dat av2 G v t
  | _, _, .non => .non
  | _, _, .bl b => .bl b
  | _, _, .int i => .int i
  | _, _, .str x => .str x
  | _, _, .tup h n d => .tup (k _ _ h n).1 (k _ _ h n).2 (DatA.move k _ _ d)
  | _, _, .lst h n d => .lst (k _ _ h n).1 (k _ _ h n).2 (DatA.move k _ _ d)
  | _, _, .dct h n => .dct (k _ _ h n).1 (k _ _ h n).2
theorem DatA.move (k : ∀ b o, H b = some o → ¬ av b → G b = some o ∧ ¬ av2 b) : ∀ (ts : List Tr) (vs : List V), DatA av H vs ts → DatA av2 G vs ts
  | _, _, .nil => .nil
  | _, _, .cons a b => .cons (Dat.move k _ _ a) (DatA.move k _ _ b)
end
theorem Dat.keep {t : Tr} {v : V} (d : Dat av H v t) (k : Keep av H G) : Dat av G v t := Dat.move (fun b o h n => ⟨k b o h n, n⟩) t v d
theorem DatA.keep {ts : List Tr} {vs : List V} (d : DatA av H vs ts) (k : Keep av H G) : DatA av G vs ts := DatA.move (fun b o h n => ⟨k b o h n, n⟩) ts vs d
theorem Dat.same {t : Tr} {v : V} (d : Dat av H v t) (k : Same H G) : Dat av G v t := d.keep (.of k)
theorem DatA.same {ts : List Tr} {vs : List V} (d : DatA av H vs ts) (k : Same H G) : DatA av G vs ts := d.keep (.of k)
theorem DatA.length : ∀ {vs : List V} {ts : List Tr}, DatA av H vs ts → vs.length = ts.length
  | _, _, .nil => rfl
  | _, _, .cons _ d => by rw [List.length_cons, List.length_cons, d.length]
theorem DatA.get : ∀ {vs : List V} {ts : List Tr} {i : Nat} {v : V}, DatA av H vs ts → vs[i]? = some v → ∃ t, ts[i]? = some t ∧ Dat av H v t
  | _, _, _, _, .nil, e => by simp at e
  | _, _, 0, _, .cons a _, e => by
    cases (Option.some.inj e)
    exact ⟨_, rfl, a⟩
  | _, _, i + 1, v, .cons _ d, e => by
    obtain ⟨t, h1, h2⟩ := DatA.get (i := i) (v := v) d (by simpa using e)
    exact ⟨t, by simpa using h1, h2⟩
theorem DatA.get2 {vs : List V} {ts : List Tr} {i : Nat} {t : Tr} (d : DatA av H vs ts) (e : ts[i]? = some t) : ∃ v, vs[i]? = some v ∧ Dat av H v t := by
  have hi := (List.getElem?_eq_some_iff.mp e).1
  have hv : i < vs.length := by rw [d.length]; exact hi
  obtain ⟨t2, h1, h2⟩ := d.get (i := i) (v := vs[i]) (by simp [hv])
  rw [e] at h1
  cases h1
  exact ⟨_, by simp [hv], h2⟩
theorem DatA.append : ∀ {vs us : List V} {ts ss : List Tr}, DatA av H vs ts → DatA av H us ss → DatA av H (vs ++ us) (ts ++ ss)
  | _, _, _, _, .nil, d => d
  | _, _, _, _, .cons a b, d => .cons a (b.append d)
theorem DatA.take : ∀ {vs : List V} {ts : List Tr} (n : Nat), DatA av H vs ts → DatA av H (vs.take n) (ts.take n)
  | _, _, 0, _ => .nil
  | _, _, _ + 1, .nil => .nil
  | _, _, n + 1, .cons a b => .cons a (b.take n)
theorem DatA.drop : ∀ {vs : List V} {ts : List Tr} (n : Nat), DatA av H vs ts → DatA av H (vs.drop n) (ts.drop n)
  | _, _, 0, d => d
  | _, _, _ + 1, .nil => .nil
  | _, _, n + 1, .cons _ b => b.drop n
theorem DatA.reverse : ∀ {vs : List V} {ts : List Tr}, DatA av H vs ts → DatA av H vs.reverse ts.reverse
  | _, _, .nil => .nil
  | _, _, .cons a b => by
    rw [List.reverse_cons, List.reverse_cons]
    exact b.reverse.append (.cons a .nil)
end
/-- a value's built-in class -/
def kindOf : Tr → String
  | .non => "NoneType" | .bl _ => "bool" | .int _ => "int" | .str _ => "str" | .tup _ => "tuple" | .lst _ => "list" | .dct => "dict"
theorem Dat.ty {K : PySem.W.Frag} {av : Addr → Prop} {H : Hp} {v : V} {t : Tr} (d : Dat av H v t) : TyX K H v (.type (kindOf t)) := by
  cases d with
  | non => exact .base .non
  | bl b => exact .base (.bl b)
  | int i => exact .base (.int i)
  | str x => exact .base (.str x)
  | tup h n d => exact .base (.tup h)
  | lst h n d => exact .base (.lst h)
  | dct h n => exact .base (.dK h)
def isTup : Tr → Bool | .tup _ => true | _ => false
def isInt : Tr → Bool | .int _ => true | .bl _ => true | _ => false
def isBool : Tr → Bool | .bl _ => true | _ => false
theorem kit_tup {K : PySem.W.Frag} : ∀ t : Tr, PySem.W.kitOne K (.type (kindOf t)) (.type "tuple") = some (isTup t)
  | .non => kit_ty (show kitB "NoneType" "tuple" = some false by decide +kernel)
  | .bl _ => kit_ty (show kitB "bool" "tuple" = some false by decide +kernel)
  | .int _ => kit_ty (show kitB "int" "tuple" = some false by decide +kernel)
  | .str _ => kit_ty (show kitB "str" "tuple" = some false by decide +kernel)
  | .tup _ => kit_ty (show kitB "tuple" "tuple" = some true by decide +kernel)
  | .lst _ => kit_ty (show kitB "list" "tuple" = some false by decide +kernel)
  | .dct => kit_ty (show kitB "dict" "tuple" = some false by decide +kernel)
theorem kit_int {K : PySem.W.Frag} : ∀ t : Tr, PySem.W.kitOne K (.type (kindOf t)) (.type "int") = some (isInt t)
  | .non => kit_ty (show kitB "NoneType" "int" = some false by decide +kernel)
  | .bl _ => kit_ty (show kitB "bool" "int" = some true by decide +kernel)
  | .int _ => kit_ty (show kitB "int" "int" = some true by decide +kernel)
  | .str _ => kit_ty (show kitB "str" "int" = some false by decide +kernel)
  | .tup _ => kit_ty (show kitB "tuple" "int" = some false by decide +kernel)
  | .lst _ => kit_ty (show kitB "list" "int" = some false by decide +kernel)
  | .dct => kit_ty (show kitB "dict" "int" = some false by decide +kernel)
theorem kit_bool {K : PySem.W.Frag} : ∀ t : Tr, PySem.W.kitOne K (.type (kindOf t)) (.type "bool") = some (isBool t)
  | .non => kit_ty (show kitB "NoneType" "bool" = some false by decide +kernel)
  | .bl _ => kit_ty (show kitB "bool" "bool" = some true by decide +kernel)
  | .int _ => kit_ty (show kitB "int" "bool" = some false by decide +kernel)
  | .str _ => kit_ty (show kitB "str" "bool" = some false by decide +kernel)
  | .tup _ => kit_ty (show kitB "tuple" "bool" = some false by decide +kernel)
  | .lst _ => kit_ty (show kitB "list" "bool" = some false by decide +kernel)
  | .dct => kit_ty (show kitB "dict" "bool" = some false by decide +kernel)
/-! ### what is told -/
def isNum (t : Tr) (lo hi : Int) : Bool := match t with | .int i => decide (lo ≤ i) && decide (i ≤ hi) | _ => false
def areNums (t : Tr) (many lo hi : Int) : Bool := match t with | .tup ts => decide ((ts.length : Int) = many) && ts.all (fun x => isNum x lo hi) | _ => false
def wide (l : Int) : Int := (l + 1) * (l + 1) - 1
/-- the first row that is none, from state i on -/
def badRow (n wd : Int) : Nat → List Tr → Option Nat
  | _, [] => none
  | i, t :: ts => if areNums t wd 0 (n - 1) = true then badRow n wd (i + 1) ts else some i
inductive Res where
  | fine | word (x : Str) | row (k : Nat)
def err (t : Tr) : Res := match t with
  | .tup [l, r, v] =>
    match l with
    | .int n => if isNum (.int n) 1 3 = true then
        (match r with
        | .tup (q :: qs) => (match badRow ((q :: qs).length : Int) (wide n) 0 (q :: qs) with
          | some k => .row k
          | none => if areNums v ((q :: qs).length : Int) (-1) 1 = true then .fine else .word "verdicts")
        | _ => .word "rows")
      else .word "letters"
    | _ => .word "letters"
  | _ => .word "comp"
/-- the tree of what is told -/
def Res.tr : Res → Tr
  | .fine => .non
  | .word x => .tup [.non, .str x]
  | .row k => .tup [.int (k : Nat), .str "row"]
/-- no tuple and no list in it has more than n items -/
inductive Bd (n : Nat) : Tr → Prop
  | non : Bd n .non
  | bl (b : Bool) : Bd n (.bl b)
  | int (i : Int) : Bd n (.int i)
  | str (x : Str) : Bd n (.str x)
  | tup {ts : List Tr} : ts.length ≤ n → (∀ t ∈ ts, Bd n t) → Bd n (.tup ts)
  | lst {ts : List Tr} : ts.length ≤ n → (∀ t ∈ ts, Bd n t) → Bd n (.lst ts)
  | dct : Bd n .dct
theorem Bd.mono {n m : Nat} (h : n ≤ m) {t : Tr} (b : Bd n t) : Bd m t := by
  induction b with
  | non => exact .non
  | bl b => exact .bl b
  | int i => exact .int i
  | str x => exact .str x
  | tup l _ ih => exact .tup (Nat.le_trans l h) ih
  | lst l _ ih => exact .lst (Nat.le_trans l h) ih
  | dct => exact .dct
theorem Bd.tl {n : Nat} {ts : List Tr} (b : Bd n (.tup ts)) : ts.length ≤ n := by
  cases b with
  | tup l _ => exact l
theorem Bd.ti {n : Nat} {ts : List Tr} (b : Bd n (.tup ts)) : ∀ t ∈ ts, Bd n t := by
  cases b with
  | tup _ l => exact l
theorem line1000 {n : Nat} (h : n ≤ 1000) : n ≤ sizeLine := Nat.le_trans h (by decide)
/-! ### defs that are called -/
def Callee (P : Program) (w : World) (K : PySem.W.Frag) (mg : Str → Option Value) (base : Heap) (k : Nat) (name : Str) (ps : List Str) (sp : Sp) : Prop :=
  ∃ (f : Addr) (fd : FuncData), FnOk P w K mg base CX0 k f fd ps sp ∧ mg name = some (.ref f) ∧ PySem.W.keepIn K (.ref f) = true ∧ Binds K fd ps []
end Sk


set_option Elab.async false
set_option linter.all false
set_option maxRecDepth 100000
set_option maxHeartbeats 4000000
namespace Sk
open PySem PySem.Spec PyProof.Rows L2
/-- a deck stands at d, its cells at c, n numbers were drawn -/
structure Deck (d c : Addr) (n : Int) (H : Hp) : Prop where
  ob : H d = some (.lst [.ref c, .int n])
  n0 : 0 ≤ n
  cells : ∃ ns : List Int, H c = some (.lst (ns.map V.int)) ∧ ns.length ≤ 63 ∧ ∀ z ∈ ns, 0 ≤ z
def dk (d c : Addr) : Addr → Prop := fun b => b = d ∨ b = c
theorem Deck.ne {d c : Addr} {n : Int} {H : Hp} (D : Deck d c n H) : d ≠ c := by
  obtain ⟨ns, h, _⟩ := D.cells
  refine ne_of D.ob h fun e => ?_
  injection e with e
  cases ns with
  | nil => exact nomatch e
  | cons z zs => exact nomatch (List.cons.inj e).1
theorem Deck.keep {d c : Addr} {n : Int} {H G : Hp} (D : Deck d c n H) (s : Same H G) : Deck d c n G := by
  obtain ⟨ns, h, l, z⟩ := D.cells
  exact ⟨s _ _ D.ob, D.n0, ns, s _ _ h, l, z⟩
/-- what is kept but for the deck and for one more list -/
theorem Deck.cut {d c : Addr} {n : Int} {H G : Hp} {av : Addr → Prop} (D : Deck d c n H) (k : Keep av H G) (h1 : ¬ av d) (h2 : ¬ av c) : Deck d c n G := by
  obtain ⟨ns, h, l, z⟩ := D.cells
  exact ⟨k _ _ D.ob h1, D.n0, ns, k _ _ h h2, l, z⟩
def spDeck (K : PySem.W.Frag) : Sp := fun vs H Q _ => ∃ (a : Addr) (ns : List Int), vs = [.ref a] ∧ SqL K H a (ns.map V.int) ∧ ns.length ≤ 63 ∧ ∀ d c G, Same H G → H d = none → H c = none → Deck d c 0 G → Q (.ref d) G
def spDraw : Sp := fun vs H Q _ => ∃ (d c : Addr) (n m : Int), vs = [.ref d, .int m] ∧ Deck d c n H ∧ n ≤ 10 ^ 9 ∧ 1 ≤ m ∧ m ≤ 10 ^ 9 ∧ ∀ k G, 0 ≤ k → k < m → Deck d c (n + 1) G → Keep (dk d c) H G → Q (.int k) G
/-- one of the items of a list (or of a tuple) -/
def spOne (K : PySem.W.Frag) : Sp := fun vs H Q _ => ∃ (d c a : Addr) (n : Int) (xs : List V), vs = [.ref d, .ref a] ∧ Deck d c n H ∧ n ≤ 10 ^ 9 ∧ H a = some (.lst xs) ∧ ¬ dk d c a ∧ xs ≠ [] ∧ xs.length ≤ 1000 ∧
  ∀ x G, x ∈ xs → Deck d c (n + 1) G → Keep (dk d c) H G → Q x G
theorem atI_some {α : Type} {xs : List α} {i : Int} (h0 : 0 ≤ i) (h : i < xs.length) : ∃ v, atI xs i = some v ∧ v ∈ xs := by
  obtain ⟨j, rfl⟩ : ∃ j : Nat, i = (j : Int) := ⟨i.toNat, by omega⟩
  have hj : j < xs.length := by omega
  exact ⟨xs[j], atI_nat (by simp [hj]), List.getElem_mem hj⟩
theorem ixN_some {n : Nat} {i : Int} (h0 : 0 ≤ i) (h : i < n) : ixN n i = some i.toNat := by
  unfold ixN
  rw [if_pos h0, if_pos h]
end Sk
namespace Sk
open PySem PySem.Spec PyProof.Rows L2
theorem Deck.off {d c p : Addr} {n : Int} {H : Hp} (D : Deck d c n H) (h : H p = none) : ¬ dk d c p := by
  obtain ⟨ns, hc, _⟩ := D.cells
  rintro (e | e)
  · rw [e, D.ob] at h
    cases h
  · rw [e, hc] at h
    cases h
theorem Deck.keepN {d c : Addr} {n : Int} {H G : Hp} (D : Deck d c n H) (s : ∀ b, dk d c b → G b = H b) : Deck d c n G := by
  obtain ⟨ns, h, l, z⟩ := D.cells
  exact ⟨(s d (.inl rfl)).trans D.ob, D.n0, ns, (s c (.inr rfl)).trans h, l, z⟩
theorem Deck.upd {d c B : Addr} {n : Int} {H : Hp} {o : HO} (D : Deck d c n H) (h : ¬ dk d c B) : Deck d c n (upd H B o) := D.keepN fun b e => upd_ne fun z => h (by rw [← z]; exact e)
theorem Keep.free {av : Addr → Prop} {H G : Hp} {b : Addr} (k : Keep av H G) (n : ¬ av b) (h : G b = none) : H b = none := by
  cases e : H b with
  | none => rfl
  | some o =>
    rw [k b o e n] at h
    cases h
theorem Keep.new {av : Addr → Prop} {H G : Hp} {B : Addr} {o : HO} (k : Keep av H G) (h : H B = none) : Keep av H (upd G B o) := fun b u e z => by rw [upd_ne (ne_of_none e h)]; exact k b u e z
def intsT (l : List Int) : Tr := .tup (l.map Tr.int)
/-- the tree of a comparison -/
def cmpT (l : Int) (rows : List (List Int)) (vd : List Int) : Tr := .tup [.int l, .tup (rows.map intsT), intsT vd]
structure IsCmp (l m : Int) (rows : List (List Int)) (vd : List Int) : Prop where
  rl : (rows.length : Int) = m
  rw_ : ∀ r ∈ rows, (r.length : Int) = wide l ∧ ∀ z ∈ r, 0 ≤ z ∧ z < m
  vl : (vd.length : Int) = m
  vv : ∀ z ∈ vd, -1 ≤ z ∧ z ≤ 1
def spComp : Sp := fun vs H Q _ => ∃ (d c : Addr) (n l m : Int), vs = [.ref d, .int l, .int m] ∧ Deck d c n H ∧ n ≤ 10 ^ 8 ∧ 1 ≤ l ∧ l ≤ 3 ∧ 1 ≤ m ∧ m ≤ 60 ∧
  ∀ v G n2 rows vd, Deck d c n2 G → n2 ≤ n + 2000 → Keep (dk d c) H G → Dat (dk d c) G v (cmpT l rows vd) → IsCmp l m rows vd → Q v G
theorem datA_ints {av : Addr → Prop} {H : Hp} : ∀ l : List Int, DatA av H (l.map V.int) (l.map Tr.int)
  | [] => .nil
  | z :: l => .cons (.int z) (datA_ints l)
theorem wide_le {l : Int} (h1 : 1 ≤ l) (h3 : l ≤ 3) : wide l ≤ 15 ∧ 3 ≤ wide l := by
  rcases (by omega : l = 1 ∨ l = 2 ∨ l = 3) with rfl | rfl | rfl <;> decide
end Sk


set_option Elab.async false
set_option linter.all false
set_option maxRecDepth 100000
set_option maxHeartbeats 4000000
/-! texts: s.ljust(n, sign), s * n, zip of two texts -/
namespace Sk
open PySem PySem.Spec PyProof.Rows L2
section
variable {X : Cx}
theorem mt_ljustF : MtR X "str.ljust" (fun x xs H Q => ∃ (a f : Str) (i : Int), x = .str a ∧ xs = [.int i, .str f] ∧ PadOk i = true ∧ f.length = 1 ∧ Q (.str (Txt.ljustF a i (f.cps.getD 0 0))) H) := by
  intro pins s σ H x xs v us Q I rx rxs h
  obtain ⟨a, f, i, rfl, rfl, hp, hf, q⟩ := h
  obtain ⟨t, rfl⟩ := rx
  obtain ⟨u1, u2, rfl, r1, r2⟩ := vals2 rxs
  obtain ⟨t1, rfl⟩ := r1
  obtain ⟨t2, rfl⟩ := r2
  exact ljust_fill hp hf fun t3 k => ⟨.str _, H, I.tok _, ⟨_, rfl⟩, q⟩
theorem fold_rep (a : Array Nat) : ∀ (k : Nat) (b : Array Nat), ((List.replicate k a).foldl (· ++ ·) b).toList = b.toList ++ (List.replicate k a.toList).flatten
  | 0, b => by simp
  | k + 1, b => by
    rw [List.replicate_succ, List.foldl_cons, fold_rep a k (b ++ a), List.replicate_succ, List.flatten_cons]
    simp
theorem flat_rep_len (l : List Nat) : ∀ k : Nat, (List.replicate k l).flatten.length = k * l.length
  | 0 => by simp
  | k + 1 => by rw [List.replicate_succ, List.flatten_cons, List.length_append, flat_rep_len l k, Nat.succ_mul, Nat.add_comm]
def repS (z : Str) (n : Int) : Str := if (z.length == 0) = true then z else ⟨(List.replicate n.toNat z.cps).foldl (· ++ ·) #[]⟩
theorem op_mulS : OpR X (binaryOp .Mult) (fun x y H Q => ∃ (z : Str) (n : Int), x = .str z ∧ y = .int n ∧ 2 ≤ n ∧ n ≤ 1000 ∧ z.length ≤ 1000 ∧ Q (.str (repS z n)) H) := by
  intro pins s σ H x y v u Q I rx ry h
  obtain ⟨z, n, rfl, rfl, n2, n9, z9, q⟩ := h
  obtain ⟨t, rfl⟩ := rx
  obtain ⟨t2, rfl⟩ := ry
  have n1 : ¬ n < 1 := by omega
  have ne1 : (n == 1) = false := by
    rw [beq_eq_false_iff_ne]
    omega
  refine PySem.P.mul_str ?_ (fun _ _ => ?_) (fun _ _ => ?_) ?_
  · rw [decide_eq_false (by omega), decide_eq_false (by omega)]
    rfl
  · have : (1000 : Int) ≤ (2 ^ 63 - 1) / n := by
      have h1 : (2 ^ 63 - 1) / 1000 ≤ (2 ^ 63 - 1) / n := by
        have h2 : (1000 : Int) * ((2 ^ 63 - 1) / 1000) ≤ 2 ^ 63 - 1 := by decide
        refine Int.le_ediv_of_mul_le (by omega) (Int.le_trans ?_ h2)
        rw [Int.mul_comm]
        exact Int.mul_le_mul_of_nonneg_right n9 (by decide)
      exact Int.le_trans (by decide) h1
    omega
  · have h1 : z.length * n.toNat ≤ 1000 * 1000 := Nat.mul_le_mul z9 (by omega)
    unfold Builtin.Str.tooLong
    refine decide_eq_false ?_
    exact Nat.not_lt.mpr (Nat.le_trans h1 (by decide))
  · rw [if_neg n1, ne1, Bool.false_or]
    unfold repS at q
    by_cases h0 : (z.length == 0) = true
    · rw [if_pos h0] at q ⊢
      exact ⟨.str z, H, I, ⟨t, rfl⟩, q⟩
    · rw [if_neg h0] at q ⊢
      refine ⟨?_, ⟨.str _, H, I.tok _, ⟨_, rfl⟩, q⟩⟩
      show ((List.replicate n.toNat z.cps).foldl (· ++ ·) #[]).size ≤ sizeLine
      rw [← Array.length_toList, fold_rep, List.length_append, flat_rep_len]
      have h1 : n.toNat * z.cps.toList.length ≤ 1000 * 1000 := Nat.mul_le_mul (by omega) (by rw [Array.length_toList]; exact z9)
      exact Nat.le_trans (by simpa using h1) (by decide)
end
/-- the signs of z * n -/
theorem repS_list {z : Str} {n : Int} (h : 1 ≤ n) : ∃ k : Nat, (repS z n).cps.toList = (List.replicate k z.cps.toList).flatten ∧ k ≤ n.toNat := by
  unfold repS
  by_cases h0 : (z.length == 0) = true
  · rw [if_pos h0]
    exact ⟨1, by simp, by omega⟩
  · rw [if_neg h0]
    refine ⟨n.toNat, ?_, Nat.le_refl _⟩
    show ((List.replicate n.toNat z.cps).foldl (· ++ ·) #[]).toList = _
    rw [fold_rep]
    simp
/-! zip of two texts -/
def Itzs (x y : Str) : It :=
  ⟨fun i _ => i < min x.cps.size y.cps.size, fun i H v G => ∃ T c e, v = .ref T ∧ H T = none ∧ G = upd H T (.tup [.str ⟨#[c]⟩, .str ⟨#[e]⟩]) ∧ x.cps[i]? = some c ∧ y.cps[i]? = some e, fun i _ => i = min x.cps.size y.cps.size⟩
theorem turn_zipS {P : Program} {w : World} {K : PySem.W.Frag} {elts : List Expr} {kk : Nat} {tpos : Pos} {x y : Str} {t u : Tok} {z TI TO i1 i2 : Addr} (S : ZipSep2 z TI TO i1 i2 [i1] [i2]) :
    Turn P w K (.Tuple elts kk tpos) (Itzs x y) [z, TI, TO, i1, i2] z (fun i h => i ≤ min x.cps.size y.cps.size ∧ IsZip h z TI TO .none ∧ IsTupOf2 h TI (.ref i1) (.ref i2) ∧ (∃ a b, IsTupOf2 h TO a b) ∧ h.IsStrIter i1 (strIterType x) x t i ∧ h.IsStrIter i2 (strIterType y) y u i) where
  mem := by simp
  obj := fun i h st c hc => by
    obtain ⟨_, hz, hTI, ⟨a, b, hTO⟩, ⟨o1, e1, _, d1⟩, ⟨o2, e2, _, d2⟩⟩ := st
    rcases (show c = z ∨ c = TI ∨ c = TO ∨ c = i1 ∨ c = i2 by simpa using hc) with q | q | q | q | q
    · rw [q]; exact ⟨_, hz, fun v q => nomatch q⟩
    · rw [q]; exact ⟨_, hTI, fun v q => nomatch q⟩
    · rw [q]; exact ⟨_, hTO, fun v q => nomatch q⟩
    · rw [q]; exact ⟨o1, e1, fun v q => by rw [d1] at q; cases q⟩
    · rw [q]; exact ⟨o2, e2, fun v q => by rw [d2] at q; cases q⟩
  keep := fun i h h2 st k => by
    obtain ⟨il, hz, hTI, ⟨a, b, hTO⟩, ⟨o1, e1, r1⟩, ⟨o2, e2, r2⟩⟩ := st
    exact ⟨il, k z (by simp) _ hz, k TI (by simp) _ hTI, ⟨a, b, k TO (by simp) _ hTO⟩, ⟨o1, k i1 (by simp) _ e1, r1⟩, ⟨o2, k i2 (by simp) _ e2, r2⟩⟩
  item := by
    intro X hP hw hK hc i pins s σ H E I hf st hg
    subst hP hw hK
    obtain ⟨_, hz, hTI, ⟨a, b, hTO⟩, h1, h2⟩ := st
    have hlt : i < min x.cps.size y.cps.size := hg
    have zl : z < s.heap.objs.size := Heap.lt_size hz
    refine wpAny_pyNext_zipD2_item S (Draws.text (A := X.A.in1) (I.ok.hd hc) i1 x t) (Draws.text (A := X.A.in1) (I.ok.hd hc) i2 y u) hz hTI hTO h1 h2 (by omega) (by omega) fun v1 v2 h3 tk p1 p2 z1 o1 s1 s2 hT hsz kept => ?_
    obtain ⟨c, tc, hc1, rfl⟩ := p1
    obtain ⟨e, te, he1, rfl⟩ := p2
    refine ⟨_, rfl, wpAny_letOwnedTupleGo_zip (s := { s with heap := h3, toks := tk }) z1 fun h4 z4 sb => ?_⟩
    have hT2 : h4.get? s.heap.objs.size = some { cls := .type "tuple", data := .seq #[.str ⟨#[c]⟩ tc, .str ⟨#[e]⟩ te] } := (sb.2 _ (Nat.ne_of_gt zl)).trans hT
    have new : ObjOk X.prog X.w (upd H s.heap.objs.size (.tup [.str ⟨#[c]⟩, .str ⟨#[e]⟩])) h4 s.heap.objs.size (.tup [.str ⟨#[c]⟩, .str ⟨#[e]⟩]) :=
      ⟨by show 2 ≤ sizeLine; decide, [.str ⟨#[c]⟩ tc, .str ⟨#[e]⟩ te], .cons ⟨_, rfl⟩ (.cons ⟨_, rfl⟩ .nil), ⟨_, hT2, rfl, _, rfl⟩⟩
    have J : Inv X pins σ (upd H s.heap.objs.size (.tup [.str ⟨#[c]⟩, .str ⟨#[e]⟩])) { s with heap := h4, toks := tk } :=
      I.turnedNew (ch := [z, TI, TO, i1, i2]) (fun b ob hb q => (sb.2 b (fun z => hb (by simp [z]))).trans (kept b ob (fun z => hb (by simp [z])) (fun z => hb (by simp [z])) (fun z => hb (by simp [z])) (fun z => hb (by simp [z])) q)) hf (Nat.le_refl _) new
    have keep4 : ∀ b o, b ≠ z → b ≠ TO → b ≠ i1 → b ≠ i2 → s.heap.get? b = some o → h4.get? b = some o := fun b o n1 n2 n3 n4 q => (sb.2 b n1).trans (kept b o n1 n2 n3 n4 q)
    have ss1 : h4.IsStrIter i1 (strIterType x) x t (i + 1) := by
      obtain ⟨o, q, r⟩ := s1
      exact ⟨o, (sb.2 i1 (Ne.symm S.zi1)).trans q, r⟩
    have ss2 : h4.IsStrIter i2 (strIterType y) y u (i + 1) := by
      obtain ⟨o, q, r⟩ := s2
      exact ⟨o, (sb.2 i2 (Ne.symm S.zi2)).trans q, r⟩
    refine ⟨.ref s.heap.objs.size, _, J, rfl, ⟨_, c, e, rfl, I.hok.fresh (Nat.le_refl _), rfl, hc1, he1⟩, ⟨hlt, z4, ?_, ⟨_, _, (sb.2 _ S.TOz).trans o1⟩, ss1, ss2⟩, fun b hb => ?_⟩
    · have n2 : TI ≠ i2 := S.TIi2
      exact keep4 _ _ S.TIz S.TITO S.TIi1 n2 hTI
    · have lb : b < s.heap.objs.size := by
        rcases (show b = z ∨ b = TI ∨ b = TO ∨ b = i1 ∨ b = i2 by simpa using hb) with q | q | q | q | q
        · rw [q]; exact zl
        · rw [q]; exact Heap.lt_size hTI
        · rw [q]; exact Heap.lt_size hTO
        · rw [q]; obtain ⟨_, e1, _⟩ := h1; exact Heap.lt_size e1
        · rw [q]; obtain ⟨_, e2, _⟩ := h2; exact Heap.lt_size e2
      rw [upd_ne (Nat.ne_of_lt lb)]
      exact (hf b hb).1
  done := by
    intro X hP hw hK hc i pins s σ H E I hf st hg
    subst hP hw hK
    obtain ⟨_, hz, hTI, ⟨a, b, hTO⟩, h1, h2⟩ := st
    have he : i = min x.cps.size y.cps.size := hg
    exact wpAny_pyNext_zipD2_end S (Draws.text (A := X.A.in1) (I.ok.hd hc) i1 x t) (Draws.text (A := X.A.in1) (I.ok.hd hc) i2 y u) hz hTI hTO h1 h2 (by omega) (by omega) (by omega) fun h3 tk kept => ⟨rfl, I.turnedL (t' := tk) (ch := [z, TI, TO, i1, i2]) (fun c o hb q =>
      kept c o (fun q' => hb (by simp [q'])) (fun q' => hb (by simp [q'])) (fun q' => hb (by simp [q'])) (fun q' => hb (by simp [q'])) q) hf⟩
  self := fun A i s Q E st h => wpAny_pyIter_zip st.2.1 h
def iZipS (ta : TA) : TI := fun σ H R => ta σ H fun vs G => ∃ x y, vs = [.str x, .str y] ∧ R (Itzs x y) G
theorem pi_zipS {X : Cx} {e e2 : Expr} {ta : TA} {p pos tpos : Pos} {elts : List Expr} {kk : Nat} (hg : Gl X "zip") (hm : X.mg "zip" = none) (ha : PA X [e, e2] ta)
    (hs : starEach [e, e2] X.env = (false, eval e X.env) :: starEach [e2] X.env := by rfl) (hpl : (backTo pos (starEach [e2] X.env)).any (·.1) = false := by rfl) :
    PI X (.Tuple elts kk tpos) (.Call (.Name "zip" p) [e, e2] [] pos) (iZipS ta) := by
  refine ⟨fun pins s σ H R I h => Call_ (ld_blt I hg hm PyProof.Rows.boot_zip (PyProof.Rows.callWith_type1 (thn (ha.run pos pins s σ H _ I h) ?_) hs hpl))⟩
  rintro us s1 ⟨vs, G, J, rv, x, y, rfl, q⟩
  obtain ⟨u1, u2, rfl, r1, r2⟩ := vals2 rv
  obtain ⟨t, rfl⟩ := r1
  obtain ⟨u, rfl⟩ := r2
  refine zip_begins2 (begins_text x t) (begins_text y u) trivial trivial fun h3 hz hTI hTO g1 g2 hsz kept => wpAny_pyIter_zip hz ?_
  have S : ZipSep2 (s1.heap.objs.size + 4) (s1.heap.objs.size + 2) (s1.heap.objs.size + 3) s1.heap.objs.size (s1.heap.objs.size + 1) [s1.heap.objs.size] [s1.heap.objs.size + 1] := zip_sep2 (fun b hb => nomatch hb) (fun b hb => nomatch hb)
  refine ⟨_, [s1.heap.objs.size + 4, s1.heap.objs.size + 2, s1.heap.objs.size + 3, s1.heap.objs.size, s1.heap.objs.size + 1], _, _, G, rfl, J.kept (t' := s1.toks) kept, turn_zipS (x := x) (y := y) (t := t) (u := u) S, ⟨Nat.zero_le _, hz, hTI, ⟨_, _, hTO⟩, ⟨_, g1, rfl, rfl⟩, ⟨_, g2, rfl, rfl⟩⟩, fun c hcm => ?_, q⟩
  have lc : s1.heap.objs.size ≤ c := by
    rcases (show c = s1.heap.objs.size + 4 ∨ c = s1.heap.objs.size + 2 ∨ c = s1.heap.objs.size + 3 ∨ c = s1.heap.objs.size ∨ c = s1.heap.objs.size + 1 by simpa using hcm) with q | q | q | q | q
    · rw [q]; exact Nat.le_add_right _ _
    · rw [q]; exact Nat.le_add_right _ _
    · rw [q]; exact Nat.le_add_right _ _
    · rw [q]; exact Nat.le_refl _
    · rw [q]; exact Nat.le_add_right _ _
  exact J.fpOk lc (J.hok.fresh lc)
theorem walk_zipS {x y : Str} : Walk (Itzs x y) (min x.cps.size y.cps.size) (fun _ => True) (fun i H v G => ∃ T c e, v = .ref T ∧ H T = none ∧ G = upd H T (.tup [.str ⟨#[c]⟩, .str ⟨#[e]⟩]) ∧ x.cps[i]? = some c ∧ y.cps[i]? = some e) :=
  ⟨fun _ _ hi _ => hi, fun _ _ => rfl, fun _ _ _ _ _ _ y => y⟩
end Sk


set_option Elab.async false
set_option linter.all false
set_option maxRecDepth 100000
set_option maxHeartbeats 4000000
namespace K36
open PySem PySem.Spec PyProof.Rows L2 Sk
def top (i : Nat) : Stmt := PySem.Challenge.pw_surelyorders_k36_verdicts_of_words.main.body.getD i (.Pass ⟨0, 0, 0, 0⟩)
abbrev sCols : Stmt := top 3
structure Fre (mg : Str → Option Value) : Prop where
  tup : mg "tuple" = none
  int : mg "int" = none
  len : mg "len" = none
  enum : mg "enumerate" = none
  zip : mg "zip" = none
  max : mg "max" = none
  letters : ∃ t, mg "LETTERS" = some (.str "abc" t)
  ende : ∃ t, mg "END" = some (.str "." t)
section
variable {P : Program} {w : World} {K : PySem.W.Frag} {mg : Str → Option Value} {base : Heap}
/-! columns -/
def signsOf (l : Int) : Str := cutS "abc" none (some l) ++ "."
def rowOf (z : Str) (a : Nat) : List Str := z.cps.toList.map fun b => (⟨#[a]⟩ : Str) ++ ⟨#[b]⟩
def pairsOf (z : Str) : List Str := z.cps.toList.flatMap (rowOf z)
def colsOf (l : Int) : List Str := (pairsOf (signsOf l)).dropLast
def spCols : Sp := fun vs H Q _ => ∃ l : Int, vs = [.int l] ∧ 1 ≤ l ∧ l ≤ 3 ∧ ∀ p G, Same H G → H p = none → G p = some (.tup ((colsOf l).map V.str)) → Q (.ref p) G
theorem signs_cases {l : Int} (h1 : 1 ≤ l) (h3 : l ≤ 3) : l = 1 ∨ l = 2 ∨ l = 3 := by omega
theorem signs_len {l : Int} (h1 : 1 ≤ l) (h3 : l ≤ 3) : (signsOf l).cps.size ≤ 4 := by
  rcases signs_cases h1 h3 with rfl | rfl | rfl <;> decide +kernel
theorem cols_len {l : Int} (h1 : 1 ≤ l) (h3 : l ≤ 3) : ((colsOf l).length : Int) = wide l := by
  rcases signs_cases h1 h3 with rfl | rfl | rfl <;> decide +kernel
theorem pairs_len {l : Int} (h1 : 1 ≤ l) (h3 : l ≤ 3) : (pairsOf (signsOf l)).length ≤ 16 := by
  rcases signs_cases h1 h3 with rfl | rfl | rfl <;> decide +kernel
theorem pairs_cut {l : Int} (h1 : 1 ≤ l) (h3 : l ≤ 3) : cutV ((pairsOf (signsOf l)).map V.str) none (some (-1)) = (colsOf l).map V.str := by
  rcases signs_cases h1 h3 with rfl | rfl | rfl <;> decide +kernel
theorem scCols : FnScope ["letters", "signs", "pairs", "first", "second"] ["letters"] (defScope sCols) := ⟨rfl, rfl, rfl, by decide +kernel, rfl, by decide +kernel, by decide +kernel⟩
theorem flat_take {α β : Type} (f : α → List β) (l : List α) (i : Nat) (a : α) (h : l[i]? = some a) : (l.take (i + 1)).flatMap f = (l.take i).flatMap f ++ f a := by
  rw [List.take_add_one, h, List.flatMap_append]
  simp
theorem row_len (z : Str) (a : Nat) : (rowOf z a).length = z.cps.size := by
  unfold rowOf
  rw [List.length_map]
  simp
theorem flat_len (z : Str) : ∀ l : List Nat, (l.flatMap (rowOf z)).length = l.length * z.cps.size
  | [] => by simp
  | a :: l => by rw [List.flatMap_cons, List.length_append, row_len, flat_len z l, List.length_cons, Nat.succ_mul, Nat.add_comm]
theorem ok_cols {f : Addr} {fd : FuncData} (F : Fun K "columns" "columns" sCols f fd) (T : Fre mg) : FnOk P w K mg base CX0 1 f fd ["letters"] spCols := by
  obtain ⟨tL, mL⟩ := T.letters
  obtain ⟨tE, mE⟩ := T.ende
  refine F.ok scCols (fun vs H Q E h => ?_) (fun cdv A outer s H vs Q E hr h => ?_)
  · obtain ⟨l, rfl, _⟩ := h
    rfl
  · obtain ⟨l, rfl, h1, h3, k⟩ := h
    have l4 := signs_len h1 h3
    have l16 := pairs_len h1 h3
    have e4 : (signsOf l).cps.toList.length ≤ 4 := by simpa using l4
    refine ⟨_, pss_cons (ps_set (i := 1) scCols.nd rfl (Or.inr rfl) (pe_op op_add_str (pe_slice sl_str (pe_glob (v := .str "abc") (by rfl) mL ⟨_, rfl⟩) po_none (po_some (pv 0))) (pe_glob (v := .str ".") (by rfl) mE ⟨_, rfl⟩)))
      (pss_cons (ps_setLc2 (i := 2) (own := [("first", 3), ("second", 4)]) (vs1 := [4]) (g := gName 3) (g1 := gName 4) (tt := tYes) (tt1 := tYes) rfl scCols.nd rfl rfl (sw_true rfl rfl rfl (by decide +kernel)) (pi_str (pv 1)) (blkOk_by (N := ["letters", "signs", "pairs", "first", "second"]) (sc := defScope sCols) (by decide +kernel)) (by decide)
        (fun _ _ _ _ _ => pg_name (i := 3) scCols.nd rfl (Or.inl rfl)) (fun _ _ _ _ _ => pts_nil) (fun _ _ _ _ _ => pi_str (pv 1)) (fun _ _ _ _ _ => pg_name (i := 4) scCols.nd rfl (Or.inl rfl)) (fun _ _ _ _ _ => pts_nil)
        (fun _ _ _ _ _ => pe_op op_add_str (pv 3) (pv 4)))
      (pss_one (ps_ret (pe_callTy call_tuple_of (by rfl) T.tup (by decide +kernel) (pa_cons (pe_slice sl_list (pv 2) po_none (po_some (pe_un un_neg pe_int))) pa_nil))))), ?_⟩
    have len3 : (cutS "abc" none (some l)).length ≤ 3 := by
      rcases signs_cases h1 h3 with rfl | rfl | rfl <;> decide +kernel
    refine ⟨_, rfl, l, rfl, _, rfl, (by decide +kernel), _, _, rfl, rfl, Nat.le_trans (Nat.add_le_add_right len3 _) (by decide +kernel), ?_⟩
    show tSeq _ _ _ [some (.int l), some (.str (signsOf l)), none, none, none] H
    generalize hz : signsOf l = z at *
    refine ⟨_, rfl, z, rfl, fun D hD => lc2_out walk_str (fun i G => Same H G ∧ G D = some (.lst (((z.cps.toList.take i).flatMap (rowOf z)).map V.str))) ⟨Sk.Same.upd hD, upd_same⟩ (fun _ _ _ _ => trivial) ?_ ?_⟩
    · rintro i x G G2 hi ⟨sm, gD⟩ ⟨rfl, c, hc, rfl⟩
      refine ⟨rfl, ?_⟩
      refine yesE ?_
      refine ⟨_, rfl, z, rfl, lc2_in walk_str (fun j G => Same H G ∧ G D = some (.lst (((z.cps.toList.take i).flatMap (rowOf z) ++ (rowOf z c).take j).map V.str))) ⟨sm, by simpa using gD⟩ (fun _ _ _ _ => trivial) ?_ ?_⟩
      · rintro j x2 G3 G4 hj ⟨sm3, gD3⟩ ⟨rfl, c2, hc2, rfl⟩
        refine ⟨rfl, yesE ?_⟩
        refine ⟨_, rfl, _, rfl, _, _, rfl, rfl, (by show 1 + 1 ≤ sizeLine; decide), _, gD3, ?_, ?_, ?_⟩
        · rw [List.length_map, List.length_append, flat_len, List.length_take, List.length_take, row_len]
          have a1 : min i z.cps.toList.length * z.cps.size ≤ 4 * 4 := Nat.mul_le_mul (Nat.le_trans (Nat.min_le_right _ _) e4) l4
          have a2 : min j z.cps.size ≤ 4 := Nat.le_trans (Nat.min_le_right _ _) l4
          exact Nat.lt_of_le_of_lt (Nat.add_le_add a1 a2) (by decide)
        · exact fun b o e => by rw [upd_ne (ne_of_none e hD)]; exact sm3 b o e
        · have e1 : (rowOf z c)[j]? = some ((⟨#[c]⟩ : Str) ++ ⟨#[c2]⟩) := by
            unfold rowOf
            rw [List.getElem?_map, show z.cps.toList[j]? = some c2 by simpa using hc2]
            rfl
          rw [upd_same, List.take_add_one, e1, ← List.append_assoc, List.map_append (l₂ := Option.toList _)]
          rfl
      · rintro G3 ⟨sm3, gD3⟩
        refine ⟨sm3, ?_⟩
        have e1 : (rowOf z c).take z.cps.size = rowOf z c := List.take_of_length_le (by rw [row_len]; exact Nat.le_refl _)
        rw [gD3, flat_take (rowOf z) _ _ c (by simpa using hc), e1]
    · rintro G ⟨sm, gD⟩
      have gD2 : G D = some (.lst ((pairsOf z).map V.str)) := by
        rw [gD, show z.cps.size = z.cps.toList.length by simp, List.take_length]
        rfl
      refine ⟨_, rfl, 1, rfl, _, rfl, D, _, rfl, SqL.of gD2, fun q hq => ⟨q, _, rfl, .inl ⟨SqL.of upd_same, fun r hr2 => ?_⟩⟩⟩
      have s2 : Same H (upd (upd G q (.lst (cutV ((pairsOf z).map V.str) none (some (-1))))) r (.tup (cutV ((pairsOf z).map V.str) none (some (-1))))) := (sm.trans (Sk.Same.upd hq)).trans (Sk.Same.upd hr2)
      refine k r _ s2 ((sm.trans (Sk.Same.upd hq)).free hr2) ?_
      rw [upd_same, ← hz, pairs_cut h1 h3]
end
abbrev sDeck : Stmt := top 7
abbrev sDraw : Stmt := top 8
abbrev sOne : Stmt := top 9
structure Fre2 (mg : Str → Option Value) : Prop where
  abs : mg "abs" = none
  range : mg "range" = none
  repr : mg "repr" = none
section
variable {P : Program} {w : World} {K : PySem.W.Frag} {mg : Str → Option Value} {base : Heap}
theorem scDeck : FnScope ["_law_script", "_law_cell"] ["_law_script"] (defScope sDeck) := ⟨rfl, rfl, rfl, by decide +kernel, rfl, by decide +kernel, by decide +kernel⟩
theorem ok_deck {f : Addr} {fd : FuncData} (F : Fun K "_law_deck" "_law_deck" sDeck f fd) (T : Fre mg) (U : Fre2 mg) : FnOk P w K mg base CX0 1 f fd ["_law_script"] (spDeck K) := by
  refine F.ok scDeck (fun vs H Q E h => ?_) (fun cdv A outer s H vs Q E hr h => ?_)
  · obtain ⟨a, ns, rfl, _⟩ := h
    rfl
  · obtain ⟨a, ns, rfl, hs, hl, k⟩ := h
    refine ⟨_, pss_one (ps_ret (pe_lst (pa_cons (pe_lc (own := [("_law_cell", 1)]) (g := gName 1) (tt := tYes) rfl scDeck.nd (pi_list (pe_slice sl_list (pv 0) po_none (po_some pe_int))) (blkOk_by (N := ["_law_script", "_law_cell"]) (sc := defScope sDeck) (by decide +kernel))
      (fun _ _ _ _ _ => pg_name (i := 1) scDeck.nd rfl (Or.inl rfl)) (fun _ _ _ _ _ => pts_nil) (fun _ _ _ _ _ => pe_callB call_abs (by rfl) U.abs (by decide +kernel) (pa_cons (pv 1) pa_nil))) (pa_cons pe_int pa_nil)))), ?_⟩
    refine ⟨_, rfl, 63, rfl, a, _, rfl, hs, fun p hp => ?_⟩
    have ec : cutV (ns.map V.int) none (some 63) = ns.map V.int := by
      unfold cutV
      rw [HT.sIx_none, List.drop_zero, List.length_map, show (63 : Int) = ((63 : Nat) : Int) from rfl, HT.sIx_nat, List.take_of_length_le]
      rw [List.length_map]
      omega
    rw [ec]
    have s1 : Same H (upd H p (.lst (ns.map V.int))) := Sk.Same.upd hp
    refine ⟨p, rfl, ⟨_, SqL.of upd_same⟩, fun c hc => lc_list (K := K) (a := p) (xs := ns.map V.int) (fun i G => Same H G ∧ G p = some (.lst (ns.map V.int)) ∧ G c = some (.lst ((ns.take i).map fun z => V.int (if z < 0 then -z else z))))
      ⟨s1.trans (Sk.Same.upd hc), by rw [upd_ne (ne_of_none upd_same hc)]; exact upd_same, upd_same⟩ (fun i G _ h => SqL.of h.2.1) ?_ ?_⟩
    · rintro i x G hx ⟨sm, gp, gc⟩
      rw [List.getElem?_map] at hx
      obtain ⟨z, hz, rfl⟩ := Option.map_eq_some_iff.mp hx
      have il := (List.getElem?_eq_some_iff.mp hz).1
      refine ⟨rfl, yesE ⟨_, rfl, z, rfl, _, gc, ?_, ?_, ?_, ?_⟩⟩
      · rw [List.length_map, List.length_take]
        exact Nat.lt_of_lt_of_le (Nat.lt_of_le_of_lt (Nat.min_le_left _ _) il) (Nat.le_trans hl (by decide))
      · have hcH : H c = none := s1.free hc
        exact fun b o e => by rw [upd_ne (ne_of_none e hcH)]; exact sm b o e
      · rw [upd_ne (ne_of_none (upd_same (H := H) (a := p) (o := .lst (ns.map V.int))) hc)]
        exact gp
      · rw [upd_same, List.take_add_one, hz, List.map_append]
        rfl
    · rintro G ⟨sm, gp, gc⟩
      refine ⟨by show 2 ≤ sizeLine; decide, fun d hd => ?_⟩
      have hcd : c ≠ d := ne_of_none gc hd
      refine k d c _ (sm.trans (Sk.Same.upd hd)) (sm.free hd) (s1.free hc) ⟨upd_same, by decide, ns.map (fun z => if z < 0 then -z else z), ?_, ?_, ?_⟩
      · rw [upd_ne hcd, gc, List.length_map, List.take_length, List.map_map]
        rfl
      · rw [List.length_map]
        exact hl
      · intro z hz
        obtain ⟨y, _, rfl⟩ := List.mem_map.mp hz
        split <;> omega
theorem scDraw : FnScope ["_law_deck_here", "_law_most", "_law_cell", "_law_at", "_law_mixed"] ["_law_deck_here", "_law_most"] (defScope sDraw) := ⟨rfl, rfl, rfl, by decide +kernel, rfl, by decide +kernel, by decide +kernel⟩
theorem ok_draw {f : Addr} {fd : FuncData} (F : Fun K "_law_draw" "_law_draw" sDraw f fd) (T : Fre mg) : FnOk P w K mg base CX0 1 f fd ["_law_deck_here", "_law_most"] spDraw := by
  refine F.ok scDraw (fun vs H Q E h => ?_) (fun cdv A outer s H vs Q E hr h => ?_)
  · obtain ⟨d, c, n, m, rfl, _⟩ := h
    rfl
  · obtain ⟨d, c, n, m, rfl, D, n9, m1, m9, k⟩ := h
    refine ⟨_, pss_cons (ps_asg (pe_op op_add (pe_ix ix_list (pv 0) pe_int (fun _ _ => rfl)) pe_int) (pg_sub (pv 0) pe_int set_list))
      (pss_cons (ps_asg (pe_tup (pa_cons pe_int (pa_cons (pe_un un_neg pe_int) pa_nil))) (pg_tup rfl (pgs_cons (pg_name (i := 2) scDraw.nd rfl (.inl rfl)) (pgs_cons (pg_name (i := 3) scDraw.nd rfl (.inl rfl)) pgs_nil))))
      (C8.pss_cut (ps_if (pt_cmpR op_gt (pe_callB call_len_seq (by rfl) T.len PySem.boot_len (pa_cons (pe_ix ix_list (pv 0) pe_int (fun _ _ => rfl)) pa_nil)) pe_int (nomark _))
        (pss_cons (ps_set (i := 3) scDraw.nd rfl (Or.inl rfl) (pe_op op_mod (pe_callTy call_int1 (by rfl) T.int (by decide +kernel) (pa_cons (pe_ix ix_list (pv 0) pe_int (fun _ _ => rfl)) pa_nil)) (pe_callB call_len_seq (by rfl) T.len PySem.boot_len (pa_cons (pe_ix ix_list (pv 0) pe_int (fun _ _ => rfl)) pa_nil))))
        (pss_one (ps_set (i := 2) scDraw.nd rfl (Or.inl rfl) (pe_ix ix_list (pe_ix ix_list (pv 0) pe_int (fun _ _ => rfl)) (pv 3) (fun _ _ => rfl))))) pss_nil)
      (pss_cons (ps_if (pt_cmpR op_ge (pv 2) (pe_op op_pow pe_int pe_int) (nomark _))
        (pss_cons (ps_asg (pe_op op_fdivW (pe_callTy call_int1 (by rfl) T.int (by decide +kernel) (pa_cons (pv 2) pa_nil)) (pv 1)) (pg_sub (pe_ix ix_list (pv 0) pe_int (fun _ _ => rfl)) (pv 3) set_list))
        (pss_one (ps_ret (pe_op op_mod (pe_callTy call_int1 (by rfl) T.int (by decide +kernel) (pa_cons (pv 2) pa_nil)) (pv 1))))) pss_nil)
      (pss_cons (ps_set (i := 4) scDraw.nd rfl (Or.inl rfl) (pe_op op_add (pe_op op_add (pe_op op_mod (pe_callTy call_int1 (by rfl) T.int (by decide +kernel) (pa_cons (pv 2) pa_nil)) pe_int) (pe_op op_mul pe_int (pe_ix ix_list (pv 0) pe_int (fun _ _ => rfl)))) pe_int))
      (pss_one (ps_ret (pe_op op_mod (pe_callTy call_int1 (by rfl) T.int (by decide +kernel) (pa_cons (pe_op op_mod (pe_callTy call_int1 (by rfl) T.int (by decide +kernel) (pa_cons (pe_op op_pow (pv 4) pe_int) pa_nil)) pe_int) pa_nil)) (pv 1)))))))), ?_⟩
    obtain ⟨ns, hc, nl, nz⟩ := D.cells
    have ne := D.ne
    refine ⟨_, rfl, d, _, 1, .int n, rfl, rfl, SqL.of D.ob, rfl, _, _, rfl, rfl, _, rfl, d, _, 1, 1, rfl, rfl, D.ob, rfl, ?_⟩
    have D1 : Deck d c (n + 1) (upd H d (.lst [.ref c, .int (n + 1)])) := ⟨upd_same, by have := D.n0; omega, ns, by rw [upd_ne ne.symm]; exact hc, nl, nz⟩
    have K1 : Keep (dk d c) H (upd H d (.lst [.ref c, .int (n + 1)])) := fun b o e z => by rw [upd_ne fun q => z (.inl q)]; exact e
    refine ⟨1, rfl, (by show 2 ≤ sizeLine; decide), fun p hp => ⟨p, [.int 0, .int (-1)], rfl, SqT.of upd_same, rfl, _, _, rfl, _, _, rfl, rfl, ?_⟩⟩
    replace hp : (upd H d (.lst [.ref c, .int (n + 1)])) p = none := hp
    have D2 : Deck d c (n + 1) (upd (upd H d (.lst [.ref c, .int (n + 1)])) p (.tup [.int 0, .int (-1)])) := D1.keep (Sk.Same.upd hp)
    have K2 : Keep (dk d c) H (upd (upd H d (.lst [.ref c, .int (n + 1)])) p (.tup [.int 0, .int (-1)])) := K1.trans (.of (Sk.Same.upd hp))
    have hc2 : (upd (upd H d (.lst [.ref c, .int (n + 1)])) p (.tup [.int 0, .int (-1)])) c = some (.lst (ns.map V.int)) := Sk.Same.upd hp _ _ (by rw [upd_ne ne.symm]; exact hc)
    show C8.tCut _ _ _ [some (.ref d), some (.int m), some (.int 0), some (.int (-1)), none] (upd (upd H d (.lst [.ref c, .int (n + 1)])) p (.tup [.int 0, .int (-1)]))
    generalize (upd (upd H d (.lst [.ref c, .int (n + 1)])) p (.tup [.int 0, .int (-1)])) = G at *
    refine ⟨fun σ F => F = G ∧ ∃ x y : Int, σ = [some (.ref d), some (.int m), some (.int x), some (.int y), none] ∧ 0 ≤ x ∧ (x = 0 ∨ (0 ≤ y ∧ y < ns.length)), ?_, ?_⟩
    · refine ⟨_, rfl, d, _, 0, .ref c, rfl, rfl, SqL.of D2.ob, rfl, c, _, rfl, .inl (SqL.of hc2), _, _, rfl, rfl, _, rfl, ?_⟩
      refine ite2 (fun h => ?_) (fun h => ?_)
      · have pos : 0 < (ns.length : Int) := by
          have := of_decide_eq_true h
          rwa [List.length_map] at this
        refine ⟨_, rfl, d, _, 1, .int (n + 1), rfl, rfl, SqL.of D2.ob, rfl, .inl ⟨_, rfl, _, rfl, d, _, 0, .ref c, rfl, rfl, SqL.of D2.ob, rfl, c, _, rfl, .inl (SqL.of hc2), _, _, rfl, rfl, (by rw [List.length_map]; exact pos), ?_⟩⟩
        have y0 := Int.emod_nonneg (n + 1) (by omega : (ns.length : Int) ≠ 0)
        have y1 := Int.emod_lt_of_pos (n + 1) pos
        obtain ⟨v, hv, hm⟩ := atI_some (xs := ns.map V.int) y0 (by rw [List.length_map]; exact y1)
        obtain ⟨z, hz, rfl⟩ := List.mem_map.mp hm
        rw [List.length_map]
        refine ⟨_, rfl, d, _, 0, .ref c, rfl, rfl, SqL.of D2.ob, rfl, _, rfl, c, _, _, _, rfl, rfl, SqL.of hc2, hv, ?_⟩
        exact ⟨rfl, z, _, rfl, nz z hz, .inr ⟨y0, y1⟩⟩
      · exact ⟨rfl, 0, -1, rfl, by decide, .inl rfl⟩
    · rintro σ F ⟨rfl, x, y, rfl, x0, hy⟩
      have n0 : 0 ≤ n := D.n0
      refine ⟨_, rfl, 10, 18, rfl, rfl, ⟨by decide, by decide, by decide⟩, _, _, rfl, rfl, _, rfl, ?_⟩
      refine ite2 (fun h => ?_) (fun _ => ?_)
      · have hb := of_decide_eq_true h
        obtain ⟨y0, y1⟩ : 0 ≤ y ∧ y < ns.length := hy.resolve_left fun e => by
          rw [e] at hb
          exact absurd hb (by decide)
        refine ⟨_, rfl, .inl ⟨x, rfl, _, rfl, x, m, rfl, rfl, wide_div (b := 64) (by omega) (by omega) (by decide) (by decide), _, rfl, d, _, 0, .ref c, rfl, rfl, SqL.of D2.ob, rfl, _, rfl, c, _, y, y.toNat, rfl, rfl, hc2, ixN_some y0 (by rw [List.length_map]; exact y1), ?_⟩⟩
        refine ⟨_, rfl, .inl ⟨x, rfl, _, rfl, _, _, rfl, rfl, (by show (0 : Int) < m; omega), k _ _ (Int.emod_nonneg _ (by omega)) (Int.emod_lt_of_pos _ (by omega)) ⟨by rw [upd_ne ne]; exact D2.ob, D2.n0, ns.set y.toNat (x / m), ?_, ?_, ?_⟩ ?_⟩⟩
        · rw [upd_same, List.map_set]
        · rw [List.length_set]
          exact nl
        · intro z hz
          rcases List.mem_or_eq_of_mem_set hz with e | e
          · exact nz z e
          · rw [e]
            exact Int.ediv_nonneg x0 (by omega)
        · exact fun b o e z => by rw [upd_ne fun q => z (.inr q)]; exact K2 b o e z
      · have a0 := Int.emod_nonneg x (by decide : (2147483249 : Int) ≠ 0)
        have a1 := Int.emod_lt_of_pos x (by decide : (0 : Int) < 2147483249)
        refine ⟨_, rfl, .inl ⟨x, rfl, _, _, rfl, rfl, (by show (0 : Int) < 2147483249; decide), _, rfl, d, _, 1, .int (n + 1), rfl, rfl, SqL.of D2.ob, rfl, 5003, n + 1, rfl, rfl, .inl ⟨by decide, by decide⟩, _, _, rfl, rfl, _, _, rfl, rfl, ?_⟩⟩
        refine ⟨_, rfl, _, 5, rfl, rfl, ⟨by decide, by decide, (by omega)⟩, .inl ⟨_, rfl, _, _, rfl, rfl, (by show (0 : Int) < 2147483477; decide), .inl ⟨_, rfl, _, rfl, _, _, rfl, rfl, (by show (0 : Int) < m; omega), ?_⟩⟩⟩
        exact k _ _ (Int.emod_nonneg _ (by omega)) (Int.emod_lt_of_pos _ (by omega)) D2 K2
theorem scOne : FnScope ["_law_deck_here", "_law_items"] ["_law_deck_here", "_law_items"] (defScope sOne) := ⟨rfl, rfl, rfl, by decide +kernel, rfl, by decide +kernel, by decide +kernel⟩
/-- one of a list, or one sign of a text -/
def spOneG : Sp := fun vs H Q _ => ∃ (d c : Addr) (n : Int) (u : V), vs = [.ref d, u] ∧ Deck d c n H ∧ n ≤ 10 ^ 9 ∧
  ((∃ (a : Addr) (xs : List V), u = .ref a ∧ H a = some (.lst xs) ∧ ¬ dk d c a ∧ xs ≠ [] ∧ xs.length ≤ 1000 ∧ ∀ x G, x ∈ xs → Deck d c (n + 1) G → Keep (dk d c) H G → Q x G) ∨
   ∃ z : Str, u = .str z ∧ 0 < z.length ∧ z.length ≤ 1000 ∧ ∀ e G, e ∈ z.cps.toList → Deck d c (n + 1) G → Keep (dk d c) H G → Q (.str ⟨#[e]⟩) G)
theorem ok_oneG {f : Addr} {fd : FuncData} (F : Fun K "_law_one" "_law_one" sOne f fd) (T : Fre mg) (CD : Callee P w K mg base 1 "_law_draw" ["_law_deck_here", "_law_most"] spDraw) : FnOk P w K mg base CX0 2 f fd ["_law_deck_here", "_law_items"] spOneG := by
  obtain ⟨fD, fdD, GD, mD, kD, bD⟩ := CD
  refine F.ok scOne (fun vs H Q E h => ?_) (fun cdv A outer s H vs Q E hr h => ?_)
  · obtain ⟨d, c, n, u, rfl, _⟩ := h
    rfl
  · obtain ⟨d, c, n, u, rfl, D, n9, h⟩ := h
    refine ⟨_, pss_one (ps_ret (pe_ix ix_seq (pv 1) (pe_call GD hr (by rfl) mD kD bD .nil pass0 (pa_cons (pv 0) (pa_cons (pe_callB call_len (by rfl) T.len PySem.boot_len (pa_cons (pv 1) pa_nil)) pa_nil))) (fun _ _ => rfl))), ?_⟩
    rcases h with ⟨a, xs, rfl, ha, na, ne, l1, k⟩ | ⟨z, rfl, z0, z1, k⟩
    · have pos : 0 < xs.length := List.length_pos_iff.mpr ne
      refine ⟨_, rfl, _, rfl, _, rfl, .ref a, xs.length, rfl, .inl ⟨xs, SqL.of ha, rfl⟩, d, c, n, _, rfl, D, n9, (by omega), (by omega), fun j G j0 j1 D2 kp => ?_⟩
      obtain ⟨v, hv, hm⟩ := atI_some (xs := xs) j0 j1
      exact .inl ⟨a, xs, j, v, rfl, rfl, SqL.of (kp a _ ha na), hv, k v G hm D2 kp⟩
    · have line : z.length ≤ sizeLine := Nat.le_trans z1 (by decide)
      refine ⟨_, rfl, _, rfl, _, rfl, .str z, z.length, rfl, ⟨line, rfl⟩, d, c, n, _, rfl, D, n9, (by omega), (by omega), fun j G j0 j1 D2 kp => ?_⟩
      obtain ⟨e, he, hm⟩ := atI_some (xs := z.cps.toList) j0 (by rw [Array.length_toList]; exact j1)
      exact .inr (.inr ⟨z, j, e, rfl, rfl, line, he, k e G hm D2 kp⟩)
theorem ok_one {f : Addr} {fd : FuncData} (F : Fun K "_law_one" "_law_one" sOne f fd) (T : Fre mg) (CD : Callee P w K mg base 1 "_law_draw" ["_law_deck_here", "_law_most"] spDraw) : FnOk P w K mg base CX0 2 f fd ["_law_deck_here", "_law_items"] (spOne K) :=
  (ok_oneG F T CD).imp fun vs H Q E h => by
    obtain ⟨d, c, a, n, xs, rfl, D, n9, ha, na, ne, l1, k⟩ := h
    exact ⟨d, c, n, .ref a, rfl, D, n9, .inl ⟨a, xs, rfl, ha, na, ne, l1, k⟩⟩
abbrev sLCols : Stmt := top 10
def spLCols : Sp := fun vs H Q _ => ∃ l : Int, vs = [.int l] ∧ 1 ≤ l ∧ l ≤ 3 ∧ ∀ p G, Same H G → H p = none → G p = some (.lst ((colsOf l).map V.str)) → Q (.ref p) G
theorem scLCols : FnScope ["_law_letters", "_law_signs", "_law_found", "_law_one_here", "_law_other"] ["_law_letters"] (defScope sLCols) := ⟨rfl, rfl, rfl, by decide +kernel, rfl, by decide +kernel, by decide +kernel⟩
theorem ok_lcols {f : Addr} {fd : FuncData} (F : Fun K "_law_columns" "_law_columns" sLCols f fd) : FnOk P w K mg base CX0 1 f fd ["_law_letters"] spLCols := by
  refine F.ok scLCols (fun vs H Q E h => ?_) (fun cdv A outer s H vs Q E hr h => ?_)
  · obtain ⟨l, rfl, _⟩ := h
    rfl
  · obtain ⟨l, rfl, h1, h3, k⟩ := h
    have l4 := signs_len h1 h3
    have e4 : (signsOf l).cps.toList.length ≤ 4 := by simpa using l4
    refine ⟨_, pss_cons (ps_par (i := 1) (j := 2) (by rfl) scLCols.nd rfl rfl (by decide) rfl rfl (pa_cons (pe_op op_add_str (pe_slice sl_str pe_str po_none (po_some (pv 0))) pe_str) (pa_cons (pe_lst pa_nil) pa_nil)) (by rfl))
      (pss_cons (ps_for PassesOwn.never rfl (pi_str (pv 1)) (pg_name (i := 3) scLCols.nd rfl (Or.inr rfl))
        (pss_one (ps_expr (pe_bm PySem.F.plainAttrs_list PySem.F.slot_list_extend PySem.F.type_list_extend mt_extend (pv 2)
          (pa_cons (pe_lc (own := [("_law_other", 4)]) (g := gName 4) (tt := tYes) rfl scLCols.nd (pi_str (pv 1)) (blkOk_by (N := ["_law_letters", "_law_signs", "_law_found", "_law_one_here", "_law_other"]) (sc := defScope sLCols) (by decide +kernel))
            (fun _ _ _ _ _ => pg_name (i := 4) scLCols.nd rfl (Or.inl rfl)) (fun _ _ _ _ _ => pts_nil) (fun _ _ _ _ _ => pe_op op_add_str (pv 3) (pv 4))) pa_nil)))))
      (pss_one (ps_ret (pe_slice sl_list (pv 2) po_none (po_some (pe_un un_neg pe_int)))))), ?_⟩
    have len3 : (cutS "abc" none (some l)).length ≤ 3 := by
      rcases signs_cases h1 h3 with rfl | rfl | rfl <;> decide +kernel
    refine ⟨_, rfl, l, rfl, _, rfl, (by decide +kernel), _, _, rfl, rfl, Nat.le_trans (Nat.add_le_add_right len3 _) (by decide +kernel), (by decide), fun b hb => ?_⟩
    refine ⟨_, _, rfl, ?_⟩
    show tSeq _ _ _ [some (.int l), some (.str (signsOf l)), some (.ref b), none, none] (upd H b (.lst []))
    have fin : cutV ((pairsOf (signsOf l)).map V.str) none (some (-1)) = (colsOf l).map V.str := pairs_cut h1 h3
    generalize signsOf l = z at *
    refine ⟨_, rfl, z, rfl, for_it walk_str (fun i σ G => ∃ v3, σ = [some (.int l), some (.str z), some (.ref b), v3, none] ∧ Same H G ∧ G b = some (.lst (((z.cps.toList.take i).flatMap (rowOf z)).map V.str)))
      ⟨none, rfl, Sk.Same.upd hb, upd_same⟩ (fun _ _ _ _ _ => trivial) ?_ ?_⟩
    · rintro i x σ G G2 hi ⟨v3, rfl, sm, gb⟩ ⟨rfl, c, hc, rfl⟩
      refine ⟨_, rfl, .inl ⟨rfl, _, SqL.of gb⟩, _, rfl, z, rfl, fun D hD => lc_it walk_str (fun j G => Same H G ∧ G b = some (.lst (((z.cps.toList.take i).flatMap (rowOf z)).map V.str)) ∧ G D = some (.lst (((rowOf z c).take j).map V.str)))
        ⟨sm.trans (Sk.Same.upd hD), by rw [upd_ne (ne_of_none gb hD)]; exact gb, upd_same⟩ (fun _ _ _ _ => trivial) ?_ ?_⟩
      · have hDH : H D = none := sm.free hD
        have nbD : b ≠ D := ne_of_none gb hD
        rintro j x2 G3 G4 hj ⟨sm3, gb3, gD3⟩ ⟨rfl, c2, hc2, rfl⟩
        refine ⟨rfl, yesE ⟨_, rfl, _, rfl, _, _, rfl, rfl, (by show 1 + 1 ≤ sizeLine; decide), _, gD3, ?_, ?_, ?_, ?_⟩⟩
        · rw [List.length_map, List.length_take]
          exact Nat.lt_of_le_of_lt (Nat.le_trans (Nat.min_le_right _ _) (by rw [row_len]; exact l4)) (by decide)
        · exact fun q o e => by rw [upd_ne (ne_of_none e hDH)]; exact sm3 q o e
        · rw [upd_ne nbD]
          exact gb3
        · have e1 : (rowOf z c)[j]? = some ((⟨#[c]⟩ : Str) ++ ⟨#[c2]⟩) := by
            unfold rowOf
            rw [List.getElem?_map, show z.cps.toList[j]? = some c2 by simpa using hc2]
            rfl
          rw [upd_same, List.take_add_one, e1, List.map_append]
          rfl
      · rintro G3 ⟨sm3, gb3, gD3⟩
        refine ⟨b, D, _, _, rfl, rfl, gb3, gD3, ?_, some (.str ⟨#[c]⟩), rfl, fun q o e => ?_, ?_⟩
        · rw [List.length_map, List.length_map, flat_len, List.length_take, List.length_take, row_len]
          have a1 : min i z.cps.toList.length * z.cps.size ≤ 4 * 4 := Nat.mul_le_mul (Nat.le_trans (Nat.min_le_right _ _) e4) l4
          have a2 : min z.cps.size z.cps.size ≤ 4 := Nat.le_trans (Nat.min_le_right _ _) l4
          exact Nat.le_trans (Nat.add_le_add a1 a2) (by decide)
        · rw [upd_ne (ne_of_none e hb)]
          exact sm3 q o e
        · have e1 : (rowOf z c).take z.cps.size = rowOf z c := List.take_of_length_le (by rw [row_len]; exact Nat.le_refl _)
          rw [upd_same, flat_take (rowOf z) _ _ c (by simpa using hc), e1, List.map_append]
    · rintro σ G ⟨v3, rfl, sm, gb⟩
      have gb2 : G b = some (.lst ((pairsOf z).map V.str)) := by
        rw [gb, show z.cps.size = z.cps.toList.length by simp, List.take_length]
        rfl
      refine ⟨_, rfl, 1, rfl, _, rfl, b, _, rfl, SqL.of gb2, fun q hq => k q _ (sm.trans (Sk.Same.upd hq)) (sm.free hq) ?_⟩
      rw [upd_same, fin]
end
abbrev sComp : Stmt := top 11
section
variable {P : Program} {w : World} {K : PySem.W.Frag} {mg : Str → Option Value} {base : Heap}
theorem scComp : FnScope ["_law_deck_here", "_law_letters", "_law_states", "_law_rows", "_law_state", "_law_verdicts", "_law_column"] ["_law_deck_here", "_law_letters", "_law_states"] (defScope sComp) := ⟨rfl, rfl, rfl, by decide +kernel, rfl, by decide +kernel, by decide +kernel⟩
theorem ok_comp {f : Addr} {fd : FuncData} (F : Fun K "_law_comp" "_law_comp" sComp f fd) (T : Fre mg) (U : Fre2 mg) (CD : Callee P w K mg base 1 "_law_draw" ["_law_deck_here", "_law_most"] spDraw)
    (CO : Callee P w K mg base 2 "_law_one" ["_law_deck_here", "_law_items"] (spOne K)) (CC : Callee P w K mg base 1 "_law_columns" ["_law_letters"] spLCols) : FnOk P w K mg base CX0 3 f fd ["_law_deck_here", "_law_letters", "_law_states"] spComp := by
  obtain ⟨fD, fdD, GD, mD, kD, bD⟩ := CD
  obtain ⟨fO, fdO, GO, mO, kO, bO⟩ := CO
  obtain ⟨fC, fdC, GC, mC, kC, bC⟩ := CC
  refine F.ok scComp (fun vs H Q E h => ?_) (fun cdv A outer s H vs Q E hr h => ?_)
  · obtain ⟨d, c, n, l, m, rfl, _⟩ := h
    rfl
  · obtain ⟨d, c, n, l, m, rfl, D, n8, l1, l3, m1, m60, k⟩ := h
    have hr1 : Room 1 _ := hr.mono (by decide)
    refine ⟨_, pss_cons (ps_set (i := 3) scComp.nd rfl (Or.inl rfl) (pe_lst pa_nil))
      (pss_cons (ps_for PassesOwn.never rfl (pi_range1 (by rfl) U.range (pa_cons (pv 2) pa_nil)) (pg_name (i := 4) scComp.nd rfl (Or.inl rfl))
        (pss_one (ps_expr (pe_bm PySem.F.plainAttrs_list PySem.F.slot_list_append PySem.F.type_list_append mt_append (pv 3) (pa_cons (pe_callTy call_tuple_of (by rfl) T.tup (by decide +kernel) (pa_cons
          (pe_lc (own := [("_law_column", 6)]) (g := gName 6) (tt := tYes) rfl scComp.nd (pi_list (pe_call GC hr1 (by rfl) mC kC bC .nil pass0 (pa_cons (pv 1) pa_nil))) (blkOk_by (N := ["_law_deck_here", "_law_letters", "_law_states", "_law_rows", "_law_state", "_law_verdicts", "_law_column"]) (sc := defScope sComp) (by decide +kernel))
            (fun _ _ _ _ _ => pg_name (i := 6) scComp.nd rfl (Or.inl rfl)) (fun _ _ _ _ _ => pts_nil) (fun _ _ _ _ _ => pe_call GD hr1 (by rfl) mD kD bD .nil pass0 (pa_cons (pv 0) (pa_cons (pv 2) pa_nil)))) pa_nil)) pa_nil)))))
      (pss_cons (ps_set (i := 5) scComp.nd rfl (Or.inl rfl) (pe_callTy call_tuple_of (by rfl) T.tup (by decide +kernel) (pa_cons
          (pe_lc (own := [("_law_state", 4)]) (g := gName 4) (tt := tYes) rfl scComp.nd (pi_range1 (by rfl) U.range (pa_cons (pv 2) pa_nil)) (blkOk_by (N := ["_law_deck_here", "_law_letters", "_law_states", "_law_rows", "_law_state", "_law_verdicts", "_law_column"]) (sc := defScope sComp) (by decide +kernel))
            (fun _ _ _ _ _ => pg_name (i := 4) scComp.nd rfl (Or.inl rfl)) (fun _ _ _ _ _ => pts_nil) (fun _ _ _ _ _ => pe_op op_sub (pe_call GD hr1 (by rfl) mD kD bD .nil pass0 (pa_cons (pv 0) (pa_cons pe_int pa_nil))) pe_int)) pa_nil)))
      (pss_one (ps_ret (pe_tup (pa_cons (pv 1) (pa_cons (pe_callTy call_tuple_of (by rfl) T.tup (by decide +kernel) (pa_cons (pv 3) pa_nil)) (pa_cons
        (pe_op op_catA (pe_tup (pa_cons (pe_call GO hr (by rfl) mO kO bO .nil pass0 (pa_cons (pv 0) (pa_cons (pe_lst (pa_cons pe_int (pa_cons (pe_ix ix_tup (pv 5) pe_int (fun _ _ => rfl)) pa_nil))) pa_nil))) pa_nil)) (pe_slice sl_tupA (pv 5) (po_some pe_int) po_none)) pa_nil)))))))), ?_⟩
    obtain ⟨w15, w3⟩ := Sk.wide_le l1 l3
    have dn := D.ne
    refine ⟨by decide, fun R hR => ?_⟩
    have nR : ¬ dk d c R := D.off hR
    show tSeq _ _ _ [some (.ref d), some (.int l), some (.int m), some (.ref R), none, none, none] (upd H R (.lst []))
    -- the rows
    refine ⟨_, rfl, m, rfl, (by omega), (by omega), for_it walk_range (fun i σ G => ∃ (v4 : Option V) (n2 : Int) (xs : List V) (rows : List (List Int)), σ = [some (.ref d), some (.int l), some (.int m), some (.ref R), v4, none, none] ∧ Deck d c n2 G ∧ n2 ≤ n + 16 * (i : Nat) ∧ Keep (dk d c) H G ∧
        G R = some (.lst xs) ∧ DatA (fun b => dk d c b ∨ b = R) G xs (rows.map intsT) ∧ rows.length = i ∧ ∀ r ∈ rows, (r.length : Int) = wide l ∧ ∀ z ∈ r, 0 ≤ z ∧ z < m)
      ⟨none, n, [], [], rfl, D.keep (Sk.Same.upd hR), by omega, .of (Sk.Same.upd hR), upd_same, .nil, rfl, fun r h => nomatch h⟩ (fun _ _ _ _ _ => trivial) ?_ ?_⟩
    · rintro i x σ G G2 hi ⟨v4, n2, xs, rows, rfl, D2, n2le, kp, gR, dx, rl, rw⟩ ⟨rfl, rfl⟩
      have im : (i : Int) < m := by omega
      refine ⟨_, rfl, .inl ⟨rfl, _, SqL.of gR⟩, _, rfl, l, rfl, l1, l3, fun p G3 sm hp gp => ⟨p, rfl, ⟨_, SqL.of gp⟩, fun B hB => lc_list (K := K) (a := p) (xs := (colsOf l).map V.str) (fun j F => ∃ ds : List Int, Deck d c (n2 + (j : Nat)) F ∧ Keep (dk d c) G3 F ∧ F B = some (.lst (ds.map V.int)) ∧ ds.length = j ∧ ∀ z ∈ ds, 0 ≤ z ∧ z < m)
        ⟨[], by simpa using (D2.keep sm).keep (Sk.Same.upd hB), .of (Sk.Same.upd hB), upd_same, rfl, fun z h => nomatch h⟩ (fun j F _ h => ?_) ?_ ?_⟩⟩
      · obtain ⟨_, _, kp3, _⟩ := h
        exact SqL.of (kp3 p _ gp (D2.off hp))
      · rintro j x F hx ⟨ds, D3, kp3, gB, dl, dz⟩
        have jl : j < (colsOf l).length := by
          have := (List.getElem?_eq_some_iff.mp hx).1
          rwa [List.length_map] at this
        have cl := cols_len l1 l3
        have nB : ¬ dk d c B := (D2.keep sm).off hB
        refine ⟨rfl, yesE ⟨_, rfl, _, rfl, d, c, n2 + (j : Nat), m, rfl, D3, by omega, m1, by omega, fun q F2 q0 q1 D4 kp4 => ⟨_, kp4 B _ gB nB, ?_, ds ++ [q], ?_, ?_, ?_, ?_, ?_⟩⟩⟩
        · rw [List.length_map, dl]
          exact Nat.lt_of_lt_of_le (by omega : j < 15) (by decide)
        · have e1 : n2 + ((j + 1 : Nat) : Int) = n2 + (j : Nat) + 1 := by omega
          rw [e1]
          exact D4.upd nB
        · exact (kp3.trans kp4).new hB
        · rw [upd_same, List.map_append]
          rfl
        · rw [List.length_append, dl]
          rfl
        · intro z hz
          rcases List.mem_append.mp hz with e | e
          · exact dz z e
          · rw [List.mem_singleton.mp e]
            exact ⟨q0, q1⟩
      · rintro F ⟨ds, D3, kp3, gB, dl, dz⟩
        have gR3 : F R = some (.lst xs) := kp3 _ _ (sm _ _ gR) nR
        refine ⟨B, _, rfl, .inl ⟨SqL.of gB, fun t ht => ⟨R, xs, .ref t, rfl, rfl, by rw [upd_ne (ne_of_none gR3 ht)]; exact gR3, ?_, ?_⟩⟩⟩
        · rw [dx.length, List.length_map, rl]
          exact Nat.lt_of_lt_of_le (by omega : i < 60) (by decide)
        · have cl := cols_len l1 l3
          have dtH : Keep (dk d c) G2 F := (Keep.of sm).trans kp3
          have tR : t ≠ R := (ne_of_none gR3 ht).symm
          have nt : ¬ dk d c t := D3.off ht
          refine ⟨some (.int (0 + (i : Nat))), _, xs ++ [.ref t], rows ++ [ds], rfl, (D3.upd nt).upd nR, ?_, ((kp.trans dtH).new ((kp.trans dtH).free nt ht)).new hR, upd_same, ?_, ?_, ?_⟩
          · rw [List.length_map]
            omega
          · rw [List.map_append]
            refine DatA.append (DatA.move (fun b o e z => ⟨?_, z⟩) _ _ dx) (.cons (.tup (a := t) (xs := ds.map V.int) ?_ ?_ (datA_ints ds)) .nil)
            · have zR : b ≠ R := fun q => z (.inr q)
              rw [upd_ne zR]
              have e2 : F b = some o := dtH b o e fun q => z (.inl q)
              rw [upd_ne (ne_of_none e2 ht)]
              exact e2
            · rw [upd_ne tR, upd_same]
            · rintro (q | q)
              · exact nt q
              · exact tR q
          · rw [List.length_append, rl]
            rfl
          · intro r hr
            rcases List.mem_append.mp hr with e | e
            · exact rw r e
            · rw [List.mem_singleton.mp e]
              refine ⟨?_, dz⟩
              rw [dl, List.length_map]
              exact cl
    -- the verdicts
    · rintro σ G ⟨v4, n2, xs, rows, rfl, D2, n2le, kp, gR, dx, rl, rw⟩
      refine ⟨_, rfl, m, rfl, (by omega), (by omega), fun B hB => lc_it walk_range (fun j F => ∃ ds : List Int, Deck d c (n2 + (j : Nat)) F ∧ Keep (dk d c) G F ∧ F B = some (.lst (ds.map V.int)) ∧ ds.length = j ∧ ∀ z ∈ ds, -1 ≤ z ∧ z ≤ 1)
        ⟨[], by simpa using D2.keep (Sk.Same.upd hB), .of (Sk.Same.upd hB), upd_same, rfl, fun z h => nomatch h⟩ (fun _ _ _ _ => trivial) ?_ ?_⟩
      · rintro j x F F1 hj ⟨ds, D3, kp3, gB, dl, dz⟩ ⟨rfl, rfl⟩
        have nB : ¬ dk d c B := D2.off hB
        refine ⟨rfl, yesE ⟨_, rfl, d, c, n2 + (j : Nat), 3, rfl, D3, by omega, by decide, by decide, fun q F2 q0 q1 D4 kp4 => ⟨_, _, rfl, rfl, _, kp4 B _ gB nB, ?_, ds ++ [q - 1], ?_, ?_, ?_, ?_, ?_⟩⟩⟩
        · rw [List.length_map, dl]
          exact Nat.lt_of_lt_of_le (by omega : j < 60) (by decide)
        · have e1 : n2 + ((j + 1 : Nat) : Int) = n2 + (j : Nat) + 1 := by omega
          rw [e1]
          exact D4.upd nB
        · exact (kp3.trans kp4).new hB
        · rw [upd_same, List.map_append]
          rfl
        · rw [List.length_append, dl]
          rfl
        · intro z hz
          rcases List.mem_append.mp hz with e | e
          · exact dz z e
          · rw [List.mem_singleton.mp e]
            omega
      · rintro F ⟨ds, D3, kp3, gB, dl, dz⟩
        refine ⟨B, _, rfl, .inl ⟨SqL.of gB, fun t ht => ?_⟩⟩
        obtain ⟨v0, rest, rfl⟩ : ∃ v0 rest, ds = v0 :: rest := by
          cases ds with
          | nil =>
            rw [List.length_nil] at dl
            omega
          | cons a b => exact ⟨a, b, rfl⟩
        have v01 := dz v0 (by simp)
        have nt : ¬ dk d c t := D3.off ht
        have k1 : Keep (dk d c) G (upd F t (.tup ((v0 :: rest).map V.int))) := kp3.trans (.of (Sk.Same.upd ht))
        have gR1 : (upd F t (.tup ((v0 :: rest).map V.int))) R = some (.lst xs) := k1 _ _ gR nR
        have D4 : Deck d c (n2 + (m.toNat : Nat)) (upd F t (.tup ((v0 :: rest).map V.int))) := D3.upd nt
        have gt1 : (upd F t (.tup ((v0 :: rest).map V.int))) t = some (.tup ((v0 :: rest).map V.int)) := upd_same
        generalize (upd F t (.tup ((v0 :: rest).map V.int))) = F1 at *
        refine ⟨_, rfl, _, rfl, R, xs, rfl, .inl ⟨SqL.of gR1, fun r hr => ⟨_, rfl, _, rfl, t, _, 0, .int v0, rfl, rfl, SqT.of (Sk.Same.upd hr _ _ gt1), atI_nat (j := 0) rfl, (by show 2 ≤ sizeLine; decide), fun q hq => ?_⟩⟩⟩
        have s2 : Same F1 (upd (upd F1 r (.tup xs)) q (.lst [.int 0, .int v0])) := (Sk.Same.upd hr).trans (Sk.Same.upd hq)
        have D5 := D4.keep s2
        have nr : ¬ dk d c r := D4.off hr
        have nq : ¬ dk d c q := (D4.keep (Sk.Same.upd hr)).off hq
        have gr2 : (upd (upd F1 r (.tup xs)) q (.lst [.int 0, .int v0])) r = some (.tup xs) := Sk.Same.upd hq _ _ upd_same
        have gq2 : (upd (upd F1 r (.tup xs)) q (.lst [.int 0, .int v0])) q = some (.lst [.int 0, .int v0]) := upd_same
        have k2 : Keep (dk d c) G (upd (upd F1 r (.tup xs)) q (.lst [.int 0, .int v0])) := k1.trans (.of s2)
        have gt2 := s2 _ _ gt1
        generalize (upd (upd F1 r (.tup xs)) q (.lst [.int 0, .int v0])) = F2 at *
        refine ⟨d, c, q, _, [.int 0, .int v0], rfl, D5, by omega, gq2, nq, by simp, (by show 2 ≤ 1000; decide), fun x G4 hx D6 k3 => ⟨(by show 1 ≤ sizeLine; decide), fun u hu => ?_⟩⟩
        obtain ⟨x0, rfl, xl, xu⟩ : ∃ x0 : Int, x = .int x0 ∧ -1 ≤ x0 ∧ x0 ≤ 1 := by
          rcases (by simpa using hx : x = .int 0 ∨ x = .int v0) with e | e
          · exact ⟨0, e, by decide, by decide⟩
          · exact ⟨v0, e, v01.1, v01.2⟩
        have k4 : Keep (dk d c) G (upd G4 u (.tup [.int x0])) := (k2.trans k3).trans (.of (Sk.Same.upd hu))
        have gt4 : (upd G4 u (.tup [.int x0])) t = some (.tup ((v0 :: rest).map V.int)) := Sk.Same.upd hu _ _ (k3 _ _ gt2 nt)
        have gr4 : (upd G4 u (.tup [.int x0])) r = some (.tup xs) := Sk.Same.upd hu _ _ (k3 _ _ gr2 nr)
        have gu4 : (upd G4 u (.tup [.int x0])) u = some (.tup [.int x0]) := upd_same
        have D7 := D6.keep (Sk.Same.upd (o := .tup [.int x0]) hu)
        have nu : ¬ dk d c u := D6.off hu
        generalize (upd G4 u (.tup [.int x0])) = F4 at *
        have cut : cutV ((v0 :: rest).map V.int) (some 1) none = rest.map V.int := by
          unfold cutV
          rw [HT.sIx_none, show (1 : Int) = ((1 : Nat) : Int) from rfl, HT.sIx_nat, List.length_map, List.length_cons, Nat.min_eq_left (by omega), List.map_cons]
          show (rest.map V.int).take _ = _
          rw [List.take_of_length_le (by rw [List.length_map]; omega)]
        refine ⟨_, rfl, 1, rfl, t, _, rfl, SqT.of gt4, fun e => ?_, fun _ y hy => ?_⟩
        · have e1 := e.1
          rw [show (1 : Int) = ((1 : Nat) : Int) from rfl, HT.sIx_nat, List.length_map, List.length_cons] at e1
          omega
        rw [cut]
        have D8 := D7.keep (Sk.Same.upd (o := .tup (rest.map V.int)) hy)
        have s8 : Same F4 (upd F4 y (.tup (rest.map V.int))) := Sk.Same.upd hy
        have gy : (upd F4 y (.tup (rest.map V.int))) y = some (.tup (rest.map V.int)) := upd_same
        generalize (upd F4 y (.tup (rest.map V.int))) = F8 at *
        have rowsD : ∀ {J : Hp}, Keep (dk d c) G J → DatA (dk d c) J xs (rows.map intsT) := fun kj => DatA.move (fun b o e z => ⟨kj b o e fun q => z (.inl q), fun q => z (.inl q)⟩) _ _ dx
        have fin : ∀ (z : Addr) (J : Hp), Same F8 J → J z = some (.tup ((x0 :: rest).map V.int)) → ¬ dk d c z → 3 ≤ sizeLine ∧ ∀ e, J e = none → Q (.ref e) (upd J e (.tup [.int l, .ref r, .ref z])) := by
          intro z J sj gz nz
          refine ⟨by decide, fun e he => ?_⟩
          have kJ : Keep (dk d c) G (upd J e (.tup [.int l, .ref r, .ref z])) := (k4.trans (.of (s8.trans sj))).trans (.of (Sk.Same.upd he))
          have DJ := (D8.keep sj).keep (Sk.Same.upd (o := .tup [.int l, .ref r, .ref z]) he)
          refine k _ _ _ rows (x0 :: rest) DJ (by omega) (kp.trans kJ) (.tup upd_same ((D8.keep sj).off he) (.cons (.int l) (.cons (.tup (Sk.Same.upd he _ _ (sj _ _ (s8 _ _ gr4))) nr (rowsD kJ)) (.cons (.tup (Sk.Same.upd he _ _ gz) nz (datA_ints _)) .nil)))) ⟨by omega, rw, ?_, ?_⟩
          · rw [List.length_cons] at dl ⊢
            omega
          · intro z hz
            rcases List.mem_cons.mp hz with e | e
            · rw [e]
              exact ⟨xl, xu⟩
            · exact dz z (List.mem_cons_of_mem _ e)
        refine ⟨u, y, _, _, rfl, rfl, SqT.of (s8 _ _ gu4), SqT.of gy, ?_, fun e => (nomatch e), fun _ e => ?_, fun _ _ z hz => fin z _ (Sk.Same.upd hz) upd_same (D8.off hz)⟩
        · rw [List.length_map]
          rw [List.length_cons] at dl
          exact Nat.le_trans (by show 1 + rest.length ≤ 60; omega) (by decide)
        · have e2 : rest = [] := List.map_eq_nil_iff.mp e
          refine fin u _ (Same.refl _) ?_ nu
          rw [e2]
          exact s8 _ _ gu4
end
end K36


set_option Elab.async false
set_option linter.all false
set_option maxRecDepth 100000
set_option maxHeartbeats 4000000
namespace Sk
open PySem PySem.Spec PyProof.Rows L2
section
variable {J : It} {n : Nat} {G : Hp → Prop} {Y : Nat → Hp → V → Hp → Prop}
/-- a dict comprehension over a walk -/
theorem dc_it (w : Walk J n G Y) {g : TG} {tt : TT} {tk tv : TE} {vs : List Nat} {σ : L2.St} {H1 : Hp} {D : Addr} {Qd : Hp → Prop} (Pv : Nat → Hp → Prop) (h0 : Pv 0 (upd H1 D (.dK []))) (hG : ∀ i H, i ≤ n → Pv i H → G H)
    (hs : ∀ i x H F, i < n → Pv i H → Y i H x F → g x (wipe σ vs) F fun σ2 H2 => wipe σ2 vs = wipe σ vs ∧ tt σ2 H2 fun b H3 =>
      if b = true then tk σ2 H3 fun y H4 => tv σ2 H4 fun z H5 => ∃ kvs k, y = kV k ∧ H5 D = some (.dK kvs) ∧ kvs.length < sizeLine ∧ Pv (i + 1) (upd H5 D (.dK (putK kvs k z))) else Pv (i + 1) H3) (hd : ∀ H, Pv n H → Qd H) :
    ∃ W : Nat → Nat → Hp → Prop, (∃ m, W 0 m (upd H1 D (.dK []))) ∧ ∀ i m H, W i m H →
      (J.stop i H ∧ Qd H) ∨ (J.go i H ∧ ∃ N : Hp → Prop, (∀ F, N F → ∃ k, k < m ∧ W (i + 1) k F) ∧ ∀ x F, J.yld i H x F → g x (wipe σ vs) F fun σ2 H2 => wipe σ2 vs = wipe σ vs ∧ tt σ2 H2 fun b H3 =>
        if b = true then tk σ2 H3 fun y H4 => tv σ2 H4 fun z H5 => ∃ kvs k, y = kV k ∧ H5 D = some (.dK kvs) ∧ kvs.length < sizeLine ∧ N (upd H5 D (.dK (putK kvs k z))) else N H3) := by
  refine ⟨fun i m H => m = n - i ∧ i ≤ n ∧ Pv i H, ⟨n, by simp, Nat.zero_le _, h0⟩, ?_⟩
  rintro i m H ⟨rfl, hi, p⟩
  have q := hG i H hi p
  by_cases lt : i < n
  · exact .inr ⟨w.goes i H lt q, Pv (i + 1), fun F p2 => ⟨n - (i + 1), by omega, rfl, lt, p2⟩, fun x F y => hs i x H F lt p (w.yields i H x F lt q y)⟩
  · obtain rfl : i = n := by omega
    exact .inl ⟨w.stops H q, hd H p⟩
end
end Sk
namespace K36
open PySem PySem.Spec PyProof.Rows L2 Sk
abbrev sTells : Stmt := top 4
abbrev sPlaces : Stmt := top 5
/-! ### what is told -/
def sg (l : Int) : List Nat := (signsOf l).cps.toList
def sidx (l : Int) (a : Nat) : Nat := if a = 46 then l.toNat else a - 97
def posn (l : Int) (a b : Nat) : Nat := sidx l a * (l.toNat + 1) + sidx l b
def colS (a b : Nat) : Str := (⟨#[a]⟩ : Str) ++ ⟨#[b]⟩
def pl : Nat → List Str → List (Key × V)
  | _, [] => []
  | i, c :: cs => (Sum.inr c, .int (i : Nat)) :: pl (i + 1) cs
structure PosOk (l : Int) (a b : Nat) : Prop where
  lt : posn l a b < (colsOf l).length
  at_ : (colsOf l)[posn l a b]? = some (colS a b)
  val : valV (pl 0 (colsOf l)) (Sum.inr (colS a b)) = some (.int (posn l a b : Nat))
  no : ∀ m, m < posn l a b → (colsOf l)[m]? ≠ some (colS a b)
theorem pos_ok {l : Int} (h1 : 1 ≤ l) (h3 : l ≤ 3) : ∀ a ∈ sg l, ∀ b ∈ sg l, ¬ (a = 46 ∧ b = 46) → PosOk l a b := by
  have key : ∀ a ∈ sg l, ∀ b ∈ sg l, ¬ (a = 46 ∧ b = 46) → posn l a b < (colsOf l).length ∧ (colsOf l)[posn l a b]? = some (colS a b) ∧ valV (pl 0 (colsOf l)) (Sum.inr (colS a b)) = some (.int (posn l a b : Nat)) ∧ ∀ m, m < posn l a b → (colsOf l)[m]? ≠ some (colS a b) := by
    rcases signs_cases h1 h3 with rfl | rfl | rfl <;> decide +kernel
  intro a ha b hb hn
  obtain ⟨p1, p2, p3, p4⟩ := key a ha b hb hn
  exact ⟨p1, p2, p3, p4⟩
theorem put_ok {l : Int} (h1 : 1 ≤ l) (h3 : l ≤ 3) : ∀ i, i < (colsOf l).length → ∀ c, (colsOf l)[i]? = some c → putK (pl 0 ((colsOf l).take i)) (Sum.inr c) (.int (i : Nat)) = pl 0 ((colsOf l).take (i + 1)) ∧ (pl 0 ((colsOf l).take i)).length ≤ 15 := by
  have key : ∀ i, i < (colsOf l).length → putK (pl 0 ((colsOf l).take i)) (Sum.inr ((colsOf l)[i]?.getD Str.empty)) (.int (i : Nat)) = pl 0 ((colsOf l).take (i + 1)) ∧ (pl 0 ((colsOf l).take i)).length ≤ 15 := by
    rcases signs_cases h1 h3 with rfl | rfl | rfl <;> decide +kernel
  intro i hi c hc
  have k := key i hi
  rw [hc] at k
  exact k
def sgn (x : Str) (k : Nat) : Nat := (x.cps.toList[k]?).getD 46
def Word (l : Int) (x : Str) : Prop := ∀ c ∈ x.cps.toList, 97 ≤ c ∧ c < 97 + l.toNat
theorem sg_cases {l : Int} (h1 : 1 ≤ l) (h3 : l ≤ 3) : 46 ∈ sg l ∧ ∀ c, 97 ≤ c → c < 97 + l.toNat → c ∈ sg l := by
  have key : 46 ∈ sg l ∧ ∀ k, k < l.toNat → 97 + k ∈ sg l := by
    rcases signs_cases h1 h3 with rfl | rfl | rfl <;> decide +kernel
  refine ⟨key.1, fun c c1 c2 => ?_⟩
  have := key.2 (c - 97) (by omega)
  rwa [show 97 + (c - 97) = c by omega] at this
theorem sgn_mem {l : Int} (h1 : 1 ≤ l) (h3 : l ≤ 3) {x : Str} (w : Word l x) (k : Nat) : sgn x k ∈ sg l := by
  unfold sgn
  cases e : x.cps.toList[k]? with
  | none => exact (sg_cases h1 h3).1
  | some c =>
    obtain ⟨c1, c2⟩ := w c (List.mem_of_getElem? e)
    exact (sg_cases h1 h3).2 c c1 c2
theorem sgn_not {l : Int} {x : Str} (w : Word l x) {k : Nat} (h : k < x.length) : sgn x k ≠ 46 := by
  unfold sgn
  have hk : k < x.cps.toList.length := by rw [Array.length_toList]; exact h
  rw [List.getElem?_eq_getElem hk]
  have := (w _ (List.getElem_mem hk)).1
  show x.cps.toList[k] ≠ 46
  omega
def run (l : Int) (rows : List (List Int)) (x y : Str) : Nat → Int
  | 0 => 0
  | k + 1 => ((rows.getD (run l rows x y k).toNat []).getD (posn l (sgn x k) (sgn y k)) 0)
def verd (l : Int) (rows : List (List Int)) (vd : List Int) (x y : Str) : Int := vd.getD (run l rows x y (max x.length y.length)).toNat 0
/-- the row and the item that a step reads -/
theorem step_ok {l m : Int} {rows : List (List Int)} {vd : List Int} {x y : Str} (h1 : 1 ≤ l) (h3 : l ≤ 3) (c : IsCmp l m rows vd) (wx : Word l x) (wy : Word l y) {k : Nat} (hk : k < max x.length y.length) (r0 : 0 ≤ run l rows x y k) (r1 : run l rows x y k < m) :
    ∃ (j : Nat) (r : List Int), run l rows x y k = (j : Int) ∧ rows[j]? = some r ∧ r[posn l (sgn x k) (sgn y k)]? = some (run l rows x y (k + 1)) ∧ 0 ≤ run l rows x y (k + 1) ∧ run l rows x y (k + 1) < m := by
  have po : PosOk l (sgn x k) (sgn y k) := pos_ok h1 h3 _ (sgn_mem h1 h3 wx k) _ (sgn_mem h1 h3 wy k) fun e => by
    rcases Nat.lt_or_ge k x.length with q | q
    · exact sgn_not wx q e.1
    · exact sgn_not wy (by omega) e.2
  have rl := c.rl
  have cl := cols_len h1 h3
  have pk := po.lt
  obtain ⟨j, ej⟩ : ∃ j : Nat, run l rows x y k = (j : Int) := ⟨(run l rows x y k).toNat, by omega⟩
  have hj : j < rows.length := by omega
  obtain ⟨wl, wr⟩ := c.rw_ rows[j] (List.getElem_mem hj)
  have hp : posn l (sgn x k) (sgn y k) < rows[j].length := by omega
  have e1 : run l rows x y (k + 1) = rows[j][posn l (sgn x k) (sgn y k)] := by
    show (rows.getD (run l rows x y k).toNat []).getD (posn l (sgn x k) (sgn y k)) 0 = _
    have e2 : rows.getD j [] = rows[j] := by rw [List.getD_eq_getElem?_getD, List.getElem?_eq_getElem hj, Option.getD_some]
    rw [ej, Int.toNat_natCast, e2, List.getD_eq_getElem?_getD, List.getElem?_eq_getElem hp, Option.getD_some]
  have wz := wr _ (List.getElem_mem hp)
  refine ⟨j, rows[j], ej, List.getElem?_eq_getElem hj, by rw [e1]; exact List.getElem?_eq_getElem hp, ?_, ?_⟩
  · rw [e1]; exact wz.1
  · rw [e1]; exact wz.2
theorem run_in {l m : Int} {rows : List (List Int)} {vd : List Int} {x y : Str} (h1 : 1 ≤ l) (h3 : l ≤ 3) (m1 : 1 ≤ m) (c : IsCmp l m rows vd) (wx : Word l x) (wy : Word l y) : ∀ k, k ≤ max x.length y.length → 0 ≤ run l rows x y k ∧ run l rows x y k < m
  | 0, _ => ⟨Int.le_refl _, by show (0 : Int) < m; omega⟩
  | k + 1, h => by
    obtain ⟨r0, r1⟩ := run_in h1 h3 m1 c wx wy k (by omega)
    obtain ⟨_, _, _, _, _, a, b⟩ := step_ok h1 h3 c wx wy (by omega) r0 r1
    exact ⟨a, b⟩
theorem col_len (a b : Nat) : (⟨#[a]⟩ : Str).length + (⟨#[b]⟩ : Str).length ≤ sizeLine := by
  show 1 + 1 ≤ sizeLine
  decide
section
variable {P : Program} {w : World} {K : PySem.W.Frag} {mg : Str → Option Value} {base : Heap}
def spPlaces : Sp := fun vs H Q _ => ∃ l : Int, vs = [.int l] ∧ 1 ≤ l ∧ l ≤ 3 ∧ ∀ p G, Same H G → H p = none → G p = some (.dK (pl 0 (colsOf l))) → Q (.ref p) G
theorem scPlaces : FnScope ["letters", "place", "column"] ["letters"] (defScope sPlaces) := ⟨rfl, rfl, rfl, by decide +kernel, rfl, by decide +kernel, by decide +kernel⟩
theorem ok_places {f : Addr} {fd : FuncData} (F : Fun K "column_places" "column_places" sPlaces f fd) (T : Fre mg) (CC : Callee P w K mg base 1 "columns" ["letters"] spCols) : FnOk P w K mg base CX0 2 f fd ["letters"] spPlaces := by
  obtain ⟨fC, fdC, GC, mC, kC, bC⟩ := CC
  refine F.ok scPlaces (fun vs H Q E h => ?_) (fun cdv A outer s H vs Q E hr h => ?_)
  · obtain ⟨l, rfl, _⟩ := h
    rfl
  · obtain ⟨l, rfl, h1, h3, k⟩ := h
    refine ⟨_, pss_one (ps_ret (pe_dc (own := [("place", 1), ("column", 2)]) (g := gTup K 2 (gCons (gName 1) (gCons (gName 2) gNil))) (tt := tYes) rfl scPlaces.nd (pi_enumT (by rfl) T.enum (pa_cons (pe_call GC hr (by rfl) mC kC bC .nil pass0 (pa_cons (pv 0) pa_nil)) pa_nil)) (blkOk_by (N := ["letters", "place", "column"]) (sc := defScope sPlaces) (by decide +kernel))
      (fun _ _ _ _ _ => pg_tup rfl (pgs_cons (pg_name (i := 1) scPlaces.nd rfl (.inl rfl)) (pgs_cons (pg_name (i := 2) scPlaces.nd rfl (.inl rfl)) pgs_nil))) (fun _ _ _ _ _ => pts_nil) (fun _ _ _ _ _ => pv 2) (fun _ _ _ _ _ => pv 1))), ?_⟩
    refine ⟨_, rfl, l, rfl, h1, h3, fun p G sm hp gp => ⟨p, (colsOf l).map V.str, rfl, SqT.of gp, fun D hD => dc_it walk_enumT (fun i F => Same G F ∧ F D = some (.dK (pl 0 ((colsOf l).take i))))
      ⟨Sk.Same.upd hD, upd_same⟩ (fun i F _ h => SqT.of (h.1 _ _ gp)) ?_ ?_⟩⟩
    · rintro i v F F2 hi ⟨sF, gD⟩ ⟨q, x, y, rfl, hq, rfl, ex, hy⟩
      cases ex
      replace hy : ((colsOf l).map V.str)[i]? = some y := hy
      rw [List.getElem?_map] at hy
      obtain ⟨c, hc, rfl⟩ := Option.map_eq_some_iff.mp hy
      have il := (List.getElem?_eq_some_iff.mp hc).1
      obtain ⟨pe, pz⟩ := put_ok h1 h3 i il c hc
      have nD : D ≠ q := ne_of_none gD hq
      refine ⟨q, [.int (i : Nat), .str c], rfl, SqT.of upd_same, rfl, _, _, rfl, _, _, rfl, rfl, rfl, yesE ⟨_, rfl, _, rfl, _, Sum.inr c, rfl, by rw [upd_ne nD]; exact gD, Nat.lt_of_le_of_lt pz (by decide), fun b o e => ?_, ?_⟩⟩
      · rw [upd_ne (ne_of_none e hD)]
        exact Sk.Same.upd hq _ _ (sF b o e)
      · rw [upd_same, pe]
    · rintro F ⟨sF, gD⟩
      rw [List.length_map, List.take_length] at gD
      exact k D F (sm.trans sF) (sm.free hD) gD
/-! tells -/
def spTells : Sp := fun vs H Q _ => ∃ (av : Addr → Prop) (v : V) (x y : Str) (l m : Int) (rows : List (List Int)) (vd : List Int), vs = [v, .str x, .str y] ∧ Dat av H v (cmpT l rows vd) ∧ IsCmp l m rows vd ∧ 1 ≤ l ∧ l ≤ 3 ∧ 1 ≤ m ∧ Word l x ∧ Word l y ∧ x.length ≤ 10000 ∧ y.length ≤ 10000 ∧
  ∀ G, Same H G → Q (.int (verd l rows vd x y)) G
theorem scTells : FnScope ["comp", "one", "other", "letters", "rows", "verdicts", "places", "length", "state", "first", "second"] ["comp", "one", "other"] (defScope sTells) := ⟨rfl, rfl, rfl, by decide +kernel, rfl, by decide +kernel, by decide +kernel⟩
theorem pad_at {x : Str} {n i c : Nat} (hx : x.length ≤ n) (h : (Txt.ljustF x (n : Int) 46).cps[i]? = some c) : c = sgn x i ∧ i < n := by
  have e := ljustF_list x (n : Int) 46
  have h2 : (Txt.ljustF x (n : Int) 46).cps.toList[i]? = some c := by simpa using h
  rw [e] at h2
  have il := (List.getElem?_eq_some_iff.mp h2).1
  rw [List.length_append, List.length_replicate, Array.length_toList] at il
  have hx2 : x.cps.size ≤ n := hx
  have hx3 : x.length = x.cps.size := rfl
  refine ⟨?_, by omega⟩
  unfold sgn
  by_cases hi : i < x.cps.toList.length
  · rw [List.getElem?_append_left hi] at h2
    rw [h2]
    rfl
  · rw [List.getElem?_append_right (by omega)] at h2
    rw [List.getElem?_eq_none (by omega)]
    exact (List.mem_replicate.mp (List.mem_of_getElem? h2)).2
theorem pad_size {x : Str} {n : Nat} (hx : x.length ≤ n) : (Txt.ljustF x (n : Int) 46).cps.size = n := by
  rw [← Array.length_toList, ljustF_list, List.length_append, List.length_replicate, Array.length_toList]
  have hx3 : x.length = x.cps.size := rfl
  omega
theorem datA_inv {av : Addr → Prop} {H : Hp} : ∀ {l : List Int} {vs : List V}, DatA av H vs (l.map Tr.int) → vs = l.map V.int
  | [], _, h => by cases h; rfl
  | z :: l, _, h => by
    cases h with
    | cons a b =>
      cases a
      rw [datA_inv b]
      rfl
theorem pad_ok {n : Nat} (h : n ≤ 10000) : PadOk (n : Int) = true := by
  unfold PadOk fitsSsize Builtin.Str.tooLong
  rw [Bool.and_eq_true, Bool.not_eq_true', Bool.not_eq_true']
  refine ⟨?_, decide_eq_false ?_⟩
  · rw [decide_eq_false (by omega), decide_eq_false (by omega)]
    rfl
  · rw [Int.toNat_natCast]
    exact Nat.not_lt.mpr (Nat.le_trans h (by decide))
theorem ok_tells {f : Addr} {fd : FuncData} (F : Fun K "tells" "tells" sTells f fd) (T : Fre mg) (CC : Callee P w K mg base 2 "column_places" ["letters"] spPlaces) : FnOk P w K mg base CX0 3 f fd ["comp", "one", "other"] spTells := by
  obtain ⟨fC, fdC, GC, mC, kC, bC⟩ := CC
  obtain ⟨tE, mE⟩ := T.ende
  refine F.ok scTells (fun vs H Q E h => ?_) (fun cdv A outer s H vs Q E hr h => ?_)
  · obtain ⟨av, v, x, y, l, m, rows, vd, rfl, _⟩ := h
    rfl
  · obtain ⟨av, v, x, y, l, m, rows, vd, rfl, d, cm, h1, h3, m1, wx, wy, lx, ly, k⟩ := h
    have hu := hu_of hr
    refine ⟨_, pss_cons (ps_asg (pv 0) (pg_tup rfl (pgs_cons (pg_name (i := 3) scTells.nd rfl (.inl rfl)) (pgs_cons (pg_name (i := 4) scTells.nd rfl (.inl rfl)) (pgs_cons (pg_name (i := 5) scTells.nd rfl (.inl rfl)) pgs_nil)))))
      (pss_cons (ps_set (i := 6) scTells.nd rfl (Or.inl rfl) (pe_call GC hr (by rfl) mC kC bC .nil pass0 (pa_cons (pv 3) pa_nil)))
      (pss_cons (ps_set (i := 7) scTells.nd rfl (Or.inl rfl) (pe_callB (call_max2 rfl) (by rfl) T.max (by decide +kernel) (pa_cons (pe_callB call_len_str (by rfl) T.len PySem.boot_len (pa_cons (pv 1) pa_nil)) (pa_cons (pe_callB call_len_str (by rfl) T.len PySem.boot_len (pa_cons (pv 2) pa_nil)) pa_nil))))
      (pss_cons (ps_set (i := 8) scTells.nd rfl (Or.inl rfl) pe_int)
      (pss_cons (ps_for PassesOwn.never rfl (pi_zipS (by rfl) T.zip (pa_cons (pe_bm PySem.F.plainAttrs_str PySem.F.slot_str_ljust PySem.F.type_str_ljust mt_ljustF (pv 1) (pa_cons (pv 7) (pa_cons (pe_glob (v := .str ".") (by rfl) mE ⟨_, rfl⟩) pa_nil)))
          (pa_cons (pe_bm PySem.F.plainAttrs_str PySem.F.slot_str_ljust PySem.F.type_str_ljust mt_ljustF (pv 2) (pa_cons (pv 7) (pa_cons (pe_glob (v := .str ".") (by rfl) mE ⟨_, rfl⟩) pa_nil))) pa_nil)))
          (pg_tup rfl (pgs_cons (pg_name (i := 9) scTells.nd rfl (.inl rfl)) (pgs_cons (pg_name (i := 10) scTells.nd rfl (.inl rfl)) pgs_nil)))
        (pss_one (ps_set (i := 8) scTells.nd rfl (Or.inl rfl) (pe_ix ix_tup (pe_ix ix_tup (pv 4) (pv 8) (fun _ _ => rfl)) (pe_dget hu (pv 6) (pe_op op_add_str (pv 9) (pv 10)) (fun _ _ => rfl)) (fun _ _ => rfl)))))
      (pss_one (ps_ret (pe_ix ix_tup (pv 5) (pv 8) (fun _ _ => rfl)))))))), ?_⟩
    have lnx : x.length ≤ sizeLine := Nat.le_trans lx (by decide)
    have lny : y.length ≤ sizeLine := Nat.le_trans ly (by decide)
    have em : (if (y.length : Int) > (x.length : Int) then (y.length : Int) else (x.length : Int)) = ((max x.length y.length : Nat) : Int) := by
      split <;> omega
    cases d with
    | @tup a xs _ ha na da =>
    match xs, da with
    | [_, _, _], .cons (.int _) (.cons (.tup (a := r) (xs := xr) hr2 nr dr) (.cons (.tup (a := q) (xs := xv) hq nq dq) .nil)) =>
    have eq := datA_inv dq
    refine ⟨_, rfl, a, _, rfl, SqT.of ha, rfl, _, _, rfl, _, _, rfl, _, _, rfl, rfl, ?_⟩
    refine ⟨_, rfl, l, rfl, h1, h3, fun p G sm hp gp => ?_⟩
    refine ⟨_, rfl, x, rfl, lnx, _, rfl, y, rfl, lny, _, _, rfl, ?_⟩
    rw [em]
    have e46 : (Str.ofString ".").cps.getD 0 0 = 46 := by decide +kernel
    have n9 : max x.length y.length ≤ 10000 := by omega
    have mx : x.length ≤ max x.length y.length := by omega
    have my : y.length ≤ max x.length y.length := by omega
    have inn := run_in h1 h3 m1 cm wx wy
    have stp := fun {k : Nat} (hk : k < max x.length y.length) => step_ok h1 h3 cm wx wy hk (inn k (by omega)).1 (inn k (by omega)).2
    have fin : (run l rows x y (max x.length y.length)).toNat = (run l rows x y (max x.length y.length)).toNat := rfl
    have vdl := cm.vl
    have last := inn (max x.length y.length) (Nat.le_refl _)
    have eV : verd l rows vd x y = vd.getD (run l rows x y (max x.length y.length)).toNat 0 := rfl
    generalize hn : max x.length y.length = n at *
    refine ⟨_, rfl, rfl, _, rfl, x, ".", (n : Int), rfl, rfl, pad_ok n9, rfl, _, rfl, rfl, _, rfl, y, ".", (n : Int), rfl, rfl, pad_ok n9, rfl, _, _, rfl, ?_⟩
    rw [e46]
    refine for_it walk_zipS (fun i σ F => ∃ v9 v10, σ = [some (.ref a), some (.str x), some (.str y), some (.int l), some (.ref r), some (.ref q), some (.ref p), some (.int (n : Int)), some (.int (run l rows x y i)), v9, v10] ∧ Same G F)
      ⟨none, none, rfl, Same.refl G⟩ (fun _ _ _ _ _ => trivial) ?_ ?_
    · rintro i v σ F F2 hi ⟨v9, v10, rfl, sF⟩ ⟨T1, c, e, rfl, hT, rfl, hc, he⟩
      obtain ⟨rfl, il⟩ := pad_at mx hc
      obtain ⟨rfl, _⟩ := pad_at my he
      obtain ⟨j, row, ej, hrow, hit, _, _⟩ := stp il
      have po : PosOk l (sgn x i) (sgn y i) := pos_ok h1 h3 _ (sgn_mem h1 h3 wx i) _ (sgn_mem h1 h3 wy i) fun e => by
        rcases Nat.lt_or_ge i x.length with q | q
        · exact sgn_not wx q e.1
        · exact sgn_not wy (by omega) e.2
      have sT : Same G (upd F T1 (.tup [.str ⟨#[sgn x i]⟩, .str ⟨#[sgn y i]⟩])) := sF.trans (Sk.Same.upd hT)
      obtain ⟨vr, hvr, dvr⟩ := dr.get2 (t := intsT row) (by rw [List.getElem?_map, hrow]; rfl)
      cases dvr with
      | @tup z zs _ hz nz dz =>
      have ez := datA_inv dz
      have gp2 : (upd F T1 (.tup [.str ⟨#[sgn x i]⟩, .str ⟨#[sgn y i]⟩])) p = some (.dK (pl 0 (colsOf l))) := sT _ _ gp
      refine ⟨T1, _, rfl, SqT.of upd_same, rfl, _, _, rfl, _, _, rfl, rfl, ?_⟩
      refine ⟨_, rfl, _, rfl, r, xr, run l rows x y i, .ref z, rfl, rfl, SqT.of (sT _ _ (sm _ _ hr2)), (by rw [ej]; exact atI_nat hvr), _, rfl, _, rfl, _, rfl, _, _, rfl, rfl, col_len _ _, p, .int (posn l (sgn x i) (sgn y i) : Nat), rfl, ?_, ?_⟩
      · have g := DGet.k (k := Sum.inr (colS (sgn x i) (sgn y i))) gp2
        rw [po.val] at g
        exact g
      · refine ⟨z, zs, _, .int (run l rows x y (i + 1)), rfl, rfl, SqT.of (sT _ _ (sm _ _ hz)), ?_, ?_⟩
        · rw [ez]
          exact atI_nat (by rw [List.getElem?_map, hit]; rfl)
        · exact ⟨_, _, rfl, sT⟩
    · rintro σ F ⟨v9, v10, rfl, sF⟩
      rw [pad_size mx, pad_size my, Nat.min_self]
      obtain ⟨j, ej⟩ : ∃ j : Nat, run l rows x y n = (j : Int) := ⟨(run l rows x y n).toNat, by omega⟩
      have jl : j < vd.length := by omega
      refine ⟨_, rfl, _, rfl, q, xv, run l rows x y n, .int vd[j], rfl, rfl, SqT.of (sF _ _ (sm _ _ hq)), ?_, ?_⟩
      · rw [eq, ej]
        exact atI_nat (by rw [List.getElem?_map, List.getElem?_eq_getElem jl]; rfl)
      · have kk := k F (sm.trans sF)
        rw [eV, ej, Int.toNat_natCast, List.getD_eq_getElem?_getD, List.getElem?_eq_getElem jl, Option.getD_some] at kk
        exact kk
end
end K36


set_option Elab.async false
set_option linter.all false
set_option maxRecDepth 100000
set_option maxHeartbeats 4000000
namespace K36
open PySem PySem.Spec PyProof.Rows L2 Sk
abbrev sRead : Stmt := top 12
abbrev sLTells : Stmt := top 13
abbrev sWords : Stmt := top 14
abbrev sWord : Stmt := top 15
structure Fre2b (mg : Str → Option Value) : Prop where
  range : mg "range" = none
theorem str_of_list {x y : Str} (h : x.cps.toList = y.cps.toList) : x = y := by
  cases x
  cases y
  exact congrArg Str.mk (Array.toList_inj.mp h)
theorem cut_pad (x : Str) (k : Nat) : Txt.ljustF (cutS x (some (k : Int)) (some ((k : Int) + 1))) 1 46 = ⟨#[sgn x k]⟩ := by
  refine str_of_list ?_
  rw [ljustF_list]
  have hx3 : x.length = x.cps.toList.length := by rw [Array.length_toList]; rfl
  have e1 : (cutS x (some (k : Int)) (some ((k : Int) + 1))).cps.toList = (x.cps.toList.drop (min k x.length)).take (min (k + 1) x.length - min k x.length) := by
    unfold cutS
    rw [show (k : Int) + 1 = ((k + 1 : Nat) : Int) by omega, HT.sIx_nat, HT.sIx_nat]
  have e2 : (cutS x (some (k : Int)) (some ((k : Int) + 1))).length = (cutS x (some (k : Int)) (some ((k : Int) + 1))).cps.toList.length := by rw [Array.length_toList]; rfl
  rw [e2, e1]
  unfold sgn
  by_cases h : k < x.length
  · have hk : k < x.cps.toList.length := by omega
    rw [Nat.min_eq_left (by omega), Nat.min_eq_left (by omega), Nat.add_sub_cancel_left, List.drop_eq_getElem_cons hk, List.take_succ_cons, List.take_zero, List.getElem?_eq_getElem hk]
    rfl
  · rw [Nat.min_eq_right (by omega), Nat.min_eq_right (by omega), Nat.sub_self, List.take_zero, List.getElem?_eq_none (by omega)]
    rfl
section
variable {P : Program} {w : World} {K : PySem.W.Frag} {mg : Str → Option Value} {base : Heap}
def spRead : Sp := fun vs H Q _ => ∃ (av : Addr → Prop) (v : V) (x y : Str) (l m : Int) (rows : List (List Int)) (vd : List Int), vs = [v, .str x, .str y] ∧ Dat av H v (cmpT l rows vd) ∧ IsCmp l m rows vd ∧ 1 ≤ l ∧ l ≤ 3 ∧ 1 ≤ m ∧ Word l x ∧ Word l y ∧ x.length ≤ 10000 ∧ y.length ≤ 10000 ∧
  ∀ G, Same H G → Q (.int (run l rows x y (max x.length y.length))) G
theorem scRead : FnScope ["_law_comp_here", "_law_one_here", "_law_other", "_law_cols", "_law_state", "_law_most", "_law_k", "_law_column"] ["_law_comp_here", "_law_one_here", "_law_other"] (defScope sRead) := ⟨rfl, rfl, rfl, by decide +kernel, rfl, by decide +kernel, by decide +kernel⟩
theorem flat_strs : ∀ xs : List Str, (xs.map V.str).all flatV = true
  | [] => rfl
  | _ :: xs => flat_strs xs
theorem ok_read {f : Addr} {fd : FuncData} (F : Fun K "_law_read" "_law_read" sRead f fd) (T : Fre mg) (U : Fre2 mg) (CC : Callee P w K mg base 1 "_law_columns" ["_law_letters"] spLCols) : FnOk P w K mg base CX0 2 f fd ["_law_comp_here", "_law_one_here", "_law_other"] spRead := by
  obtain ⟨fC, fdC, GC, mC, kC, bC⟩ := CC
  refine F.ok scRead (fun vs H Q E h => ?_) (fun cdv A outer s H vs Q E hr h => ?_)
  · obtain ⟨av, v, x, y, l, m, rows, vd, rfl, _⟩ := h
    rfl
  · obtain ⟨av, v, x, y, l, m, rows, vd, rfl, d, cm, h1, h3, m1, wx, wy, lx, ly, k⟩ := h
    refine ⟨_, pss_cons (ps_par (i := 3) (j := 4) (by rfl) scRead.nd rfl rfl (by decide) rfl rfl (pa_cons (pe_call GC hr (by rfl) mC kC bC .nil pass0 (pa_cons (pe_ix ix_tup (pv 0) pe_int (fun _ _ => rfl)) pa_nil)) (pa_cons pe_int pa_nil)) (by rfl))
      (pss_cons (ps_set (i := 5) scRead.nd rfl (Or.inl rfl) (pe_callB (call_max2 rfl) (by rfl) T.max (by decide +kernel) (pa_cons (pe_callB call_len_str (by rfl) T.len PySem.boot_len (pa_cons (pv 1) pa_nil)) (pa_cons (pe_callB call_len_str (by rfl) T.len PySem.boot_len (pa_cons (pv 2) pa_nil)) pa_nil))))
      (pss_cons (ps_for PassesOwn.never rfl (pi_range1 (by rfl) U.range (pa_cons (pv 5) pa_nil)) (pg_name (i := 6) scRead.nd rfl (Or.inl rfl))
        (pss_cons (ps_set (i := 7) scRead.nd rfl (Or.inl rfl) (pe_op op_add_str (pe_bm PySem.F.plainAttrs_str PySem.F.slot_str_ljust PySem.F.type_str_ljust mt_ljustF (pe_slice sl_str (pv 1) (po_some (pv 6)) (po_some (pe_op op_add (pv 6) pe_int))) (pa_cons pe_int (pa_cons pe_str pa_nil)))
            (pe_bm PySem.F.plainAttrs_str PySem.F.slot_str_ljust PySem.F.type_str_ljust mt_ljustF (pe_slice sl_str (pv 2) (po_some (pv 6)) (po_some (pe_op op_add (pv 6) pe_int))) (pa_cons pe_int (pa_cons pe_str pa_nil)))))
        (pss_one (ps_set (i := 4) scRead.nd rfl (Or.inl rfl) (pe_ix ix_tup (pe_ix ix_tup (pe_ix ix_tup (pv 0) pe_int (fun _ _ => rfl)) (pv 4) (fun _ _ => rfl))
            (pe_bm PySem.F.plainAttrs_list PySem.F.slot_list_index PySem.F.type_list_index mt_index (pv 3) (pa_cons (pv 7) pa_nil)) (fun _ _ => rfl))))))
      (pss_one (ps_ret (pv 4))))), ?_⟩
    have lnx : x.length ≤ sizeLine := Nat.le_trans lx (by decide)
    have lny : y.length ≤ sizeLine := Nat.le_trans ly (by decide)
    have em : (if (y.length : Int) > (x.length : Int) then (y.length : Int) else (x.length : Int)) = ((max x.length y.length : Nat) : Int) := by
      split <;> omega
    cases d with
    | @tup a xs _ ha na da =>
    match xs, da with
    | [_, _, _], .cons (.int _) (.cons (.tup (a := r) (xs := xr) hr2 nr dr) (.cons (.tup (a := q) (xs := xv) hq nq dq) .nil)) =>
    refine ⟨_, rfl, a, _, 0, _, rfl, rfl, SqT.of ha, atI_nat (j := 0) rfl, l, rfl, h1, h3, fun p G sm hp gp => ⟨_, _, rfl, ?_⟩⟩
    refine ⟨_, rfl, x, rfl, lnx, _, rfl, y, rfl, lny, _, _, rfl, ?_⟩
    rw [em]
    have e46 : (Str.ofString ".").cps.getD 0 0 = 46 := by decide +kernel
    have n9 : max x.length y.length ≤ 10000 := by omega
    have inn := run_in h1 h3 m1 cm wx wy
    have stp := fun {k : Nat} (hk : k < max x.length y.length) => step_ok h1 h3 cm wx wy hk (inn k (by omega)).1 (inn k (by omega)).2
    have noEnd : ∀ {i : Nat}, i < max x.length y.length → ¬ (sgn x i = 46 ∧ sgn y i = 46) := fun {i} hi e => by
      rcases Nat.lt_or_ge i x.length with q | q
      · exact sgn_not wx q e.1
      · exact sgn_not wy (by omega) e.2
    generalize hn : max x.length y.length = n at *
    refine ⟨_, rfl, (n : Int), rfl, by omega, by omega, for_it walk_range (fun i σ F => ∃ v6 v7, σ = [some (.ref a), some (.str x), some (.str y), some (.ref p), some (.int (run l rows x y i)), some (.int (n : Int)), v6, v7] ∧ F = G)
      ⟨none, none, rfl, rfl⟩ (fun _ _ _ _ _ => trivial) ?_ ?_⟩
    · rintro i v σ F F2 hi ⟨v6, v7, rfl, rfl⟩ ⟨rfl, rfl⟩
      have il : i < n := by omega
      obtain ⟨j, row, ej, hrow, hit, _, _⟩ := stp il
      have po : PosOk l (sgn x i) (sgn y i) := pos_ok h1 h3 _ (sgn_mem h1 h3 wx i) _ (sgn_mem h1 h3 wy i) (noEnd il)
      obtain ⟨vr, hvr, dvr⟩ := dr.get2 (t := intsT row) (by rw [List.getElem?_map, hrow]; rfl)
      cases dvr with
      | @tup z zs _ hz nz dz =>
      have ez := datA_inv dz
      have c1 : Txt.ljustF (cutS x (some (0 + (i : Int))) (some (0 + (i : Int) + 1))) 1 46 = ⟨#[sgn x i]⟩ := by
        rw [Int.zero_add]; exact cut_pad x i
      have c2 : Txt.ljustF (cutS y (some (0 + (i : Int))) (some (0 + (i : Int) + 1))) 1 46 = ⟨#[sgn y i]⟩ := by
        rw [Int.zero_add]; exact cut_pad y i
      have l1 : (⟨#[sgn x i]⟩ : Str).length = 1 := rfl
      have l2 : (⟨#[sgn y i]⟩ : Str).length = 1 := rfl
      refine ⟨_, rfl, _, rfl, _, rfl, _, rfl, _, _, rfl, rfl, _, rfl, x, rfl, lnx, rfl, _, Str.ofString ".", 1, rfl, rfl, (by decide +kernel), rfl, ?_⟩
      refine ⟨_, rfl, _, rfl, _, rfl, _, rfl, _, _, rfl, rfl, _, rfl, y, rfl, lny, rfl, _, Str.ofString ".", 1, rfl, rfl, (by decide +kernel), rfl, ?_⟩
      refine ⟨_, _, rfl, rfl, by rw [e46, c1, c2]; exact col_len _ _, ?_⟩
      rw [e46, c1, c2]
      refine ⟨_, rfl, a, _, 1, _, rfl, rfl, SqT.of (sm _ _ ha), atI_nat (j := 1) rfl, _, rfl, r, xr, run l rows x y i, .ref z, rfl, rfl, SqT.of (sm _ _ hr2), by rw [ej]; exact atI_nat hvr, _, rfl, ?_⟩
      refine ⟨.inl ⟨rfl, _, SqL.of gp⟩, _, rfl, ?_⟩
      refine ⟨p, (colsOf l).map V.str, .str (colS (sgn x i) (sgn y i)), posn l (sgn x i) (sgn y i), .str (colS (sgn x i) (sgn y i)), rfl, rfl, SqL.of gp, rfl, flat_strs _, by rw [List.getElem?_map, po.at_]; rfl, ?_, ?_, ?_⟩
      · simp [eqV]
      · intro k z' hk hz'
        rw [List.getElem?_map] at hz'
        obtain ⟨z2, hz2, rfl⟩ := Option.map_eq_some_iff.mp hz'
        have := po.no k hk
        have : z2 ≠ colS (sgn x i) (sgn y i) := fun e => this (e ▸ hz2)
        simpa [eqV] using this
      · refine ⟨z, zs, (posn l (sgn x i) (sgn y i) : Nat), .int (run l rows x y (i + 1)), rfl, rfl, SqT.of (sm _ _ hz), ?_, ⟨_, _, rfl, rfl⟩⟩
        rw [ez]
        exact atI_nat (by rw [List.getElem?_map, hit]; rfl)
    · rintro σ F ⟨v6, v7, rfl, rfl⟩
      exact ⟨_, rfl, k _ sm⟩
end
end K36


set_option Elab.async false
set_option linter.all false
set_option maxRecDepth 100000
set_option maxHeartbeats 4000000
namespace K36
open PySem PySem.Spec PyProof.Rows L2 Sk
section
variable {P : Program} {w : World} {K : PySem.W.Frag} {mg : Str → Option Value} {base : Heap}
theorem scLTells : FnScope ["_law_comp_here", "_law_one_here", "_law_other"] ["_law_comp_here", "_law_one_here", "_law_other"] (defScope sLTells) := ⟨rfl, rfl, rfl, by decide +kernel, rfl, by decide +kernel, by decide +kernel⟩
theorem ok_ltells {f : Addr} {fd : FuncData} (F : Fun K "_law_tells" "_law_tells" sLTells f fd) (CR : Callee P w K mg base 2 "_law_read" ["_law_comp_here", "_law_one_here", "_law_other"] spRead) : FnOk P w K mg base CX0 3 f fd ["_law_comp_here", "_law_one_here", "_law_other"] spTells := by
  obtain ⟨fR, fdR, GR, mR, kR, bR⟩ := CR
  refine F.ok scLTells (fun vs H Q E h => ?_) (fun cdv A outer s H vs Q E hr h => ?_)
  · obtain ⟨av, v, x, y, l, m, rows, vd, rfl, _⟩ := h
    rfl
  · obtain ⟨av, v, x, y, l, m, rows, vd, rfl, d, cm, h1, h3, m1, wx, wy, lx, ly, k⟩ := h
    refine ⟨_, pss_one (ps_ret (pe_ix ix_tup (pe_ix ix_tup (pv 0) pe_int (fun _ _ => rfl)) (pe_call GR hr (by rfl) mR kR bR .nil pass0 (pa_cons (pv 0) (pa_cons (pv 1) (pa_cons (pv 2) pa_nil)))) (fun _ _ => rfl))), ?_⟩
    cases id d with
    | @tup a xs _ ha na da =>
    match xs, da with
    | [_, _, _], .cons (.int _) (.cons (.tup (a := r) (xs := xr) hr2 nr dr) (.cons (.tup (a := q) (xs := xv) hq nq dq) .nil)) =>
    have eq := datA_inv dq
    have inn := run_in h1 h3 m1 cm wx wy _ (Nat.le_refl _)
    have vl := cm.vl
    refine ⟨_, rfl, a, _, 2, _, rfl, rfl, SqT.of ha, atI_nat (j := 2) rfl, _, rfl, _, rfl, _, rfl, av, .ref a, x, y, l, m, rows, vd, rfl, d, cm, h1, h3, m1, wx, wy, lx, ly, fun G sG => ?_⟩
    generalize hn : max x.length y.length = n at *
    obtain ⟨j, ej⟩ : ∃ j : Nat, run l rows x y n = (j : Int) := ⟨(run l rows x y n).toNat, by omega⟩
    have jl : j < vd.length := by omega
    refine ⟨q, xv, run l rows x y n, .int vd[j], rfl, rfl, SqT.of (sG _ _ hq), ?_, ?_⟩
    · rw [eq, ej]
      exact atI_nat (by rw [List.getElem?_map, List.getElem?_eq_getElem jl]; rfl)
    · have kk := k G sG
      unfold verd at kk
      rw [hn, ej, Int.toNat_natCast, List.getD_eq_getElem?_getD, List.getElem?_eq_getElem jl, Option.getD_some] at kk
      exact kk
/-! words -/
def abcS (l : Int) : Str := cutS "abc" none (some l)
theorem abc_ok {l : Int} (h1 : 1 ≤ l) (h3 : l ≤ 3) : (abcS l).cps.toList.length = l.toNat ∧ ∀ c ∈ (abcS l).cps.toList, 97 ≤ c ∧ c < 97 + l.toNat := by
  rcases signs_cases h1 h3 with rfl | rfl | rfl <;> exact ⟨by decide +kernel, by decide +kernel⟩
theorem word_nil {l : Int} : Word l ⟨#[]⟩ := fun c h => nomatch h
theorem word_app {l : Int} {x y : Str} (wx : Word l x) (wy : Word l y) : Word l (x ++ y) := fun c h => by
  have e : (x ++ y).cps.toList = x.cps.toList ++ y.cps.toList := TL.tl_append x y
  rw [e] at h
  rcases List.mem_append.mp h with h | h
  · exact wx c h
  · exact wy c h
theorem word_cut {l : Int} {x : Str} (wx : Word l x) (lo hi : Option Int) : Word l (cutS x lo hi) := fun c h => by
  unfold cutS at h
  exact wx c (List.mem_of_mem_drop (List.mem_of_mem_take (by simpa using h)))
theorem word_rep {l : Int} {x : Str} (wx : Word l x) {n : Int} (h : 1 ≤ n) : Word l (repS x n) ∧ (repS x n).length ≤ n.toNat * x.length := by
  obtain ⟨k, e, hk⟩ := repS_list (z := x) h
  refine ⟨fun c hc => ?_, ?_⟩
  · rw [e] at hc
    obtain ⟨y, hy, hc⟩ := List.mem_flatten.mp hc
    rw [(List.mem_replicate.mp hy).2] at hc
    exact wx c hc
  · have e2 : (repS x n).length = (repS x n).cps.toList.length := TL.len_tl _
    rw [e2, e, flat_rep_len]
    exact Nat.mul_le_mul hk (Nat.le_of_eq (TL.len_tl x).symm)
theorem app_len (x y : Str) : (x ++ y).length = x.length + y.length := by
  rw [TL.len_tl, TL.tl_append, List.length_append, ← TL.len_tl, ← TL.len_tl]
def spWords : Sp := fun vs H Q _ => ∃ l m : Int, vs = [.int l, .int m] ∧ 1 ≤ l ∧ l ≤ 3 ∧ 0 ≤ m ∧ m ≤ 5 ∧ ∀ p G ws, Same H G → H p = none → G p = some (.lst (ws.map V.str)) → ws ≠ [] → ws.length ≤ 364 → (∀ x ∈ ws, Word l x ∧ x.length ≤ 5) → Q (.ref p) G
theorem scWords : FnScope ["_law_letters", "_law_most", "_law_found", "_law_layer", "_law_size", "_law_further", "_law_word_here", "_law_letter"] ["_law_letters", "_law_most"] (defScope sWords) := ⟨rfl, rfl, rfl, by decide +kernel, rfl, by decide +kernel, by decide +kernel⟩
theorem ok_words {f : Addr} {fd : FuncData} (F : Fun K "_law_words" "_law_words" sWords f fd) (U : Fre2b mg) : FnOk P w K mg base CX0 1 f fd ["_law_letters", "_law_most"] spWords := by
  refine F.ok scWords (fun vs H Q E h => ?_) (fun cdv A outer s H vs Q E hr h => ?_)
  · obtain ⟨l, m, rfl, _⟩ := h
    rfl
  · obtain ⟨l, m, rfl, h1, h3, m0, m5, k⟩ := h
    refine ⟨_, pss_cons (ps_par (i := 2) (j := 3) (by rfl) scWords.nd rfl rfl (by decide) rfl rfl (pa_cons (pe_lst (pa_cons pe_str pa_nil)) (pa_cons (pe_lst (pa_cons pe_str pa_nil)) pa_nil)) (by rfl))
      (pss_cons (ps_for PassesOwn.never rfl (pi_range1 (by rfl) U.range (pa_cons (pv 1) pa_nil)) (pg_name (i := 4) scWords.nd rfl (Or.inl rfl))
        (pss_cons (ps_set (i := 5) scWords.nd rfl (Or.inl rfl) (pe_lst pa_nil))
        (pss_cons (ps_for PassesOwn.never rfl (pi_list (pv 3)) (pg_name (i := 6) scWords.nd rfl (Or.inr rfl))
          (pss_one (ps_expr (pe_bm PySem.F.plainAttrs_list PySem.F.slot_list_extend PySem.F.type_list_extend mt_extend (pv 5)
            (pa_cons (pe_lc (own := [("_law_letter", 7)]) (g := gName 7) (tt := tYes) rfl scWords.nd (pi_str (pe_slice sl_str pe_str po_none (po_some (pv 0)))) (blkOk_by (N := ["_law_letters", "_law_most", "_law_found", "_law_layer", "_law_size", "_law_further", "_law_word_here", "_law_letter"]) (sc := defScope sWords) (by decide +kernel))
              (fun _ _ _ _ _ => pg_name (i := 7) scWords.nd rfl (Or.inl rfl)) (fun _ _ _ _ _ => pts_nil) (fun _ _ _ _ _ => pe_op op_add_str (pv 6) (pv 7))) pa_nil)))))
        (pss_cons (ps_set (i := 3) scWords.nd rfl (Or.inl rfl) (pv 5))
        (pss_one (ps_set (i := 2) scWords.nd rfl (Or.inl rfl) (pe_op op_cat (pv 2) (pv 3))))))))
      (pss_one (ps_ret (pv 2)))), ?_⟩
    obtain ⟨al, aw⟩ := abc_ok h1 h3
    refine ⟨by decide, fun p hp => ⟨by decide, fun q hq => ?_⟩⟩
    have e0 : (Str.ofString "") = (⟨#[]⟩ : Str) := rfl
    have w0 : ∀ x ∈ [Str.ofString ""], Word l x ∧ x.length ≤ 0 := fun x hx => by
      rw [List.mem_singleton.mp hx]
      exact ⟨word_nil, Nat.le_refl _⟩
    refine ⟨_, _, rfl, ?_⟩
    show tSeq _ _ _ [some (.int l), some (.int m), some (.ref p), some (.ref q), none, none, none, none] (upd (upd H p (.lst [V.str (Str.ofString "")])) q (.lst [V.str (Str.ofString "")]))
    refine ⟨_, rfl, m, rfl, by omega, by omega, for_it walk_range (fun i σ G => ∃ v4 v5 v6 a b, ∃ ws ys : List Str, σ = [some (.int l), some (.int m), some (.ref a), some (.ref b), v4, v5, v6, none] ∧ Same H G ∧ H a = none ∧ G a = some (.lst (ws.map V.str)) ∧ G b = some (.lst (ys.map V.str)) ∧ ws ≠ [] ∧
        2 * ws.length + 1 ≤ 3 ^ (i + 1) ∧ ys.length ≤ 3 ^ i ∧ (∀ x ∈ ws, Word l x ∧ x.length ≤ i) ∧ ∀ x ∈ ys, Word l x ∧ x.length ≤ i)
      ⟨none, none, none, p, q, [Str.ofString ""], [Str.ofString ""], rfl, (Sk.Same.upd hp).trans (Sk.Same.upd hq), hp, Sk.Same.upd hq _ _ upd_same, upd_same, by simp, by decide, by decide, w0, w0⟩ (fun _ _ _ _ _ => trivial) ?_ ?_⟩
    · rintro i x σ G G2 hi ⟨v4, v5, v6, a, b, ws, ys, rfl, sm, ha, ga, gb, wne, wl, yl, ww, yw⟩ ⟨rfl, rfl⟩
      have i5 : i < 5 := by omega
      have p5 : 3 ^ i ≤ 81 := Nat.le_trans (Nat.pow_le_pow_right (by decide) (by omega : i ≤ 4)) (by decide)
      have pw : 3 ^ (i + 1) = 3 * 3 ^ i := by rw [Nat.pow_succ, Nat.mul_comm]
      refine ⟨by decide, fun B hB => ⟨_, rfl, b, rfl, ⟨_, SqL.of (Sk.Same.upd hB _ _ gb)⟩, ?_⟩⟩
      refine for_it walk_list (fun j σ F => ∃ u6, ∃ zs : List Str, σ = [some (.int l), some (.int m), some (.ref a), some (.ref b), some (.int (0 + (i : Nat))), some (.ref B), u6, none] ∧ Same G2 F ∧ F B = some (.lst (zs.map V.str)) ∧ zs.length ≤ 3 * j ∧ ∀ x ∈ zs, Word l x ∧ x.length ≤ i + 1)
        ⟨v6, [], rfl, Sk.Same.upd hB, upd_same, by decide, fun x h => nomatch h⟩ (fun j σ F _ ⟨_, _, _, sF, _⟩ => SqL.of (sF _ _ gb)) ?_ ?_
      · rintro j x σ F F' hj ⟨u6, zs, rfl, sF, fB, zl, zw⟩ ⟨rfl, hx⟩
        rw [List.getElem?_map] at hx
        obtain ⟨y, hy, rfl⟩ := Option.map_eq_some_iff.mp hx
        obtain ⟨wy, ly⟩ := yw y (List.mem_of_getElem? hy)
        have jl : j < ys.length := (List.getElem?_eq_some_iff.mp hy).1
        refine ⟨_, rfl, .inl ⟨rfl, _, SqL.of fB⟩, _, rfl, l, rfl, _, rfl, by decide +kernel, _, rfl, fun D hD => lc_it walk_str (fun k F2 => ∃ ts : List Str, Same F' F2 ∧ F2 D = some (.lst (ts.map V.str)) ∧ ts.length = k ∧ ∀ t ∈ ts, Word l t ∧ t.length ≤ i + 1)
          ⟨[], Sk.Same.upd hD, upd_same, rfl, fun t h => nomatch h⟩ (fun _ _ _ _ => trivial) ?_ ?_⟩
        · rintro k x2 F2 F3 hk ⟨ts, s2, gD, tl, tw⟩ ⟨rfl, c2, hc2, rfl⟩
          have cw : Word l ⟨#[c2]⟩ := fun c hc => by
            obtain rfl : c = c2 := by simpa using hc
            exact aw c (List.mem_of_getElem? (by simpa [abcS] using hc2))
          refine ⟨rfl, yesE ⟨_, rfl, _, rfl, _, _, rfl, rfl, Nat.le_trans (by show y.length + 1 ≤ 6; omega) (by decide), _, gD, ?_, ts ++ [y ++ ⟨#[c2]⟩], ?_, ?_, ?_, ?_⟩⟩
          · have hk2 : k < (abcS l).cps.size := hk
            rw [← Array.length_toList, al] at hk2
            rw [List.length_map, tl]
            exact Nat.lt_of_lt_of_le (by omega : k < 3) (by decide)
          · exact fun q o e => by rw [upd_ne (ne_of_none e hD)]; exact s2 q o e
          · rw [upd_same, List.map_append]
            rfl
          · rw [List.length_append, tl]
            rfl
          · intro t ht
            rcases List.mem_append.mp ht with h | h
            · exact tw t h
            · rw [List.mem_singleton.mp h]
              refine ⟨word_app wy cw, ?_⟩
              rw [app_len]
              show y.length + 1 ≤ i + 1
              omega
        · rintro F2 ⟨ts, s2, gD, tl, tw⟩
          have tl2 : ts.length = l.toNat := by
            rw [tl, ← al, Array.length_toList]
            rfl
          have BD : B ≠ D := ne_of_none fB hD
          refine ⟨B, D, _, _, rfl, rfl, s2 _ _ fB, gD, ?_, some (.str y), zs ++ ts, rfl, fun q o e => ?_, ?_, ?_, ?_⟩
          · rw [List.length_map, List.length_map]
            exact Nat.le_trans (by omega : _ ≤ 1000) (by decide)
          · rw [upd_ne (ne_of_none e hB)]
            exact s2 _ _ (sF q o e)
          · rw [upd_same, List.map_append]
          · rw [List.length_append]
            omega
          · intro t ht
            rcases List.mem_append.mp ht with h | h
            · exact zw t h
            · exact tw t h
      · rintro σ F ⟨u6, zs, rfl, sF, fB, zl, zw⟩
        rw [List.length_map] at zl
        refine ⟨_, rfl, _, rfl, _, rfl, a, B, _, _, rfl, rfl, sF _ _ ga, fB, ?_, fun r hr2 => ?_⟩
        · rw [List.length_map, List.length_map]
          exact Nat.le_trans (by omega : _ ≤ 1000) (by decide)
        · refine ⟨_, _, _, r, B, ws ++ zs, zs, rfl, (sm.trans sF).trans (Sk.Same.upd hr2), (sm.trans sF).free hr2, ?_, Sk.Same.upd hr2 _ _ fB, ?_, ?_, ?_, ?_, zw⟩
          · rw [upd_same, List.map_append]
          · intro e
            exact wne (List.append_eq_nil_iff.mp e).1
          · rw [List.length_append, Nat.pow_succ]
            omega
          · omega
          · intro t ht
            rcases List.mem_append.mp ht with h | h
            · exact ⟨(ww t h).1, Nat.le_trans (ww t h).2 (by omega)⟩
            · exact zw t h
    · rintro σ G ⟨v4, v5, v6, a, b, ws, ys, rfl, sm, ha, ga, gb, wne, wl, yl, ww, yw⟩
      have p5 : 3 ^ (m.toNat + 1) ≤ 729 := Nat.le_trans (Nat.pow_le_pow_right (by decide) (by omega : m.toNat + 1 ≤ 6)) (by decide)
      exact ⟨_, rfl, k a _ ws sm ha ga wne (by omega) fun x hx => ⟨(ww x hx).1, Nat.le_trans (ww x hx).2 (by omega)⟩⟩
end
end K36


set_option Elab.async false
set_option linter.all false
set_option maxRecDepth 100000
set_option maxHeartbeats 4000000
namespace K36
open PySem PySem.Spec PyProof.Rows L2 Sk
theorem joinL_nil : ∀ ps : List (List Nat), TL.joinL [] ps = ps.flatten
  | [] => rfl
  | [p] => by simp [TL.joinL]
  | p :: q :: r => by
    have ih := joinL_nil (q :: r)
    rw [List.flatten_cons, ← ih]
    rfl
theorem flat_one : ∀ ps : List (List Nat), (∀ p ∈ ps, p.length = 1) → ps.flatten.length = ps.length
  | [], _ => rfl
  | p :: ps, h => by
    rw [List.flatten_cons, List.length_append, flat_one ps fun q hq => h q (List.mem_cons_of_mem _ hq), h p (by simp), List.length_cons, Nat.add_comm]
theorem sum_one : ∀ zs : List Str, (∀ z ∈ zs, z.length = 1) → (zs.map (·.length)).sum = zs.length
  | [], _ => rfl
  | z :: zs, h => by
    rw [List.map_cons, List.sum_cons, sum_one zs fun q hq => h q (List.mem_cons_of_mem _ hq), h z (by simp), List.length_cons, Nat.add_comm]
theorem join_ok {l : Int} {zs : List Str} (h : ∀ z ∈ zs, Word l z ∧ z.length = 1) : Word l (Txt.join "" zs) ∧ (Txt.join "" zs).length = zs.length := by
  have e : (Txt.join "" zs).cps.toList = (zs.map TL.tl).flatten := by
    rw [TL.join_eq]
    show TL.tl (Str.join "" zs) = _
    rw [TL.tl_join]
    exact joinL_nil _
  refine ⟨fun c hc => ?_, ?_⟩
  · rw [e] at hc
    obtain ⟨p, hp, hc⟩ := List.mem_flatten.mp hc
    obtain ⟨z, hz, rfl⟩ := List.mem_map.mp hp
    exact (h z hz).1 c hc
  · have e2 : (Txt.join "" zs).length = (Txt.join "" zs).cps.toList.length := TL.len_tl _
    rw [e2, e, flat_one, List.length_map]
    intro p hp
    obtain ⟨z, hz, rfl⟩ := List.mem_map.mp hp
    rw [← TL.len_tl]
    exact (h z hz).2
section
variable {P : Program} {w : World} {K : PySem.W.Frag} {mg : Str → Option Value} {base : Heap}
def spWord : Sp := fun vs H Q _ => ∃ (d c : Addr) (n l m : Int), vs = [.ref d, .int l, .int m] ∧ Deck d c n H ∧ n ≤ 10 ^ 8 ∧ 1 ≤ l ∧ l ≤ 3 ∧ 0 ≤ m ∧ m ≤ 1000 ∧
  ∀ z G n2, Word l z → (z.length : Int) ≤ m → Deck d c n2 G → n2 ≤ n + m + 1 → Keep (dk d c) H G → Q (.str z) G
theorem scWord : FnScope ["_law_deck_here", "_law_letters", "_law_most", "_law_k"] ["_law_deck_here", "_law_letters", "_law_most"] (defScope sWord) := ⟨rfl, rfl, rfl, by decide +kernel, rfl, by decide +kernel, by decide +kernel⟩
theorem ok_word {f : Addr} {fd : FuncData} (F : Fun K "_law_word" "_law_word" sWord f fd) (U : Fre2b mg) (CD : Callee P w K mg base 1 "_law_draw" ["_law_deck_here", "_law_most"] spDraw) (CO : Callee P w K mg base 2 "_law_one" ["_law_deck_here", "_law_items"] spOneG) :
    FnOk P w K mg base CX0 3 f fd ["_law_deck_here", "_law_letters", "_law_most"] spWord := by
  obtain ⟨fD, fdD, GD, mD, kD, bD⟩ := CD
  obtain ⟨fO, fdO, GO, mO, kO, bO⟩ := CO
  refine F.ok scWord (fun vs H Q E h => ?_) (fun cdv A outer s H vs Q E hr h => ?_)
  · obtain ⟨d, c, n, l, m, rfl, _⟩ := h
    rfl
  · obtain ⟨d, c, n, l, m, rfl, D, n8, h1, h3, m0, m9, k⟩ := h
    have hr1 : Room 1 _ := hr.mono (by decide)
    refine ⟨_, pss_one (ps_ret (pe_join pe_str (pe_lc (own := [("_law_k", 3)]) (g := gName 3) (tt := tYes) rfl scWord.nd (pi_range1 (by rfl) U.range (pa_cons (pe_call GD hr1 (by rfl) mD kD bD .nil pass0 (pa_cons (pv 0) (pa_cons (pe_op op_add (pv 2) pe_int) pa_nil))) pa_nil)) (blkOk_by (N := ["_law_deck_here", "_law_letters", "_law_most", "_law_k"]) (sc := defScope sWord) (by decide +kernel))
      (fun _ _ _ _ _ => pg_name (i := 3) scWord.nd rfl (Or.inl rfl)) (fun _ _ _ _ _ => pts_nil) (fun _ _ _ _ _ => pe_call GO hr (by rfl) mO kO bO .nil pass0 (pa_cons (pv 0) (pa_cons (pe_slice sl_str pe_str po_none (po_some (pv 1))) pa_nil)))))), ?_⟩
    obtain ⟨al, aw⟩ := abc_ok h1 h3
    refine ⟨⟨_, rfl⟩, _, rfl, _, rfl, _, _, rfl, rfl, d, c, n, m + 1, rfl, D, by omega, by omega, by omega, fun t G t0 t1 D1 k1 => ⟨t, rfl, by omega, by omega, fun B hB => ?_⟩⟩
    refine lc_it walk_range (fun i F => ∃ zs : List Str, Deck d c (n + 1 + (i : Nat)) F ∧ Keep (dk d c) G F ∧ F B = some (.lst (zs.map V.str)) ∧ zs.length = i ∧ ∀ z ∈ zs, Word l z ∧ z.length = 1)
      ⟨[], by simpa using D1.keep (Sk.Same.upd hB), .of (Sk.Same.upd hB), upd_same, rfl, fun z h => nomatch h⟩ (fun _ _ _ _ => trivial) ?_ ?_
    · rintro i x F F1 hi ⟨zs, D2, k2, gB, zl, zw⟩ ⟨rfl, rfl⟩
      have nB : ¬ dk d c B := D1.off hB
      have aL : (abcS l).length = l.toNat := by rw [← al]; exact TL.len_tl _
      refine ⟨rfl, yesE ⟨_, rfl, _, rfl, l, rfl, _, rfl, by decide +kernel, d, c, n + 1 + (i : Nat), _, rfl, D2, by omega, .inr ⟨abcS l, rfl, by omega, by omega, fun e F2 he D3 k3 => ⟨_, k3 B _ gB nB, ?_, zs ++ [⟨#[e]⟩], ?_, ?_, ?_, ?_, ?_⟩⟩⟩⟩
      · rw [List.length_map, zl]
        exact Nat.lt_of_lt_of_le (by omega : i < 2000) (by decide)
      · have e1 : n + 1 + ((i + 1 : Nat) : Int) = n + 1 + (i : Nat) + 1 := by omega
        rw [e1]
        exact D3.upd nB
      · exact (k2.trans k3).new hB
      · rw [upd_same, List.map_append]
        rfl
      · rw [List.length_append, zl]
        rfl
      · intro z hz
        rcases List.mem_append.mp hz with h | h
        · exact zw z h
        · rw [List.mem_singleton.mp h]
          refine ⟨fun c hc => ?_, rfl⟩
          obtain rfl : c = e := by simpa using hc
          exact aw c he
    · rintro F ⟨zs, D2, k2, gB, zl, zw⟩
      obtain ⟨jw, jl⟩ := join_ok zw
      refine ⟨_, B, zs, rfl, rfl, .inl (SqL.of gB), ?_, k _ F _ jw (by rw [jl]; omega) D2 (by omega) (k1.trans k2)⟩
      rw [sum_one zs fun z hz => (zw z hz).2]
      show zs.length + zs.length * 0 ≤ 16777216
      omega
end
end K36


set_option Elab.async false
set_option linter.all false
set_option maxRecDepth 100000
set_option maxHeartbeats 4000000
namespace K36
open PySem PySem.Spec PyProof.Rows L2 Sk
abbrev sLaw : Stmt := top 16
abbrev NL : List Str := ["_law_script", "_law_deck_here", "_law_turn", "_law_letters", "_law_comp_here", "_law_some", "_law_one_here", "_law_k", "_law_other", "_law_long", "_law_due", "_law_told"]
def spLaw (K : PySem.W.Frag) : Sp := fun vs H Q _ => ∃ (a : Addr) (ns : List Int), vs = [.ref a] ∧ SqL K H a (ns.map V.int) ∧ ns.length ≤ 63 ∧ ∀ H1, Q (.bl true) H1
def pt (p : Str × Str) : Tr := .tup [.str p.1, .str p.2]
def Good (l : Int) (p : Str × Str) : Prop := Word l p.1 ∧ Word l p.2 ∧ p.1.length ≤ 10000 ∧ p.2.length ≤ 10000
structure Prs (av : Addr → Prop) (l : Int) (G : Hp) (xs : List V) (ps : List (Str × Str)) : Prop where
  d : DatA av G xs (ps.map pt)
  g : ∀ p ∈ ps, Good l p
def vp (l : Int) (rows : List (List Int)) (vd : List Int) (p : Str × Str) : Int := verd l rows vd p.1 p.2
theorem Prs.rev {av : Addr → Prop} {l : Int} {G : Hp} {xs : List V} {ps : List (Str × Str)} (P : Prs av l G xs ps) : Prs av l G xs.reverse ps.reverse :=
  ⟨by rw [List.map_reverse]; exact P.d.reverse, fun p h => P.g p (List.mem_reverse.mp h)⟩
theorem Prs.len {av : Addr → Prop} {l : Int} {G : Hp} {xs : List V} {ps : List (Str × Str)} (P : Prs av l G xs ps) : xs.length = ps.length := by rw [P.d.length, List.length_map]
/-- the verdicts of pairs, by a def that tells them -/
theorem tells_lc {K : PySem.W.Frag} {av av2 : Addr → Prop} {b : Addr} {l m : Int} {rows : List (List Int)} {vd : List Int} {xs : List V} {ps : List (Str × Str)} {G : Hp} {v : V} {s0 s1 s2 s3 s5 s6 s7 s8 s9 s10 s11 : Option V} {Q : VK}
    (gb : G b = some (.lst xs)) (lx : xs.length ≤ 1000) (P : Prs av l G xs ps) (dv : Dat av2 G v (cmpT l rows vd)) (cm : IsCmp l m rows vd) (h1 : 1 ≤ l) (h3 : l ≤ 3) (m1 : 1 ≤ m)
    (k : ∀ D F, Same G F → G D = none → F D = some (.lst ((ps.map (vp l rows vd)).map V.int)) → Q (.ref D) F) :
    tLc (fun _ H R => R (Itl K b) H) (gTup K 2 (gCons (gName 6) (gCons (gName 8) gNil))) tYes (tCall spTells [] E0 (tCons (tVar 4) (tCons (tVar 6) (tCons (tVar 8) tNil)))) [6, 8] [s0, s1, s2, s3, some v, s5, s6, s7, s8, s9, s10, s11] G Q := by
  refine fun D hD => lc_it walk_list (fun i F => Same G F ∧ F D = some (.lst (((ps.take i).map (vp l rows vd)).map V.int)))
    ⟨Sk.Same.upd hD, upd_same⟩ (fun i F _ h => SqL.of (h.1 _ _ gb)) ?_ ?_
  · rintro i x F F1 hi ⟨sF, gD⟩ ⟨rfl, hx⟩
    obtain ⟨t, ht, dt⟩ := P.d.get hx
    rw [List.getElem?_map] at ht
    obtain ⟨p, hp, rfl⟩ := Option.map_eq_some_iff.mp ht
    obtain ⟨w1, w2, l1, l2⟩ := P.g p (List.mem_of_getElem? hp)
    cases dt with
    | @tup a ys _ ha na da =>
    match ys, da with
    | [_, _], .cons (.str _) (.cons (.str _) .nil) =>
    refine ⟨a, _, rfl, SqT.of (sF _ _ ha), rfl, _, _, rfl, _, _, rfl, rfl, rfl, yesE ?_⟩
    refine ⟨_, rfl, _, rfl, _, rfl, av2, v, p.1, p.2, l, m, rows, vd, rfl, dv.same sF, cm, h1, h3, m1, w1, w2, l1, l2, fun F2 s2 => ⟨_, s2 _ _ gD, ?_, ?_, ?_⟩⟩
    · rw [List.length_map, List.length_map, List.length_take]
      have := P.len
      exact Nat.lt_of_le_of_lt (by omega : _ ≤ 1000) (by decide)
    · exact fun q o e => by rw [upd_ne (ne_of_none e hD)]; exact s2 _ _ (sF q o e)
    · rw [upd_same, List.take_add_one, hp, List.map_append, List.map_append]
      rfl
  · rintro F ⟨sF, gD⟩
    refine k D F sF hD ?_
    rw [gD, P.len, List.take_length]
def avL (d c L : Addr) : Addr → Prop := fun b => dk d c b ∨ b = L
theorem upL {d c L : Addr} {F : Hp} {o : HO} : Keep (avL d c L) F (upd F L o) := fun b u e z => by rw [upd_ne fun q => z (.inr q)]; exact e
theorem keepL {d c L : Addr} {F G : Hp} (k : Keep (dk d c) F G) : Keep (avL d c L) F G := k.mono fun b h => .inl h
theorem datA_loose {d c L : Addr} {F : Hp} {xs : List V} {ts : List Tr} (h : DatA (avL d c L) F xs ts) : DatA (dk d c) F xs ts := DatA.move (fun b o e z => ⟨e, fun q => z (.inl q)⟩) _ _ h
/-- a new list at L is no part of what is there -/
theorem datA_tight {d c L : Addr} {F : Hp} {o : HO} {xs : List V} {ts : List Tr} (h : DatA (dk d c) F xs ts) (hL : F L = none) : DatA (avL d c L) (upd F L o) xs ts :=
  DatA.move (fun b u e z => ⟨by rw [upd_ne (ne_of_none e hL)]; exact e, fun q => q.elim z fun q => ne_of_none e hL q⟩) _ _ h
theorem dat_tight {d c L : Addr} {F : Hp} {o : HO} {x : V} {t : Tr} (h : Dat (dk d c) F x t) (hL : F L = none) : Dat (avL d c L) (upd F L o) x t :=
  Dat.move (fun b u e z => ⟨by rw [upd_ne (ne_of_none e hL)]; exact e, fun q => q.elim z fun q => ne_of_none e hL q⟩) _ _ h
structure Wds (l : Int) (ws : List Str) : Prop where
  ne : ws ≠ []
  le : ws.length ≤ 364
  w : ∀ x ∈ ws, Word l x ∧ x.length ≤ 5
theorem good_mk {l : Int} {x y : Str} (wx : Word l x) (wy : Word l y) (lx : x.length ≤ 10000) (ly : y.length ≤ 10000) : Good l (x, y) := ⟨wx, wy, lx, ly⟩
theorem Wds.good {l : Int} {ws : List Str} (W : Wds l ws) {x y : Str} (hx : x ∈ ws) (hy : y ∈ ws) : Good l (x, y) :=
  good_mk (W.w x hx).1 (W.w y hy).1 (Nat.le_trans (W.w x hx).2 (by decide)) (Nat.le_trans (W.w y hy).2 (by decide))
def PvP (d c B : Addr) (l n : Int) (G : Hp) (i : Nat) (F : Hp) : Prop := ∃ (xs : List V) (ps : List (Str × Str)), Deck d c (n + (i : Nat)) F ∧ Keep (dk d c) G F ∧ F B = some (.lst xs) ∧ DatA (avL d c B) F xs (ps.map pt) ∧ ps.length = i ∧ ∀ p ∈ ps, Good l p
theorem PvP.push {d c B : Addr} {l n : Int} {G F F2 : Hp} {i : Nat} {xs : List V} {ps : List (Str × Str)} (hB : G B = none) (D2 : Deck d c (n + (i : Nat)) F) (kp : Keep (dk d c) G F) (gB : F B = some (.lst xs)) (dx : DatA (avL d c B) F xs (ps.map pt)) (pl : ps.length = i) (pg : ∀ p ∈ ps, Good l p)
    (i9 : i ≤ 364) (D3 : Deck d c (n + (i : Nat) + 1) F2) (k3 : Keep (dk d c) F F2) (nB : ¬ dk d c B) {x y : Str} (g : Good l (x, y)) {t : Addr} (ht : F2 t = none) :
    ∃ acc, (upd F2 t (.tup [.str x, .str y])) B = some (.lst acc) ∧ acc.length < sizeLine ∧ PvP d c B l n G (i + 1) (upd (upd F2 t (.tup [.str x, .str y])) B (.lst (acc ++ [.ref t]))) := by
  have gB2 := k3 _ _ gB nB
  have Bt : B ≠ t := ne_of_none gB2 ht
  have nt : ¬ dk d c t := D3.off ht
  have e1 : n + ((i + 1 : Nat) : Int) = n + (i : Nat) + 1 := by omega
  refine ⟨xs, by rw [upd_ne Bt]; exact gB2, ?_, xs ++ [.ref t], ps ++ [(x, y)], ?_, ?_, upd_same, ?_, ?_, ?_⟩
  · rw [dx.length, List.length_map, pl]
    exact Nat.lt_of_le_of_lt i9 (by decide)
  · rw [e1]
    exact (D3.keep (Sk.Same.upd ht)).upd nB
  · exact ((kp.trans k3).trans (.of (Sk.Same.upd ht))).new hB
  · rw [List.map_append]
    refine DatA.append ((((dx.keep (keepL k3)).same (Sk.Same.upd ht))).keep upL) (.cons (.tup (xs := [.str x, .str y]) (by rw [upd_ne Bt.symm, upd_same]) ?_ (.cons (.str x) (.cons (.str y) .nil))) .nil)
    rintro (q | q)
    · exact nt q
    · exact Bt q.symm
  · rw [List.length_append, pl]
    rfl
  · intro p hp
    rcases List.mem_append.mp hp with h | h
    · exact pg p h
    · rw [List.mem_singleton.mp h]
      exact g
theorem PvP.start {d c B : Addr} {l n : Int} {G : Hp} (D : Deck d c n G) (hB : G B = none) : PvP d c B l n G 0 (upd G B (.lst [])) :=
  ⟨[], [], by simpa using D.keep (Sk.Same.upd hB), .of (Sk.Same.upd hB), upd_same, .nil, rfl, fun p h => nomatch h⟩
section
variable {K : PySem.W.Frag} {d c b : Addr} {l n : Int} {ws : List Str} {G : Hp} {s0 s2 s3 s4 s6 s7 s8 s9 s10 s11 : Option V} {Q : VK}
theorem pairs_lc10 (W : Wds l ws) (gb : G b = some (.lst (ws.map V.str))) (D : Deck d c n G) (nb : ¬ dk d c b) (n8 : n ≤ 10 ^ 8)
    (k : ∀ B F xs ps, Deck d c (n + (ws.length : Nat)) F → Keep (dk d c) G F → G B = none → F B = some (.lst xs) → Prs (dk d c) l F xs ps → ps.length = ws.length → Q (.ref B) F) :
    tLc (fun _ H R => R (Itl K b) H) (gName 6) tYes (tTup (tCons (tVar 6) (tCons (tCall (spOne K) [] E0 (tCons (tVar 1) (tCons (tVar 5) tNil))) tNil))) [6] [s0, some (.ref d), s2, s3, s4, some (.ref b), s6, s7, s8, s9, s10, s11] G Q := by
  have wl := W.le
  refine fun B hB => lc_list (xs := ws.map V.str) (PvP d c B l n G) (PvP.start D hB) (fun i F _ h => ?_) ?_ ?_
  · obtain ⟨_, _, _, kp, _⟩ := h
    exact SqL.of (kp _ _ gb nb)
  · rintro i x F hx ⟨xs, ps, D2, kp, gB, dx, pl, pg⟩
    rw [List.getElem?_map] at hx
    obtain ⟨y, hy, rfl⟩ := Option.map_eq_some_iff.mp hx
    have il := (List.getElem?_eq_some_iff.mp hy).1
    refine ⟨rfl, yesE ⟨_, rfl, _, rfl, _, rfl, d, c, b, n + (i : Nat), ws.map V.str, rfl, D2, by omega, kp _ _ gb nb, nb, by simpa using W.ne, by rw [List.length_map]; omega, fun u F2 hu D3 k3 => ?_⟩⟩
    obtain ⟨z, hz, rfl⟩ := List.mem_map.mp hu
    exact ⟨by show 2 ≤ sizeLine; decide, fun t ht => PvP.push hB D2 kp gB dx pl pg (by omega) D3 k3 (D.off hB) (W.good (List.mem_of_getElem? hy) hz) ht⟩
  · rintro F ⟨xs, ps, D2, kp, gB, dx, pl, pg⟩
    rw [List.length_map] at D2 pl
    exact k B F xs ps D2 kp hB gB ⟨datA_loose dx, pg⟩ pl
theorem pairs_lc20 (W : Wds l ws) (gb : G b = some (.lst (ws.map V.str))) (D : Deck d c n G) (nb : ¬ dk d c b) (n8 : n ≤ 10 ^ 8)
    (k : ∀ B F xs ps, Deck d c (n + (ws.length : Nat)) F → Keep (dk d c) G F → G B = none → F B = some (.lst xs) → Prs (dk d c) l F xs ps → ps.length = ws.length → Q (.ref B) F) :
    tLc (fun _ H R => R (Itl K b) H) (gName 6) tYes (tTup (tCons (tCall (spOne K) [] E0 (tCons (tVar 1) (tCons (tVar 5) tNil))) (tCons (tVar 6) tNil))) [6] [s0, some (.ref d), s2, s3, s4, some (.ref b), s6, s7, s8, s9, s10, s11] G Q := by
  have wl := W.le
  refine fun B hB => lc_list (xs := ws.map V.str) (PvP d c B l n G) (PvP.start D hB) (fun i F _ h => ?_) ?_ ?_
  · obtain ⟨_, _, _, kp, _⟩ := h
    exact SqL.of (kp _ _ gb nb)
  · rintro i x F hx ⟨xs, ps, D2, kp, gB, dx, pl, pg⟩
    rw [List.getElem?_map] at hx
    obtain ⟨y, hy, rfl⟩ := Option.map_eq_some_iff.mp hx
    have il := (List.getElem?_eq_some_iff.mp hy).1
    refine ⟨rfl, yesE ⟨_, rfl, _, rfl, d, c, b, n + (i : Nat), ws.map V.str, rfl, D2, by omega, kp _ _ gb nb, nb, by simpa using W.ne, by rw [List.length_map]; omega, fun u F2 hu D3 k3 => ?_⟩⟩
    obtain ⟨z, hz, rfl⟩ := List.mem_map.mp hu
    exact ⟨_, rfl, by show 2 ≤ sizeLine; decide, fun t ht => PvP.push hB D2 kp gB dx pl pg (by omega) D3 k3 (D.off hB) (W.good hz (List.mem_of_getElem? hy)) ht⟩
  · rintro F ⟨xs, ps, D2, kp, gB, dx, pl, pg⟩
    rw [List.length_map] at D2 pl
    exact k B F xs ps D2 kp hB gB ⟨datA_loose dx, pg⟩ pl
theorem pairs_lc1 (W : Wds l ws) (gb : G b = some (.lst (ws.map V.str))) (D : Deck d c n G) (nb : ¬ dk d c b) (n8 : n ≤ 10 ^ 8)
    (k : ∀ B F xs ps, Deck d c (n + (ws.length : Nat)) F → Keep (dk d c) G F → G B = none → F B = some (.lst xs) → Prs (dk d c) l F xs ps → ps.length = ws.length → Q (.ref B) F) :
    tLc (iList K (tVar 5)) (gName 6) tYes (tTup (tCons (tVar 6) (tCons (tCall (spOne K) [] E0 (tCons (tVar 1) (tCons (tVar 5) tNil))) tNil))) [6] [s0, some (.ref d), s2, s3, s4, some (.ref b), s6, s7, s8, s9, s10, s11] G Q :=
  ⟨_, rfl, b, rfl, ⟨_, SqL.of gb⟩, pairs_lc10 W gb D nb n8 k⟩
theorem pairs_lc2 (W : Wds l ws) (gb : G b = some (.lst (ws.map V.str))) (D : Deck d c n G) (nb : ¬ dk d c b) (n8 : n ≤ 10 ^ 8)
    (k : ∀ B F xs ps, Deck d c (n + (ws.length : Nat)) F → Keep (dk d c) G F → G B = none → F B = some (.lst xs) → Prs (dk d c) l F xs ps → ps.length = ws.length → Q (.ref B) F) :
    tLc (iList K (tVar 5)) (gName 6) tYes (tTup (tCons (tCall (spOne K) [] E0 (tCons (tVar 1) (tCons (tVar 5) tNil))) (tCons (tVar 6) tNil))) [6] [s0, some (.ref d), s2, s3, s4, some (.ref b), s6, s7, s8, s9, s10, s11] G Q :=
  ⟨_, rfl, b, rfl, ⟨_, SqL.of gb⟩, pairs_lc20 W gb D nb n8 k⟩
end
section
variable {K : PySem.W.Frag} {av av2 : Addr → Prop} {b : Addr} {l m : Int} {rows : List (List Int)} {vd : List Int} {xs : List V} {ps : List (Str × Str)} {G : Hp} {v : V} {s0 s1 s2 s3 s6 s7 s8 s9 s10 s11 : Option V} {Q : VK}
theorem tells_lcF (gb : G b = some (.lst xs)) (lx : xs.length ≤ 1000) (P : Prs av l G xs ps) (dv : Dat av2 G v (cmpT l rows vd)) (cm : IsCmp l m rows vd) (h1 : 1 ≤ l) (h3 : l ≤ 3) (m1 : 1 ≤ m)
    (k : ∀ D F, Same G F → G D = none → F D = some (.lst ((ps.map (vp l rows vd)).map V.int)) → Q (.ref D) F) :
    tLc (iList K (tVar 5)) (gTup K 2 (gCons (gName 6) (gCons (gName 8) gNil))) tYes (tCall spTells [] E0 (tCons (tVar 4) (tCons (tVar 6) (tCons (tVar 8) tNil)))) [6, 8] [s0, s1, s2, s3, some v, some (.ref b), s6, s7, s8, s9, s10, s11] G Q :=
  ⟨_, rfl, b, rfl, ⟨_, SqL.of gb⟩, tells_lc gb lx P dv cm h1 h3 m1 k⟩
theorem tells_lcR (gb : G b = some (.lst xs)) (lx : xs.length ≤ 1000) (P : Prs av l G xs ps) (dv : Dat av2 G v (cmpT l rows vd)) (cm : IsCmp l m rows vd) (h1 : 1 ≤ l) (h3 : l ≤ 3) (m1 : 1 ≤ m)
    (k : ∀ D F, Same G F → F D = some (.lst ((ps.reverse.map (vp l rows vd)).map V.int)) → Q (.ref D) F) :
    tLc (iList K (tRevL K (tVar 5))) (gTup K 2 (gCons (gName 6) (gCons (gName 8) gNil))) tYes (tCall spTells [] E0 (tCons (tVar 4) (tCons (tVar 6) (tCons (tVar 8) tNil)))) [6, 8] [s0, s1, s2, s3, some v, some (.ref b), s6, s7, s8, s9, s10, s11] G Q := by
  refine ⟨_, rfl, b, xs, rfl, SqL.of gb, fun q hq => ⟨q, rfl, ⟨_, SqL.of upd_same⟩, ?_⟩⟩
  have sq : Same G (upd G q (.lst xs.reverse)) := Sk.Same.upd hq
  exact tells_lc (upd_same (H := G) (a := q)) (by rw [List.length_reverse]; exact lx) ⟨P.rev.d.same sq, P.rev.g⟩ (dv.same sq) cm h1 h3 m1 fun D F sF _ gD => k D F (sq.trans sF) gD
end
end K36


set_option Elab.async false
set_option linter.all false
set_option maxRecDepth 100000
set_option maxHeartbeats 4000000
namespace K36
open PySem PySem.Spec PyProof.Rows L2 Sk
theorem int_show {z : Int} (h : -1 ≤ z ∧ z ≤ 1) : PyData.showable (.int z) = true ∧ PyData.hasDict (.int z) = false ∧ PyData.depth (.int z) ≤ 1 ∧ (PyData.shown (.int z)).length ≤ 4 := by
  rcases (by omega : z = -1 ∨ z = 0 ∨ z = 1) with rfl | rfl | rfl <;> exact ⟨by decide +kernel, by decide +kernel, by decide +kernel, by decide +kernel⟩
theorem ints_show : ∀ vs : List Int, (∀ z ∈ vs, -1 ≤ z ∧ z ≤ 1) → PyData.showableAll (vs.map PyData.int) = true ∧ PyData.hasDictAll (vs.map PyData.int) = false ∧ PyData.depthAll (vs.map PyData.int) ≤ 1 ∧ ((PyData.shownAll (vs.map PyData.int)).map (·.length)).sum ≤ 4 * vs.length ∧ (PyData.shownAll (vs.map PyData.int)).length = vs.length
  | [], _ => ⟨rfl, rfl, by decide, by decide, rfl⟩
  | z :: vs, h => by
    obtain ⟨a1, a2, a3, a4⟩ := int_show (h z (by simp))
    obtain ⟨b1, b2, b3, b4, b5⟩ := ints_show vs fun y hy => h y (List.mem_cons_of_mem _ hy)
    refine ⟨?_, ?_, ?_, ?_, ?_⟩
    · show (PyData.showable (.int z) && PyData.showableAll (vs.map PyData.int)) = true
      rw [a1, b1]
      rfl
    · show (PyData.hasDict (.int z) || PyData.hasDictAll (vs.map PyData.int)) = false
      rw [a2, b2]
      rfl
    · show max (PyData.depth (.int z)) (PyData.depthAll (vs.map PyData.int)) ≤ 1
      omega
    · show (PyData.shown (.int z)).length + ((PyData.shownAll (vs.map PyData.int)).map (·.length)).sum ≤ 4 * (vs.length + 1)
      omega
    · show (PyData.shownAll (vs.map PyData.int)).length + 1 = vs.length + 1
      omega
theorem ints_pd {vs : List Int} (h : ∀ z ∈ vs, -1 ≤ z ∧ z ≤ 1) (l : vs.length ≤ 1000) : (PyData.list (vs.map PyData.int)).showable = true ∧ (PyData.list (vs.map PyData.int)).hasDict = false ∧ (PyData.list (vs.map PyData.int)).depth ≤ 60 ∧ (PyData.list (vs.map PyData.int)).shown.length ≤ sizeLine := by
  obtain ⟨b1, b2, b3, b4, b5⟩ := ints_show vs h
  refine ⟨b1, b2, ?_, ?_⟩
  · show PyData.depthAll (vs.map PyData.int) + 1 ≤ 60
    omega
  · refine Nat.le_trans (listText_len_le _) ?_
    exact Nat.le_trans (by omega : _ ≤ 10000) (by decide)
theorem ints_dpa {K : PySem.W.Frag} {H : Hp} : ∀ vs : List Int, DpAll K H (vs.map V.int) (vs.map PyData.int)
  | [] => .nil
  | z :: vs => .cons (.int z) (ints_dpa vs)
theorem ints_dp {K : PySem.W.Frag} {H : Hp} {D : Addr} {vs : List Int} (g : H D = some (.lst (vs.map V.int))) : Dp K H (.ref D) (.list (vs.map PyData.int)) := .lst (SqL.of g) (ints_dpa vs)
theorem vp_in {l m : Int} {rows : List (List Int)} {vd : List Int} (h1 : 1 ≤ l) (h3 : l ≤ 3) (m1 : 1 ≤ m) (c : IsCmp l m rows vd) {p : Str × Str} (g : Good l p) : -1 ≤ vp l rows vd p ∧ vp l rows vd p ≤ 1 := by
  obtain ⟨r0, r1⟩ := run_in h1 h3 m1 c g.1 g.2.1 _ (Nat.le_refl _)
  have vl := c.vl
  unfold vp verd
  generalize run l rows p.1 p.2 (max p.1.length p.2.length) = z at *
  obtain ⟨j, rfl⟩ : ∃ j : Nat, z = (j : Int) := ⟨z.toNat, by omega⟩
  have jl : j < vd.length := by omega
  rw [Int.toNat_natCast, List.getD_eq_getElem?_getD, List.getElem?_eq_getElem jl, Option.getD_some]
  exact c.vv _ (List.getElem_mem jl)
theorem vps_in {l m : Int} {rows : List (List Int)} {vd : List Int} (h1 : 1 ≤ l) (h3 : l ≤ 3) (m1 : 1 ≤ m) (c : IsCmp l m rows vd) {ps : List (Str × Str)} (g : ∀ p ∈ ps, Good l p) : ∀ z ∈ ps.map (vp l rows vd), -1 ≤ z ∧ z ≤ 1 := fun z hz => by
  obtain ⟨p, hp, rfl⟩ := List.mem_map.mp hz
  exact vp_in h1 h3 m1 c (g p hp)
end K36


set_option Elab.async false
set_option linter.all false
set_option maxRecDepth 100000
set_option maxHeartbeats 4000000
namespace K36
open PySem PySem.Spec PyProof.Rows L2 Sk
section
variable {P : Program} {w : World} {K : PySem.W.Frag} {mg : Str → Option Value} {base : Heap}
def PvB (d c L : Addr) (l : Int) (v : V) (rows : List (List Int)) (vd : List Int) (n0 : Int) (many : Nat) (F : Hp) : Prop := ∃ (n : Int) (xs : List V) (ps : List (Str × Str)), Deck d c n F ∧ n ≤ n0 ∧ F L = some (.lst xs) ∧ Prs (avL d c L) l F xs ps ∧ xs.length ≤ many ∧ Dat (avL d c L) F v (cmpT l rows vd)
theorem tup_dat {d c L : Addr} {F : Hp} {t : Addr} {x y : Str} (gt : F t = some (.tup [.str x, .str y])) (n1 : ¬ dk d c t) (n2 : t ≠ L) : Dat (avL d c L) F (.ref t) (pt (x, y)) := .tup gt (fun q => q.elim n1 n2) (.cons (.str x) (.cons (.str y) .nil))
/-- behind an extend by new pairs -/
theorem PvB.ext {d c L : Addr} {l : Int} {v : V} {rows : List (List Int)} {vd : List Int} {n n0 : Int} {many : Nat} {F F2 : Hp} {xs zs : List V} {ps qs : List (Str × Str)} (oL : ¬ dk d c L) (D2 : Deck d c n F2) (le : n ≤ n0) (P : Prs (avL d c L) l F xs ps) (dv : Dat (avL d c L) F v (cmpT l rows vd)) (k : Keep (dk d c) F F2)
    (dz : DatA (avL d c L) F2 zs (qs.map pt)) (gq : ∀ p ∈ qs, Good l p) (len : xs.length + zs.length ≤ many) : PvB d c L l v rows vd n0 many (upd F2 L (.lst (xs ++ zs))) := by
  refine ⟨n, xs ++ zs, ps ++ qs, D2.upd oL, le, upd_same, ⟨?_, fun p hp => ?_⟩, by rw [List.length_append]; exact len, (dv.keep (keepL k)).keep upL⟩
  · rw [List.map_append]
    exact ((P.d.keep (keepL k)).keep upL).append (dz.keep upL)
  · rcases List.mem_append.mp hp with h | h
    · exact P.g p h
    · exact gq p h
theorem into_name {i : Nat} {x : V} {σ : L2.St} {H : Hp} {A : L2.St → Hp → Prop} (h : A (σ.set i (some x)) H) : gName i x σ H A := h
theorem into_op {r : R2} {t1 t2 : TE} {g : TG} {c : TS} {D : Ends} {σ : L2.St} {H : Hp} (h : t1 σ H fun x H1 => t2 σ H1 fun y H2 => r x y H2 fun z H3 => g z σ H3 (c D)) : tSeq (tAsg (tOp r t1 t2) g) c D σ H := h
theorem into_asg {t : TE} {g : TG} {c : TS} {D : Ends} {σ : L2.St} {H : Hp} (h : t σ H fun x H1 => g x σ H1 (c D)) : tSeq (tAsg t g) c D σ H := h
theorem into_test {r : R2} {R : List V → Hp → VK → Prop} {t u : TE} {σ : L2.St} {H : Hp} {Q : Bool → Hp → Prop} (h : t σ H fun x H1 => R [x] H1 fun y H2 => u σ H2 fun z H3 => r y z H3 fun w H4 => tTest (fun _ H Q => Q w H) σ H4 Q) : tTest (tOp r (tCB R (tCons t tNil)) u) σ H Q := h
theorem scLaw : FnScope NL ["_law_script"] (defScope sLaw) := ⟨rfl, rfl, rfl, by decide +kernel, rfl, by decide +kernel, by decide +kernel⟩
theorem ok_law {f : Addr} {fd : FuncData} (room : Room 4 callerA) (F : Fun K "law" "law" sLaw f fd) (T : Fre mg) (U : Fre2 mg)
    (CDk : Callee P w K mg base 1 "_law_deck" ["_law_script"] (spDeck K)) (CD : Callee P w K mg base 1 "_law_draw" ["_law_deck_here", "_law_most"] spDraw) (CO : Callee P w K mg base 2 "_law_one" ["_law_deck_here", "_law_items"] (spOne K))
    (CC : Callee P w K mg base 3 "_law_comp" ["_law_deck_here", "_law_letters", "_law_states"] spComp) (CL : Callee P w K mg base 3 "_law_tells" ["_law_comp_here", "_law_one_here", "_law_other"] spTells)
    (CWs : Callee P w K mg base 1 "_law_words" ["_law_letters", "_law_most"] spWords) (CW : Callee P w K mg base 3 "_law_word" ["_law_deck_here", "_law_letters", "_law_most"] spWord) (CT : Callee P w K mg base 3 "tells" ["comp", "one", "other"] spTells) :
    TopOk P w K mg base f fd ["_law_script"] (spLaw K) := by
  obtain ⟨f1, fd1, G1, m1, k1, b1⟩ := CDk
  obtain ⟨f2, fd2, G2, m2, k2, b2⟩ := CD
  obtain ⟨f3, fd3, G3, m3, k3, b3⟩ := CO
  obtain ⟨f4, fd4, G4, m4, k4, b4⟩ := CC
  obtain ⟨f5, fd5, G5, m5, k5, b5⟩ := CL
  obtain ⟨f6, fd6, G6, m6, k6, b6⟩ := CWs
  obtain ⟨f7, fd7, G7, m7, k7, b7⟩ := CW
  obtain ⟨f8, fd8, G8, m8, k8, b8⟩ := CT
  refine topOk (k := 3) F scLaw room (fun vs H Q E h => ?_) (fun cdv s H vs Q E hr h => ?_)
  · obtain ⟨a, ns, rfl, _⟩ := h
    rfl
  · obtain ⟨a, ns, rfl, hs, hl, k⟩ := h
    have hu := hr.units
    have r1 : Room 1 _ := hr.mono (by decide)
    have r2 : Room 2 _ := hr.mono (by decide)
    refine ⟨_, pss_cons (ps_set (i := 1) scLaw.nd rfl (Or.inr rfl) (pe_call G1 r1 (by rfl) m1 k1 b1 .nil pass0 (pa_cons (pv 0) pa_nil)))
      (pss_cons (ps_for PassesOwn.never rfl (pi_range1 (by rfl) U.range (pa_cons pe_int pa_nil)) (pg_name (i := 2) scLaw.nd rfl (Or.inl rfl))
        (pss_cons (ps_set (i := 3) scLaw.nd rfl (Or.inl rfl) (pe_op op_add pe_int (pe_call G2 r1 (by rfl) m2 k2 b2 .nil pass0 (pa_cons (pv 1) (pa_cons pe_int pa_nil)))))
        (pss_cons (ps_set (i := 4) scLaw.nd rfl (Or.inr rfl) (pe_call G4 hr (by rfl) m4 k4 b4 .nil pass0 (pa_cons (pv 1) (pa_cons (pv 3)
            (pa_cons (pe_op op_add pe_int (pe_call G2 r1 (by rfl) m2 k2 b2 .nil pass0 (pa_cons (pv 1) (pa_cons (pe_call G3 r2 (by rfl) m3 k3 b3 .nil pass0 (pa_cons (pv 1) (pa_cons (pe_lst (pa_cons pe_int (pa_cons pe_int (pa_cons pe_int pa_nil)))) pa_nil))) pa_nil)))) pa_nil)))))
        (pss_cons (ps_set (i := 5) scLaw.nd rfl (Or.inr rfl) (pe_call G6 r1 (by rfl) m6 k6 b6 .nil pass0 (pa_cons (pv 3) (pa_cons (pe_ix ix_list (pe_lst (pa_cons pe_int (pa_cons pe_int (pa_cons pe_int (pa_cons pe_int pa_nil))))) (pv 3) (fun _ _ => rfl)) pa_nil))))
        (pss_cons (ps_set (i := 5) scLaw.nd rfl (Or.inr rfl) (pe_op op_cat
            (pe_lc (own := [("_law_one_here", 6)]) (g := gName 6) (tt := tYes) rfl scLaw.nd (pi_list (pv 5)) (blkOk_by (N := NL) (sc := defScope sLaw) (by decide +kernel))
              (fun _ _ _ _ _ => pg_name (i := 6) scLaw.nd rfl (Or.inl rfl)) (fun _ _ _ _ _ => pts_nil) (fun _ _ _ _ _ => pe_tup (pa_cons (pv 6) (pa_cons (pe_call G3 r2 (by rfl) m3 k3 b3 .nil pass0 (pa_cons (pv 1) (pa_cons (pv 5) pa_nil))) pa_nil))))
            (pe_lc (own := [("_law_one_here", 6)]) (g := gName 6) (tt := tYes) rfl scLaw.nd (pi_list (pv 5)) (blkOk_by (N := NL) (sc := defScope sLaw) (by decide +kernel))
              (fun _ _ _ _ _ => pg_name (i := 6) scLaw.nd rfl (Or.inl rfl)) (fun _ _ _ _ _ => pts_nil) (fun _ _ _ _ _ => pe_tup (pa_cons (pe_call G3 r2 (by rfl) m3 k3 b3 .nil pass0 (pa_cons (pv 1) (pa_cons (pv 5) pa_nil))) (pa_cons (pv 6) pa_nil))))))
        (pss_cons (ps_for PassesOwn.never rfl (pi_range1 (by rfl) U.range (pa_cons pe_int pa_nil)) (pg_name (i := 7) scLaw.nd rfl (Or.inl rfl))
          (pss_cons (ps_set (i := 6) scLaw.nd rfl (Or.inl rfl) (pe_call G7 hr (by rfl) m7 k7 b7 .nil pass0 (pa_cons (pv 1) (pa_cons (pv 3) (pa_cons (pe_call G3 r2 (by rfl) m3 k3 b3 .nil pass0 (pa_cons (pv 1) (pa_cons (pe_lst (pa_cons pe_int (pa_cons pe_int (pa_cons pe_int pa_nil)))) pa_nil))) pa_nil)))))
          (pss_cons (ps_set (i := 8) scLaw.nd rfl (Or.inl rfl) (pe_call G3 r2 (by rfl) m3 k3 b3 .nil pass0 (pa_cons (pv 1) (pa_cons (pe_lst (pa_cons (pe_call G7 hr (by rfl) m7 k7 b7 .nil pass0 (pa_cons (pv 1) (pa_cons (pv 3) (pa_cons pe_int pa_nil))))
              (pa_cons (pv 6) (pa_cons (pe_slice sl_str (pv 6) po_none (po_some (pe_un un_neg pe_int))) (pa_cons (pe_op op_add_str (pv 6) pe_str) (pa_cons (pe_slice sl_str (pv 6) po_none (po_some (pe_op op_fdiv (pe_callB call_len_str (by rfl) T.len PySem.boot_len (pa_cons (pv 6) pa_nil)) pe_int))) pa_nil)))))) pa_nil))))
          (pss_one (ps_expr (pe_bm PySem.F.plainAttrs_list PySem.F.slot_list_extend PySem.F.type_list_extend mt_extend (pv 5) (pa_cons (pe_lst (pa_cons (pe_tup (pa_cons (pv 6) (pa_cons (pv 8) pa_nil))) (pa_cons (pe_tup (pa_cons (pv 8) (pa_cons (pv 6) pa_nil))) pa_nil))) pa_nil))))))
        )
        (pss_cons (ps_set (i := 9) scLaw.nd rfl (Or.inl rfl) (pe_op op_mulS (pe_call G7 hr (by rfl) m7 k7 b7 .nil pass0 (pa_cons (pv 1) (pa_cons (pv 3) (pa_cons pe_int pa_nil)))) pe_int))
        (pss_cons (ps_expr (pe_bm PySem.F.plainAttrs_list PySem.F.slot_list_extend PySem.F.type_list_extend mt_extend (pv 5) (pa_cons (pe_lst (pa_cons (pe_tup (pa_cons (pv 9) (pa_cons (pe_slice sl_str (pv 9) (po_some pe_int) po_none) pa_nil)))
            (pa_cons (pe_tup (pa_cons (pe_slice sl_str (pv 9) (po_some pe_int) po_none) (pa_cons (pv 9) pa_nil))) (pa_cons (pe_tup (pa_cons (pv 9) (pa_cons (pe_op op_add_str (pv 9) pe_str) pa_nil))) pa_nil)))) pa_nil)))
        (pss_cons (ps_setLc (i := 10) (own := [("_law_one_here", 6), ("_law_other", 8)]) (g := gTup K 2 (gCons (gName 6) (gCons (gName 8) gNil))) (tt := tYes) rfl scLaw.nd rfl rfl (sw_true rfl rfl rfl (by decide +kernel)) (pi_list (pv 5)) (blkOk_by (N := NL) (sc := defScope sLaw) (by decide +kernel))
            (fun _ _ _ _ _ => pg_tup rfl (pgs_cons (pg_name (i := 6) scLaw.nd rfl (.inl rfl)) (pgs_cons (pg_name (i := 8) scLaw.nd rfl (.inl rfl)) pgs_nil))) (fun _ _ _ _ _ => pts_nil) (fun _ _ _ _ _ => pe_call G5 hr (by rfl) m5 k5 b5 .nil pass0 (pa_cons (pv 4) (pa_cons (pv 6) (pa_cons (pv 8) pa_nil)))))
        (pss_cons (ps_setLc (i := 11) (own := [("_law_one_here", 6), ("_law_other", 8)]) (g := gTup K 2 (gCons (gName 6) (gCons (gName 8) gNil))) (tt := tYes) rfl scLaw.nd rfl rfl (sw_true rfl rfl rfl (by decide +kernel)) (pi_list (pv 5)) (blkOk_by (N := NL) (sc := defScope sLaw) (by decide +kernel))
            (fun _ _ _ _ _ => pg_tup rfl (pgs_cons (pg_name (i := 6) scLaw.nd rfl (.inl rfl)) (pgs_cons (pg_name (i := 8) scLaw.nd rfl (.inl rfl)) pgs_nil))) (fun _ _ _ _ _ => pts_nil) (fun _ _ _ _ _ => pe_call G8 hr (by rfl) m8 k8 b8 .nil pass0 (pa_cons (pv 4) (pa_cons (pv 6) (pa_cons (pv 8) pa_nil)))))
        (pss_one (ps_if (PW.pt (pw_or (pt_cmpR op_ne (pe_callB (call_reprD rfl hu) (by rfl) U.repr (by decide +kernel) (pa_cons (pv 11) pa_nil)) (pe_callB (call_reprD rfl hu) (by rfl) U.repr (by decide +kernel) (pa_cons (pv 10) pa_nil)) (nomark _))
            (pw_or1 (pt_cmpR op_ne (pe_callB (call_reprD rfl hu) (by rfl) U.repr (by decide +kernel) (pa_cons (pe_lc (own := [("_law_one_here", 6), ("_law_other", 8)]) (g := gTup K 2 (gCons (gName 6) (gCons (gName 8) gNil))) (tt := tYes) rfl scLaw.nd (pi_list (pe_revL (pv 5))) (blkOk_by (N := NL) (sc := defScope sLaw) (by decide +kernel))
                (fun _ _ _ _ _ => pg_tup rfl (pgs_cons (pg_name (i := 6) scLaw.nd rfl (.inl rfl)) (pgs_cons (pg_name (i := 8) scLaw.nd rfl (.inl rfl)) pgs_nil))) (fun _ _ _ _ _ => pts_nil) (fun _ _ _ _ _ => pe_call G8 hr (by rfl) m8 k8 b8 .nil pass0 (pa_cons (pv 4) (pa_cons (pv 6) (pa_cons (pv 8) pa_nil))))) pa_nil))
              (pe_callB (call_reprD rfl hu) (by rfl) U.repr (by decide +kernel) (pa_cons (pe_revL (pv 10)) pa_nil)) (nomark _))))) (pss_one (ps_ret pe_bl)) pss_nil))))))))))))
      (pss_one (ps_ret pe_bl))), ?_⟩
    refine ⟨_, rfl, a, ns, rfl, hs, hl, fun d c F1 sm hd hc D => ?_⟩
    refine ⟨6, rfl, by decide, by decide, for_it walk_range (fun i σ G => ∃ v2 v3 v4 v5 v6 v7 v8 v9 v10 v11 n, σ = [some (.ref a), some (.ref d), v2, v3, v4, v5, v6, v7, v8, v9, v10, v11] ∧ Deck d c n G ∧ n ≤ 20000 * (i : Nat))
      ⟨none, none, none, none, none, none, none, none, none, none, 0, rfl, D, by omega⟩ (fun _ _ _ _ _ => trivial) ?_ ?_⟩
    · rintro i x σ G G' hi ⟨v2, v3, v4, v5, v6, v7, v8, v9, v10, v11, n, rfl, DG, nle⟩ ⟨rfl, rfl⟩
      have n0 := DG.n0
      have i6 : i < 6 := hi
      refine ⟨_, rfl, d, c, n, 3, rfl, DG, by omega, by decide, by decide, fun l0 E1 l00 l03 D1 kk1 => ⟨_, _, rfl, rfl, ?_⟩⟩
      obtain ⟨l, el⟩ : ∃ l : Int, l = 1 + l0 := ⟨_, rfl⟩
      have h1 : 1 ≤ l := by omega
      have h3 : l ≤ 3 := by omega
      show tSeq _ _ _ [some (.ref a), some (.ref d), some (.int (0 + (i : Nat))), some (.int (1 + l0)), v4, v5, v6, v7, v8, v9, v10, v11] E1
      rw [← el]
      refine ⟨_, rfl, _, rfl, _, rfl, _, rfl, (by show 3 ≤ sizeLine; decide), fun q hq => ⟨d, c, q, n + 1, _, rfl, D1.keep (Sk.Same.upd hq), by omega, upd_same, D1.off hq, by simp, (by show 3 ≤ 1000; decide), fun x E3 hx D2 kk2 => ?_⟩⟩
      obtain ⟨y, rfl, y1, y60⟩ : ∃ y : Int, x = .int y ∧ 1 ≤ y ∧ y ≤ 40 := by
        simp only [List.mem_cons, List.mem_nil_iff, or_false] at hx
        rcases hx with e | e | e
        · exact ⟨4, e, by decide, by decide⟩
        · exact ⟨9, e, by decide, by decide⟩
        · exact ⟨40, e, by decide, by decide⟩
      refine ⟨d, c, n + 1 + 1, y, rfl, D2, by omega, y1, by omega, fun s0 E4 s00 s01 D3 kk3 => ⟨_, _, rfl, rfl, d, c, n + 1 + 1 + 1, l, 1 + s0, rfl, D3, by omega, by omega, by omega, by omega, by omega, fun v E5 n2 rows vd D5 n2le kk4 dv cm => ?_⟩⟩
      obtain ⟨m, em⟩ : ∃ m : Int, m = 1 + s0 := ⟨_, rfl⟩
      rw [← em] at cm
      have mm : 1 ≤ m := by omega
      obtain ⟨u, eu, u0, u5⟩ : ∃ u : Int, atI [V.int 0, .int 5, .int 3, .int 2] l = some (.int u) ∧ 0 ≤ u ∧ u ≤ 5 := by
        rcases signs_cases h1 h3 with rfl | rfl | rfl <;> exact ⟨_, rfl, by decide, by decide⟩
      refine ⟨_, rfl, by show 4 ≤ sizeLine; decide, fun q hq => ⟨_, rfl, q, _, l, .int u, rfl, rfl, SqL.of upd_same, eu, l, u, rfl, h1, h3, u0, u5, fun b E6 ws s6 hb gb wne wl ww => ?_⟩⟩
      have W : Wds l ws := ⟨wne, wl, ww⟩
      have D6 : Deck d c n2 E6 := (D5.keep (Sk.Same.upd hq)).keep s6
      have nb : ¬ dk d c b := (D5.keep (Sk.Same.upd hq)).off hb
      have dv6 := (dv.same (Sk.Same.upd (o := .lst [V.int 0, .int 5, .int 3, .int 2]) hq)).same s6
      have n2b : n2 ≤ 20000 * (i : Nat) + 2003 := by omega
      clear DG D1 D2 D3 D5 kk1 kk2 kk3 kk4 dv hq s6 hb
      refine into_name ?_
      dsimp only
      show tSeq (tAsg _ _) _ _ [some (.ref a), some (.ref d), some (.int (0 + (i : Nat))), some (.int l), some v, some (.ref b), v6, v7, v8, v9, v10, v11] E6
      refine into_op ?_
      refine pairs_lc1 (K := K) W gb D6 nb (by omega) fun B X1 xs1 ps1 DB kB hB gB PB plB => ?_
      refine pairs_lc2 (K := K) W (kB _ _ gb nb) DB nb (by omega) fun B2 X2 xs2 ps2 DB2 kB2 hB2 gB2 PB2 plB2 => ⟨B, B2, xs1, xs2, rfl, rfl, kB2 _ _ gB (D6.off hB), gB2, ?_, fun L hL => ?_⟩
      · rw [PB.len, PB2.len, plB, plB2]
        exact Nat.le_trans (by omega : _ ≤ 1000) (by decide)
      have oL : ¬ dk d c L := DB2.off hL
      have dv8 := dat_tight (o := .lst (xs1 ++ xs2)) ((dv6.keep kB).keep kB2) hL
      have P8 : Prs (avL d c L) l (upd X2 L (.lst (xs1 ++ xs2))) (xs1 ++ xs2) (ps1 ++ ps2) := by
        refine ⟨?_, fun p hp => ?_⟩
        · rw [List.map_append]
          exact datA_tight ((PB.d.keep kB2).append PB2.d) hL
        · rcases List.mem_append.mp hp with h | h
          · exact PB.g p h
          · exact PB2.g p h
      have l8 : (xs1 ++ xs2).length ≤ 728 := by
        rw [List.length_append, PB.len, PB2.len]
        omega
      have D8 : Deck d c (n2 + (ws.length : Nat) + (ws.length : Nat)) (upd X2 L (.lst (xs1 ++ xs2))) := DB2.upd oL
      have start : PvB d c L l v rows vd (20000 * (i : Nat) + 3000) 728 (upd X2 L (.lst (xs1 ++ xs2))) := ⟨_, _, _, D8, by omega, upd_same, P8, l8, dv8⟩
      show tSeq (tFor _ _ _) _ _ [some (.ref a), some (.ref d), some (.int (0 + (i : Nat))), some (.int l), some v, some (.ref L), v6, v7, v8, v9, v10, v11] (upd X2 L (.lst (xs1 ++ xs2)))
      generalize (upd X2 L (.lst (xs1 ++ xs2))) = X at *
      clear D8 l8 P8 dv8 DB2 PB2 kB2 hB2 gB2 plB2 DB kB hB gB PB plB hL W gb D6 nb dv6
      refine ⟨8, rfl, by decide, by decide, for_it walk_range (fun j σ F => ∃ v6 v7 v8, σ = [some (.ref a), some (.ref d), some (.int (0 + (i : Nat))), some (.int l), some v, some (.ref L), v6, v7, v8, v9, v10, v11] ∧ PvB d c L l v rows vd (20000 * (i : Nat) + 3000 + 1000 * (j : Nat)) (728 + 2 * j) F)
        ⟨v6, v7, v8, rfl, start⟩ (fun _ _ _ _ _ => trivial) ?_ ?_⟩
      · rintro j x σ F F' hj ⟨v6, v7, v8, rfl, n3, xs, ps, D9, n3le, gL, P9, l9, dv9⟩ ⟨rfl, rfl⟩
        have j8 : j < 8 := hj
        refine ⟨_, rfl, _, rfl, _, rfl, (by show 3 ≤ sizeLine; decide), fun q hq => ⟨d, c, q, n3, _, rfl, D9.keep (Sk.Same.upd hq), by omega, upd_same, D9.off hq, by simp, (by show 3 ≤ 1000; decide), fun x F2 hx D10 kk1 => ?_⟩⟩
        obtain ⟨y, rfl, y1, y9⟩ : ∃ y : Int, x = .int y ∧ 0 ≤ y ∧ y ≤ 900 := by
          simp only [List.mem_cons, List.mem_nil_iff, or_false] at hx
          rcases hx with e | e | e
          · exact ⟨9, e, by decide, by decide⟩
          · exact ⟨60, e, by decide, by decide⟩
          · exact ⟨900, e, by decide, by decide⟩
        refine ⟨d, c, n3 + 1, l, y, rfl, D10, by omega, h1, h3, y1, by omega, fun z F3 n4 wz lz D11 n4le kk2 => ?_⟩
        have kF3 : Keep (dk d c) F' F3 := ((Keep.of (Sk.Same.upd hq)).trans kk1).trans kk2
        clear hq kk1 kk2 D10
        have lz9 : z.length ≤ 900 := by omega
        have lnz : z.length ≤ sizeLine := Nat.le_trans lz9 (by decide)
        refine ⟨_, rfl, _, rfl, _, rfl, d, c, n4, l, 60, rfl, D11, by omega, h1, h3, by decide, by decide, fun z2 F4 n5 wz2 lz2 D12 n5le kk3 => ?_⟩
        have kF4 : Keep (dk d c) F' F4 := kF3.trans kk3
        have aw : Word l (Str.ofString "a") := fun c hc => by
          rw [show (Str.ofString "a").cps.toList = [97] by decide +kernel] at hc
          obtain rfl : c = 97 := List.mem_singleton.mp hc
          omega
        refine ⟨_, rfl, _, rfl, 1, rfl, _, rfl, z, rfl, lnz, _, rfl, _, _, rfl, rfl, Nat.le_trans (by show z.length + 1 ≤ 1000; omega) (by decide), _, rfl, _, rfl, z, rfl, lnz, _, _, rfl, rfl, ⟨by decide, by decide⟩, _, rfl, z, rfl, lnz, (by show 5 ≤ sizeLine; decide), fun q hq => ?_⟩
        refine ⟨d, c, q, n5, _, rfl, D12.keep (Sk.Same.upd hq), by omega, upd_same, D12.off hq, by simp, (by show 5 ≤ 1000; decide), fun x F5 hx D13 kk4 => ?_⟩
        have kF5 : Keep (dk d c) F' F5 := (kF4.trans (.of (Sk.Same.upd hq))).trans kk4
        obtain ⟨y2, rfl, wy, ly⟩ : ∃ y2 : Str, x = .str y2 ∧ Word l y2 ∧ y2.length ≤ 901 := by
          simp only [List.mem_cons, List.mem_nil_iff, or_false] at hx
          rcases hx with e | e | e | e | e
          · exact ⟨z2, e, wz2, by omega⟩
          · exact ⟨z, e, wz, by omega⟩
          · exact ⟨_, e, word_cut wz _ _, Nat.le_trans (cutS_length _ _ _) (by omega)⟩
          · exact ⟨_, e, word_app wz aw, by rw [app_len]; show z.length + 1 ≤ 901; omega⟩
          · exact ⟨_, e, word_cut wz _ _, Nat.le_trans (cutS_length _ _ _) (by omega)⟩
        clear hq kk4 D12 kk3 D11 hx kF4 kF3
        have gL5 := kF5 _ _ gL oL
        refine ⟨_, rfl, .inl ⟨rfl, _, SqL.of gL5⟩, _, rfl, _, rfl, (by show 2 ≤ sizeLine; decide), fun t1 ht1 => ⟨_, rfl, _, rfl, (by show 2 ≤ sizeLine; decide), fun t2 ht2 => ⟨(by show 2 ≤ sizeLine; decide), fun q hq => ?_⟩⟩⟩
        have s1 : Same F5 (upd F5 t1 (.tup [.str z, .str y2])) := Sk.Same.upd ht1
        have g1 : (upd F5 t1 (.tup [.str z, .str y2])) t1 = some (.tup [.str z, .str y2]) := upd_same
        have o1 := D13.off ht1
        have D14 := D13.keep s1
        have L1 : t1 ≠ L := (ne_of_none gL5 ht1).symm
        have s2 : Same (upd F5 t1 (.tup [.str z, .str y2])) (upd (upd F5 t1 (.tup [.str z, .str y2])) t2 (.tup [.str y2, .str z])) := Sk.Same.upd ht2
        have g2 : (upd (upd F5 t1 (.tup [.str z, .str y2])) t2 (.tup [.str y2, .str z])) t2 = some (.tup [.str y2, .str z]) := upd_same
        have o2 := D14.off ht2
        have D15 := D14.keep s2
        have L2 : t2 ≠ L := (ne_of_none (s1 _ _ gL5) ht2).symm
        have s3 : Same (upd (upd F5 t1 (.tup [.str z, .str y2])) t2 (.tup [.str y2, .str z])) (upd (upd (upd F5 t1 (.tup [.str z, .str y2])) t2 (.tup [.str y2, .str z])) q (.lst [.ref t1, .ref t2])) := Sk.Same.upd hq
        have g3 : (upd (upd (upd F5 t1 (.tup [.str z, .str y2])) t2 (.tup [.str y2, .str z])) q (.lst [.ref t1, .ref t2])) q = some (.lst [.ref t1, .ref t2]) := upd_same
        have D16 := D15.keep s3
        have gz := good_mk wz wy (by omega) (by omega)
        have gz2 := good_mk wy wz (by omega) (by omega)
        refine ⟨L, q, xs, _, rfl, rfl, s3 _ _ (s2 _ _ (s1 _ _ gL5)), g3, Nat.le_trans (by show xs.length + 2 ≤ 1000; omega) (by decide), _, _, _, rfl, ?_⟩
        refine PvB.ext (qs := [(z, y2), (y2, z)]) oL D16 (by omega) P9 dv9 (kF5.trans (.of ((s1.trans s2).trans s3))) (.cons (tup_dat (s3 _ _ (s2 _ _ g1)) o1 L1) (.cons (tup_dat (s3 _ _ g2) o2 L2) .nil)) (fun p hp => ?_) (by show xs.length + 2 ≤ 728 + 2 * (j + 1); omega)
        simp only [List.mem_cons, List.mem_nil_iff, or_false] at hp
        rcases hp with rfl | rfl
        · exact gz
        · exact gz2
      · rintro σ F ⟨v6, v7, v8, rfl, st⟩
        obtain ⟨n3, xs, ps, D9, n3le, gL, P9, l9, dv9⟩ := st
        replace n3le : n3 ≤ 20000 * (i : Nat) + 3000 + 1000 * ((8 : Nat) : Int) := n3le
        replace l9 : xs.length ≤ 728 + 2 * 8 := l9
        refine ⟨_, rfl, _, rfl, d, c, n3, l, 40, rfl, D9, by omega, h1, h3, by decide, by decide, fun z F3 n4 wz lz D10 n4le kk1 => ⟨z, 130, rfl, rfl, by decide, by decide, by omega, ?_⟩⟩
        obtain ⟨wr, lr⟩ := word_rep wz (n := 130) (by decide)
        replace lr : (repS z 130).length ≤ 130 * z.length := lr
        refine into_name ?_
        dsimp only
        show tSeq (tDrop _) _ _ [some (.ref a), some (.ref d), some (.int (0 + (i : Nat))), some (.int l), some v, some (.ref L), v6, v7, v8, some (.str (repS z 130)), v10, v11] F3
        have lr2 : (repS z 130).length ≤ 5200 := by omega
        generalize repS z 130 = g at *
        have lng : g.length ≤ sizeLine := Nat.le_trans lr2 (by decide)
        have gL3 := kk1 _ _ gL oL
        have aw : Word l (Str.ofString "a") := fun c hc => by
          rw [show (Str.ofString "a").cps.toList = [97] by decide +kernel] at hc
          obtain rfl : c = 97 := List.mem_singleton.mp hc
          omega
        refine ⟨_, rfl, .inl ⟨rfl, _, SqL.of gL3⟩, _, rfl, _, rfl, _, rfl, g, rfl, lng, (by show 2 ≤ sizeLine; decide), fun t1 ht1 => ⟨_, rfl, _, rfl, g, rfl, lng, _, rfl, (by show 2 ≤ sizeLine; decide), fun t2 ht2 => ⟨_, rfl, _, rfl, _, _, rfl, rfl, Nat.le_trans (by show g.length + 1 ≤ 10000; omega) (by decide), (by show 2 ≤ sizeLine; decide), fun t3 ht3 => ⟨(by show 3 ≤ sizeLine; decide), fun q hq => ?_⟩⟩⟩⟩
        have s1 : Same F3 (upd F3 t1 (.tup [.str g, .str (cutS g (some 1) none)])) := Sk.Same.upd ht1
        have g1 : (upd F3 t1 (.tup [.str g, .str (cutS g (some 1) none)])) t1 = some (.tup [.str g, .str (cutS g (some 1) none)]) := upd_same
        have o1 := D10.off ht1
        have D11 := D10.keep s1
        have L1 : t1 ≠ L := (ne_of_none gL3 ht1).symm
        have gL4 := s1 _ _ gL3
        generalize (upd F3 t1 (.tup [.str g, .str (cutS g (some 1) none)])) = F4 at *
        have s2 : Same F4 (upd F4 t2 (.tup [.str (cutS g (some 2) none), .str g])) := Sk.Same.upd ht2
        have g2 : (upd F4 t2 (.tup [.str (cutS g (some 2) none), .str g])) t2 = some (.tup [.str (cutS g (some 2) none), .str g]) := upd_same
        have o2 := D11.off ht2
        have D12 := D11.keep s2
        have L2 : t2 ≠ L := (ne_of_none gL4 ht2).symm
        have gL5 := s2 _ _ gL4
        generalize (upd F4 t2 (.tup [.str (cutS g (some 2) none), .str g])) = F5 at *
        have s3 : Same F5 (upd F5 t3 (.tup [.str g, .str (g ++ Str.ofString "a")])) := Sk.Same.upd ht3
        have g3 : (upd F5 t3 (.tup [.str g, .str (g ++ Str.ofString "a")])) t3 = some (.tup [.str g, .str (g ++ Str.ofString "a")]) := upd_same
        have o3 := D12.off ht3
        have D13 := D12.keep s3
        have L3 : t3 ≠ L := (ne_of_none gL5 ht3).symm
        have gL6 := s3 _ _ gL5
        generalize (upd F5 t3 (.tup [.str g, .str (g ++ Str.ofString "a")])) = F6 at *
        have s4 : Same F6 (upd F6 q (.lst [.ref t1, .ref t2, .ref t3])) := Sk.Same.upd hq
        have g4 : (upd F6 q (.lst [.ref t1, .ref t2, .ref t3])) q = some (.lst [.ref t1, .ref t2, .ref t3]) := upd_same
        have D14 := D13.keep s4
        have gL7 := s4 _ _ gL6
        generalize (upd F6 q (.lst [.ref t1, .ref t2, .ref t3])) = F7 at *
        have wc := fun a b => word_cut wr a b
        have lc := fun a b => Nat.le_trans (cutS_length g a b) (Nat.le_trans lr2 (by decide : 5200 ≤ 10000))
        have l5 : g.length ≤ 10000 := by omega
        have ext := PvB.ext (many := 750) (zs := [.ref t1, .ref t2, .ref t3]) (qs := [(g, cutS g (some 1) none), (cutS g (some 2) none, g), (g, g ++ Str.ofString "a")]) oL D14 (Int.le_refl n4) P9 dv9 (kk1.trans (.of (((s1.trans s2).trans s3).trans s4)))
          (.cons (tup_dat (s4 _ _ (s3 _ _ (s2 _ _ g1))) o1 L1) (.cons (tup_dat (s4 _ _ (s3 _ _ g2)) o2 L2) (.cons (tup_dat (s4 _ _ g3) o3 L3) .nil))) (fun p hp => by
            simp only [List.mem_cons, List.mem_nil_iff, or_false] at hp
            rcases hp with rfl | rfl | rfl
            · exact good_mk wr (wc _ _) l5 (lc _ _)
            · exact good_mk (wc _ _) wr (lc _ _) l5
            · exact good_mk wr (word_app wr aw) l5 (by rw [app_len]; show g.length + 1 ≤ 10000; omega)) (by show xs.length + 3 ≤ 750; omega)
        refine ⟨L, q, xs, _, rfl, rfl, gL7, g4, Nat.le_trans (by show xs.length + 3 ≤ 1000; omega) (by decide), ?_⟩
        dsimp only
        show tSeq (tAsg _ _) _ _ [some (.ref a), some (.ref d), some (.int (0 + (i : Nat))), some (.int l), some v, some (.ref L), v6, v7, v8, some (.str g), v10, v11] (upd F7 L (.lst (xs ++ [.ref t1, .ref t2, .ref t3])))
        generalize (upd F7 L (.lst (xs ++ [.ref t1, .ref t2, .ref t3]))) = Y at *
        clear gL P9 l9 dv9
        obtain ⟨n5, xs5, ps5, D5, n5le, gL, P5, l5', dv5⟩ := ext
        have inn := vps_in h1 h3 mm cm P5.g
        have len5 := P5.len
        refine into_asg ?_
        refine tells_lcF (K := K) gL (by omega) P5 dv5 cm h1 h3 mm fun A1 E1 sE1 hA1 gA1 => ?_
        refine into_name ?_
        show tSeq (tAsg _ _) _ _ [some (.ref a), some (.ref d), some (.int (0 + (i : Nat))), some (.int l), some v, some (.ref L), v6, v7, v8, some (.str g), some (.ref A1), v11] E1
        refine into_asg ?_
        have P6 : Prs (avL d c L) l E1 xs5 ps5 := ⟨P5.d.same sE1, P5.g⟩
        refine tells_lcF (K := K) (sE1 _ _ gL) (by omega) P6 (dv5.same sE1) cm h1 h3 mm fun A2 E2 sE2 hA2 gA2 => ?_
        refine into_name ?_
        have lm : (ps5.map (vp l rows vd)).length ≤ 1000 := by
          rw [List.length_map]
          omega
        obtain ⟨p1, p2, p3, p4⟩ := ints_pd inn lm
        refine ⟨_, rfl, .ref A2, .list _, rfl, ints_dp gA2, .inr ⟨A2, rfl⟩, p1, p2, p3, p4, _, rfl, .ref A1, .list _, rfl, ints_dp (sE2 _ _ gA1), .inr ⟨A1, rfl⟩, p1, p2, p3, p4, rfl, _, rfl, ?_⟩
        refine iteNS rfl ?_
        refine into_test ?_
        refine tells_lcR (K := K) ((sE1.trans sE2) _ _ gL) (by omega) (Prs.mk (P6.d.same sE2) P6.g) ((dv5.same sE1).same sE2) cm h1 h3 mm fun A3 E3 sE3 gA3 => ?_
        have erev : (ps5.reverse.map (vp l rows vd)).map V.int = ((ps5.map (vp l rows vd)).map V.int).reverse := by
          rw [List.map_reverse, List.map_reverse]
        obtain ⟨q1, q2, q3, q4⟩ := ints_pd (vps_in h1 h3 mm cm (ps := ps5.reverse) fun p hp => P6.g p (List.mem_reverse.mp hp)) (by
          rw [List.length_map, List.length_reverse]
          omega)
        refine ⟨.ref A3, .list _, rfl, ints_dp gA3, .inr ⟨A3, rfl⟩, q1, q2, q3, q4, _, rfl, A1, _, rfl, SqL.of (sE3 _ _ (sE2 _ _ gA1)), fun r hr => ?_⟩
        refine ⟨.ref r, .list _, rfl, ints_dp (vs := ps5.reverse.map (vp l rows vd)) (by rw [upd_same, erev]), .inr ⟨r, rfl⟩, q1, q2, q3, q4, rfl, _, rfl, iteNS rfl ?_⟩
        exact ⟨_, _, _, _, _, _, _, _, _, _, n5, rfl, (((D5.keep sE1).keep sE2).keep sE3).keep (Sk.Same.upd hr), by omega⟩
    · rintro σ G ⟨v2, v3, v4, v5, v6, v7, v8, v9, v10, v11, n, rfl, DG, nle⟩
      exact k _
end
end K36


set_option Elab.async false
set_option linter.all false
set_option maxRecDepth 100000
set_option maxHeartbeats 4000000
namespace K36
open PySem PySem.Spec PyProof.Rows L2 Sk
theorem all_mk {l : PySem.W.OpenLaw} {w : World} {K : PySem.W.Frag} {h : Heap} {mg : Str → Option Value} {fa f1 f2 f3 f4 f5 f6 f7 f8 f9 f10 f11 f12 f13 : Addr} (X : K.In h) (G : h.Ns mainGlobals mg) (hfa : mg "law" = some (.ref fa))
    {od1 an1 od2 an2 od3 an3 od4 an4 od5 an5 od6 an6 od7 an7 od8 an8 od9 an9 od10 an10 od11 an11 od12 an12 od13 an13 : Option Addr} {sl1 sl2 sl3 sl4 sl5 sl6 sl7 sl8 sl9 sl10 sl11 sl12 sl13 : Array (Option Value)} {oc1 kV1 dc1 pm1 cd1 ct1 oc2 kV2 dc2 pm2 cd2 ct2 oc3 kV3 dc3 pm3 cd3 ct3 oc4 kV4 dc4 pm4 cd4 ct4 oc5 kV5 dc5 pm5 cd5 ct5 oc6 kV6 dc6 pm6 cd6 ct6 oc7 kV7 dc7 pm7 cd7 ct7 oc8 kV8 dc8 pm8 cd8 ct8 oc9 kV9 dc9 pm9 cd9 ct9 oc10 kV10 dc10 pm10 cd10 ct10 oc11 kV11 dc11 pm11 cd11 ct11 oc12 kV12 dc12 pm12 cd12 ct12 oc13 kV13 dc13 pm13 cd13 ct13 : Value} {tk1 tk2 : Tok}
    (a1 : PySem.W.nsIn K mainGlobals "columns" = some (some (.ref f1)))
    (l1 : K.lookup f1 = some ⟨oc1, od1, .func (PySem.W.fnOf "columns" "columns" (defArgs sCols) (defBody sCols) (defScope sCols) .none kV1 dc1 pm1 an1 cd1 ct1), sl1⟩)
    (c1 : PySem.W.codeIn K cd1 "columns" = true) (k1 : PySem.W.keepIn K (.ref f1) = true)
    (a2 : PySem.W.nsIn K mainGlobals "tells" = some (some (.ref f2)))
    (l2 : K.lookup f2 = some ⟨oc2, od2, .func (PySem.W.fnOf "tells" "tells" (defArgs sTells) (defBody sTells) (defScope sTells) .none kV2 dc2 pm2 an2 cd2 ct2), sl2⟩)
    (c2 : PySem.W.codeIn K cd2 "tells" = true) (k2 : PySem.W.keepIn K (.ref f2) = true)
    (a3 : PySem.W.nsIn K mainGlobals "column_places" = some (some (.ref f3)))
    (l3 : K.lookup f3 = some ⟨oc3, od3, .func (PySem.W.fnOf "column_places" "column_places" (defArgs sPlaces) (defBody sPlaces) (defScope sPlaces) .none kV3 dc3 pm3 an3 cd3 ct3), sl3⟩)
    (c3 : PySem.W.codeIn K cd3 "column_places" = true) (k3 : PySem.W.keepIn K (.ref f3) = true)
    (a4 : PySem.W.nsIn K mainGlobals "_law_deck" = some (some (.ref f4)))
    (l4 : K.lookup f4 = some ⟨oc4, od4, .func (PySem.W.fnOf "_law_deck" "_law_deck" (defArgs sDeck) (defBody sDeck) (defScope sDeck) .none kV4 dc4 pm4 an4 cd4 ct4), sl4⟩)
    (c4 : PySem.W.codeIn K cd4 "_law_deck" = true) (k4 : PySem.W.keepIn K (.ref f4) = true)
    (a5 : PySem.W.nsIn K mainGlobals "_law_draw" = some (some (.ref f5)))
    (l5 : K.lookup f5 = some ⟨oc5, od5, .func (PySem.W.fnOf "_law_draw" "_law_draw" (defArgs sDraw) (defBody sDraw) (defScope sDraw) .none kV5 dc5 pm5 an5 cd5 ct5), sl5⟩)
    (c5 : PySem.W.codeIn K cd5 "_law_draw" = true) (k5 : PySem.W.keepIn K (.ref f5) = true)
    (a6 : PySem.W.nsIn K mainGlobals "_law_one" = some (some (.ref f6)))
    (l6 : K.lookup f6 = some ⟨oc6, od6, .func (PySem.W.fnOf "_law_one" "_law_one" (defArgs sOne) (defBody sOne) (defScope sOne) .none kV6 dc6 pm6 an6 cd6 ct6), sl6⟩)
    (c6 : PySem.W.codeIn K cd6 "_law_one" = true) (k6 : PySem.W.keepIn K (.ref f6) = true)
    (a7 : PySem.W.nsIn K mainGlobals "_law_columns" = some (some (.ref f7)))
    (l7 : K.lookup f7 = some ⟨oc7, od7, .func (PySem.W.fnOf "_law_columns" "_law_columns" (defArgs sLCols) (defBody sLCols) (defScope sLCols) .none kV7 dc7 pm7 an7 cd7 ct7), sl7⟩)
    (c7 : PySem.W.codeIn K cd7 "_law_columns" = true) (k7 : PySem.W.keepIn K (.ref f7) = true)
    (a8 : PySem.W.nsIn K mainGlobals "_law_comp" = some (some (.ref f8)))
    (l8 : K.lookup f8 = some ⟨oc8, od8, .func (PySem.W.fnOf "_law_comp" "_law_comp" (defArgs sComp) (defBody sComp) (defScope sComp) .none kV8 dc8 pm8 an8 cd8 ct8), sl8⟩)
    (c8 : PySem.W.codeIn K cd8 "_law_comp" = true) (k8 : PySem.W.keepIn K (.ref f8) = true)
    (a9 : PySem.W.nsIn K mainGlobals "_law_read" = some (some (.ref f9)))
    (l9 : K.lookup f9 = some ⟨oc9, od9, .func (PySem.W.fnOf "_law_read" "_law_read" (defArgs sRead) (defBody sRead) (defScope sRead) .none kV9 dc9 pm9 an9 cd9 ct9), sl9⟩)
    (c9 : PySem.W.codeIn K cd9 "_law_read" = true) (k9 : PySem.W.keepIn K (.ref f9) = true)
    (a10 : PySem.W.nsIn K mainGlobals "_law_tells" = some (some (.ref f10)))
    (l10 : K.lookup f10 = some ⟨oc10, od10, .func (PySem.W.fnOf "_law_tells" "_law_tells" (defArgs sLTells) (defBody sLTells) (defScope sLTells) .none kV10 dc10 pm10 an10 cd10 ct10), sl10⟩)
    (c10 : PySem.W.codeIn K cd10 "_law_tells" = true) (k10 : PySem.W.keepIn K (.ref f10) = true)
    (a11 : PySem.W.nsIn K mainGlobals "_law_words" = some (some (.ref f11)))
    (l11 : K.lookup f11 = some ⟨oc11, od11, .func (PySem.W.fnOf "_law_words" "_law_words" (defArgs sWords) (defBody sWords) (defScope sWords) .none kV11 dc11 pm11 an11 cd11 ct11), sl11⟩)
    (c11 : PySem.W.codeIn K cd11 "_law_words" = true) (k11 : PySem.W.keepIn K (.ref f11) = true)
    (a12 : PySem.W.nsIn K mainGlobals "_law_word" = some (some (.ref f12)))
    (l12 : K.lookup f12 = some ⟨oc12, od12, .func (PySem.W.fnOf "_law_word" "_law_word" (defArgs sWord) (defBody sWord) (defScope sWord) .none kV12 dc12 pm12 an12 cd12 ct12), sl12⟩)
    (c12 : PySem.W.codeIn K cd12 "_law_word" = true) (k12 : PySem.W.keepIn K (.ref f12) = true)
    (a13 : PySem.W.nsIn K mainGlobals "law" = some (some (.ref f13)))
    (l13 : K.lookup f13 = some ⟨oc13, od13, .func (PySem.W.fnOf "law" "law" (defArgs sLaw) (defBody sLaw) (defScope sLaw) .none kV13 dc13 pm13 an13 cd13 ct13), sl13⟩)
    (c13 : PySem.W.codeIn K cd13 "law" = true) (k13 : PySem.W.keepIn K (.ref f13) = true)
    (y1 : PySem.W.nsIn K mainGlobals "LETTERS" = some (some (.str "abc" tk1)))
    (y2 : PySem.W.nsIn K mainGlobals "END" = some (some (.str "." tk2)))
    (z1 : PySem.W.nsIn K mainGlobals "tuple" = some none)
    (z2 : PySem.W.nsIn K mainGlobals "int" = some none)
    (z3 : PySem.W.nsIn K mainGlobals "len" = some none)
    (z4 : PySem.W.nsIn K mainGlobals "enumerate" = some none)
    (z5 : PySem.W.nsIn K mainGlobals "zip" = some none)
    (z6 : PySem.W.nsIn K mainGlobals "max" = some none)
    (z7 : PySem.W.nsIn K mainGlobals "abs" = some none)
    (z8 : PySem.W.nsIn K mainGlobals "range" = some none)
    (z9 : PySem.W.nsIn K mainGlobals "repr" = some none)
    : ∃ fd : FuncData, (∀ (s : Shared) (v : Value), BindsTo s fd ⟨[v], []⟩ [("_law_script", v)]) ∧ ∀ base : Heap, K.In base → base.Ns mainGlobals mg → TopOk l.prog w K mg base fa fd ["_law_script"] (spLaw K) := by
  have e := hfa.symm.trans (PySem.W.mg_of X G a13)
  cases e
  have T : Fre mg := ⟨PySem.W.mg_none_of X G z1, PySem.W.mg_none_of X G z2, PySem.W.mg_none_of X G z3, PySem.W.mg_none_of X G z4, PySem.W.mg_none_of X G z5, PySem.W.mg_none_of X G z6, ⟨_, PySem.W.mg_of X G y1⟩, ⟨_, PySem.W.mg_of X G y2⟩⟩
  have U : Fre2 mg := ⟨PySem.W.mg_none_of X G z7, PySem.W.mg_none_of X G z8, PySem.W.mg_none_of X G z9⟩
  have F1 := fun_mk (st := sCols) l1 c1 k1
  have b1 := F1.binds (ps := ["letters"]) fun _ _ _ _ _ _ us hl => match us, hl with | [_], _ => rfl
  have m1 := PySem.W.mg_of X G a1
  have F2 := fun_mk (st := sTells) l2 c2 k2
  have b2 := F2.binds (ps := ["comp", "one", "other"]) fun _ _ _ _ _ _ us hl => match us, hl with | [_, _, _], _ => rfl
  have m2 := PySem.W.mg_of X G a2
  have F3 := fun_mk (st := sPlaces) l3 c3 k3
  have b3 := F3.binds (ps := ["letters"]) fun _ _ _ _ _ _ us hl => match us, hl with | [_], _ => rfl
  have m3 := PySem.W.mg_of X G a3
  have F4 := fun_mk (st := sDeck) l4 c4 k4
  have b4 := F4.binds (ps := ["_law_script"]) fun _ _ _ _ _ _ us hl => match us, hl with | [_], _ => rfl
  have m4 := PySem.W.mg_of X G a4
  have F5 := fun_mk (st := sDraw) l5 c5 k5
  have b5 := F5.binds (ps := ["_law_deck_here", "_law_most"]) fun _ _ _ _ _ _ us hl => match us, hl with | [_, _], _ => rfl
  have m5 := PySem.W.mg_of X G a5
  have F6 := fun_mk (st := sOne) l6 c6 k6
  have b6 := F6.binds (ps := ["_law_deck_here", "_law_items"]) fun _ _ _ _ _ _ us hl => match us, hl with | [_, _], _ => rfl
  have m6 := PySem.W.mg_of X G a6
  have F7 := fun_mk (st := sLCols) l7 c7 k7
  have b7 := F7.binds (ps := ["_law_letters"]) fun _ _ _ _ _ _ us hl => match us, hl with | [_], _ => rfl
  have m7 := PySem.W.mg_of X G a7
  have F8 := fun_mk (st := sComp) l8 c8 k8
  have b8 := F8.binds (ps := ["_law_deck_here", "_law_letters", "_law_states"]) fun _ _ _ _ _ _ us hl => match us, hl with | [_, _, _], _ => rfl
  have m8 := PySem.W.mg_of X G a8
  have F9 := fun_mk (st := sRead) l9 c9 k9
  have b9 := F9.binds (ps := ["_law_comp_here", "_law_one_here", "_law_other"]) fun _ _ _ _ _ _ us hl => match us, hl with | [_, _, _], _ => rfl
  have m9 := PySem.W.mg_of X G a9
  have F10 := fun_mk (st := sLTells) l10 c10 k10
  have b10 := F10.binds (ps := ["_law_comp_here", "_law_one_here", "_law_other"]) fun _ _ _ _ _ _ us hl => match us, hl with | [_, _, _], _ => rfl
  have m10 := PySem.W.mg_of X G a10
  have F11 := fun_mk (st := sWords) l11 c11 k11
  have b11 := F11.binds (ps := ["_law_letters", "_law_most"]) fun _ _ _ _ _ _ us hl => match us, hl with | [_, _], _ => rfl
  have m11 := PySem.W.mg_of X G a11
  have F12 := fun_mk (st := sWord) l12 c12 k12
  have b12 := F12.binds (ps := ["_law_deck_here", "_law_letters", "_law_most"]) fun _ _ _ _ _ _ us hl => match us, hl with | [_, _, _], _ => rfl
  have m12 := PySem.W.mg_of X G a12
  have F13 := fun_mk (st := sLaw) l13 c13 k13
  refine ⟨PySem.W.fnOf "law" "law" (defArgs sLaw) (defBody sLaw) (defScope sLaw) .none kV13 dc13 pm13 an13 cd13 ct13, fun s v => .of_eq rfl, fun base _ _ => ?_⟩
  have U2 : Fre2b mg := ⟨U.range⟩
  have C1 : Callee l.prog w K mg base 1 "columns" ["letters"] spCols := ⟨f1, _, ok_cols F1 T, m1, k1, b1⟩
  have C3 : Callee l.prog w K mg base 2 "column_places" ["letters"] spPlaces := ⟨f3, _, ok_places F3 T C1, m3, k3, b3⟩
  have C2 : Callee l.prog w K mg base 3 "tells" ["comp", "one", "other"] spTells := ⟨f2, _, ok_tells F2 T C3, m2, k2, b2⟩
  have C4 : Callee l.prog w K mg base 1 "_law_deck" ["_law_script"] (spDeck K) := ⟨f4, _, ok_deck F4 T U, m4, k4, b4⟩
  have C5 : Callee l.prog w K mg base 1 "_law_draw" ["_law_deck_here", "_law_most"] spDraw := ⟨f5, _, ok_draw F5 T, m5, k5, b5⟩
  have C6g : Callee l.prog w K mg base 2 "_law_one" ["_law_deck_here", "_law_items"] spOneG := ⟨f6, _, ok_oneG F6 T C5, m6, k6, b6⟩
  have C6 : Callee l.prog w K mg base 2 "_law_one" ["_law_deck_here", "_law_items"] (spOne K) := ⟨f6, _, ok_one F6 T C5, m6, k6, b6⟩
  have C7 : Callee l.prog w K mg base 1 "_law_columns" ["_law_letters"] spLCols := ⟨f7, _, ok_lcols F7, m7, k7, b7⟩
  have C8 : Callee l.prog w K mg base 3 "_law_comp" ["_law_deck_here", "_law_letters", "_law_states"] spComp := ⟨f8, _, ok_comp F8 T U C5 C6 C7, m8, k8, b8⟩
  have C9 : Callee l.prog w K mg base 2 "_law_read" ["_law_comp_here", "_law_one_here", "_law_other"] spRead := ⟨f9, _, ok_read F9 T U C7, m9, k9, b9⟩
  have C10 : Callee l.prog w K mg base 3 "_law_tells" ["_law_comp_here", "_law_one_here", "_law_other"] spTells := ⟨f10, _, ok_ltells F10 C9, m10, k10, b10⟩
  have C11 : Callee l.prog w K mg base 1 "_law_words" ["_law_letters", "_law_most"] spWords := ⟨f11, _, ok_words F11 U2, m11, k11, b11⟩
  have C12 : Callee l.prog w K mg base 3 "_law_word" ["_law_deck_here", "_law_letters", "_law_most"] spWord := ⟨f12, _, ok_word F12 U2 C5 C6g, m12, k12, b12⟩
  exact ok_law ⟨rfl, by decide, by decide⟩ F13 T U C4 C5 C6 C8 C10 C11 C12 C2
theorem walk {l : PySem.W.OpenLaw} {q : Program} {loose : List Str} {XP : (Str → Option Value) → Heap → Prop} {YP : World → Heap → Prop} {d : DefRec} {K : Params → PySem.W.Frag} (hn : l.most = some 63) (hdf : d.params.defaults = [])
    (hY : ∀ (w : World) (h : Heap), YP w h → (K w.params).In h)
    (F : ∀ (w : World) (mg : Str → Option Value) (fa : Addr) (h : Heap), (K w.params).In h → h.Ns mainGlobals mg → mg d.name = some (.ref fa) →
      ∃ fd : FuncData, (∀ (s : Shared) (u : Value), BindsTo s fd ⟨[u], []⟩ [("_law_script", u)]) ∧ ∀ base : Heap, (K w.params).In base → base.Ns mainGlobals mg → TopOk l.prog w (K w.params) mg base fa fd ["_law_script"] (spLaw (K w.params))) :
    PySem.W.WalkO q loose XP YP l.row.toRowW d [] (fun f vs => PySem.call f vs) :=
  topWalk (n := 63) (x := "_law_script") (sp := fun w => spLaw (K w.params)) hn (by decide) hdf hY F fun _ _ a ns hl _ _ hS => ⟨a, ns, rfl, hS, hl, fun _ => rfl⟩
end K36
open PySem PySem.W PyProof.Rows
set_option maxRecDepth 100000 in
set_option maxHeartbeats 0 in
theorem PySem.Challenge.cw_surelyorders_k36_verdicts_of_words_holds : PySem.Challenge.rw_surelyorders_k36_verdicts_of_words.Holds := by
  w_on; o_law; k_head; (case hw => w_witness2)
  k_fill
  refine K36.walk (l := PySem.Challenge.rw_surelyorders_k36_verdicts_of_words) rfl rfl (fun w h Y => PySem.W.kIn_of Y) ?F
  case F =>
    intro w mg fa h KX G hmg
    refine' K36.all_mk KX G hmg ?a1 ?l1 ?c1 ?k1 ?a2 ?l2 ?c2 ?k2 ?a3 ?l3 ?c3 ?k3 ?a4 ?l4 ?c4 ?k4 ?a5 ?l5 ?c5 ?k5 ?a6 ?l6 ?c6 ?k6 ?a7 ?l7 ?c7 ?k7 ?a8 ?l8 ?c8 ?k8 ?a9 ?l9 ?c9 ?k9 ?a10 ?l10 ?c10 ?k10 ?a11 ?l11 ?c11 ?k11 ?a12 ?l12 ?c12 ?k12 ?a13 ?l13 ?c13 ?k13 ?y1 ?y2 ?z1 ?z2 ?z3 ?z4 ?z5 ?z6 ?z7 ?z8 ?z9
    (case a1 => k_is)
    (case l1 => k_is)
    (case c1 => k_is)
    (case k1 => k_is)
    (case a2 => k_is)
    (case l2 => k_is)
    (case c2 => k_is)
    (case k2 => k_is)
    (case a3 => k_is)
    (case l3 => k_is)
    (case c3 => k_is)
    (case k3 => k_is)
    (case a4 => k_is)
    (case l4 => k_is)
    (case c4 => k_is)
    (case k4 => k_is)
    (case a5 => k_is)
    (case l5 => k_is)
    (case c5 => k_is)
    (case k5 => k_is)
    (case a6 => k_is)
    (case l6 => k_is)
    (case c6 => k_is)
    (case k6 => k_is)
    (case a7 => k_is)
    (case l7 => k_is)
    (case c7 => k_is)
    (case k7 => k_is)
    (case a8 => k_is)
    (case l8 => k_is)
    (case c8 => k_is)
    (case k8 => k_is)
    (case a9 => k_is)
    (case l9 => k_is)
    (case c9 => k_is)
    (case k9 => k_is)
    (case a10 => k_is)
    (case l10 => k_is)
    (case c10 => k_is)
    (case k10 => k_is)
    (case a11 => k_is)
    (case l11 => k_is)
    (case c11 => k_is)
    (case k11 => k_is)
    (case a12 => k_is)
    (case l12 => k_is)
    (case c12 => k_is)
    (case k12 => k_is)
    (case a13 => k_is)
    (case l13 => k_is)
    (case c13 => k_is)
    (case k13 => k_is)
    (case y1 => k_is)
    (case y2 => k_is)
    (case z1 => k_is)
    (case z2 => k_is)
    (case z3 => k_is)
    (case z4 => k_is)
    (case z5 => k_is)
    (case z6 => k_is)
    (case z7 => k_is)
    (case z8 => k_is)
    (case z9 => k_is)

