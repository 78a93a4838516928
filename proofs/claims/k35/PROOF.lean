import PyProof.Rows.All
import Wide.All
import OpenK.AllK
import Wide.FinOn
import HandS.ForMost
import HandS.EndBits
import HandS.IsInst
import HandS.TupAny
import HandS.Wide
import HandS.Style
import HandS.Walk
import HandS.Flow
import HandS.RaiseMore
import HandS.Codes
import KE.GoesEnum
import PyProof.ReprLen
import PySem.Challenge.RW_surelyorders_k35_comparisons_with_errors
set_option Elab.async false
set_option linter.all false
set_option maxRecDepth 100000
/-! The law's own call where nothing is being shown: A.guards is known there, so repr of lists and tuples is told. -/
namespace Sk
open PySem PySem.Spec PyProof.Rows L2
abbrev XTop (P : Program) (w : World) (K : PySem.W.Frag) (mg : Str → Option Value) (base : Heap) (N : List Str) (qual : Str) (st : Stmt) (f : Addr) (cdv : Value) (s : Shared) (H : Hp) (E : XK) : Cx :=
  cxOf CX0 P w K mg base N qual (defScope st) f cdv callerA [] s H E
/-- a def of the top, called by the claim's own caller and by nobody else -/
def TopOk (P : Program) (w : World) (K : PySem.W.Frag) (mg : Str → Option Value) (base : Heap) (f : Addr) (fd : FuncData) (ps : List Str) (sp : Sp) : Prop :=
  ∀ (s : Shared) (H : Hp) (args : Args) (us : List Value) (vs : List V) (Q : VK) (E : XK), Env0 P w K mg base callerA [] s H → BindsTo s fd args (ps.zip us) → Vals vs us → sp vs H Q E →
    codeAny (model P w) callerA (.call (.ref f) args) (CR CX0 [] P w H s Q E) s
section
variable {P : Program} {w : World} {K : PySem.W.Frag} {mg : Str → Option Value} {base : Heap}
theorem topOk {x qual : Str} {st : Stmt} {f : Addr} {fd : FuncData} {N ps : List Str} {k : Nat} {sp : Sp} (F : Fun K x qual st f fd) (S : FnScope N ps (defScope st)) (room : Room (k + 1) callerA)
    (len : ∀ vs H Q E, sp vs H Q E → vs.length = ps.length)
    (body : ∀ (cdv : Value) (s : Shared) (H : Hp) (vs : List V) (Q : VK) (E : XK), Room k (callerA.deeper (envOfC qual (defScope st) s.heap.objs.size f cdv)) → sp vs H Q E →
      ∃ t, PSs (XTop P w K mg base N qual st f cdv s H E).nox (defBody st) t ∧ t { nx := fun _ H1 => Q .non H1, rt := Q } (start N vs) H) : TopOk P w K mg base f fd ps sp := by
  obtain ⟨oc, od, kV, doc, pm, an, cdv, ct, osl, rfl, look, hc⟩ := F.ex
  intro s H args us vs Q E env hb hv hsp
  have size := len _ _ _ _ hsp
  have here : K.In s.heap := env.mod.kin.keeps fun b o q => (env.bs b o q).1
  have nolim : s.heap.NoLimit := env.mod.nolimit.keeps fun b o q => (env.bs b o q).1
  refine codeAny_call_function room.depth (here _ _ look) rfl S.co S.gen rfl (PySem.W.codeRec_of here hc) (hb _ _ _ _ (wpAny_newFunctionEnv_cells S.kind ?par fun e1 q1 s1 x1 => ?go))
  case par =>
    rintro ⟨n, v⟩ hm
    rcases S.par n (List.of_mem_zip hm).1 with a | a
    · exact Or.inl a
    · exact Or.inr ⟨a, PySem.W.cellsFrom_some _ _ _ (Or.inl a)⟩
  case go =>
    subst q1
    obtain ⟨t, d, z⟩ := body cdv s H vs Q E (room.deeper _) hsp
    have inv : Inv (XTop P w K mg base N qual st f cdv s H E) [] (start N vs) H s1 := inv_start S room.hd env size hv x1
    refine ⟨nolim.keeps x1.toInCall.keep, codeAny_func (wpAny_mono (d.nox.run [] s1 (start N vs) H _ inv z) (fun fl s2 g => ?_) fun _ _ g => g)⟩
    cases fl with
    | ret u => exact let ⟨v, σ, G, J, rv, q⟩ := g; ⟨v, G, J.os, J.bare, J.base, J.hok, rv, q⟩
    | next => exact let ⟨σ, G, J, q⟩ := g; ⟨V.non, G, J.os, J.bare, J.base, J.hok, rfl, q⟩
    | brk => exact let ⟨_, _, _, q⟩ := g; q.elim
    | cont => exact let ⟨_, _, _, q⟩ := g; q.elim

theorem topCall {mb : Str → Option Value} {fa a : Addr} {fd : FuncData} {x : Str} {sp : Sp} {s : Shared} {vs : List Value} {ns : List Int}
    (here : K.In s.heap) (glo : s.heap.Ns mainGlobals mg) (bl : s.heap.Ns builtinsNs mb) (bl2 : ∀ y : Str, y ≠ "__name__" → mb y = bootBuiltins y) (lim : s.heap.NoLimit) (gens : s.gens = #[])
    (sc : s.heap.get? a = some { cls := .type "list", data := .seq vs.toArray }) (allInt : IntsAre vs ns) (small : ns.length ≤ sizeLine)
    (F : ∀ base : Heap, K.In base → base.Ns mainGlobals mg → TopOk P w K mg base fa fd [x] sp) (bind : ∀ (s1 : Shared) (u : Value), BindsTo s1 fd ⟨[u], []⟩ [(x, u)])
    (want : ∀ H : Hp, Only H → SqL K H a (ns.map V.int) → sp [.ref a] H (fun v _ => v = .bl true) fun _ _ _ => False) :
    codeAny (model P w) callerA (.call (.ref fa) ⟨[.ref a], []⟩) (fun r t => r = .ok (.ret (.bool true)) ∧ OldK s.heap t.heap ∧ t.os = s.os ∧ AllBare t.gens) s := by
  have vi := vals_ints allInt
  have li := allInt.length
  -- over an abstract heap that tracks the script or nothing
  have main : ∀ H : Hp, Only H → SqL K H a (ns.map V.int) → HOk P w H s.heap → (∀ b, H b ≠ none → b = a) → (H a ≠ none → K.lookup a = none) →
      codeAny (model P w) callerA (.call (.ref fa) ⟨[.ref a], []⟩) (fun r t => r = .ok (.ret (.bool true)) ∧ OldK s.heap t.heap ∧ t.os = s.os ∧ AllBare t.gens) s := by
    intro H only sq hok one off
    have free : ∀ {b : Addr} {o : Obj} {es : Array DictEntry} {n : Nat}, s.heap.get? b = some o → o.data = .dict es n → H b = none := by
      intro b o es n q d
      refine Classical.byContradiction fun c => ?_
      have eb := one b c
      subst eb
      rw [sc] at q
      cases q
      exact nomatch (show Data.seq vs.toArray _ = Data.dict es n from d)
    have ns1 : ∀ {b : Addr} {m : Str → Option Value}, s.heap.Ns b m → (hidT s.heap H).Ns b m := by
      rintro b m ⟨o, es, n, q, d, r⟩
      exact ⟨o, es, n, hidT_get q (free q d), d, r⟩
    have kin : K.In (hidT s.heap H) := by
      intro b o q
      refine hidT_get (here b o q) (Classical.byContradiction fun c => ?_)
      have eb := one b c
      subst eb
      rw [off c] at q
      exact nomatch q
    have limit : (hidT s.heap H).NoLimit := by
      obtain ⟨mc, c1, c2⟩ := lim
      exact ⟨mc, ns1 c1, c2⟩
    have env : Env0 P w K mg (hidT s.heap H) callerA [] s H :=
      ⟨rfl, ⟨kin, ns1 glo, ⟨mb, ns1 bl, bl2⟩, limit⟩, fun b o q => of_hidT q, Nat.le_of_eq (hidT_size _ _), trivial, fun b hb => absurd (show b ∈ ([] : List Addr) from hb) (by simp), hok, .of_eq gens⟩
    refine codeAny_mono (F _ kin (ns1 glo) s H ⟨[.ref a], []⟩ [.ref a] [.ref a] _ _ env (bind s (.ref a)) (.cons rfl .nil) (want H only sq)) fun r t g => ?_
    match r, g with
    | .error e, g => exact g.elim
    | .ok .next, g => exact False.elim g
    | .ok .brk, g => exact False.elim g
    | .ok .cont, g => exact False.elim g
    | .ok (.ret u), g =>
      obtain ⟨v, G, g1, g2, g3, g4, g5, g6⟩ := g
      cases (show v = .bl true from g6)
      cases (show u = Value.bool true from g5)
      refine ⟨rfl, OldK.of_keep fun b o q => ?_, g1, g2⟩
      cases hb : H b with
      | none => exact g3.keep b o q hb (fun z => absurd (show b ∈ ([] : List Addr) from z) (by simp)) (by simp)
      | some u =>
        rcases only b with z | ⟨ob, xs, z⟩
        · rw [hb] at z
          exact nomatch z
        · have p1 := (hok b _ z).1
          have p2 := (g4 b _ (g3.frzs b ob _ z)).1
          rw [q] at p1
          cases p1
          exact p2
  cases hk : K.lookup a with
  | some o =>
    have q := here a o hk
    rw [sc] at q
    cases q
    refine main (fun _ => none) (fun _ => Or.inl rfl) (Or.inr ⟨_, vs.toArray, _, hk, rfl, rfl, rfl, by rw [List.size_toArray, li]; exact small, by simpa using vi⟩) (fun b u z => nomatch z) (fun b z => absurd rfl z) fun z => absurd rfl z
  | none =>
    refine main (fun b => if b = a then some (.frz { cls := .type "list", data := .seq vs.toArray } (.lst (ns.map V.int))) else none) ?_ (Or.inl (Or.inr ⟨_, if_pos rfl⟩)) ?_ ?_ fun _ => hk
    · intro b
      by_cases e : b = a
      · exact Or.inr ⟨_, _, if_pos e⟩
      · exact Or.inl (if_neg e)
    · intro b u z
      by_cases e : b = a
      · subst e
        cases (if_pos rfl).symm.trans z
        exact ⟨sc, by rw [List.length_map]; exact small, vs, _, vi, sc⟩
      · exact nomatch (if_neg e).symm.trans z
    · intro b z
      exact Classical.byContradiction fun e => z (if_neg e)
end
theorem topWalk {l : PySem.W.OpenLaw} {n : Nat} {q : Program} {loose : List Str} {XP : (Str → Option Value) → Heap → Prop} {YP : World → Heap → Prop} {d : DefRec} {K : Params → PySem.W.Frag} {sp : World → Sp} {x : Str}
    (hn : l.most = some n) (hn2 : n ≤ sizeLine) (hdf : d.params.defaults = [])
    (hY : ∀ (w : World) (h : Heap), YP w h → (K w.params).In h)
    (F : ∀ (w : World) (mg : Str → Option Value) (fa : Addr) (h : Heap), (K w.params).In h → h.Ns mainGlobals mg → mg d.name = some (.ref fa) →
      ∃ fd : FuncData, (∀ (s : Shared) (u : Value), BindsTo s fd ⟨[u], []⟩ [(x, u)]) ∧ ∀ base : Heap, (K w.params).In base → base.Ns mainGlobals mg → TopOk l.prog w (K w.params) mg base fa fd [x] (sp w))
    (want : ∀ (w : World) (H : Hp) (a : Addr) (ns : List Int), ns.length ≤ n → (∀ z ∈ ns, Builtin.Int.intBits z ≤ 1048576) → Only H → SqL (K w.params) H a (ns.map V.int) → sp w [.ref a] H (fun v _ => v = .bl true) fun _ _ _ => False) :
    PySem.W.WalkO q loose XP YP l.row.toRowW d [] (fun f vs => PySem.call f vs) := by
  refine Att.attach_callB hn hdf fun w s₀ s₁ mg mb fa o pm cd doc a vs ns G Y _ _ _ hmg hobj hints hlen hbits hg => ?_
  have kin := hY w _ Y
  obtain ⟨fd, hb, hF⟩ := F w mg fa _ kin G.T.g hmg
  exact topCall kin G.T.g G.T.b G.T.builtins G.T.nolimit hg hobj hints (Nat.le_trans hlen hn2) hF hb fun H hO hS => want w H a ns hlen hbits hO hS
end Sk


set_option Elab.async false
set_option linter.all false
set_option maxRecDepth 100000
set_option maxHeartbeats 4000000
namespace Sk
open PySem PySem.Spec PyProof.Rows L2

/-! repr of data, where nothing is being shown -/
def rRepr (K : PySem.W.Frag) : List V → Hp → VK → Prop := fun xs H Q => ∃ (x : V) (d : PyData), xs = [x] ∧ Dp K H x d ∧ ((x = .non ∧ d = .none) ∨ ∃ a, x = .ref a) ∧ d.showable = true ∧ d.hasDict = false ∧ d.depth ≤ 60 ∧ d.shown.length ≤ sizeLine ∧ Q (.str d.shown) H
section
variable {X : Cx}
theorem call_reprD (hg : X.A.guards = some []) (hu : X.A.units + 64 < cLine) : CallR X (.builtin "repr") (rRepr X.K) := by
  intro pins s σ H xs us Q I r h
  obtain ⟨x, d, rfl, hd, kind, sh, nd, dep, sz, q⟩ := h
  obtain ⟨u, rfl, rx⟩ := vals1 r
  rcases kind with ⟨rfl, rfl⟩ | ⟨a, rfl⟩
  · cases rx
    exact PySem.P.repr_of_none ⟨.str _, H, I.tok _, ⟨_, rfl⟩, q⟩
  · cases rx
    obtain ⟨as, rd⟩ := Dp.reads I d _ _ hd rfl
    refine repr_of_reads' rd sh (PyData.noDict_hsm nd) hg (by omega) (fun _ _ e => e) (fun h2 u tk hk => ?_) sz
    exact ⟨.str _, H, I.kept (h' := h2) (t' := tk) hk, ⟨_, rfl⟩, q⟩

/-! a list beside an empty list, a tuple beside an empty tuple: whatever the items are -/
def rNeNil (K : PySem.W.Frag) : R2 := fun x y H Q => ∃ a b xs, x = .ref a ∧ y = .ref b ∧ SqL K H a xs ∧ SqL K H b [] ∧ Q (.bl (!xs.isEmpty)) H
def rEqNil (K : PySem.W.Frag) : R2 := fun x y H Q => ∃ a b xs, x = .ref a ∧ y = .ref b ∧ SqL K H a xs ∧ SqL K H b [] ∧ Q (.bl xs.isEmpty) H
def rEqNilT (K : PySem.W.Frag) : R2 := fun x y H Q => ∃ a b xs, x = .ref a ∧ y = .ref b ∧ SqT K H a xs ∧ SqT K H b [] ∧ Q (.bl xs.isEmpty) H
theorem op_eqNil (hu : X.A.units + 64 < cLine) : OpR X (compareOp .Eq) (rEqNil X.K) := by
  intro pins s σ H x y v u Q I rx ry h
  obtain ⟨a, b, xs, rfl, rfl, ha, hb, q⟩ := h
  cases rx
  cases ry
  obtain ⟨its, r1, p1, _⟩ := I.list ha
  obtain ⟨its2, r2, p2, _⟩ := I.list hb
  cases r2
  have hl := r1.length
  cases xs with
  | nil =>
    cases r1
    refine SeqAt.eq_listAt (e := fun _ => true) p1.isList p2.isList rfl (by omega) (fun j h1 _ => absurd h1 (by simp)) ?_
    exact ⟨.bl true, H, I, rfl, q⟩
  | cons z zs =>
    refine SeqAt.eq_list_lengthsAt p1.isList p2.isList ?_ (by omega) ⟨.bl false, H, I, rfl, q⟩
    rw [List.size_toArray, ← hl]
    simp
theorem op_neNil (hu : X.A.units + 64 < cLine) : OpR X (compareOp .NotEq) (rNeNil X.K) := by
  intro pins s σ H x y v u Q I rx ry h
  obtain ⟨a, b, xs, rfl, rfl, ha, hb, q⟩ := h
  cases rx
  cases ry
  obtain ⟨its, r1, p1, _⟩ := I.list ha
  obtain ⟨its2, r2, p2, _⟩ := I.list hb
  cases r2
  have hl := r1.length
  cases xs with
  | nil =>
    cases r1
    have z := SeqAt.RcNeAt.lists (A := X.A) (e := fun _ => true) p1.isList p2.isList rfl (by omega) (fun j h1 _ => absurd h1 (by simp))
    exact z _ _ _ _ ⟨.bl false, H, I, rfl, q⟩
  | cons z zs =>
    have z := SeqAt.RcNeAt.lists_lengths (A := X.A) p1.isList p2.isList (by rw [List.size_toArray, ← hl]; simp) (by omega)
    exact z _ _ _ _ ⟨.bl true, H, I, rfl, q⟩
theorem op_eqNilT (hu : X.A.units + 64 < cLine) : OpR X (compareOp .Eq) (rEqNilT X.K) := by
  intro pins s σ H x y v u Q I rx ry h
  obtain ⟨a, b, xs, rfl, rfl, ha, hb, q⟩ := h
  cases rx
  cases ry
  obtain ⟨its, r1, p1, _⟩ := I.tuple ha
  obtain ⟨its2, r2, p2, _⟩ := I.tuple hb
  cases r2
  have hl := r1.length
  refine SeqAt.eq_tupleAt (e := fun _ => true) (show s.heap.IsTuple a its.toArray from p1) (show s.heap.IsTuple b ([] : List Value).toArray from p2) (by omega) (fun j _ h2 => absurd h2 (by simp)) ?_
  refine ⟨.bl xs.isEmpty, H, I, ?_, q⟩
  show Value.bool _ = Value.bool _
  congr 1
  rw [List.size_toArray, ← hl]
  cases xs <;> simp

/-! t[::-1] -/
end
section
variable {prog : Program} {w : World} {A : Around} {E : Value → Shared → Prop} {s : Shared}
theorem fm_map {α β : Type} {f : α → Option β} {g : α → β} : ∀ l : List α, (∀ m ∈ l, f m = some (g m)) → l.filterMap f = l.map g
  | [], _ => rfl
  | a :: l, h => by
    rw [List.filterMap_cons, h a List.mem_cons_self, List.map_cons, fm_map l fun m hm => h m (List.mem_cons_of_mem _ hm)]
theorem rev_pick (xs : Array Value) : ((List.range xs.size).filterMap fun (m : Nat) => xs[(((xs.size : Int) - 1) + (m : Int) * (-1)).toNat]?) = xs.toList.reverse := by
  refine List.ext_getElem? fun i => ?_
  have e : ((List.range xs.size).filterMap fun (m : Nat) => xs[(((xs.size : Int) - 1) + (m : Int) * (-1)).toNat]?) = (List.range xs.size).map fun m => xs[xs.size - 1 - m]! := by
    refine fm_map _ fun m hm => ?_
    have h1 := List.mem_range.mp hm
    have h2 : (((xs.size : Int) - 1) + (m : Int) * (-1)).toNat = xs.size - 1 - m := by omega
    have h3 : xs.size - 1 - m < xs.size := by omega
    rw [h2]
    simp [h3]
  rw [e, List.getElem?_map]
  by_cases hi : i < xs.size
  · rw [List.getElem?_range hi, List.getElem?_reverse (by simpa using hi)]
    have h3 : xs.size - 1 - i < xs.size := by omega
    simp [h3]
  · rw [List.getElem?_eq_none (by simpa using Nat.le_of_not_lt hi), List.getElem?_eq_none (by simpa using Nat.le_of_not_lt hi)]
    rfl
theorem getItem_tuple_back {t sl : Addr} {items : Array Value} {vk : Value} {Q : Value → Shared → Prop} (ht : IsTup s.heap t items) (hs : s.heap.IsSliceOf sl .none .none vk) (pk : IsPart vk (some (-1)))
    (h : Q (.ref s.heap.objs.size) { s with heap := s.heap.push { cls := .type "tuple", data := .seq items.toList.reverse.toArray } }) (hsz : items.size ≤ sizeLine) : wpAny (model prog w) A (getItem (.ref t) (.ref sl)) Q E s := by
  obtain ⟨os, hos, hcs, hds⟩ := id hs
  have isSlice : s.TypeIs (.ref sl) "slice" := ⟨os, hos, hcs⟩
  cases pk with
  | int i tk =>
  unfold getItem
  try with_reducible refine wpAny_holding ?_
  first | refine wpAny_bind (wpAny_pure ?_) | skip
  refine wpAny_bind (wpAny_sequenceKey ht.typeIs (by decide) ?_)
  refine wpAny_bind (wpAny_callSpecial?_slot (name := Str.ofString "__getitem__") ht.typeIs PyProof.Rows.slot_tuple_getitem (wpAny_call_entry PyProof.Rows.slot_tuple_getitem ht.typeIs entry_tuple_getitem ?_ (args_tuple_getitem _ _)))
  show wpAny _ _ (Builtin.Tuple.tupleItemsOf (.ref t) >>= _) _ _ s
  refine wpAny_bind (tupleItemsOf_ ht (wpAny_bind (wpAny_typeOf isSlice ?_)))
  rw [if_pos (by decide)]
  have cut : wpAny (model prog w) A.in1 (Builtin.Slice.sliceApplied (.ref sl) (pure (items.size : Int))) (fun r s2 => r = ((items.size : Int) - 1, -1, items.size) ∧ s2 = s) E s := by
    unfold Builtin.Slice.sliceApplied Builtin.Slice.sliceFields
    refine wpAny_bind (wpAny_bind (wpAny_field hos hds (x := .none) rfl (wpAny_bind (wpAny_field hos hds (x := .none) rfl (wpAny_bind (wpAny_field hos hds (x := .int (-1) tk) rfl (wpAny_pure ?_)))))))
    refine wpAny_bind (slicePart_int ?_)
    show wpAny _ _ (if ((-1 : Int) == 0) = true then _ else _) _ _ s
    rw [if_neg (by decide)]
    refine wpAny_bind (slicePart_none (wpAny_bind (slicePart_none (wpAny_bind (wpAny_pure ?_)))))
    show wpAny _ _ (pure ((items.size : Int) - 1, (-1 : Int), Builtin.Slice.slicePlaces ((items.size : Int) - 1) (-1) (-1))) _ _ s
    refine wpAny_pure ⟨?_, rfl⟩
    have e : Builtin.Slice.slicePlaces ((items.size : Int) - 1) (-1) (-1) = items.size := by
      unfold Builtin.Slice.slicePlaces
      rw [if_neg (by decide), show (- -1 : Int) = 1 from rfl, Int.ediv_one]
      split <;> omega
    rw [e]
  refine wpAny_bind (wpAny_mono cut ?_ fun _ _ z => z)
  rintro _ _ ⟨rfl, rfl⟩
  show wpAny _ _ (if ((((items.size : Int) - 1) == 0 && (-1 : Int) == 1 && items.size == items.size) = true) then _ else _) _ _ _
  rw [if_neg (by simp), rev_pick]
  have fits : sizeOk (.seq items.toList.reverse.toArray) := by
    show items.toList.reverse.toArray.size ≤ sizeLine
    simpa using hsz
  exact wpAny_bind (m := Builtin.Tuple.tupleExact _) (wpAny_newObj_type (wpAny_pure ⟨_, rfl, wpAny_pure h⟩) fits)
end
section
variable {X : Cx}
def tRevT (K : PySem.W.Frag) (te : TE) : TE := fun σ H Q => te σ H fun x H1 => ∃ a xs, x = .ref a ∧ SqT K H1 a xs ∧ ∀ p, H1 p = none → Q (.ref p) (upd H1 p (.tup xs.reverse))
theorem pe_revT {e : Expr} {te : TE} {k : Nat} {p1 p2 p3 pos : Pos} (he : PE X e te) : PE X (.Subscript e (.Slice none none (some (.UnaryOp .USub (.Constant (.int 1) k p1) p2)) p3) pos) (tRevT X.K te) := by
  refine ⟨fun pins s σ H Q I h => Subscript_ (thn (he.run pins s σ H _ I h) ?_)⟩
  rintro v s1 ⟨x, G, J, rx, a, xs, rfl, hx, q⟩
  cases rx
  have step : PO X (some (.UnaryOp .USub (.Constant (.int 1) k p1) p2)) (tPart (tUn (rU fun i => .int (-i)) (tC (.int 1)))) := po_some (pe_un un_neg pe_int)
  refine wpAny_Slice (thn (po_none.run pins s1 σ G (fun o G2 => o = none ∧ G2 = G) J ⟨rfl, rfl⟩) ?_)
  rintro vl s2 ⟨l, G2, J2, pl, rfl, rfl⟩
  refine thn (po_none.run pins s2 σ G2 (fun o G3 => o = none ∧ G3 = G2) J2 ⟨rfl, rfl⟩) ?_
  rintro vu s3 ⟨u, G3, J3, pu, rfl, rfl⟩
  refine thn (step.run pins s3 σ G3 (fun o G4 => o = some (-1) ∧ G4 = G3) J3 ⟨1, rfl, -1, rfl, rfl, rfl⟩) ?_
  rintro vs s4 ⟨o, G4, J4, ps, rfl, rfl⟩
  cases pl
  cases pu
  have J5 : Inv X pins σ G4 { s4 with heap := s4.heap.push { cls := .type "slice", data := .fields #[.none, .none, vs] } } := J4.kept (t' := s4.toks) fun b ob z => Heap.get?_push_of_some _ z
  obtain ⟨its, rv, ht, hz⟩ := J5.tuple hx
  have hl := rv.length
  refine tail_any (ops := [.ref a, .ref s4.heap.objs.size]) ht.typeIs (PyProof.Rows.slot_tuple_getitem.lookup) ?_ (by with_unfolding_all rfl)
  refine getItem_tuple_back ht (Heap.IsSliceOf.new _ .none .none vs) ps ?_ (by rw [List.size_toArray]; omega)
  refine ⟨.ref _, _, J5.laid (t' := s4.toks) (o := .tup xs.reverse) (fun b ob z => Heap.get?_push_of_some _ z) (Nat.le_refl _) ?_, rfl, q _ (J5.hok.fresh (Nat.le_refl _))⟩
  exact ⟨by rw [List.length_reverse]; exact hz, _, rv.reverse, IsTup.new _ _⟩
end
end Sk


set_option Elab.async false
set_option linter.all false
set_option maxRecDepth 100000
set_option maxHeartbeats 4000000
namespace Sk
open PySem PySem.Spec PyProof.Rows L2
/-! enumerate of a tuple -/
set_option maxHeartbeats 1000000 in
theorem meets_enum1 {v : Value} {o : Obj} {N : Heap → Prop} (B : Begins v o N) :
    Meets (Builtin.«enumerate.__new__» ⟨[.type "enumerate", v], []⟩) (fun _ R s => N s.heap ∧ R (.ok (.ret (.ref (s.heap.push o).objs.size)))
      { s with heap := (s.heap.push o).push { cls := .type "enumerate", data := .fields #[.none, .bool false, .ref s.heap.objs.size, rawInt 0, .none, .none] } }) := by
  refine .of_wp fun prog w A R s h => ?_
  obtain ⟨hp, g, d, tk, os⟩ := s
  obtain ⟨h1, h⟩ := h
  have hsub := sub_enumerate
  have q1 : ∀ {A1 : Around} {E1 : Value → Shared → Prop} {Q1 : Value → Shared → Prop}, Q1 (.ref hp.objs.size) ⟨hp.push o, g, d, tk, os⟩ → wpAny (model prog w) A1 (pyIter v) Q1 E1 ⟨hp, g, d, tk, os⟩ := fun q => B.iter prog w _ _ _ _ h1 q
  wp_walk using q1
  refine wpAny_stack_any fun st => wpAny_pure ?_
  split
  · rename_i c _ _ _ _ _
    cases (c == Value.type "enumerate") <;> (wp_walk using q1; exact ⟨_, rfl, h⟩)
  · wp_walk using q1
    exact ⟨_, rfl, h⟩
section
variable {prog : Program} {w : World} {A : Around} {E : Value → Shared → Prop} {s : Shared}
theorem enum_new {v : Value} {o : Obj} {N : Heap → Prop} {Q : Value → Shared → Prop} (B : Begins v o N) (h1 : N s.heap)
    (h : ∀ h2, IsEnum h2 (s.heap.objs.size + 1) s.heap.objs.size 0 .none → h2.get? s.heap.objs.size = some o → (∀ b u, s.heap.get? b = some u → h2.get? b = some u) → Q (.ref (s.heap.objs.size + 1)) { s with heap := h2 }) :
    wpAny (model prog w) A (call (.type "enumerate") [v]) Q E s := by
  refine callType_new F.called_enumerate (by decide) (F.typeCall_enumerate_1 _) (F.newCall_enumerate_1 _) (fun obj => F.args_object_init_2 obj _) F.entry_enumerate_new (meets_enum1 B) ⟨h1, ?_⟩
  have z : (s.heap.push o).objs.size = s.heap.objs.size + 1 := Heap.size_push ..
  show _ ∧ _
  rw [z]
  have e1 : IsEnum ((s.heap.push o).push { cls := .type "enumerate", data := .fields #[.none, .bool false, .ref s.heap.objs.size, rawInt 0, .none, .none] }) (s.heap.objs.size + 1) s.heap.objs.size 0 .none := by
    rw [← z]
    exact Heap.get?_push_size _ rfl
  exact ⟨⟨_, e1, rfl⟩, h _ e1 (Heap.get?_push_of_some _ (Heap.get?_push_size _ B.free)) fun b u x => Heap.get?_push_of_some _ (Heap.get?_push_of_some _ x)⟩
end
/-- the tuple at a, each item in a new pair -/
def Itet (K : PySem.W.Frag) (a : Addr) : It :=
  ⟨fun i H => ∃ (xs : List V) (x : V), SqT K H a xs ∧ xs[i]? = some x, fun i H v G => ∃ T x, v = .ref T ∧ H T = none ∧ G = upd H T (.tup [.int (i : Nat), x]) ∧ ∀ xs, SqT K H a xs → xs[i]? = some x, fun i H => ∃ xs : List V, SqT K H a xs ∧ xs.length ≤ i⟩
theorem turn_enumT {P : Program} {w : World} {K : PySem.W.Frag} {elts : List Expr} {kk : Nat} {tpos : Pos} (a e it : Addr) (n1 : e ≠ it) (n2 : e ≠ a) (n3 : a ≠ it) :
    Turn P w K (.Tuple elts kk tpos) (Itet K a) [e, it] e (fun i h => (∃ old, IsEnum h e it ((i : Nat) : Int) old) ∧ h.IsTupleIter it a i) where
  mem := by simp
  obj := fun i h st b hb => by
    obtain ⟨⟨old, he⟩, ⟨o, ho, hc, hd⟩⟩ := st
    rcases (show b = e ∨ b = it by simpa using hb) with z | z
    · rw [z]; exact ⟨_, he, fun v q => nomatch q⟩
    · rw [z]; exact ⟨o, ho, fun v q => by rw [hd] at q; cases q⟩
  keep := fun i h h2 st k => by
    obtain ⟨⟨old, he⟩, hi⟩ := st
    exact ⟨⟨old, k e (by simp) _ he⟩, hi.at fun o q => k it (by simp) o q⟩
  item := by
    intro X hP hw hK hc i pins s σ H E I hf st hg
    subst hP hw hK
    obtain ⟨⟨old, he⟩, hit⟩ := st
    obtain ⟨xs, x, hq, hx⟩ := hg
    obtain ⟨its, rv, p, hz⟩ := I.tuple hq
    obtain ⟨u, hu, ru⟩ := rv.get hx
    have l1 : e < s.heap.objs.size := Heap.lt_size he
    have l2 : it < s.heap.objs.size := by obtain ⟨_, q, _⟩ := hit; exact Heap.lt_size q
    have tu : s.heap.IsTuple a its.toArray := p
    have hi : i < its.toArray.size := by
      have := (List.getElem?_eq_some_iff.mp hu).1
      simpa using this
    refine wpAny_pyNext_enum_itemC (Draws.tuple (A := X.A.in1) (I.ok.hd hc) it a n3 its.toArray) he ⟨hit, tu⟩ hi n1 (by simp [n1, n2]) fun y h1 tk hy out st1 hT hsz kept => ?_
    have ey : y = u := by
      have a1 : its.toArray[i]? = some y := hy
      have a2 : its.toArray[i]? = some u := by simpa using hu
      exact Option.some.inj (a1.symm.trans a2)
    subst ey
    refine ⟨_, rfl, wpAny_letOwnedTupleGo_enum (s := { s with heap := h1, toks := tk + 1 }) out fun h2 en sb => ?_⟩
    have hT2 : h2.get? s.heap.objs.size = some { cls := .type "tuple", data := .seq #[.int i tk, y] } := (sb.2 _ (Nat.ne_of_gt l1)).trans hT
    have new : ObjOk X.prog X.w (upd H s.heap.objs.size (.tup [.int (i : Nat), x])) h2 s.heap.objs.size (.tup [.int (i : Nat), x]) :=
      ⟨by show 2 ≤ sizeLine; decide, [.int i tk, y], .cons ⟨_, rfl⟩ (.cons ru .nil), ⟨_, hT2, rfl, _, rfl⟩⟩
    have J : Inv X pins σ (upd H s.heap.objs.size (.tup [.int (i : Nat), x])) { s with heap := h2, toks := tk + 1 } :=
      I.turnedNew (ch := [e, it]) (fun b ob hb q => (sb.2 b (fun z => hb (by simp [z]))).trans (kept b ob (fun z => hb (by simp [z])) (fun z => hb (by simp [z])) q)) hf (Nat.le_refl _) new
    refine ⟨.ref s.heap.objs.size, _, J, rfl, ⟨_, x, rfl, I.hok.fresh (Nat.le_refl _), rfl, fun ys hy => by rw [I.tuple_inj hy hq]; exact hx⟩, ⟨⟨y, ?_⟩, st1.1.at fun o q => (sb.2 it (Ne.symm n1)).trans q⟩, fun b hb => ?_⟩
    · have e1 : ((i + 1 : Nat) : Int) = (i : Int) + 1 := by omega
      rw [e1]
      exact en
    · have lb : b < s.heap.objs.size := by
        rcases (show b = e ∨ b = it by simpa using hb) with z | z <;> (rw [z]; assumption)
      rw [upd_ne (Nat.ne_of_lt lb)]
      exact (hf b hb).1
  done := by
    intro X hP hw hK hc i pins s σ H E I hf st hg
    subst hP hw hK
    obtain ⟨⟨old, he⟩, hit⟩ := st
    obtain ⟨xs, hq, hx⟩ := hg
    obtain ⟨its, rv, p, hz⟩ := I.tuple hq
    have tu : s.heap.IsTuple a its.toArray := p
    obtain ⟨f0, f1, f2, f3, f4, f5⟩ := hf it (by simp)
    have hl := rv.length
    have T : s.TypeIs (.ref e) "enumerate" := ⟨_, he, rfl⟩
    unfold pyNext
    refine wpAny_bind (wpAny_attempt (wpAny_callSpecial?_slot (name := Str.ofString "__next__") T F.slot_enumerate_next (wpAny_call_entry F.slot_enumerate_next T F.entry_enumerate_next ?_ (F.args_enumerate_next_1 _))))
    show wpAny _ _ (field (.ref e) 2 >>= _) _ _ _
    refine wpAny_bind (wpAny_field he rfl (x := .ref it) rfl (wpAny_bind (wpAny_nextOf_tuple_end (A := X.A.in1) (I.ok.hd hc) hit tu (by simp; omega) fun h1 y eb hy => ?_)))
    obtain ⟨o, ho, hcl⟩ := hy
    refine wpAny_bind (wpAny_isInstance (T := "StopIteration") (b := true) ⟨o, ho, hcl⟩ isSubtype_stop (wpAny_pure ?_))
    exact ⟨rfl, I.turned (t' := s.toks) (fun b o hb q => eb b o hb q) f0 f1 f3 f4 f5⟩
  self := fun A i s Q E st h => let ⟨⟨_, he⟩, _⟩ := st; wpAny_pyIter_enum he h
def iEnumT (K : PySem.W.Frag) (ta : TA) : TI := fun σ H R => ta σ H fun vs G => ∃ a xs, vs = [.ref a] ∧ SqT K G a xs ∧ R (Itet K a) G
theorem pi_enumT {X : Cx} {e : Expr} {ta : TA} {p pos tpos : Pos} {elts : List Expr} {kk : Nat} (hg : Gl X "enumerate") (hm : X.mg "enumerate" = none) (ha : PA X [e] ta) (hs : starEach [e] X.env = [(false, eval e X.env)] := by rfl) :
    PI X (.Tuple elts kk tpos) (.Call (.Name "enumerate" p) [e] [] pos) (iEnumT X.K ta) := by
  refine ⟨fun pins s σ H R I h => Call_ (ld_blt I hg hm boot_enumerate (PyProof.Rows.callWith_type1 (thn (ha.run pos pins s σ H _ I h) ?_) hs rfl))⟩
  rintro us s1 ⟨vs, G, J, rv, a, xs, rfl, hq, q⟩
  cases rv with
  | cons r rr =>
    cases rr
    cases r
    obtain ⟨its, rv, p1, hz⟩ := J.tuple hq
    have tu : s1.heap.IsTuple a its.toArray := p1
    refine enum_new (begins_tuple a its.toArray) tu fun h2 he hit kept => wpAny_pyIter_enum he ?_
    have la : a < s1.heap.objs.size := by obtain ⟨o, ho, _⟩ := tu; exact Heap.lt_size ho
    refine ⟨_, [s1.heap.objs.size + 1, s1.heap.objs.size], _, _, G, rfl, J.kept (t' := s1.toks) kept, turn_enumT a _ _ (Nat.succ_ne_self _) (Nat.ne_of_gt (Nat.lt_succ_of_lt la)) (Nat.ne_of_lt la), ⟨⟨.none, he⟩, ⟨_, hit, rfl, rfl⟩⟩, fun b hb => ?_, q⟩
    have lb : s1.heap.objs.size ≤ b := by
      rcases (show b = s1.heap.objs.size + 1 ∨ b = s1.heap.objs.size by simpa using hb) with z | z
      · rw [z]; exact Nat.le_succ _
      · rw [z]; exact Nat.le_refl _
    exact J.fpOk lb (J.hok.fresh lb)
theorem walk_enumT {K : PySem.W.Frag} {a : Addr} {xs : List V} : Walk (Itet K a) xs.length (fun H => SqT K H a xs) (YPair (fun i => some (.int (i : Nat))) (fun i => xs[i]?)) := by
  refine ⟨fun i _ hi q => ⟨xs, xs[i], q, by simp [hi]⟩, fun _ q => ⟨xs, q, Nat.le_refl _⟩, fun i H v G _ q y => ?_⟩
  obtain ⟨T, x, h1, h2, h3, h4⟩ := y
  exact ⟨T, .int (i : Nat), x, h1, h2, h3, rfl, h4 xs q⟩
end Sk


set_option Elab.async false
set_option linter.all false
set_option maxRecDepth 100000
set_option maxHeartbeats 4000000
namespace Sk
open PySem PySem.Spec PyProof.Rows L2
theorem yesE {σ : L2.St} {H : Hp} {A B : Hp → Prop} (h : A H) : tYes σ H (fun b G => if b = true then A G else B G) := by
  show (if true = true then A H else B H)
  rw [if_pos rfl]
  exact h
/-! a comprehension with two for: the outer walk, the inner walk -/
section
variable {J : It} {n : Nat} {G : Hp → Prop} {Y : Nat → Hp → V → Hp → Prop}
theorem lc2_out (w : Walk J n G Y) {g g1 : TG} {tt tt1 : TT} {wi1 : TI} {te : TE} {vs vs1 : List Nat} {σ : L2.St} {H1 : Hp} {D : Addr} {Qd : Hp → Prop} (Pv : Nat → Hp → Prop) (h0 : Pv 0 (upd H1 D (.lst []))) (hG : ∀ i H, i ≤ n → Pv i H → G H)
    (hs : ∀ i x H F, i < n → Pv i H → Y i H x F → g x (wipe σ vs) F fun σ2 H2 => wipe σ2 vs = wipe σ vs ∧ tt σ2 H2 fun b H3 =>
      if b = true then wi1 σ2 H3 fun J1 H4 => ∃ W1 : Nat → Nat → Hp → Prop, (∃ m, W1 0 m H4) ∧ ∀ j k H, W1 j k H →
        (J1.stop j H ∧ Pv (i + 1) H) ∨ (J1.go j H ∧ ∃ N1 : Hp → Prop, (∀ F, N1 F → ∃ m, m < k ∧ W1 (j + 1) m F) ∧ ∀ x F, J1.yld j H x F → g1 x (wipe σ2 vs1) F fun σ3 H5 => wipe σ3 vs1 = wipe σ2 vs1 ∧ tt1 σ3 H5 fun b H6 =>
          if b = true then te σ3 H6 fun y H7 => ∃ acc, H7 D = some (.lst acc) ∧ acc.length < sizeLine ∧ N1 (upd H7 D (.lst (acc ++ [y]))) else N1 H6)
      else Pv (i + 1) H3) (hd : ∀ H, Pv n H → Qd H) :
    ∃ W : Nat → Nat → Hp → Prop, (∃ m, W 0 m (upd H1 D (.lst []))) ∧ ∀ i m H, W i m H →
      (J.stop i H ∧ Qd H) ∨ (J.go i H ∧ ∃ N : Hp → Prop, (∀ F, N F → ∃ k, k < m ∧ W (i + 1) k F) ∧ ∀ x F, J.yld i H x F → g x (wipe σ vs) F fun σ2 H2 => wipe σ2 vs = wipe σ vs ∧ tt σ2 H2 fun b H3 =>
        if b = true then wi1 σ2 H3 fun J1 H4 => ∃ W1 : Nat → Nat → Hp → Prop, (∃ m, W1 0 m H4) ∧ ∀ j k H, W1 j k H →
          (J1.stop j H ∧ N H) ∨ (J1.go j H ∧ ∃ N1 : Hp → Prop, (∀ F, N1 F → ∃ m, m < k ∧ W1 (j + 1) m F) ∧ ∀ x F, J1.yld j H x F → g1 x (wipe σ2 vs1) F fun σ3 H5 => wipe σ3 vs1 = wipe σ2 vs1 ∧ tt1 σ3 H5 fun b H6 =>
            if b = true then te σ3 H6 fun y H7 => ∃ acc, H7 D = some (.lst acc) ∧ acc.length < sizeLine ∧ N1 (upd H7 D (.lst (acc ++ [y]))) else N1 H6)
        else N H3) := by
  refine ⟨fun i m H => m = n - i ∧ i ≤ n ∧ Pv i H, ⟨n, by simp, Nat.zero_le _, h0⟩, ?_⟩
  rintro i m H ⟨rfl, hi, p⟩
  have q := hG i H hi p
  by_cases lt : i < n
  · exact .inr ⟨w.goes i H lt q, Pv (i + 1), fun F p2 => ⟨n - (i + 1), by omega, rfl, lt, p2⟩, fun x F y => hs i x H F lt p (w.yields i H x F lt q y)⟩
  · obtain rfl : i = n := by omega
    exact .inl ⟨w.stops H q, hd H p⟩
theorem lc2_in (w : Walk J n G Y) {g1 : TG} {tt1 : TT} {te : TE} {vs1 : List Nat} {σ : L2.St} {H4 : Hp} {D : Addr} {Nd : Hp → Prop} (Pv : Nat → Hp → Prop) (h0 : Pv 0 H4) (hG : ∀ i H, i ≤ n → Pv i H → G H)
    (hs : ∀ j x H F, j < n → Pv j H → Y j H x F → g1 x (wipe σ vs1) F fun σ3 H5 => wipe σ3 vs1 = wipe σ vs1 ∧ tt1 σ3 H5 fun b H6 =>
      if b = true then te σ3 H6 fun y H7 => ∃ acc, H7 D = some (.lst acc) ∧ acc.length < sizeLine ∧ Pv (j + 1) (upd H7 D (.lst (acc ++ [y]))) else Pv (j + 1) H6) (hd : ∀ H, Pv n H → Nd H) :
    ∃ W1 : Nat → Nat → Hp → Prop, (∃ m, W1 0 m H4) ∧ ∀ j k H, W1 j k H →
      (J.stop j H ∧ Nd H) ∨ (J.go j H ∧ ∃ N1 : Hp → Prop, (∀ F, N1 F → ∃ m, m < k ∧ W1 (j + 1) m F) ∧ ∀ x F, J.yld j H x F → g1 x (wipe σ vs1) F fun σ3 H5 => wipe σ3 vs1 = wipe σ vs1 ∧ tt1 σ3 H5 fun b H6 =>
        if b = true then te σ3 H6 fun y H7 => ∃ acc, H7 D = some (.lst acc) ∧ acc.length < sizeLine ∧ N1 (upd H7 D (.lst (acc ++ [y]))) else N1 H6) := by
  refine ⟨fun i m H => m = n - i ∧ i ≤ n ∧ Pv i H, ⟨n, by simp, Nat.zero_le _, h0⟩, ?_⟩
  rintro i m H ⟨rfl, hi, p⟩
  have q := hG i H hi p
  by_cases lt : i < n
  · exact .inr ⟨w.goes i H lt q, Pv (i + 1), fun F p2 => ⟨n - (i + 1), by omega, rfl, lt, p2⟩, fun x F y => hs i x H F lt p (w.yields i H x F lt q y)⟩
  · obtain rfl : i = n := by omega
    exact .inl ⟨w.stops H q, hd H p⟩
end
end Sk


set_option Elab.async false
set_option linter.all false
set_option maxRecDepth 100000
set_option maxHeartbeats 4000000
/-! Data on the heap, as trees; what comp_error tells of a tree. -/
namespace Sk
open PySem PySem.Spec PyProof.Rows L2
inductive Tr where
  | non | bl (b : Bool) | int (i : Int) | str (x : Str) | tup (ts : List Tr) | lst (ts : List Tr) | dct
mutual
/-- v is the tree t, none of whose objects is one of av -/
inductive Dat (av : Addr → Prop) (H : Hp) : V → Tr → Prop
  | non : Dat av H .non .non
  | bl (b : Bool) : Dat av H (.bl b) (.bl b)
  | int (i : Int) : Dat av H (.int i) (.int i)
  | str (x : Str) : Dat av H (.str x) (.str x)
  | tup {a : Addr} {xs : List V} {ts : List Tr} : H a = some (.tup xs) → ¬ av a → DatA av H xs ts → Dat av H (.ref a) (.tup ts)
  | lst {a : Addr} {xs : List V} {ts : List Tr} : H a = some (.lst xs) → ¬ av a → DatA av H xs ts → Dat av H (.ref a) (.lst ts)
  | dct {a : Addr} : H a = some (.dK []) → ¬ av a → Dat av H (.ref a) .dct
inductive DatA (av : Addr → Prop) (H : Hp) : List V → List Tr → Prop
  | nil : DatA av H [] []
  | cons {v : V} {vs : List V} {t : Tr} {ts : List Tr} : Dat av H v t → DatA av H vs ts → DatA av H (v :: vs) (t :: ts)
end
/-- all that was tracked stays, but for av -/
def Keep (av : Addr → Prop) (H G : Hp) : Prop := ∀ b o, H b = some o → ¬ av b → G b = some o
theorem Keep.refl {av : Addr → Prop} {H : Hp} : Keep av H H := fun _ _ h _ => h
theorem Keep.trans {av : Addr → Prop} {H G F : Hp} (a : Keep av H G) (b : Keep av G F) : Keep av H F := fun c o h n => b c o (a c o h n) n
theorem Keep.of {av : Addr → Prop} {H G : Hp} (s : Same H G) : Keep av H G := fun c o h _ => s c o h
theorem Keep.mono {av av2 : Addr → Prop} {H G : Hp} (k : Keep av H G) (h : ∀ b, av b → av2 b) : Keep av2 H G := fun c o e n => k c o e fun z => n (h c z)
theorem Same.upd {H : Hp} {p : Addr} {o : HO} (h : H p = none) : Same H (upd H p o) := fun b u e => by rw [upd_ne (ne_of_none e h)]; exact e
section
variable {av av2 : Addr → Prop} {H G : Hp}
mutual
theorem Dat.move (k : ∀ b o, H b = some o → ¬ av b → G b = some o ∧ ¬ av2 b) : ∀ (t : Tr) (v : V), Dat av H v t → Dat av2 G v t
  | _, _, .non => .non
  | _, _, .bl b => .bl b
  | _, _, .int i => .int i
  | _, _, .str x => .str x
  | _, _, .tup h n d => .tup (k _ _ h n).1 (k _ _ h n).2 (DatA.move k _ _ d)
  | _, _, .lst h n d => .lst (k _ _ h n).1 (k _ _ h n).2 (DatA.move k _ _ d)
  | _, _, .dct h n => .dct (k _ _ h n).1 (k _ _ h n).2
theorem DatA.move (k : ∀ b o, H b = some o → ¬ av b → G b = some o ∧ ¬ av2 b) : ∀ (ts : List Tr) (vs : List V), DatA av H vs ts → DatA av2 G vs ts
  | _, _, .nil => .nil
  | _, _, .cons a b => .cons (Dat.move k _ _ a) (DatA.move k _ _ b)
end
theorem Dat.keep {t : Tr} {v : V} (d : Dat av H v t) (k : Keep av H G) : Dat av G v t := Dat.move (fun b o h n => ⟨k b o h n, n⟩) t v d
theorem DatA.keep {ts : List Tr} {vs : List V} (d : DatA av H vs ts) (k : Keep av H G) : DatA av G vs ts := DatA.move (fun b o h n => ⟨k b o h n, n⟩) ts vs d
theorem Dat.same {t : Tr} {v : V} (d : Dat av H v t) (k : Same H G) : Dat av G v t := d.keep (.of k)
theorem DatA.same {ts : List Tr} {vs : List V} (d : DatA av H vs ts) (k : Same H G) : DatA av G vs ts := d.keep (.of k)
theorem DatA.length : ∀ {vs : List V} {ts : List Tr}, DatA av H vs ts → vs.length = ts.length
  | _, _, .nil => rfl
  | _, _, .cons _ d => by rw [List.length_cons, List.length_cons, d.length]
theorem DatA.get : ∀ {vs : List V} {ts : List Tr} {i : Nat} {v : V}, DatA av H vs ts → vs[i]? = some v → ∃ t, ts[i]? = some t ∧ Dat av H v t
  | _, _, _, _, .nil, e => by simp at e
  | _, _, 0, _, .cons a _, e => by
    cases (Option.some.inj e)
    exact ⟨_, rfl, a⟩
  | _, _, i + 1, v, .cons _ d, e => by
    obtain ⟨t, h1, h2⟩ := DatA.get (i := i) (v := v) d (by simpa using e)
    exact ⟨t, by simpa using h1, h2⟩
theorem DatA.get2 {vs : List V} {ts : List Tr} {i : Nat} {t : Tr} (d : DatA av H vs ts) (e : ts[i]? = some t) : ∃ v, vs[i]? = some v ∧ Dat av H v t := by
  have hi := (List.getElem?_eq_some_iff.mp e).1
  have hv : i < vs.length := by rw [d.length]; exact hi
  obtain ⟨t2, h1, h2⟩ := d.get (i := i) (v := vs[i]) (by simp [hv])
  rw [e] at h1
  cases h1
  exact ⟨_, by simp [hv], h2⟩
theorem DatA.append : ∀ {vs us : List V} {ts ss : List Tr}, DatA av H vs ts → DatA av H us ss → DatA av H (vs ++ us) (ts ++ ss)
  | _, _, _, _, .nil, d => d
  | _, _, _, _, .cons a b, d => .cons a (b.append d)
theorem DatA.take : ∀ {vs : List V} {ts : List Tr} (n : Nat), DatA av H vs ts → DatA av H (vs.take n) (ts.take n)
  | _, _, 0, _ => .nil
  | _, _, _ + 1, .nil => .nil
  | _, _, n + 1, .cons a b => .cons a (b.take n)
theorem DatA.drop : ∀ {vs : List V} {ts : List Tr} (n : Nat), DatA av H vs ts → DatA av H (vs.drop n) (ts.drop n)
  | _, _, 0, d => d
  | _, _, _ + 1, .nil => .nil
  | _, _, n + 1, .cons _ b => b.drop n
theorem DatA.reverse : ∀ {vs : List V} {ts : List Tr}, DatA av H vs ts → DatA av H vs.reverse ts.reverse
  | _, _, .nil => .nil
  | _, _, .cons a b => by
    rw [List.reverse_cons, List.reverse_cons]
    exact b.reverse.append (.cons a .nil)
end
/-- a value's built-in class -/
def kindOf : Tr → String
  | .non => "NoneType" | .bl _ => "bool" | .int _ => "int" | .str _ => "str" | .tup _ => "tuple" | .lst _ => "list" | .dct => "dict"
theorem Dat.ty {K : PySem.W.Frag} {av : Addr → Prop} {H : Hp} {v : V} {t : Tr} (d : Dat av H v t) : TyX K H v (.type (kindOf t)) := by
  cases d with
  | non => exact .base .non
  | bl b => exact .base (.bl b)
  | int i => exact .base (.int i)
  | str x => exact .base (.str x)
  | tup h n d => exact .base (.tup h)
  | lst h n d => exact .base (.lst h)
  | dct h n => exact .base (.dK h)
def isTup : Tr → Bool | .tup _ => true | _ => false
def isInt : Tr → Bool | .int _ => true | .bl _ => true | _ => false
def isBool : Tr → Bool | .bl _ => true | _ => false
theorem kit_tup {K : PySem.W.Frag} : ∀ t : Tr, PySem.W.kitOne K (.type (kindOf t)) (.type "tuple") = some (isTup t)
  | .non => kit_ty (show kitB "NoneType" "tuple" = some false by decide +kernel)
  | .bl _ => kit_ty (show kitB "bool" "tuple" = some false by decide +kernel)
  | .int _ => kit_ty (show kitB "int" "tuple" = some false by decide +kernel)
  | .str _ => kit_ty (show kitB "str" "tuple" = some false by decide +kernel)
  | .tup _ => kit_ty (show kitB "tuple" "tuple" = some true by decide +kernel)
  | .lst _ => kit_ty (show kitB "list" "tuple" = some false by decide +kernel)
  | .dct => kit_ty (show kitB "dict" "tuple" = some false by decide +kernel)
theorem kit_int {K : PySem.W.Frag} : ∀ t : Tr, PySem.W.kitOne K (.type (kindOf t)) (.type "int") = some (isInt t)
  | .non => kit_ty (show kitB "NoneType" "int" = some false by decide +kernel)
  | .bl _ => kit_ty (show kitB "bool" "int" = some true by decide +kernel)
  | .int _ => kit_ty (show kitB "int" "int" = some true by decide +kernel)
  | .str _ => kit_ty (show kitB "str" "int" = some false by decide +kernel)
  | .tup _ => kit_ty (show kitB "tuple" "int" = some false by decide +kernel)
  | .lst _ => kit_ty (show kitB "list" "int" = some false by decide +kernel)
  | .dct => kit_ty (show kitB "dict" "int" = some false by decide +kernel)
theorem kit_bool {K : PySem.W.Frag} : ∀ t : Tr, PySem.W.kitOne K (.type (kindOf t)) (.type "bool") = some (isBool t)
  | .non => kit_ty (show kitB "NoneType" "bool" = some false by decide +kernel)
  | .bl _ => kit_ty (show kitB "bool" "bool" = some true by decide +kernel)
  | .int _ => kit_ty (show kitB "int" "bool" = some false by decide +kernel)
  | .str _ => kit_ty (show kitB "str" "bool" = some false by decide +kernel)
  | .tup _ => kit_ty (show kitB "tuple" "bool" = some false by decide +kernel)
  | .lst _ => kit_ty (show kitB "list" "bool" = some false by decide +kernel)
  | .dct => kit_ty (show kitB "dict" "bool" = some false by decide +kernel)
/-! ### what is told -/
def isNum (t : Tr) (lo hi : Int) : Bool := match t with | .int i => decide (lo ≤ i) && decide (i ≤ hi) | _ => false
def areNums (t : Tr) (many lo hi : Int) : Bool := match t with | .tup ts => decide ((ts.length : Int) = many) && ts.all (fun x => isNum x lo hi) | _ => false
def wide (l : Int) : Int := (l + 1) * (l + 1) - 1
/-- the first row that is none, from state i on -/
def badRow (n wd : Int) : Nat → List Tr → Option Nat
  | _, [] => none
  | i, t :: ts => if areNums t wd 0 (n - 1) = true then badRow n wd (i + 1) ts else some i
inductive Res where
  | fine | word (x : Str) | row (k : Nat)
def err (t : Tr) : Res := match t with
  | .tup [l, r, v] =>
    match l with
    | .int n => if isNum (.int n) 1 3 = true then
        (match r with
        | .tup (q :: qs) => (match badRow ((q :: qs).length : Int) (wide n) 0 (q :: qs) with
          | some k => .row k
          | none => if areNums v ((q :: qs).length : Int) (-1) 1 = true then .fine else .word "verdicts")
        | _ => .word "rows")
      else .word "letters"
    | _ => .word "letters"
  | _ => .word "comp"
/-- the tree of what is told -/
def Res.tr : Res → Tr
  | .fine => .non
  | .word x => .tup [.non, .str x]
  | .row k => .tup [.int (k : Nat), .str "row"]
/-- no tuple and no list in it has more than n items -/
inductive Bd (n : Nat) : Tr → Prop
  | non : Bd n .non
  | bl (b : Bool) : Bd n (.bl b)
  | int (i : Int) : Bd n (.int i)
  | str (x : Str) : Bd n (.str x)
  | tup {ts : List Tr} : ts.length ≤ n → (∀ t ∈ ts, Bd n t) → Bd n (.tup ts)
  | lst {ts : List Tr} : ts.length ≤ n → (∀ t ∈ ts, Bd n t) → Bd n (.lst ts)
  | dct : Bd n .dct
theorem Bd.mono {n m : Nat} (h : n ≤ m) {t : Tr} (b : Bd n t) : Bd m t := by
  induction b with
  | non => exact .non
  | bl b => exact .bl b
  | int i => exact .int i
  | str x => exact .str x
  | tup l _ ih => exact .tup (Nat.le_trans l h) ih
  | lst l _ ih => exact .lst (Nat.le_trans l h) ih
  | dct => exact .dct
theorem Bd.tl {n : Nat} {ts : List Tr} (b : Bd n (.tup ts)) : ts.length ≤ n := by
  cases b with
  | tup l _ => exact l
theorem Bd.ti {n : Nat} {ts : List Tr} (b : Bd n (.tup ts)) : ∀ t ∈ ts, Bd n t := by
  cases b with
  | tup _ l => exact l
theorem line1000 {n : Nat} (h : n ≤ 1000) : n ≤ sizeLine := Nat.le_trans h (by decide)
/-! ### defs that are called -/
def Callee (P : Program) (w : World) (K : PySem.W.Frag) (mg : Str → Option Value) (base : Heap) (k : Nat) (name : Str) (ps : List Str) (sp : Sp) : Prop :=
  ∃ (f : Addr) (fd : FuncData), FnOk P w K mg base CX0 k f fd ps sp ∧ mg name = some (.ref f) ∧ PySem.W.keepIn K (.ref f) = true ∧ Binds K fd ps []
end Sk


set_option Elab.async false
set_option linter.all false
set_option maxRecDepth 100000
set_option maxHeartbeats 4000000
namespace K35
open PySem PySem.Spec PyProof.Rows L2 Sk
def top (i : Nat) : Stmt := PySem.Challenge.pw_surelyorders_k35_comparisons_with_errors.main.body.getD i (.Pass ⟨0, 0, 0, 0⟩)
abbrev sErr : Stmt := top 4
abbrev sCols : Stmt := top 5
abbrev sFirst : Stmt := top 6
abbrev sAre : Stmt := top 7
abbrev sNum : Stmt := top 8
/-- the built-ins' names are free, the constants are there -/
structure Fre (mg : Str → Option Value) : Prop where
  isi : mg "isinstance" = none
  tup : mg "tuple" = none
  int : mg "int" = none
  bool : mg "bool" = none
  len : mg "len" = none
  all : mg "all" = none
  enum : mg "enumerate" = none
  letters : ∃ t, mg "LETTERS" = some (.str "abc" t)
  ende : ∃ t, mg "END" = some (.str "." t)
  most : ∃ t, mg "MAX_LETTERS" = some (.int 3 t)
section
variable {P : Program} {w : World} {K : PySem.W.Frag} {mg : Str → Option Value} {base : Heap}
/-! is_number -/
def spNum : Sp := fun vs H Q _ => ∃ (av : Addr → Prop) (v : V) (t : Tr) (lo hi : Int), vs = [v, .int lo, .int hi] ∧ Dat av H v t ∧ Q (.bl (isNum t lo hi)) H
theorem scNum : FnScope ["value", "low", "high"] ["value", "low", "high"] (defScope sNum) := ⟨rfl, rfl, rfl, by decide +kernel, rfl, by decide +kernel, by decide +kernel⟩
theorem ok_num {f : Addr} {fd : FuncData} (F : Fun K "is_number" "is_number" sNum f fd) (T : Fre mg) : FnOk P w K mg base CX0 1 f fd ["value", "low", "high"] spNum := by
  refine F.ok scNum (fun vs H Q E h => ?_) (fun cdv A outer s H vs Q E hr h => ?_)
  · obtain ⟨av, v, t, lo, hi, rfl, _⟩ := h
    rfl
  · obtain ⟨av, v, t, lo, hi, rfl, d, k⟩ := h
    refine ⟨_, pss_cons (ps_if (PW.pt (pw_or (pt_not (pt_val (pe_callB call_isi (by rfl) T.isi (by decide +kernel) (pa_cons (pv 0) (pa_cons (pe_bltn (v := .ty "int") (by rfl) T.int (by decide +kernel) rfl) pa_nil)))))
        (pw_or1 (pt_val (pe_callB call_isi (by rfl) T.isi (by decide +kernel) (pa_cons (pv 0) (pa_cons (pe_bltn (v := .ty "bool") (by rfl) T.bool (by decide +kernel) rfl) pa_nil))))))) (pss_one (ps_ret pe_bl)) pss_nil)
      (pss_one (ps_ret (pe_chain op_le op_le (pv 1) (pv 0) (pv 2)))), ?_⟩
    refine ⟨_, rfl, _, _, _, _, _, rfl, .ty _, d.ty, kit_int t, _, rfl, ?_⟩
    cases t with
    | int i =>
      cases d
      refine iteF ?_
      refine ⟨_, rfl, _, _, _, _, _, rfl, .ty _, .base (.int i), kit_bool (.int i), _, rfl, iteF ?_⟩
      refine ⟨_, rfl, _, rfl, _, _, rfl, rfl, _, rfl, ?_⟩
      by_cases h : lo ≤ i
      · rw [decide_eq_true h]
        refine iteT ⟨_, rfl, _, _, rfl, rfl, ?_⟩
        have e : isNum (.int i) lo hi = decide (i ≤ hi) := by simp [isNum, h]
        show Q (.bl (decide (i ≤ hi))) H
        rw [← e]
        exact k
      · rw [decide_eq_false h]
        refine iteF ?_
        have e : isNum (.int i) lo hi = false := by simp [isNum, h]
        rw [← e]
        exact k
    | bl b =>
      refine iteF ⟨_, rfl, _, _, _, _, _, rfl, .ty _, d.ty, kit_bool (.bl b), _, rfl, iteT ?_⟩
      exact k
    | non => exact iteT k
    | str x => exact iteT k
    | tup ts => exact iteT k
    | lst ts => exact iteT k
    | dct => exact iteT k
/-! are_numbers -/
def spAre : Sp := fun vs H Q _ => ∃ (av : Addr → Prop) (v : V) (t : Tr) (many lo hi : Int), vs = [v, .int many, .int lo, .int hi] ∧ Dat av H v t ∧ Bd 1000 t ∧ ∀ G, Same H G → Q (.bl (areNums t many lo hi)) G
theorem scAre : FnScope ["value", "many", "low", "high", "item"] ["value", "many", "low", "high"] (defScope sAre) := ⟨rfl, rfl, rfl, by decide +kernel, rfl, by decide +kernel, by decide +kernel⟩
theorem ok_are {f : Addr} {fd : FuncData} (F : Fun K "are_numbers" "are_numbers" sAre f fd) (T : Fre mg) (C : Callee P w K mg base 1 "is_number" ["value", "low", "high"] spNum) :
    FnOk P w K mg base CX0 2 f fd ["value", "many", "low", "high"] spAre := by
  obtain ⟨fN, fdN, GN, mN, kN, bN⟩ := C
  refine F.ok scAre (fun vs H Q E h => ?_) (fun cdv A outer s H vs Q E hr h => ?_)
  · obtain ⟨av, v, t, many, lo, hi, rfl, _⟩ := h
    rfl
  · obtain ⟨av, v, t, many, lo, hi, rfl, d, bd, k⟩ := h
    refine ⟨_, pss_cons (ps_if (PW.pt (pw_or (pt_not (pt_val (pe_callB call_isi (by rfl) T.isi (by decide +kernel) (pa_cons (pv 0) (pa_cons (pe_bltn (v := .ty "tuple") (by rfl) T.tup (by decide +kernel) rfl) pa_nil)))))
        (pw_or1 (pt_cmpR op_ne (pe_callB call_len_seq (by rfl) T.len PySem.boot_len (pa_cons (pv 0) pa_nil)) (pv 1) (nomark _))))) (pss_one (ps_ret pe_bl)) pss_nil)
      (pss_one (ps_ret (pe_callB (cr_all rfl) (by rfl) T.all (by decide +kernel) (pa_cons (pe_lc (own := [("item", 4)]) (g := gName 4) (tt := tYes) rfl scAre.nd (pi_tup (pv 0)) (blkOk_by (N := ["value", "many", "low", "high", "item"]) (sc := defScope sAre) (by decide +kernel))
        (fun _ _ _ _ _ => pg_name (i := 4) scAre.nd rfl (Or.inl rfl)) (fun _ _ _ _ _ => pts_nil) (fun _ _ _ _ _ => pe_call GN hr (by rfl) mN kN bN .nil pass0 (pa_cons (pv 4) (pa_cons (pv 2) (pa_cons (pv 3) pa_nil))))) pa_nil)))), ?_⟩
    refine ⟨_, rfl, _, _, _, _, _, rfl, .ty _, d.ty, kit_tup t, _, rfl, ?_⟩
    cases t with
    | tup ts =>
      cases d with
      | @tup a xs _ ha na da =>
        refine iteF ⟨_, rfl, a, xs, rfl, .inr (SqT.of ha), _, rfl, rfl, _, rfl, ?_⟩
        refine ite2 (fun h => ?_) (fun h => ?_)
        · have hne : ((ts.length : Int) = many) = False := by
            simp only [Bool.not_eq_true', decide_eq_false_iff_not, V.int.injEq, da.length] at h
            simpa using h
          have e : areNums (.tup ts) many lo hi = false := by simp [areNums, hne]
          rw [← e]
          exact k H (Same.refl H)
        · have heq : (ts.length : Int) = many := by
            simp only [Bool.not_eq_true', Bool.not_eq_false, decide_eq_true_eq, V.int.injEq, da.length] at h
            exact h
          refine ⟨_, rfl, a, rfl, ⟨_, SqT.of ha⟩, fun D hD => lc_tup (K := K) (a := a) (xs := xs) (fun i G => Same H G ∧ G D = some (.lst ((ts.take i).map fun x => V.bl (isNum x lo hi))))
            ⟨Sk.Same.upd hD, upd_same⟩ (fun i G _ z => SqT.of (z.1 _ _ ha)) ?_ ?_⟩
          · rintro i x G hx ⟨sm, gD⟩
            obtain ⟨t, ht, dt⟩ := da.get hx
            have il : i < ts.length := (List.getElem?_eq_some_iff.mp ht).1
            have small : ts.length ≤ sizeLine := line1000 bd.tl
            refine ⟨rfl, ?_⟩
            refine yesE ?_
            refine ⟨_, rfl, _, rfl, _, rfl, av, x, t, lo, hi, rfl, dt.same sm, _, gD, ?_, ?_⟩
            · rw [List.length_map, List.length_take]
              omega
            · refine ⟨fun b o e => ?_, ?_⟩
              · rw [upd_ne (ne_of_none e hD)]
                exact sm b o e
              · rw [upd_same, List.take_add_one, ht, List.map_append]
                rfl
          · rintro G ⟨sm, gD⟩
            rw [da.length, List.take_length] at gD
            refine ⟨D, ts.map fun x => isNum x lo hi, rfl, SqL.of (by rw [gD, List.map_map]; rfl), ?_⟩
            have e : areNums (.tup ts) many lo hi = (ts.map fun x => isNum x lo hi).all id := by
              rw [List.all_map]
              simp [areNums, heq]
            rw [← e]
            exact k G sm
    | non => exact iteT (k H (Same.refl H))
    | str x => exact iteT (k H (Same.refl H))
    | int ts => exact iteT (k H (Same.refl H))
    | bl ts => exact iteT (k H (Same.refl H))
    | lst ts => exact iteT (k H (Same.refl H))
    | dct => exact iteT (k H (Same.refl H))
/-! first_wrong_row -/
def rowV : Option Nat → V | none => .non | some k => .int (k : Nat)
def spFirst : Sp := fun vs H Q _ => ∃ (av : Addr → Prop) (a : Addr) (ts : List Tr) (wd : Int), vs = [.ref a, .int wd] ∧ Dat av H (.ref a) (.tup ts) ∧ Bd 1000 (.tup ts) ∧ ∀ G, Same H G → Q (rowV (badRow (ts.length : Int) wd 0 ts)) G
theorem scFirst : FnScope ["rows", "width", "state", "row"] ["rows", "width"] (defScope sFirst) := ⟨rfl, rfl, rfl, by decide +kernel, rfl, by decide +kernel, by decide +kernel⟩
theorem ok_first {f : Addr} {fd : FuncData} (F : Fun K "first_wrong_row" "first_wrong_row" sFirst f fd) (T : Fre mg) (C : Callee P w K mg base 2 "are_numbers" ["value", "many", "low", "high"] spAre) :
    FnOk P w K mg base CX0 3 f fd ["rows", "width"] spFirst := by
  obtain ⟨fN, fdN, GN, mN, kN, bN⟩ := C
  refine F.ok scFirst (fun vs H Q E h => ?_) (fun cdv A outer s H vs Q E hr h => ?_)
  · obtain ⟨av, a, ts, wd, rfl, _⟩ := h
    rfl
  · obtain ⟨av, a, ts, wd, rfl, d, bd, k⟩ := h
    refine ⟨_, pss_cons (ps_for PassesOwn.never rfl (pi_enumT (by rfl) T.enum (pa_cons (pv 0) pa_nil)) (pg_tup rfl (pgs_cons (pg_name (i := 2) scFirst.nd rfl (.inl rfl)) (pgs_cons (pg_name (i := 3) scFirst.nd rfl (.inl rfl)) pgs_nil)))
        (pss_one (ps_if (pt_not (pt_val (pe_call GN hr (by rfl) mN kN bN .nil pass0 (pa_cons (pv 3) (pa_cons (pv 1) (pa_cons pe_int (pa_cons (pe_op op_sub (pe_callB call_len_seq (by rfl) T.len PySem.boot_len (pa_cons (pv 0) pa_nil)) pe_int) pa_nil)))))))
          (pss_one (ps_ret (pv 2))) pss_nil)))
      (pss_one (ps_ret pe_non)), ?_⟩
    cases id d with
    | @tup _ xs _ ha na da =>
    refine ⟨_, rfl, a, xs, rfl, SqT.of ha, for_it walk_enumT (fun i σ G => ∃ v2 v3, σ = [some (.ref a), some (.int wd), v2, v3] ∧ Same H G ∧ badRow (ts.length : Int) wd 0 ts = badRow (ts.length : Int) wd i (ts.drop i))
      ⟨_, _, rfl, Same.refl H, rfl⟩ (fun i σ G _ ⟨_, _, _, sm, _⟩ => SqT.of (sm _ _ ha)) ?_ ?_⟩
    · rintro i v σ G G2 hi ⟨v2, v3, rfl, sm, eb⟩ ⟨p, x, y, rfl, hp, rfl, ex, hy⟩
      cases ex
      obtain ⟨t, ht, dt⟩ := da.get hy
      have sm2 : Same H (upd G p (.tup [.int (i : Nat), y])) := sm.trans (Sk.Same.upd hp)
      refine ⟨p, [.int (i : Nat), y], rfl, SqT.of upd_same, rfl, ?_⟩
      have im : i < ts.length := (List.getElem?_eq_some_iff.mp ht).1
      have ed : ts.drop i = t :: ts.drop (i + 1) := by
        rw [List.drop_eq_getElem_cons im]
        rw [List.getElem?_eq_getElem im] at ht
        rw [Option.some.inj ht]
      refine ⟨_, _, rfl, _, _, rfl, rfl, _, rfl, _, rfl, _, rfl, a, xs, rfl, .inr (SqT.of (sm2 _ _ ha)), _, _, rfl, rfl, av, y, t, wd, 0, _, rfl, dt.same sm2, bd.ti t (List.mem_of_getElem? ht), fun G3 sm3 => ⟨_, rfl, ?_⟩⟩
      rw [ed] at eb
      rw [da.length]
      cases e : areNums t wd 0 ((ts.length : Int) - 1) with
      | true =>
        refine iteF ?_
        refine ⟨_, _, rfl, sm2.trans sm3, ?_⟩
        rw [eb]
        simp only [badRow, e, if_true]
      | false =>
        refine iteT ⟨_, rfl, ?_⟩
        have e2 : badRow (ts.length : Int) wd 0 ts = some i := by
          rw [eb]
          simp only [badRow, e, Bool.false_eq_true, if_false]
        have k2 := k G3 (sm2.trans sm3)
        rw [e2] at k2
        exact k2
    · rintro σ G ⟨v2, v3, rfl, sm, eb⟩
      have k2 := k G sm
      rw [eb, da.length, List.drop_length] at k2
      exact k2
/-! columns -/
def signsOf (l : Int) : Str := cutS "abc" none (some l) ++ "."
def rowOf (z : Str) (a : Nat) : List Str := z.cps.toList.map fun b => (⟨#[a]⟩ : Str) ++ ⟨#[b]⟩
def pairsOf (z : Str) : List Str := z.cps.toList.flatMap (rowOf z)
def colsOf (l : Int) : List Str := (pairsOf (signsOf l)).dropLast
def spCols : Sp := fun vs H Q _ => ∃ l : Int, vs = [.int l] ∧ 1 ≤ l ∧ l ≤ 3 ∧ ∀ p G, Same H G → H p = none → G p = some (.tup ((colsOf l).map V.str)) → Q (.ref p) G
theorem signs_cases {l : Int} (h1 : 1 ≤ l) (h3 : l ≤ 3) : l = 1 ∨ l = 2 ∨ l = 3 := by omega
theorem signs_len {l : Int} (h1 : 1 ≤ l) (h3 : l ≤ 3) : (signsOf l).cps.size ≤ 4 := by
  rcases signs_cases h1 h3 with rfl | rfl | rfl <;> decide +kernel
theorem cols_len {l : Int} (h1 : 1 ≤ l) (h3 : l ≤ 3) : ((colsOf l).length : Int) = wide l := by
  rcases signs_cases h1 h3 with rfl | rfl | rfl <;> decide +kernel
theorem pairs_len {l : Int} (h1 : 1 ≤ l) (h3 : l ≤ 3) : (pairsOf (signsOf l)).length ≤ 16 := by
  rcases signs_cases h1 h3 with rfl | rfl | rfl <;> decide +kernel
theorem pairs_cut {l : Int} (h1 : 1 ≤ l) (h3 : l ≤ 3) : cutV ((pairsOf (signsOf l)).map V.str) none (some (-1)) = (colsOf l).map V.str := by
  rcases signs_cases h1 h3 with rfl | rfl | rfl <;> decide +kernel
theorem scCols : FnScope ["letters", "signs", "pairs", "first", "second"] ["letters"] (defScope sCols) := ⟨rfl, rfl, rfl, by decide +kernel, rfl, by decide +kernel, by decide +kernel⟩
theorem flat_take {α β : Type} (f : α → List β) (l : List α) (i : Nat) (a : α) (h : l[i]? = some a) : (l.take (i + 1)).flatMap f = (l.take i).flatMap f ++ f a := by
  rw [List.take_add_one, h, List.flatMap_append]
  simp
theorem row_len (z : Str) (a : Nat) : (rowOf z a).length = z.cps.size := by
  unfold rowOf
  rw [List.length_map]
  simp
theorem flat_len (z : Str) : ∀ l : List Nat, (l.flatMap (rowOf z)).length = l.length * z.cps.size
  | [] => by simp
  | a :: l => by rw [List.flatMap_cons, List.length_append, row_len, flat_len z l, List.length_cons, Nat.succ_mul, Nat.add_comm]
theorem ok_cols {f : Addr} {fd : FuncData} (F : Fun K "columns" "columns" sCols f fd) (T : Fre mg) : FnOk P w K mg base CX0 1 f fd ["letters"] spCols := by
  obtain ⟨tL, mL⟩ := T.letters
  obtain ⟨tE, mE⟩ := T.ende
  refine F.ok scCols (fun vs H Q E h => ?_) (fun cdv A outer s H vs Q E hr h => ?_)
  · obtain ⟨l, rfl, _⟩ := h
    rfl
  · obtain ⟨l, rfl, h1, h3, k⟩ := h
    have l4 := signs_len h1 h3
    have l16 := pairs_len h1 h3
    have e4 : (signsOf l).cps.toList.length ≤ 4 := by simpa using l4
    refine ⟨_, pss_cons (ps_set (i := 1) scCols.nd rfl (Or.inr rfl) (pe_op op_add_str (pe_slice sl_str (pe_glob (v := .str "abc") (by rfl) mL ⟨_, rfl⟩) po_none (po_some (pv 0))) (pe_glob (v := .str ".") (by rfl) mE ⟨_, rfl⟩)))
      (pss_cons (ps_setLc2 (i := 2) (own := [("first", 3), ("second", 4)]) (vs1 := [4]) (g := gName 3) (g1 := gName 4) (tt := tYes) (tt1 := tYes) rfl scCols.nd rfl rfl (sw_true rfl rfl rfl (by decide +kernel)) (pi_str (pv 1)) (blkOk_by (N := ["letters", "signs", "pairs", "first", "second"]) (sc := defScope sCols) (by decide +kernel)) (by decide)
        (fun _ _ _ _ _ => pg_name (i := 3) scCols.nd rfl (Or.inl rfl)) (fun _ _ _ _ _ => pts_nil) (fun _ _ _ _ _ => pi_str (pv 1)) (fun _ _ _ _ _ => pg_name (i := 4) scCols.nd rfl (Or.inl rfl)) (fun _ _ _ _ _ => pts_nil)
        (fun _ _ _ _ _ => pe_op op_add_str (pv 3) (pv 4)))
      (pss_one (ps_ret (pe_callTy call_tuple_of (by rfl) T.tup (by decide +kernel) (pa_cons (pe_slice sl_list (pv 2) po_none (po_some (pe_un un_neg pe_int))) pa_nil))))), ?_⟩
    have len3 : (cutS "abc" none (some l)).length ≤ 3 := by
      rcases signs_cases h1 h3 with rfl | rfl | rfl <;> decide +kernel
    refine ⟨_, rfl, l, rfl, _, rfl, (by decide +kernel), _, _, rfl, rfl, Nat.le_trans (Nat.add_le_add_right len3 _) (by decide +kernel), ?_⟩
    show tSeq _ _ _ [some (.int l), some (.str (signsOf l)), none, none, none] H
    generalize hz : signsOf l = z at *
    refine ⟨_, rfl, z, rfl, fun D hD => lc2_out walk_str (fun i G => Same H G ∧ G D = some (.lst (((z.cps.toList.take i).flatMap (rowOf z)).map V.str))) ⟨Sk.Same.upd hD, upd_same⟩ (fun _ _ _ _ => trivial) ?_ ?_⟩
    · rintro i x G G2 hi ⟨sm, gD⟩ ⟨rfl, c, hc, rfl⟩
      refine ⟨rfl, ?_⟩
      refine yesE ?_
      refine ⟨_, rfl, z, rfl, lc2_in walk_str (fun j G => Same H G ∧ G D = some (.lst (((z.cps.toList.take i).flatMap (rowOf z) ++ (rowOf z c).take j).map V.str))) ⟨sm, by simpa using gD⟩ (fun _ _ _ _ => trivial) ?_ ?_⟩
      · rintro j x2 G3 G4 hj ⟨sm3, gD3⟩ ⟨rfl, c2, hc2, rfl⟩
        refine ⟨rfl, yesE ?_⟩
        refine ⟨_, rfl, _, rfl, _, _, rfl, rfl, (by show 1 + 1 ≤ sizeLine; decide), _, gD3, ?_, ?_, ?_⟩
        · rw [List.length_map, List.length_append, flat_len, List.length_take, List.length_take, row_len]
          have a1 : min i z.cps.toList.length * z.cps.size ≤ 4 * 4 := Nat.mul_le_mul (Nat.le_trans (Nat.min_le_right _ _) e4) l4
          have a2 : min j z.cps.size ≤ 4 := Nat.le_trans (Nat.min_le_right _ _) l4
          exact Nat.lt_of_le_of_lt (Nat.add_le_add a1 a2) (by decide)
        · exact fun b o e => by rw [upd_ne (ne_of_none e hD)]; exact sm3 b o e
        · have e1 : (rowOf z c)[j]? = some ((⟨#[c]⟩ : Str) ++ ⟨#[c2]⟩) := by
            unfold rowOf
            rw [List.getElem?_map, show z.cps.toList[j]? = some c2 by simpa using hc2]
            rfl
          rw [upd_same, List.take_add_one, e1, ← List.append_assoc, List.map_append (l₂ := Option.toList _)]
          rfl
      · rintro G3 ⟨sm3, gD3⟩
        refine ⟨sm3, ?_⟩
        have e1 : (rowOf z c).take z.cps.size = rowOf z c := List.take_of_length_le (by rw [row_len]; exact Nat.le_refl _)
        rw [gD3, flat_take (rowOf z) _ _ c (by simpa using hc), e1]
    · rintro G ⟨sm, gD⟩
      have gD2 : G D = some (.lst ((pairsOf z).map V.str)) := by
        rw [gD, show z.cps.size = z.cps.toList.length by simp, List.take_length]
        rfl
      refine ⟨_, rfl, 1, rfl, _, rfl, D, _, rfl, SqL.of gD2, fun q hq => ⟨q, _, rfl, .inl ⟨SqL.of upd_same, fun r hr2 => ?_⟩⟩⟩
      have s2 : Same H (upd (upd G q (.lst (cutV ((pairsOf z).map V.str) none (some (-1))))) r (.tup (cutV ((pairsOf z).map V.str) none (some (-1))))) := (sm.trans (Sk.Same.upd hq)).trans (Sk.Same.upd hr2)
      refine k r _ s2 ((sm.trans (Sk.Same.upd hq)).free hr2) ?_
      rw [upd_same, ← hz, pairs_cut h1 h3]
/-! comp_error -/
def noA : Addr → Prop := fun _ => False
def spErr : Sp := fun vs H Q _ => ∃ (av : Addr → Prop) (v : V) (t : Tr), vs = [v] ∧ Dat av H v t ∧ Bd 1000 t ∧ ∀ r G, Same H G → Dat noA G r (err t).tr → Q r G
theorem tellW {H G : Hp} {Q : VK} {e : Res} {x : Str} (k : ∀ r F, Same H F → Dat noA F r e.tr → Q r F) (sm : Same H G) (he : e = .word x) : 2 ≤ sizeLine ∧ ∀ p, G p = none → Q (.ref p) (upd G p (.tup [.non, .str x])) := by
  refine ⟨by decide, fun p hp => k _ _ (sm.trans (Sk.Same.upd hp)) ?_⟩
  rw [he]
  exact .tup upd_same (fun z => z) (.cons .non (.cons (.str x) .nil))
theorem err_len {ts : List Tr} (h : ¬ ts.length = 3) : err (.tup ts) = .word "comp" := by
  match ts, h with
  | [], _ => rfl
  | [_], _ => rfl
  | [_, _], _ => rfl
  | [_, _, _], h => exact absurd rfl h
  | _ :: _ :: _ :: _ :: _, _ => rfl
theorem err_num {l r v : Tr} (h : isNum l 1 3 = false) : err (.tup [l, r, v]) = .word "letters" := by
  cases l with
  | int n => simp [err, h]
  | non => rfl
  | bl _ => rfl
  | str _ => rfl
  | tup _ => rfl
  | lst _ => rfl
  | dct => rfl
theorem err_rows {n : Int} {r v : Tr} (h : isNum (.int n) 1 3 = true) (hr : ∀ q qs, r ≠ .tup (q :: qs)) : err (.tup [.int n, r, v]) = .word "rows" := by
  cases r with
  | tup ts =>
    cases ts with
    | nil => simp [err, h]
    | cons q qs => exact absurd rfl (hr q qs)
  | int n => simp [err, h]
  | non => simp [err, h]
  | bl _ => simp [err, h]
  | str _ => simp [err, h]
  | lst _ => simp [err, h]
  | dct => simp [err, h]
theorem err_row {n : Int} {q v : Tr} {qs : List Tr} {k : Nat} (h : isNum (.int n) 1 3 = true) (hb : badRow ((q :: qs).length : Int) (wide n) 0 (q :: qs) = some k) : err (.tup [.int n, .tup (q :: qs), v]) = .row k := by
  simp only [err, h, if_true, hb]
theorem err_end {n : Int} {q v : Tr} {qs : List Tr} (h : isNum (.int n) 1 3 = true) (hb : badRow ((q :: qs).length : Int) (wide n) 0 (q :: qs) = none) :
    err (.tup [.int n, .tup (q :: qs), v]) = if areNums v ((q :: qs).length : Int) (-1) 1 = true then .fine else .word "verdicts" := by
  simp only [err, h, if_true, hb]
theorem num_of {l : Tr} {lo hi : Int} (h : isNum l lo hi = true) : ∃ n, l = .int n ∧ lo ≤ n ∧ n ≤ hi := by
  cases l with
  | int n =>
    simp only [isNum, Bool.and_eq_true, decide_eq_true_eq] at h
    exact ⟨n, rfl, h.1, h.2⟩
  | non => cases h
  | bl _ => cases h
  | str _ => cases h
  | tup _ => cases h
  | lst _ => cases h
  | dct => cases h
theorem scErr : FnScope ["value", "letters", "rows", "verdicts", "state"] ["value"] (defScope sErr) := ⟨rfl, rfl, rfl, by decide +kernel, rfl, by decide +kernel, by decide +kernel⟩
theorem ok_err {f : Addr} {fd : FuncData} (F : Fun K "comp_error" "comp_error" sErr f fd) (T : Fre mg) (CN : Callee P w K mg base 1 "is_number" ["value", "low", "high"] spNum)
    (CA : Callee P w K mg base 2 "are_numbers" ["value", "many", "low", "high"] spAre) (CF : Callee P w K mg base 3 "first_wrong_row" ["rows", "width"] spFirst) (CC : Callee P w K mg base 1 "columns" ["letters"] spCols) :
    FnOk P w K mg base CX0 4 f fd ["value"] spErr := by
  obtain ⟨fN, fdN, GN, mN, kN, bN⟩ := CN
  obtain ⟨fA, fdA, GA, mA, kA, bA⟩ := CA
  obtain ⟨fF, fdF, GF, mF, kF, bF⟩ := CF
  obtain ⟨fC, fdC, GC, mC, kC, bC⟩ := CC
  obtain ⟨tM, mM⟩ := T.most
  refine F.ok scErr (fun vs H Q E h => ?_) (fun cdv A outer s H vs Q E hr h => ?_)
  · obtain ⟨av, v, t, rfl, _⟩ := h
    rfl
  · obtain ⟨av, v, t, rfl, d, bd, k⟩ := h
    have hr1 : Room 1 _ := hr.mono (by decide)
    have hr2 : Room 2 _ := hr.mono (by decide)
    refine ⟨_, pss_cons (ps_if (PW.pt (pw_or (pt_not (pt_val (pe_callB call_isi (by rfl) T.isi (by decide +kernel) (pa_cons (pv 0) (pa_cons (pe_bltn (v := .ty "tuple") (by rfl) T.tup (by decide +kernel) rfl) pa_nil)))))
        (pw_or1 (pt_cmpR op_ne (pe_callB call_len_seq (by rfl) T.len PySem.boot_len (pa_cons (pv 0) pa_nil)) pe_int (nomark _))))) (pss_one (ps_ret (pe_tup (pa_cons pe_non (pa_cons pe_str pa_nil))))) pss_nil)
      (pss_cons (ps_asg (pv 0) (pg_tup rfl (pgs_cons (pg_name (i := 1) scErr.nd rfl (.inl rfl)) (pgs_cons (pg_name (i := 2) scErr.nd rfl (.inl rfl)) (pgs_cons (pg_name (i := 3) scErr.nd rfl (.inl rfl)) pgs_nil)))))
      (pss_cons (ps_if (pt_not (pt_val (pe_call GN hr1 (by rfl) mN kN bN .nil pass0 (pa_cons (pv 1) (pa_cons pe_int (pa_cons (pe_glob (v := .int 3) (by rfl) mM ⟨_, rfl⟩) pa_nil)))))) (pss_one (ps_ret (pe_tup (pa_cons pe_non (pa_cons pe_str pa_nil))))) pss_nil)
      (pss_cons (ps_if (PW.pt (pw_or (pt_not (pt_val (pe_callB call_isi (by rfl) T.isi (by decide +kernel) (pa_cons (pv 2) (pa_cons (pe_bltn (v := .ty "tuple") (by rfl) T.tup (by decide +kernel) rfl) pa_nil)))))
        (pw_or1 (pt_cmpR op_eq (pe_callB call_len_seq (by rfl) T.len PySem.boot_len (pa_cons (pv 2) pa_nil)) pe_int (nomark _))))) (pss_one (ps_ret (pe_tup (pa_cons pe_non (pa_cons pe_str pa_nil))))) pss_nil)
      (pss_cons (ps_set (i := 4) scErr.nd rfl (Or.inl rfl) (pe_call GF hr (by rfl) mF kF bF .nil pass0 (pa_cons (pv 2) (pa_cons (pe_callB call_len_seq (by rfl) T.len PySem.boot_len (pa_cons (pe_call GC hr1 (by rfl) mC kC bC .nil pass0 (pa_cons (pv 1) pa_nil)) pa_nil)) pa_nil))))
      (pss_cons (ps_if (pt_cmpR op_notN (pv 4) pe_non (nomark _)) (pss_one (ps_ret (pe_tup (pa_cons (pv 4) (pa_cons pe_str pa_nil))))) pss_nil)
      (pss_cons (ps_if (pt_not (pt_val (pe_call GA hr2 (by rfl) mA kA bA .nil pass0 (pa_cons (pv 3) (pa_cons (pe_callB call_len_seq (by rfl) T.len PySem.boot_len (pa_cons (pv 2) pa_nil)) (pa_cons (pe_un un_neg pe_int) (pa_cons pe_int pa_nil))))))) (pss_one (ps_ret (pe_tup (pa_cons pe_non (pa_cons pe_str pa_nil))))) pss_nil)
      (pss_one (ps_ret pe_non)))))))), ?_⟩
    refine ⟨_, rfl, _, _, _, _, _, rfl, .ty _, d.ty, kit_tup t, _, rfl, ?_⟩
    cases t with
    | non => exact iteT (tellW k (Same.refl H) rfl)
    | bl _ => exact iteT (tellW k (Same.refl H) rfl)
    | int _ => exact iteT (tellW k (Same.refl H) rfl)
    | str _ => exact iteT (tellW k (Same.refl H) rfl)
    | lst _ => exact iteT (tellW k (Same.refl H) rfl)
    | dct => exact iteT (tellW k (Same.refl H) rfl)
    | tup ts =>
    cases id d with
    | @tup a xs _ ha na da =>
    refine iteF ⟨_, rfl, a, xs, rfl, .inr (SqT.of ha), rfl, _, rfl, ?_⟩
    refine ite2 (fun h => ?_) (fun h => ?_)
    · refine tellW k (Same.refl H) (err_len fun e => ?_)
      rw [da.length, e] at h
      exact absurd h (by decide)
    · have h3 : ts.length = 3 := by
        simp only [Bool.not_eq_true', Bool.not_eq_false, decide_eq_true_eq, V.int.injEq, da.length] at h
        omega
      match ts, xs, da, h3 with
      | [l, r, v], _, .cons (v := vl) dl (.cons (v := vr) dr (.cons (v := vv) dv .nil)), _ =>
      refine ⟨_, rfl, a, [vl, vr, vv], rfl, SqT.of ha, rfl, _, _, rfl, _, _, rfl, _, _, rfl, rfl, ?_⟩
      refine ⟨_, rfl, av, vl, l, 1, 3, rfl, dl, _, rfl, ?_⟩
      cases hn : isNum l 1 3 with
      | false => exact iteT (tellW k (Same.refl H) (err_num hn))
      | true =>
      refine iteF ?_
      obtain ⟨n, rfl, n1, n3⟩ := num_of hn
      cases dl
      refine ⟨_, rfl, _, _, _, _, _, rfl, .ty _, dr.ty, kit_tup r, _, rfl, ?_⟩
      cases r with
      | non => exact iteT (tellW k (Same.refl H) (err_rows hn fun q qs => nofun))
      | bl _ => exact iteT (tellW k (Same.refl H) (err_rows hn fun q qs => nofun))
      | int _ => exact iteT (tellW k (Same.refl H) (err_rows hn fun q qs => nofun))
      | str _ => exact iteT (tellW k (Same.refl H) (err_rows hn fun q qs => nofun))
      | lst _ => exact iteT (tellW k (Same.refl H) (err_rows hn fun q qs => nofun))
      | dct => exact iteT (tellW k (Same.refl H) (err_rows hn fun q qs => nofun))
      | tup rs =>
      cases id dr with
      | @tup b ys _ hb nb db =>
      refine iteF ⟨_, rfl, b, ys, rfl, .inr (SqT.of hb), rfl, _, rfl, ?_⟩
      cases rs with
      | nil =>
        cases db
        exact iteT (tellW k (Same.refl H) (err_rows hn fun q qs => nofun))
      | cons q qs =>
      have ly : ys.length = (q :: qs).length := db.length
      refine ite2 (fun h => ?_) (fun _ => ?_)
      · rw [ly] at h
        exact absurd (V.int.inj (of_decide_eq_true h)) (by rw [List.length_cons]; omega)
      have bdr : Bd 1000 (.tup (q :: qs)) := bd.ti _ (by simp)
      have bdv : Bd 1000 v := bd.ti _ (by simp)
      refine ⟨_, rfl, _, rfl, n, rfl, n1, n3, fun p G sm hp hG => ⟨p, _, rfl, .inr (SqT.of hG), ?_⟩⟩
      have ew : (((colsOf n).map V.str).length : Int) = wide n := by
        rw [List.length_map]
        exact cols_len n1 n3
      rw [ew]
      refine ⟨av, b, q :: qs, wide n, rfl, dr.same sm, bdr, fun G2 sm2 => ?_⟩
      have sm3 : Same H G2 := sm.trans sm2
      cases hb2 : badRow ((q :: qs).length : Int) (wide n) 0 (q :: qs) with
      | some j =>
        refine ⟨_, rfl, rfl, _, rfl, iteT ⟨_, rfl, (by show 2 ≤ sizeLine; decide), fun r hr2 => k _ _ (sm3.trans (Sk.Same.upd hr2)) ?_⟩⟩
        rw [err_row hn hb2]
        exact .tup upd_same (fun z => z) (.cons (.int _) (.cons (.str _) .nil))
      | none =>
        refine ⟨_, rfl, rfl, _, rfl, iteF ?_⟩
        refine ⟨_, rfl, _, rfl, b, ys, rfl, .inr (SqT.of (sm3 _ _ hb)), 1, rfl, av, vv, v, _, -1, 1, rfl, dv.same sm3, bdv, fun G3 sm4 => ⟨_, rfl, ?_⟩⟩
        rw [ly]
        have ee := err_end (v := v) hn hb2
        cases hv : areNums v ((q :: qs).length : Int) (-1) 1 with
        | false =>
          rw [hv, if_neg (by decide)] at ee
          exact iteT (tellW k (sm3.trans sm4) ee)
        | true =>
          rw [hv, if_pos rfl] at ee
          refine iteF (k _ _ (sm3.trans sm4) ?_)
          rw [ee]
          exact .non
end
end K35


set_option Elab.async false
set_option linter.all false
set_option maxRecDepth 100000
set_option maxHeartbeats 4000000
/-! The law's own helpers: the deck, draws, one of a list. -/
namespace Sk
open PySem PySem.Spec PyProof.Rows L2
/-- a deck stands at d, its cells at c, n numbers were drawn -/
structure Deck (d c : Addr) (n : Int) (H : Hp) : Prop where
  ob : H d = some (.lst [.ref c, .int n])
  n0 : 0 ≤ n
  cells : ∃ ns : List Int, H c = some (.lst (ns.map V.int)) ∧ ns.length ≤ 63 ∧ ∀ z ∈ ns, 0 ≤ z
def dk (d c : Addr) : Addr → Prop := fun b => b = d ∨ b = c
theorem Deck.ne {d c : Addr} {n : Int} {H : Hp} (D : Deck d c n H) : d ≠ c := by
  obtain ⟨ns, h, _⟩ := D.cells
  refine ne_of D.ob h fun e => ?_
  injection e with e
  cases ns with
  | nil => exact nomatch e
  | cons z zs => exact nomatch (List.cons.inj e).1
theorem Deck.keep {d c : Addr} {n : Int} {H G : Hp} (D : Deck d c n H) (s : Same H G) : Deck d c n G := by
  obtain ⟨ns, h, l, z⟩ := D.cells
  exact ⟨s _ _ D.ob, D.n0, ns, s _ _ h, l, z⟩
/-- what is kept but for the deck and for one more list -/
theorem Deck.cut {d c : Addr} {n : Int} {H G : Hp} {av : Addr → Prop} (D : Deck d c n H) (k : Keep av H G) (h1 : ¬ av d) (h2 : ¬ av c) : Deck d c n G := by
  obtain ⟨ns, h, l, z⟩ := D.cells
  exact ⟨k _ _ D.ob h1, D.n0, ns, k _ _ h h2, l, z⟩
def spDeck (K : PySem.W.Frag) : Sp := fun vs H Q _ => ∃ (a : Addr) (ns : List Int), vs = [.ref a] ∧ SqL K H a (ns.map V.int) ∧ ns.length ≤ 63 ∧ ∀ d c G, Same H G → H d = none → H c = none → Deck d c 0 G → Q (.ref d) G
def spDraw : Sp := fun vs H Q _ => ∃ (d c : Addr) (n m : Int), vs = [.ref d, .int m] ∧ Deck d c n H ∧ n ≤ 10 ^ 9 ∧ 1 ≤ m ∧ m ≤ 10 ^ 9 ∧ ∀ k G, 0 ≤ k → k < m → Deck d c (n + 1) G → Keep (dk d c) H G → Q (.int k) G
/-- one of the items of a list (or of a tuple) -/
def spOne (K : PySem.W.Frag) : Sp := fun vs H Q _ => ∃ (d c a : Addr) (n : Int) (xs : List V), vs = [.ref d, .ref a] ∧ Deck d c n H ∧ n ≤ 10 ^ 9 ∧ H a = some (.lst xs) ∧ ¬ dk d c a ∧ xs ≠ [] ∧ xs.length ≤ 1000 ∧
  ∀ x G, x ∈ xs → Deck d c (n + 1) G → Keep (dk d c) H G → Q x G
theorem atI_some {α : Type} {xs : List α} {i : Int} (h0 : 0 ≤ i) (h : i < xs.length) : ∃ v, atI xs i = some v ∧ v ∈ xs := by
  obtain ⟨j, rfl⟩ : ∃ j : Nat, i = (j : Int) := ⟨i.toNat, by omega⟩
  have hj : j < xs.length := by omega
  exact ⟨xs[j], atI_nat (by simp [hj]), List.getElem_mem hj⟩
theorem ixN_some {n : Nat} {i : Int} (h0 : 0 ≤ i) (h : i < n) : ixN n i = some i.toNat := by
  unfold ixN
  rw [if_pos h0, if_pos h]
end Sk
namespace K35
open PySem PySem.Spec PyProof.Rows L2 Sk
abbrev sDeck : Stmt := top 10
abbrev sDraw : Stmt := top 11
abbrev sOne : Stmt := top 12
structure Fre2 (mg : Str → Option Value) : Prop where
  abs : mg "abs" = none
  range : mg "range" = none
  list : mg "list" = none
  repr : mg "repr" = none
section
variable {P : Program} {w : World} {K : PySem.W.Frag} {mg : Str → Option Value} {base : Heap}
theorem scDeck : FnScope ["_law_script", "_law_cell"] ["_law_script"] (defScope sDeck) := ⟨rfl, rfl, rfl, by decide +kernel, rfl, by decide +kernel, by decide +kernel⟩
theorem ok_deck {f : Addr} {fd : FuncData} (F : Fun K "_law_deck" "_law_deck" sDeck f fd) (T : Fre mg) (U : Fre2 mg) : FnOk P w K mg base CX0 1 f fd ["_law_script"] (spDeck K) := by
  refine F.ok scDeck (fun vs H Q E h => ?_) (fun cdv A outer s H vs Q E hr h => ?_)
  · obtain ⟨a, ns, rfl, _⟩ := h
    rfl
  · obtain ⟨a, ns, rfl, hs, hl, k⟩ := h
    refine ⟨_, pss_one (ps_ret (pe_lst (pa_cons (pe_lc (own := [("_law_cell", 1)]) (g := gName 1) (tt := tYes) rfl scDeck.nd (pi_list (pe_slice sl_list (pv 0) po_none (po_some pe_int))) (blkOk_by (N := ["_law_script", "_law_cell"]) (sc := defScope sDeck) (by decide +kernel))
      (fun _ _ _ _ _ => pg_name (i := 1) scDeck.nd rfl (Or.inl rfl)) (fun _ _ _ _ _ => pts_nil) (fun _ _ _ _ _ => pe_callB call_abs (by rfl) U.abs (by decide +kernel) (pa_cons (pv 1) pa_nil))) (pa_cons pe_int pa_nil)))), ?_⟩
    refine ⟨_, rfl, 63, rfl, a, _, rfl, hs, fun p hp => ?_⟩
    have ec : cutV (ns.map V.int) none (some 63) = ns.map V.int := by
      unfold cutV
      rw [HT.sIx_none, List.drop_zero, List.length_map, show (63 : Int) = ((63 : Nat) : Int) from rfl, HT.sIx_nat, List.take_of_length_le]
      rw [List.length_map]
      omega
    rw [ec]
    have s1 : Same H (upd H p (.lst (ns.map V.int))) := Sk.Same.upd hp
    refine ⟨p, rfl, ⟨_, SqL.of upd_same⟩, fun c hc => lc_list (K := K) (a := p) (xs := ns.map V.int) (fun i G => Same H G ∧ G p = some (.lst (ns.map V.int)) ∧ G c = some (.lst ((ns.take i).map fun z => V.int (if z < 0 then -z else z))))
      ⟨s1.trans (Sk.Same.upd hc), by rw [upd_ne (ne_of_none upd_same hc)]; exact upd_same, upd_same⟩ (fun i G _ h => SqL.of h.2.1) ?_ ?_⟩
    · rintro i x G hx ⟨sm, gp, gc⟩
      rw [List.getElem?_map] at hx
      obtain ⟨z, hz, rfl⟩ := Option.map_eq_some_iff.mp hx
      have il := (List.getElem?_eq_some_iff.mp hz).1
      refine ⟨rfl, yesE ⟨_, rfl, z, rfl, _, gc, ?_, ?_, ?_, ?_⟩⟩
      · rw [List.length_map, List.length_take]
        exact Nat.lt_of_lt_of_le (Nat.lt_of_le_of_lt (Nat.min_le_left _ _) il) (Nat.le_trans hl (by decide))
      · have hcH : H c = none := s1.free hc
        exact fun b o e => by rw [upd_ne (ne_of_none e hcH)]; exact sm b o e
      · rw [upd_ne (ne_of_none (upd_same (H := H) (a := p) (o := .lst (ns.map V.int))) hc)]
        exact gp
      · rw [upd_same, List.take_add_one, hz, List.map_append]
        rfl
    · rintro G ⟨sm, gp, gc⟩
      refine ⟨by show 2 ≤ sizeLine; decide, fun d hd => ?_⟩
      have hcd : c ≠ d := ne_of_none gc hd
      refine k d c _ (sm.trans (Sk.Same.upd hd)) (sm.free hd) (s1.free hc) ⟨upd_same, by decide, ns.map (fun z => if z < 0 then -z else z), ?_, ?_, ?_⟩
      · rw [upd_ne hcd, gc, List.length_map, List.take_length, List.map_map]
        rfl
      · rw [List.length_map]
        exact hl
      · intro z hz
        obtain ⟨y, _, rfl⟩ := List.mem_map.mp hz
        split <;> omega
theorem scDraw : FnScope ["_law_deck_here", "_law_most", "_law_cell", "_law_at", "_law_mixed"] ["_law_deck_here", "_law_most"] (defScope sDraw) := ⟨rfl, rfl, rfl, by decide +kernel, rfl, by decide +kernel, by decide +kernel⟩
theorem ok_draw {f : Addr} {fd : FuncData} (F : Fun K "_law_draw" "_law_draw" sDraw f fd) (T : Fre mg) : FnOk P w K mg base CX0 1 f fd ["_law_deck_here", "_law_most"] spDraw := by
  refine F.ok scDraw (fun vs H Q E h => ?_) (fun cdv A outer s H vs Q E hr h => ?_)
  · obtain ⟨d, c, n, m, rfl, _⟩ := h
    rfl
  · obtain ⟨d, c, n, m, rfl, D, n9, m1, m9, k⟩ := h
    refine ⟨_, pss_cons (ps_asg (pe_op op_add (pe_ix ix_list (pv 0) pe_int (fun _ _ => rfl)) pe_int) (pg_sub (pv 0) pe_int set_list))
      (pss_cons (ps_asg (pe_tup (pa_cons pe_int (pa_cons (pe_un un_neg pe_int) pa_nil))) (pg_tup rfl (pgs_cons (pg_name (i := 2) scDraw.nd rfl (.inl rfl)) (pgs_cons (pg_name (i := 3) scDraw.nd rfl (.inl rfl)) pgs_nil))))
      (C8.pss_cut (ps_if (pt_cmpR op_gt (pe_callB call_len_seq (by rfl) T.len PySem.boot_len (pa_cons (pe_ix ix_list (pv 0) pe_int (fun _ _ => rfl)) pa_nil)) pe_int (nomark _))
        (pss_cons (ps_set (i := 3) scDraw.nd rfl (Or.inl rfl) (pe_op op_mod (pe_callTy call_int1 (by rfl) T.int (by decide +kernel) (pa_cons (pe_ix ix_list (pv 0) pe_int (fun _ _ => rfl)) pa_nil)) (pe_callB call_len_seq (by rfl) T.len PySem.boot_len (pa_cons (pe_ix ix_list (pv 0) pe_int (fun _ _ => rfl)) pa_nil))))
        (pss_one (ps_set (i := 2) scDraw.nd rfl (Or.inl rfl) (pe_ix ix_list (pe_ix ix_list (pv 0) pe_int (fun _ _ => rfl)) (pv 3) (fun _ _ => rfl))))) pss_nil)
      (pss_cons (ps_if (pt_cmpR op_ge (pv 2) (pe_op op_pow pe_int pe_int) (nomark _))
        (pss_cons (ps_asg (pe_op op_fdivW (pe_callTy call_int1 (by rfl) T.int (by decide +kernel) (pa_cons (pv 2) pa_nil)) (pv 1)) (pg_sub (pe_ix ix_list (pv 0) pe_int (fun _ _ => rfl)) (pv 3) set_list))
        (pss_one (ps_ret (pe_op op_mod (pe_callTy call_int1 (by rfl) T.int (by decide +kernel) (pa_cons (pv 2) pa_nil)) (pv 1))))) pss_nil)
      (pss_cons (ps_set (i := 4) scDraw.nd rfl (Or.inl rfl) (pe_op op_add (pe_op op_add (pe_op op_mod (pe_callTy call_int1 (by rfl) T.int (by decide +kernel) (pa_cons (pv 2) pa_nil)) pe_int) (pe_op op_mul pe_int (pe_ix ix_list (pv 0) pe_int (fun _ _ => rfl)))) pe_int))
      (pss_one (ps_ret (pe_op op_mod (pe_callTy call_int1 (by rfl) T.int (by decide +kernel) (pa_cons (pe_op op_mod (pe_callTy call_int1 (by rfl) T.int (by decide +kernel) (pa_cons (pe_op op_pow (pv 4) pe_int) pa_nil)) pe_int) pa_nil)) (pv 1)))))))), ?_⟩
    obtain ⟨ns, hc, nl, nz⟩ := D.cells
    have ne := D.ne
    refine ⟨_, rfl, d, _, 1, .int n, rfl, rfl, SqL.of D.ob, rfl, _, _, rfl, rfl, _, rfl, d, _, 1, 1, rfl, rfl, D.ob, rfl, ?_⟩
    have D1 : Deck d c (n + 1) (upd H d (.lst [.ref c, .int (n + 1)])) := ⟨upd_same, by have := D.n0; omega, ns, by rw [upd_ne ne.symm]; exact hc, nl, nz⟩
    have K1 : Keep (dk d c) H (upd H d (.lst [.ref c, .int (n + 1)])) := fun b o e z => by rw [upd_ne fun q => z (.inl q)]; exact e
    refine ⟨1, rfl, (by show 2 ≤ sizeLine; decide), fun p hp => ⟨p, [.int 0, .int (-1)], rfl, SqT.of upd_same, rfl, _, _, rfl, _, _, rfl, rfl, ?_⟩⟩
    replace hp : (upd H d (.lst [.ref c, .int (n + 1)])) p = none := hp
    have D2 : Deck d c (n + 1) (upd (upd H d (.lst [.ref c, .int (n + 1)])) p (.tup [.int 0, .int (-1)])) := D1.keep (Sk.Same.upd hp)
    have K2 : Keep (dk d c) H (upd (upd H d (.lst [.ref c, .int (n + 1)])) p (.tup [.int 0, .int (-1)])) := K1.trans (.of (Sk.Same.upd hp))
    have hc2 : (upd (upd H d (.lst [.ref c, .int (n + 1)])) p (.tup [.int 0, .int (-1)])) c = some (.lst (ns.map V.int)) := Sk.Same.upd hp _ _ (by rw [upd_ne ne.symm]; exact hc)
    show C8.tCut _ _ _ [some (.ref d), some (.int m), some (.int 0), some (.int (-1)), none] (upd (upd H d (.lst [.ref c, .int (n + 1)])) p (.tup [.int 0, .int (-1)]))
    generalize (upd (upd H d (.lst [.ref c, .int (n + 1)])) p (.tup [.int 0, .int (-1)])) = G at *
    refine ⟨fun σ F => F = G ∧ ∃ x y : Int, σ = [some (.ref d), some (.int m), some (.int x), some (.int y), none] ∧ 0 ≤ x ∧ (x = 0 ∨ (0 ≤ y ∧ y < ns.length)), ?_, ?_⟩
    · refine ⟨_, rfl, d, _, 0, .ref c, rfl, rfl, SqL.of D2.ob, rfl, c, _, rfl, .inl (SqL.of hc2), _, _, rfl, rfl, _, rfl, ?_⟩
      refine ite2 (fun h => ?_) (fun h => ?_)
      · have pos : 0 < (ns.length : Int) := by
          have := of_decide_eq_true h
          rwa [List.length_map] at this
        refine ⟨_, rfl, d, _, 1, .int (n + 1), rfl, rfl, SqL.of D2.ob, rfl, .inl ⟨_, rfl, _, rfl, d, _, 0, .ref c, rfl, rfl, SqL.of D2.ob, rfl, c, _, rfl, .inl (SqL.of hc2), _, _, rfl, rfl, (by rw [List.length_map]; exact pos), ?_⟩⟩
        have y0 := Int.emod_nonneg (n + 1) (by omega : (ns.length : Int) ≠ 0)
        have y1 := Int.emod_lt_of_pos (n + 1) pos
        obtain ⟨v, hv, hm⟩ := atI_some (xs := ns.map V.int) y0 (by rw [List.length_map]; exact y1)
        obtain ⟨z, hz, rfl⟩ := List.mem_map.mp hm
        rw [List.length_map]
        refine ⟨_, rfl, d, _, 0, .ref c, rfl, rfl, SqL.of D2.ob, rfl, _, rfl, c, _, _, _, rfl, rfl, SqL.of hc2, hv, ?_⟩
        exact ⟨rfl, z, _, rfl, nz z hz, .inr ⟨y0, y1⟩⟩
      · exact ⟨rfl, 0, -1, rfl, by decide, .inl rfl⟩
    · rintro σ F ⟨rfl, x, y, rfl, x0, hy⟩
      have n0 : 0 ≤ n := D.n0
      refine ⟨_, rfl, 10, 18, rfl, rfl, ⟨by decide, by decide, by decide⟩, _, _, rfl, rfl, _, rfl, ?_⟩
      refine ite2 (fun h => ?_) (fun _ => ?_)
      · have hb := of_decide_eq_true h
        obtain ⟨y0, y1⟩ : 0 ≤ y ∧ y < ns.length := hy.resolve_left fun e => by
          rw [e] at hb
          exact absurd hb (by decide)
        refine ⟨_, rfl, .inl ⟨x, rfl, _, rfl, x, m, rfl, rfl, wide_div (b := 64) (by omega) (by omega) (by decide) (by decide), _, rfl, d, _, 0, .ref c, rfl, rfl, SqL.of D2.ob, rfl, _, rfl, c, _, y, y.toNat, rfl, rfl, hc2, ixN_some y0 (by rw [List.length_map]; exact y1), ?_⟩⟩
        refine ⟨_, rfl, .inl ⟨x, rfl, _, rfl, _, _, rfl, rfl, (by show (0 : Int) < m; omega), k _ _ (Int.emod_nonneg _ (by omega)) (Int.emod_lt_of_pos _ (by omega)) ⟨by rw [upd_ne ne]; exact D2.ob, D2.n0, ns.set y.toNat (x / m), ?_, ?_, ?_⟩ ?_⟩⟩
        · rw [upd_same, List.map_set]
        · rw [List.length_set]
          exact nl
        · intro z hz
          rcases List.mem_or_eq_of_mem_set hz with e | e
          · exact nz z e
          · rw [e]
            exact Int.ediv_nonneg x0 (by omega)
        · exact fun b o e z => by rw [upd_ne fun q => z (.inr q)]; exact K2 b o e z
      · have a0 := Int.emod_nonneg x (by decide : (2147483249 : Int) ≠ 0)
        have a1 := Int.emod_lt_of_pos x (by decide : (0 : Int) < 2147483249)
        refine ⟨_, rfl, .inl ⟨x, rfl, _, _, rfl, rfl, (by show (0 : Int) < 2147483249; decide), _, rfl, d, _, 1, .int (n + 1), rfl, rfl, SqL.of D2.ob, rfl, 5003, n + 1, rfl, rfl, .inl ⟨by decide, by decide⟩, _, _, rfl, rfl, _, _, rfl, rfl, ?_⟩⟩
        refine ⟨_, rfl, _, 5, rfl, rfl, ⟨by decide, by decide, (by omega)⟩, .inl ⟨_, rfl, _, _, rfl, rfl, (by show (0 : Int) < 2147483477; decide), .inl ⟨_, rfl, _, rfl, _, _, rfl, rfl, (by show (0 : Int) < m; omega), ?_⟩⟩⟩
        exact k _ _ (Int.emod_nonneg _ (by omega)) (Int.emod_lt_of_pos _ (by omega)) D2 K2
theorem scOne : FnScope ["_law_deck_here", "_law_items"] ["_law_deck_here", "_law_items"] (defScope sOne) := ⟨rfl, rfl, rfl, by decide +kernel, rfl, by decide +kernel, by decide +kernel⟩
theorem ok_one {f : Addr} {fd : FuncData} (F : Fun K "_law_one" "_law_one" sOne f fd) (T : Fre mg) (CD : Callee P w K mg base 1 "_law_draw" ["_law_deck_here", "_law_most"] spDraw) : FnOk P w K mg base CX0 2 f fd ["_law_deck_here", "_law_items"] (spOne K) := by
  obtain ⟨fD, fdD, GD, mD, kD, bD⟩ := CD
  refine F.ok scOne (fun vs H Q E h => ?_) (fun cdv A outer s H vs Q E hr h => ?_)
  · obtain ⟨d, c, a, n, xs, rfl, _⟩ := h
    rfl
  · obtain ⟨d, c, a, n, xs, rfl, D, n9, ha, na, ne, l1, k⟩ := h
    refine ⟨_, pss_one (ps_ret (pe_ix ix_list (pv 1) (pe_call GD hr (by rfl) mD kD bD .nil pass0 (pa_cons (pv 0) (pa_cons (pe_callB call_len_seq (by rfl) T.len PySem.boot_len (pa_cons (pv 1) pa_nil)) pa_nil))) (fun _ _ => rfl))), ?_⟩
    have pos : 0 < xs.length := List.length_pos_iff.mpr ne
    refine ⟨_, rfl, _, rfl, _, rfl, a, xs, rfl, .inl (SqL.of ha), d, c, n, _, rfl, D, n9, (by omega), (by omega), fun j G j0 j1 D2 kp => ?_⟩
    obtain ⟨v, hv, hm⟩ := atI_some (xs := xs) j0 j1
    exact ⟨a, xs, j, v, rfl, rfl, SqL.of (kp a _ ha na), hv, k v G hm D2 kp⟩
abbrev sLCols : Stmt := top 13
def spLCols : Sp := fun vs H Q _ => ∃ l : Int, vs = [.int l] ∧ 1 ≤ l ∧ l ≤ 3 ∧ ∀ p G, Same H G → H p = none → G p = some (.lst ((colsOf l).map V.str)) → Q (.ref p) G
theorem scLCols : FnScope ["_law_letters", "_law_signs", "_law_found", "_law_one_here", "_law_other"] ["_law_letters"] (defScope sLCols) := ⟨rfl, rfl, rfl, by decide +kernel, rfl, by decide +kernel, by decide +kernel⟩
theorem ok_lcols {f : Addr} {fd : FuncData} (F : Fun K "_law_columns" "_law_columns" sLCols f fd) : FnOk P w K mg base CX0 1 f fd ["_law_letters"] spLCols := by
  refine F.ok scLCols (fun vs H Q E h => ?_) (fun cdv A outer s H vs Q E hr h => ?_)
  · obtain ⟨l, rfl, _⟩ := h
    rfl
  · obtain ⟨l, rfl, h1, h3, k⟩ := h
    have l4 := signs_len h1 h3
    have e4 : (signsOf l).cps.toList.length ≤ 4 := by simpa using l4
    refine ⟨_, pss_cons (ps_par (i := 1) (j := 2) (by rfl) scLCols.nd rfl rfl (by decide) rfl rfl (pa_cons (pe_op op_add_str (pe_slice sl_str pe_str po_none (po_some (pv 0))) pe_str) (pa_cons (pe_lst pa_nil) pa_nil)) (by rfl))
      (pss_cons (ps_for PassesOwn.never rfl (pi_str (pv 1)) (pg_name (i := 3) scLCols.nd rfl (Or.inr rfl))
        (pss_one (ps_expr (pe_bm PySem.F.plainAttrs_list PySem.F.slot_list_extend PySem.F.type_list_extend mt_extend (pv 2)
          (pa_cons (pe_lc (own := [("_law_other", 4)]) (g := gName 4) (tt := tYes) rfl scLCols.nd (pi_str (pv 1)) (blkOk_by (N := ["_law_letters", "_law_signs", "_law_found", "_law_one_here", "_law_other"]) (sc := defScope sLCols) (by decide +kernel))
            (fun _ _ _ _ _ => pg_name (i := 4) scLCols.nd rfl (Or.inl rfl)) (fun _ _ _ _ _ => pts_nil) (fun _ _ _ _ _ => pe_op op_add_str (pv 3) (pv 4))) pa_nil)))))
      (pss_one (ps_ret (pe_slice sl_list (pv 2) po_none (po_some (pe_un un_neg pe_int)))))), ?_⟩
    have len3 : (cutS "abc" none (some l)).length ≤ 3 := by
      rcases signs_cases h1 h3 with rfl | rfl | rfl <;> decide +kernel
    refine ⟨_, rfl, l, rfl, _, rfl, (by decide +kernel), _, _, rfl, rfl, Nat.le_trans (Nat.add_le_add_right len3 _) (by decide +kernel), (by decide), fun b hb => ?_⟩
    refine ⟨_, _, rfl, ?_⟩
    show tSeq _ _ _ [some (.int l), some (.str (signsOf l)), some (.ref b), none, none] (upd H b (.lst []))
    have fin : cutV ((pairsOf (signsOf l)).map V.str) none (some (-1)) = (colsOf l).map V.str := pairs_cut h1 h3
    generalize signsOf l = z at *
    refine ⟨_, rfl, z, rfl, for_it walk_str (fun i σ G => ∃ v3, σ = [some (.int l), some (.str z), some (.ref b), v3, none] ∧ Same H G ∧ G b = some (.lst (((z.cps.toList.take i).flatMap (rowOf z)).map V.str)))
      ⟨none, rfl, Sk.Same.upd hb, upd_same⟩ (fun _ _ _ _ _ => trivial) ?_ ?_⟩
    · rintro i x σ G G2 hi ⟨v3, rfl, sm, gb⟩ ⟨rfl, c, hc, rfl⟩
      refine ⟨_, rfl, .inl ⟨rfl, _, SqL.of gb⟩, _, rfl, z, rfl, fun D hD => lc_it walk_str (fun j G => Same H G ∧ G b = some (.lst (((z.cps.toList.take i).flatMap (rowOf z)).map V.str)) ∧ G D = some (.lst (((rowOf z c).take j).map V.str)))
        ⟨sm.trans (Sk.Same.upd hD), by rw [upd_ne (ne_of_none gb hD)]; exact gb, upd_same⟩ (fun _ _ _ _ => trivial) ?_ ?_⟩
      · have hDH : H D = none := sm.free hD
        have nbD : b ≠ D := ne_of_none gb hD
        rintro j x2 G3 G4 hj ⟨sm3, gb3, gD3⟩ ⟨rfl, c2, hc2, rfl⟩
        refine ⟨rfl, yesE ⟨_, rfl, _, rfl, _, _, rfl, rfl, (by show 1 + 1 ≤ sizeLine; decide), _, gD3, ?_, ?_, ?_, ?_⟩⟩
        · rw [List.length_map, List.length_take]
          exact Nat.lt_of_le_of_lt (Nat.le_trans (Nat.min_le_right _ _) (by rw [row_len]; exact l4)) (by decide)
        · exact fun q o e => by rw [upd_ne (ne_of_none e hDH)]; exact sm3 q o e
        · rw [upd_ne nbD]
          exact gb3
        · have e1 : (rowOf z c)[j]? = some ((⟨#[c]⟩ : Str) ++ ⟨#[c2]⟩) := by
            unfold rowOf
            rw [List.getElem?_map, show z.cps.toList[j]? = some c2 by simpa using hc2]
            rfl
          rw [upd_same, List.take_add_one, e1, List.map_append]
          rfl
      · rintro G3 ⟨sm3, gb3, gD3⟩
        refine ⟨b, D, _, _, rfl, rfl, gb3, gD3, ?_, some (.str ⟨#[c]⟩), rfl, fun q o e => ?_, ?_⟩
        · rw [List.length_map, List.length_map, flat_len, List.length_take, List.length_take, row_len]
          have a1 : min i z.cps.toList.length * z.cps.size ≤ 4 * 4 := Nat.mul_le_mul (Nat.le_trans (Nat.min_le_right _ _) e4) l4
          have a2 : min z.cps.size z.cps.size ≤ 4 := Nat.le_trans (Nat.min_le_right _ _) l4
          exact Nat.le_trans (Nat.add_le_add a1 a2) (by decide)
        · rw [upd_ne (ne_of_none e hb)]
          exact sm3 q o e
        · have e1 : (rowOf z c).take z.cps.size = rowOf z c := List.take_of_length_le (by rw [row_len]; exact Nat.le_refl _)
          rw [upd_same, flat_take (rowOf z) _ _ c (by simpa using hc), e1, List.map_append]
    · rintro σ G ⟨v3, rfl, sm, gb⟩
      have gb2 : G b = some (.lst ((pairsOf z).map V.str)) := by
        rw [gb, show z.cps.size = z.cps.toList.length by simp, List.take_length]
        rfl
      refine ⟨_, rfl, 1, rfl, _, rfl, b, _, rfl, SqL.of gb2, fun q hq => k q _ (sm.trans (Sk.Same.upd hq)) (sm.free hq) ?_⟩
      rw [upd_same, fin]
end
end K35


set_option Elab.async false
set_option linter.all false
set_option maxRecDepth 100000
set_option maxHeartbeats 4000000
/-! A drawn comparison. -/
namespace Sk
open PySem PySem.Spec PyProof.Rows L2
theorem Deck.off {d c p : Addr} {n : Int} {H : Hp} (D : Deck d c n H) (h : H p = none) : ¬ dk d c p := by
  obtain ⟨ns, hc, _⟩ := D.cells
  rintro (e | e)
  · rw [e, D.ob] at h
    cases h
  · rw [e, hc] at h
    cases h
theorem Deck.keepN {d c : Addr} {n : Int} {H G : Hp} (D : Deck d c n H) (s : ∀ b, dk d c b → G b = H b) : Deck d c n G := by
  obtain ⟨ns, h, l, z⟩ := D.cells
  exact ⟨(s d (.inl rfl)).trans D.ob, D.n0, ns, (s c (.inr rfl)).trans h, l, z⟩
theorem Deck.upd {d c B : Addr} {n : Int} {H : Hp} {o : HO} (D : Deck d c n H) (h : ¬ dk d c B) : Deck d c n (upd H B o) := D.keepN fun b e => upd_ne fun z => h (by rw [← z]; exact e)
theorem Keep.free {av : Addr → Prop} {H G : Hp} {b : Addr} (k : Keep av H G) (n : ¬ av b) (h : G b = none) : H b = none := by
  cases e : H b with
  | none => rfl
  | some o =>
    rw [k b o e n] at h
    cases h
theorem Keep.new {av : Addr → Prop} {H G : Hp} {B : Addr} {o : HO} (k : Keep av H G) (h : H B = none) : Keep av H (upd G B o) := fun b u e z => by rw [upd_ne (ne_of_none e h)]; exact k b u e z
def intsT (l : List Int) : Tr := .tup (l.map Tr.int)
/-- the tree of a comparison -/
def cmpT (l : Int) (rows : List (List Int)) (vd : List Int) : Tr := .tup [.int l, .tup (rows.map intsT), intsT vd]
structure IsCmp (l m : Int) (rows : List (List Int)) (vd : List Int) : Prop where
  rl : (rows.length : Int) = m
  rw_ : ∀ r ∈ rows, (r.length : Int) = wide l ∧ ∀ z ∈ r, 0 ≤ z ∧ z < m
  vl : (vd.length : Int) = m
  vv : ∀ z ∈ vd, -1 ≤ z ∧ z ≤ 1
def spComp : Sp := fun vs H Q _ => ∃ (d c : Addr) (n l m : Int), vs = [.ref d, .int l, .int m] ∧ Deck d c n H ∧ n ≤ 10 ^ 8 ∧ 1 ≤ l ∧ l ≤ 3 ∧ 1 ≤ m ∧ m ≤ 60 ∧
  ∀ v G n2 rows vd, Deck d c n2 G → n2 ≤ n + 2000 → Keep (dk d c) H G → Dat (dk d c) G v (cmpT l rows vd) → IsCmp l m rows vd → Q v G
theorem datA_ints {av : Addr → Prop} {H : Hp} : ∀ l : List Int, DatA av H (l.map V.int) (l.map Tr.int)
  | [] => .nil
  | z :: l => .cons (.int z) (datA_ints l)
theorem wide_le {l : Int} (h1 : 1 ≤ l) (h3 : l ≤ 3) : wide l ≤ 15 ∧ 3 ≤ wide l := by
  rcases (by omega : l = 1 ∨ l = 2 ∨ l = 3) with rfl | rfl | rfl <;> decide
end Sk
namespace K35
open PySem PySem.Spec PyProof.Rows L2 Sk
abbrev sComp : Stmt := top 14
section
variable {P : Program} {w : World} {K : PySem.W.Frag} {mg : Str → Option Value} {base : Heap}
theorem scComp : FnScope ["_law_deck_here", "_law_letters", "_law_states", "_law_rows", "_law_state", "_law_verdicts", "_law_column"] ["_law_deck_here", "_law_letters", "_law_states"] (defScope sComp) := ⟨rfl, rfl, rfl, by decide +kernel, rfl, by decide +kernel, by decide +kernel⟩
theorem ok_comp {f : Addr} {fd : FuncData} (F : Fun K "_law_comp" "_law_comp" sComp f fd) (T : Fre mg) (U : Fre2 mg) (CD : Callee P w K mg base 1 "_law_draw" ["_law_deck_here", "_law_most"] spDraw)
    (CO : Callee P w K mg base 2 "_law_one" ["_law_deck_here", "_law_items"] (spOne K)) (CC : Callee P w K mg base 1 "_law_columns" ["_law_letters"] spLCols) : FnOk P w K mg base CX0 3 f fd ["_law_deck_here", "_law_letters", "_law_states"] spComp := by
  obtain ⟨fD, fdD, GD, mD, kD, bD⟩ := CD
  obtain ⟨fO, fdO, GO, mO, kO, bO⟩ := CO
  obtain ⟨fC, fdC, GC, mC, kC, bC⟩ := CC
  refine F.ok scComp (fun vs H Q E h => ?_) (fun cdv A outer s H vs Q E hr h => ?_)
  · obtain ⟨d, c, n, l, m, rfl, _⟩ := h
    rfl
  · obtain ⟨d, c, n, l, m, rfl, D, n8, l1, l3, m1, m60, k⟩ := h
    have hr1 : Room 1 _ := hr.mono (by decide)
    refine ⟨_, pss_cons (ps_set (i := 3) scComp.nd rfl (Or.inl rfl) (pe_lst pa_nil))
      (pss_cons (ps_for PassesOwn.never rfl (pi_range1 (by rfl) U.range (pa_cons (pv 2) pa_nil)) (pg_name (i := 4) scComp.nd rfl (Or.inl rfl))
        (pss_one (ps_expr (pe_bm PySem.F.plainAttrs_list PySem.F.slot_list_append PySem.F.type_list_append mt_append (pv 3) (pa_cons (pe_callTy call_tuple_of (by rfl) T.tup (by decide +kernel) (pa_cons
          (pe_lc (own := [("_law_column", 6)]) (g := gName 6) (tt := tYes) rfl scComp.nd (pi_list (pe_call GC hr1 (by rfl) mC kC bC .nil pass0 (pa_cons (pv 1) pa_nil))) (blkOk_by (N := ["_law_deck_here", "_law_letters", "_law_states", "_law_rows", "_law_state", "_law_verdicts", "_law_column"]) (sc := defScope sComp) (by decide +kernel))
            (fun _ _ _ _ _ => pg_name (i := 6) scComp.nd rfl (Or.inl rfl)) (fun _ _ _ _ _ => pts_nil) (fun _ _ _ _ _ => pe_call GD hr1 (by rfl) mD kD bD .nil pass0 (pa_cons (pv 0) (pa_cons (pv 2) pa_nil)))) pa_nil)) pa_nil)))))
      (pss_cons (ps_set (i := 5) scComp.nd rfl (Or.inl rfl) (pe_callTy call_tuple_of (by rfl) T.tup (by decide +kernel) (pa_cons
          (pe_lc (own := [("_law_state", 4)]) (g := gName 4) (tt := tYes) rfl scComp.nd (pi_range1 (by rfl) U.range (pa_cons (pv 2) pa_nil)) (blkOk_by (N := ["_law_deck_here", "_law_letters", "_law_states", "_law_rows", "_law_state", "_law_verdicts", "_law_column"]) (sc := defScope sComp) (by decide +kernel))
            (fun _ _ _ _ _ => pg_name (i := 4) scComp.nd rfl (Or.inl rfl)) (fun _ _ _ _ _ => pts_nil) (fun _ _ _ _ _ => pe_op op_sub (pe_call GD hr1 (by rfl) mD kD bD .nil pass0 (pa_cons (pv 0) (pa_cons pe_int pa_nil))) pe_int)) pa_nil)))
      (pss_one (ps_ret (pe_tup (pa_cons (pv 1) (pa_cons (pe_callTy call_tuple_of (by rfl) T.tup (by decide +kernel) (pa_cons (pv 3) pa_nil)) (pa_cons
        (pe_op op_catA (pe_tup (pa_cons (pe_call GO hr (by rfl) mO kO bO .nil pass0 (pa_cons (pv 0) (pa_cons (pe_lst (pa_cons pe_int (pa_cons (pe_ix ix_tup (pv 5) pe_int (fun _ _ => rfl)) pa_nil))) pa_nil))) pa_nil)) (pe_slice sl_tupA (pv 5) (po_some pe_int) po_none)) pa_nil)))))))), ?_⟩
    obtain ⟨w15, w3⟩ := Sk.wide_le l1 l3
    have dn := D.ne
    refine ⟨by decide, fun R hR => ?_⟩
    have nR : ¬ dk d c R := D.off hR
    show tSeq _ _ _ [some (.ref d), some (.int l), some (.int m), some (.ref R), none, none, none] (upd H R (.lst []))
    -- the rows
    refine ⟨_, rfl, m, rfl, (by omega), (by omega), for_it walk_range (fun i σ G => ∃ (v4 : Option V) (n2 : Int) (xs : List V) (rows : List (List Int)), σ = [some (.ref d), some (.int l), some (.int m), some (.ref R), v4, none, none] ∧ Deck d c n2 G ∧ n2 ≤ n + 16 * (i : Nat) ∧ Keep (dk d c) H G ∧
        G R = some (.lst xs) ∧ DatA (fun b => dk d c b ∨ b = R) G xs (rows.map intsT) ∧ rows.length = i ∧ ∀ r ∈ rows, (r.length : Int) = wide l ∧ ∀ z ∈ r, 0 ≤ z ∧ z < m)
      ⟨none, n, [], [], rfl, D.keep (Sk.Same.upd hR), by omega, .of (Sk.Same.upd hR), upd_same, .nil, rfl, fun r h => nomatch h⟩ (fun _ _ _ _ _ => trivial) ?_ ?_⟩
    · rintro i x σ G G2 hi ⟨v4, n2, xs, rows, rfl, D2, n2le, kp, gR, dx, rl, rw⟩ ⟨rfl, rfl⟩
      have im : (i : Int) < m := by omega
      refine ⟨_, rfl, .inl ⟨rfl, _, SqL.of gR⟩, _, rfl, l, rfl, l1, l3, fun p G3 sm hp gp => ⟨p, rfl, ⟨_, SqL.of gp⟩, fun B hB => lc_list (K := K) (a := p) (xs := (colsOf l).map V.str) (fun j F => ∃ ds : List Int, Deck d c (n2 + (j : Nat)) F ∧ Keep (dk d c) G3 F ∧ F B = some (.lst (ds.map V.int)) ∧ ds.length = j ∧ ∀ z ∈ ds, 0 ≤ z ∧ z < m)
        ⟨[], by simpa using (D2.keep sm).keep (Sk.Same.upd hB), .of (Sk.Same.upd hB), upd_same, rfl, fun z h => nomatch h⟩ (fun j F _ h => ?_) ?_ ?_⟩⟩
      · obtain ⟨_, _, kp3, _⟩ := h
        exact SqL.of (kp3 p _ gp (D2.off hp))
      · rintro j x F hx ⟨ds, D3, kp3, gB, dl, dz⟩
        have jl : j < (colsOf l).length := by
          have := (List.getElem?_eq_some_iff.mp hx).1
          rwa [List.length_map] at this
        have cl := cols_len l1 l3
        have nB : ¬ dk d c B := (D2.keep sm).off hB
        refine ⟨rfl, yesE ⟨_, rfl, _, rfl, d, c, n2 + (j : Nat), m, rfl, D3, by omega, m1, by omega, fun q F2 q0 q1 D4 kp4 => ⟨_, kp4 B _ gB nB, ?_, ds ++ [q], ?_, ?_, ?_, ?_, ?_⟩⟩⟩
        · rw [List.length_map, dl]
          exact Nat.lt_of_lt_of_le (by omega : j < 15) (by decide)
        · have e1 : n2 + ((j + 1 : Nat) : Int) = n2 + (j : Nat) + 1 := by omega
          rw [e1]
          exact D4.upd nB
        · exact (kp3.trans kp4).new hB
        · rw [upd_same, List.map_append]
          rfl
        · rw [List.length_append, dl]
          rfl
        · intro z hz
          rcases List.mem_append.mp hz with e | e
          · exact dz z e
          · rw [List.mem_singleton.mp e]
            exact ⟨q0, q1⟩
      · rintro F ⟨ds, D3, kp3, gB, dl, dz⟩
        have gR3 : F R = some (.lst xs) := kp3 _ _ (sm _ _ gR) nR
        refine ⟨B, _, rfl, .inl ⟨SqL.of gB, fun t ht => ⟨R, xs, .ref t, rfl, rfl, by rw [upd_ne (ne_of_none gR3 ht)]; exact gR3, ?_, ?_⟩⟩⟩
        · rw [dx.length, List.length_map, rl]
          exact Nat.lt_of_lt_of_le (by omega : i < 60) (by decide)
        · have cl := cols_len l1 l3
          have dtH : Keep (dk d c) G2 F := (Keep.of sm).trans kp3
          have tR : t ≠ R := (ne_of_none gR3 ht).symm
          have nt : ¬ dk d c t := D3.off ht
          refine ⟨some (.int (0 + (i : Nat))), _, xs ++ [.ref t], rows ++ [ds], rfl, (D3.upd nt).upd nR, ?_, ((kp.trans dtH).new ((kp.trans dtH).free nt ht)).new hR, upd_same, ?_, ?_, ?_⟩
          · rw [List.length_map]
            omega
          · rw [List.map_append]
            refine DatA.append (DatA.move (fun b o e z => ⟨?_, z⟩) _ _ dx) (.cons (.tup (a := t) (xs := ds.map V.int) ?_ ?_ (datA_ints ds)) .nil)
            · have zR : b ≠ R := fun q => z (.inr q)
              rw [upd_ne zR]
              have e2 : F b = some o := dtH b o e fun q => z (.inl q)
              rw [upd_ne (ne_of_none e2 ht)]
              exact e2
            · rw [upd_ne tR, upd_same]
            · rintro (q | q)
              · exact nt q
              · exact tR q
          · rw [List.length_append, rl]
            rfl
          · intro r hr
            rcases List.mem_append.mp hr with e | e
            · exact rw r e
            · rw [List.mem_singleton.mp e]
              refine ⟨?_, dz⟩
              rw [dl, List.length_map]
              exact cl
    -- the verdicts
    · rintro σ G ⟨v4, n2, xs, rows, rfl, D2, n2le, kp, gR, dx, rl, rw⟩
      refine ⟨_, rfl, m, rfl, (by omega), (by omega), fun B hB => lc_it walk_range (fun j F => ∃ ds : List Int, Deck d c (n2 + (j : Nat)) F ∧ Keep (dk d c) G F ∧ F B = some (.lst (ds.map V.int)) ∧ ds.length = j ∧ ∀ z ∈ ds, -1 ≤ z ∧ z ≤ 1)
        ⟨[], by simpa using D2.keep (Sk.Same.upd hB), .of (Sk.Same.upd hB), upd_same, rfl, fun z h => nomatch h⟩ (fun _ _ _ _ => trivial) ?_ ?_⟩
      · rintro j x F F1 hj ⟨ds, D3, kp3, gB, dl, dz⟩ ⟨rfl, rfl⟩
        have nB : ¬ dk d c B := D2.off hB
        refine ⟨rfl, yesE ⟨_, rfl, d, c, n2 + (j : Nat), 3, rfl, D3, by omega, by decide, by decide, fun q F2 q0 q1 D4 kp4 => ⟨_, _, rfl, rfl, _, kp4 B _ gB nB, ?_, ds ++ [q - 1], ?_, ?_, ?_, ?_, ?_⟩⟩⟩
        · rw [List.length_map, dl]
          exact Nat.lt_of_lt_of_le (by omega : j < 60) (by decide)
        · have e1 : n2 + ((j + 1 : Nat) : Int) = n2 + (j : Nat) + 1 := by omega
          rw [e1]
          exact D4.upd nB
        · exact (kp3.trans kp4).new hB
        · rw [upd_same, List.map_append]
          rfl
        · rw [List.length_append, dl]
          rfl
        · intro z hz
          rcases List.mem_append.mp hz with e | e
          · exact dz z e
          · rw [List.mem_singleton.mp e]
            omega
      · rintro F ⟨ds, D3, kp3, gB, dl, dz⟩
        refine ⟨B, _, rfl, .inl ⟨SqL.of gB, fun t ht => ?_⟩⟩
        obtain ⟨v0, rest, rfl⟩ : ∃ v0 rest, ds = v0 :: rest := by
          cases ds with
          | nil =>
            rw [List.length_nil] at dl
            omega
          | cons a b => exact ⟨a, b, rfl⟩
        have v01 := dz v0 (by simp)
        have nt : ¬ dk d c t := D3.off ht
        have k1 : Keep (dk d c) G (upd F t (.tup ((v0 :: rest).map V.int))) := kp3.trans (.of (Sk.Same.upd ht))
        have gR1 : (upd F t (.tup ((v0 :: rest).map V.int))) R = some (.lst xs) := k1 _ _ gR nR
        have D4 : Deck d c (n2 + (m.toNat : Nat)) (upd F t (.tup ((v0 :: rest).map V.int))) := D3.upd nt
        have gt1 : (upd F t (.tup ((v0 :: rest).map V.int))) t = some (.tup ((v0 :: rest).map V.int)) := upd_same
        generalize (upd F t (.tup ((v0 :: rest).map V.int))) = F1 at *
        refine ⟨_, rfl, _, rfl, R, xs, rfl, .inl ⟨SqL.of gR1, fun r hr => ⟨_, rfl, _, rfl, t, _, 0, .int v0, rfl, rfl, SqT.of (Sk.Same.upd hr _ _ gt1), atI_nat (j := 0) rfl, (by show 2 ≤ sizeLine; decide), fun q hq => ?_⟩⟩⟩
        have s2 : Same F1 (upd (upd F1 r (.tup xs)) q (.lst [.int 0, .int v0])) := (Sk.Same.upd hr).trans (Sk.Same.upd hq)
        have D5 := D4.keep s2
        have nr : ¬ dk d c r := D4.off hr
        have nq : ¬ dk d c q := (D4.keep (Sk.Same.upd hr)).off hq
        have gr2 : (upd (upd F1 r (.tup xs)) q (.lst [.int 0, .int v0])) r = some (.tup xs) := Sk.Same.upd hq _ _ upd_same
        have gq2 : (upd (upd F1 r (.tup xs)) q (.lst [.int 0, .int v0])) q = some (.lst [.int 0, .int v0]) := upd_same
        have k2 : Keep (dk d c) G (upd (upd F1 r (.tup xs)) q (.lst [.int 0, .int v0])) := k1.trans (.of s2)
        have gt2 := s2 _ _ gt1
        generalize (upd (upd F1 r (.tup xs)) q (.lst [.int 0, .int v0])) = F2 at *
        refine ⟨d, c, q, _, [.int 0, .int v0], rfl, D5, by omega, gq2, nq, by simp, (by show 2 ≤ 1000; decide), fun x G4 hx D6 k3 => ⟨(by show 1 ≤ sizeLine; decide), fun u hu => ?_⟩⟩
        obtain ⟨x0, rfl, xl, xu⟩ : ∃ x0 : Int, x = .int x0 ∧ -1 ≤ x0 ∧ x0 ≤ 1 := by
          rcases (by simpa using hx : x = .int 0 ∨ x = .int v0) with e | e
          · exact ⟨0, e, by decide, by decide⟩
          · exact ⟨v0, e, v01.1, v01.2⟩
        have k4 : Keep (dk d c) G (upd G4 u (.tup [.int x0])) := (k2.trans k3).trans (.of (Sk.Same.upd hu))
        have gt4 : (upd G4 u (.tup [.int x0])) t = some (.tup ((v0 :: rest).map V.int)) := Sk.Same.upd hu _ _ (k3 _ _ gt2 nt)
        have gr4 : (upd G4 u (.tup [.int x0])) r = some (.tup xs) := Sk.Same.upd hu _ _ (k3 _ _ gr2 nr)
        have gu4 : (upd G4 u (.tup [.int x0])) u = some (.tup [.int x0]) := upd_same
        have D7 := D6.keep (Sk.Same.upd (o := .tup [.int x0]) hu)
        have nu : ¬ dk d c u := D6.off hu
        generalize (upd G4 u (.tup [.int x0])) = F4 at *
        have cut : cutV ((v0 :: rest).map V.int) (some 1) none = rest.map V.int := by
          unfold cutV
          rw [HT.sIx_none, show (1 : Int) = ((1 : Nat) : Int) from rfl, HT.sIx_nat, List.length_map, List.length_cons, Nat.min_eq_left (by omega), List.map_cons]
          show (rest.map V.int).take _ = _
          rw [List.take_of_length_le (by rw [List.length_map]; omega)]
        refine ⟨_, rfl, 1, rfl, t, _, rfl, SqT.of gt4, fun e => ?_, fun _ y hy => ?_⟩
        · have e1 := e.1
          rw [show (1 : Int) = ((1 : Nat) : Int) from rfl, HT.sIx_nat, List.length_map, List.length_cons] at e1
          omega
        rw [cut]
        have D8 := D7.keep (Sk.Same.upd (o := .tup (rest.map V.int)) hy)
        have s8 : Same F4 (upd F4 y (.tup (rest.map V.int))) := Sk.Same.upd hy
        have gy : (upd F4 y (.tup (rest.map V.int))) y = some (.tup (rest.map V.int)) := upd_same
        generalize (upd F4 y (.tup (rest.map V.int))) = F8 at *
        have rowsD : ∀ {J : Hp}, Keep (dk d c) G J → DatA (dk d c) J xs (rows.map intsT) := fun kj => DatA.move (fun b o e z => ⟨kj b o e fun q => z (.inl q), fun q => z (.inl q)⟩) _ _ dx
        have fin : ∀ (z : Addr) (J : Hp), Same F8 J → J z = some (.tup ((x0 :: rest).map V.int)) → ¬ dk d c z → 3 ≤ sizeLine ∧ ∀ e, J e = none → Q (.ref e) (upd J e (.tup [.int l, .ref r, .ref z])) := by
          intro z J sj gz nz
          refine ⟨by decide, fun e he => ?_⟩
          have kJ : Keep (dk d c) G (upd J e (.tup [.int l, .ref r, .ref z])) := (k4.trans (.of (s8.trans sj))).trans (.of (Sk.Same.upd he))
          have DJ := (D8.keep sj).keep (Sk.Same.upd (o := .tup [.int l, .ref r, .ref z]) he)
          refine k _ _ _ rows (x0 :: rest) DJ (by omega) (kp.trans kJ) (.tup upd_same ((D8.keep sj).off he) (.cons (.int l) (.cons (.tup (Sk.Same.upd he _ _ (sj _ _ (s8 _ _ gr4))) nr (rowsD kJ)) (.cons (.tup (Sk.Same.upd he _ _ gz) nz (datA_ints _)) .nil)))) ⟨by omega, rw, ?_, ?_⟩
          · rw [List.length_cons] at dl ⊢
            omega
          · intro z hz
            rcases List.mem_cons.mp hz with e | e
            · rw [e]
              exact ⟨xl, xu⟩
            · exact dz z (List.mem_cons_of_mem _ e)
        refine ⟨u, y, _, _, rfl, rfl, SqT.of (s8 _ _ gu4), SqT.of gy, ?_, fun e => (nomatch e), fun _ e => ?_, fun _ _ z hz => fin z _ (Sk.Same.upd hz) upd_same (D8.off hz)⟩
        · rw [List.length_map]
          rw [List.length_cons] at dl
          exact Nat.le_trans (by show 1 + rest.length ≤ 60; omega) (by decide)
        · have e2 : rest = [] := List.map_eq_nil_iff.mp e
          refine fin u _ (Same.refl _) ?_ nu
          rw [e2]
          exact s8 _ _ gu4
end
end K35


set_option Elab.async false
set_option linter.all false
set_option maxRecDepth 100000
set_option maxHeartbeats 4000000
/-! The law's own look. -/
namespace K35
open PySem PySem.Spec PyProof.Rows L2 Sk
abbrev sWhole : Stmt := top 19
abbrev sDue : Stmt := top 20
section
variable {P : Program} {w : World} {K : PySem.W.Frag} {mg : Str → Option Value} {base : Heap}
theorem scWhole : FnScope ["_law_value", "_law_least", "_law_most"] ["_law_value", "_law_least", "_law_most"] (defScope sWhole) := ⟨rfl, rfl, rfl, by decide +kernel, rfl, by decide +kernel, by decide +kernel⟩
theorem ok_whole {f : Addr} {fd : FuncData} (F : Fun K "_law_whole" "_law_whole" sWhole f fd) (T : Fre mg) : FnOk P w K mg base CX0 1 f fd ["_law_value", "_law_least", "_law_most"] spNum := by
  refine F.ok scWhole (fun vs H Q E h => ?_) (fun cdv A outer s H vs Q E hr h => ?_)
  · obtain ⟨av, v, t, lo, hi, rfl, _⟩ := h
    rfl
  · obtain ⟨av, v, t, lo, hi, rfl, d, k⟩ := h
    refine ⟨_, pss_one (ps_ret (pe_and (pe_callB call_isi (by rfl) T.isi (by decide +kernel) (pa_cons (pv 0) (pa_cons (pe_bltn (v := .ty "int") (by rfl) T.int (by decide +kernel) rfl) pa_nil)))
        (pe_and (pe_not (pe_callB call_isi (by rfl) T.isi (by decide +kernel) (pa_cons (pv 0) (pa_cons (pe_bltn (v := .ty "bool") (by rfl) T.bool (by decide +kernel) rfl) pa_nil))))
        (pe_one (pe_chain op_le op_le (pv 1) (pv 0) (pv 2)))))), ?_⟩
    refine ⟨_, rfl, _, _, _, _, _, rfl, .ty _, d.ty, kit_int t, _, rfl, ?_⟩
    cases t with
    | int i =>
      cases d
      refine iteT ?_
      refine ⟨_, rfl, _, _, _, _, _, rfl, .ty _, .base (.int i), kit_bool (.int i), _, rfl, _, rfl, iteT ?_⟩
      refine ⟨_, rfl, _, rfl, _, _, rfl, rfl, _, rfl, ?_⟩
      by_cases h : lo ≤ i
      · rw [decide_eq_true h]
        refine iteT ⟨_, rfl, _, _, rfl, rfl, ?_⟩
        have e : isNum (.int i) lo hi = decide (i ≤ hi) := by simp [isNum, h]
        show Q (.bl (decide (i ≤ hi))) H
        rw [← e]
        exact k
      · rw [decide_eq_false h]
        refine iteF ?_
        have e : isNum (.int i) lo hi = false := by simp [isNum, h]
        rw [← e]
        exact k
    | bl b =>
      refine iteT ⟨_, rfl, _, _, _, _, _, rfl, .ty _, d.ty, kit_bool (.bl b), _, rfl, _, rfl, iteF ?_⟩
      exact k
    | non => exact iteF k
    | str x => exact iteF k
    | tup ts => exact iteF k
    | lst ts => exact iteF k
    | dct => exact iteF k
theorem scDue : FnScope ["_law_value", "_law_wide", "_law_states", "_law_k", "_law_row", "_law_one_here"] ["_law_value"] (defScope sDue) := ⟨rfl, rfl, rfl, by decide +kernel, rfl, by decide +kernel, by decide +kernel⟩
theorem ok_due {f : Addr} {fd : FuncData} (F : Fun K "_law_due" "_law_due" sDue f fd) (T : Fre mg) (U : Fre2 mg) (CW : Callee P w K mg base 1 "_law_whole" ["_law_value", "_law_least", "_law_most"] spNum)
    (CC : Callee P w K mg base 1 "_law_columns" ["_law_letters"] spLCols) : FnOk P w K mg base CX0 2 f fd ["_law_value"] spErr := by
  obtain ⟨fW, fdW, GW, mW, kW, bW⟩ := CW
  obtain ⟨fC, fdC, GC, mC, kC, bC⟩ := CC
  refine F.ok scDue (fun vs H Q E h => ?_) (fun cdv A outer s H vs Q E hr h => ?_)
  · obtain ⟨av, v, t, rfl, _⟩ := h
    rfl
  · obtain ⟨av, v, t, rfl, d, bd, k⟩ := h
    have hu := hr.units
    refine ⟨_, pss_cons (ps_if (PW.pt (pw_or (pt_not (pt_val (pe_callB call_isi (by rfl) T.isi (by decide +kernel) (pa_cons (pv 0) (pa_cons (pe_bltn (v := .ty "tuple") (by rfl) T.tup (by decide +kernel) rfl) pa_nil)))))
        (pw_or1 (pt_cmpR op_ne (pe_callB call_len_seq (by rfl) T.len PySem.boot_len (pa_cons (pv 0) pa_nil)) pe_int (nomark _))))) (pss_one (ps_ret (pe_tup (pa_cons pe_non (pa_cons pe_str pa_nil))))) pss_nil)
      (pss_cons (ps_if (pt_not (pt_val (pe_call GW hr (by rfl) mW kW bW .nil pass0 (pa_cons (pe_ix ix_tup (pv 0) pe_int (fun _ _ => rfl)) (pa_cons pe_int (pa_cons pe_int pa_nil)))))) (pss_one (ps_ret (pe_tup (pa_cons pe_non (pa_cons pe_str pa_nil))))) pss_nil)
      (pss_cons (ps_if (PW.pt (pw_or (pt_not (pt_val (pe_callB call_isi (by rfl) T.isi (by decide +kernel) (pa_cons (pe_ix ix_tup (pv 0) pe_int (fun _ _ => rfl)) (pa_cons (pe_bltn (v := .ty "tuple") (by rfl) T.tup (by decide +kernel) rfl) pa_nil)))))
        (pw_or1 (pt_cmpR op_eq (pe_callB call_len_seq (by rfl) T.len PySem.boot_len (pa_cons (pe_ix ix_tup (pv 0) pe_int (fun _ _ => rfl)) pa_nil)) pe_int (nomark _))))) (pss_one (ps_ret (pe_tup (pa_cons pe_non (pa_cons pe_str pa_nil))))) pss_nil)
      (pss_cons (ps_asg (pe_tup (pa_cons (pe_callB call_len_seq (by rfl) T.len PySem.boot_len (pa_cons (pe_call GC hr (by rfl) mC kC bC .nil pass0 (pa_cons (pe_ix ix_tup (pv 0) pe_int (fun _ _ => rfl)) pa_nil)) pa_nil)) (pa_cons (pe_callB call_len_seq (by rfl) T.len PySem.boot_len (pa_cons (pe_ix ix_tup (pv 0) pe_int (fun _ _ => rfl)) pa_nil)) pa_nil)))
          (pg_tup rfl (pgs_cons (pg_name (i := 1) scDue.nd rfl (.inl rfl)) (pgs_cons (pg_name (i := 2) scDue.nd rfl (.inr rfl)) pgs_nil))))
      (pss_cons (ps_for PassesOwn.never rfl (pi_range1 (by rfl) U.range (pa_cons (pv 2) pa_nil)) (pg_name (i := 3) scDue.nd rfl (Or.inl rfl))
        (pss_cons (ps_set (i := 4) scDue.nd rfl (Or.inl rfl) (pe_ix ix_tup (pe_ix ix_tup (pv 0) pe_int (fun _ _ => rfl)) (pv 3) (fun _ _ => rfl)))
        (pss_cons (ps_if (PW.pt (pw_or (pt_not (pt_val (pe_callB call_isi (by rfl) T.isi (by decide +kernel) (pa_cons (pv 4) (pa_cons (pe_bltn (v := .ty "tuple") (by rfl) T.tup (by decide +kernel) rfl) pa_nil)))))
          (pw_or1 (pt_cmpR op_ne (pe_callB call_len_seq (by rfl) T.len PySem.boot_len (pa_cons (pv 4) pa_nil)) (pv 1) (nomark _))))) (pss_one (ps_ret (pe_tup (pa_cons (pv 3) (pa_cons pe_str pa_nil))))) pss_nil)
        (pss_one (ps_if (pt_cmpR (op_neNil hu) (pe_lc (own := [("_law_one_here", 5)]) (g := gName 5) rfl scDue.nd (pi_tup (pv 4)) (blkOk_by (N := ["_law_value", "_law_wide", "_law_states", "_law_k", "_law_row", "_law_one_here"]) (sc := defScope sDue) (by decide +kernel))
            (fun _ _ _ _ _ => pg_name (i := 5) scDue.nd rfl (Or.inl rfl)) (fun _ _ _ _ _ => pts_one (pt_not (pt_val (pe_call GW hr (by rfl) mW kW bW .nil pass0 (pa_cons (pv 5) (pa_cons pe_int (pa_cons (pe_op op_sub (pv 2) pe_int) pa_nil))))))) (fun _ _ _ _ _ => pv 5)) (pe_lst pa_nil) (nomark _))
          (pss_one (ps_ret (pe_tup (pa_cons (pv 3) (pa_cons pe_str pa_nil))))) pss_nil)))))
      (pss_cons (ps_if (PW.pt (pw_or (pt_not (pt_val (pe_callB call_isi (by rfl) T.isi (by decide +kernel) (pa_cons (pe_ix ix_tup (pv 0) pe_int (fun _ _ => rfl)) (pa_cons (pe_bltn (v := .ty "tuple") (by rfl) T.tup (by decide +kernel) rfl) pa_nil)))))
        (pw_or1 (pt_cmpR op_ne (pe_callB call_len_seq (by rfl) T.len PySem.boot_len (pa_cons (pe_ix ix_tup (pv 0) pe_int (fun _ _ => rfl)) pa_nil)) (pv 2) (nomark _))))) (pss_one (ps_ret (pe_tup (pa_cons pe_non (pa_cons pe_str pa_nil))))) pss_nil)
      (pss_one (ps_ret (pe_ifExp (pt_cmpR (op_eqNil hu) (pe_lc (own := [("_law_one_here", 5)]) (g := gName 5) rfl scDue.nd (pi_tup (pe_ix ix_tup (pv 0) pe_int (fun _ _ => rfl))) (blkOk_by (N := ["_law_value", "_law_wide", "_law_states", "_law_k", "_law_row", "_law_one_here"]) (sc := defScope sDue) (by decide +kernel))
            (fun _ _ _ _ _ => pg_name (i := 5) scDue.nd rfl (Or.inl rfl)) (fun _ _ _ _ _ => pts_one (pt_not (pt_val (pe_call GW hr (by rfl) mW kW bW .nil pass0 (pa_cons (pv 5) (pa_cons (pe_un un_neg pe_int) (pa_cons pe_int pa_nil))))))) (fun _ _ _ _ _ => pv 5)) (pe_lst pa_nil) (nomark _))
          pe_non (pe_tup (pa_cons pe_non (pa_cons pe_str pa_nil))))))))))), ?_⟩
    refine ⟨_, rfl, _, _, _, _, _, rfl, .ty _, d.ty, kit_tup t, _, rfl, ?_⟩
    cases t with
    | non => exact iteT (tellW k (Same.refl H) rfl)
    | bl _ => exact iteT (tellW k (Same.refl H) rfl)
    | int _ => exact iteT (tellW k (Same.refl H) rfl)
    | str _ => exact iteT (tellW k (Same.refl H) rfl)
    | lst _ => exact iteT (tellW k (Same.refl H) rfl)
    | dct => exact iteT (tellW k (Same.refl H) rfl)
    | tup ts =>
    cases id d with
    | @tup a xs _ ha na da =>
    refine iteF ⟨_, rfl, a, xs, rfl, .inr (SqT.of ha), rfl, _, rfl, ?_⟩
    refine ite2 (fun h => ?_) (fun h => ?_)
    · refine tellW k (Same.refl H) (err_len fun e => ?_)
      rw [da.length, e] at h
      exact absurd h (by decide)
    · have h3 : ts.length = 3 := by
        simp only [Bool.not_eq_true', Bool.not_eq_false, decide_eq_true_eq, V.int.injEq, da.length] at h
        omega
      match ts, xs, da, h3 with
      | [l, r, v], _, .cons (v := vl) dl (.cons (v := vr) dr (.cons (v := vv) dv .nil)), _ =>
      refine ⟨_, rfl, a, _, 0, vl, rfl, rfl, SqT.of ha, atI_nat (j := 0) rfl, av, vl, l, 1, 3, rfl, dl, _, rfl, ?_⟩
      cases hn : isNum l 1 3 with
      | false => exact iteT (tellW k (Same.refl H) (err_num hn))
      | true =>
      refine iteF ?_
      obtain ⟨n, rfl, n1, n3⟩ := num_of hn
      cases dl
      refine ⟨_, rfl, a, _, 1, vr, rfl, rfl, SqT.of ha, atI_nat (j := 1) rfl, _, _, _, _, _, rfl, .ty _, dr.ty, kit_tup r, _, rfl, ?_⟩
      cases r with
      | non => exact iteT (tellW k (Same.refl H) (err_rows hn fun q qs => nofun))
      | bl _ => exact iteT (tellW k (Same.refl H) (err_rows hn fun q qs => nofun))
      | int _ => exact iteT (tellW k (Same.refl H) (err_rows hn fun q qs => nofun))
      | str _ => exact iteT (tellW k (Same.refl H) (err_rows hn fun q qs => nofun))
      | lst _ => exact iteT (tellW k (Same.refl H) (err_rows hn fun q qs => nofun))
      | dct => exact iteT (tellW k (Same.refl H) (err_rows hn fun q qs => nofun))
      | tup rs =>
      cases id dr with
      | @tup b ys _ hb nb db =>
      refine iteF ⟨_, rfl, a, _, 1, _, rfl, rfl, SqT.of ha, atI_nat (j := 1) rfl, b, ys, rfl, .inr (SqT.of hb), rfl, _, rfl, ?_⟩
      cases rs with
      | nil =>
        cases db
        exact iteT (tellW k (Same.refl H) (err_rows hn fun q qs => nofun))
      | cons q qs =>
      have ly : ys.length = (q :: qs).length := db.length
      refine ite2 (fun h => ?_) (fun _ => ?_)
      · rw [ly] at h
        exact absurd (V.int.inj (of_decide_eq_true h)) (by rw [List.length_cons]; omega)
      have bdr : Bd 1000 (.tup (q :: qs)) := bd.ti _ (by simp)
      have bdv : Bd 1000 v := bd.ti _ (by simp)
      have l1000 : (q :: qs).length ≤ 1000 := bdr.tl
      refine ⟨_, rfl, a, _, 0, _, rfl, rfl, SqT.of ha, atI_nat (j := 0) rfl, n, rfl, n1, n3, fun p G sm hp gp => ⟨p, _, rfl, .inl (SqL.of gp), _, rfl, a, _, 1, _, rfl, rfl, SqT.of (sm _ _ ha), atI_nat (j := 1) rfl, b, ys, rfl, .inr (SqT.of (sm _ _ hb)), (by show 2 ≤ sizeLine; decide), fun u hu => ⟨u, _, rfl, SqT.of upd_same, rfl, _, _, rfl, _, _, rfl, rfl, ?_⟩⟩⟩
      have ew : (((colsOf n).map V.str).length : Int) = wide n := by
        rw [List.length_map]
        exact cols_len n1 n3
      rw [ew, ly]
      have sm1 : Same H (upd G u (.tup [.int (wide n), .int ((q :: qs).length : Nat)])) := sm.trans (Sk.Same.upd hu)
      generalize (upd G u (.tup [.int (wide n), .int ((q :: qs).length : Nat)])) = G1 at *
      generalize hrs : q :: qs = rs at *
      refine ⟨_, rfl, (rs.length : Nat), rfl, (by omega), (by omega), for_it walk_range (fun i σ G => ∃ v3 v4, σ = [some (.ref a), some (.int (wide n)), some (.int (rs.length : Nat)), v3, v4, none] ∧ Same H G ∧ badRow (rs.length : Int) (wide n) 0 rs = badRow (rs.length : Int) (wide n) i (rs.drop i))
        ⟨none, none, rfl, sm1, rfl⟩ (fun _ _ _ _ _ => trivial) ?_ ?_⟩
      · rintro i x σ F F1 hi ⟨v3, v4, rfl, sF, eb⟩ ⟨rfl, rfl⟩
        have ir : i < rs.length := by omega
        obtain ⟨y, hy, dy⟩ := db.get2 (List.getElem?_eq_getElem ir)
        generalize ht : rs[i] = t at *
        have ed : rs.drop i = t :: rs.drop (i + 1) := by rw [List.drop_eq_getElem_cons ir, ht]
        have bdt : Bd 1000 t := bdr.ti t (by rw [← ht]; exact List.getElem_mem ir)
        rw [ed] at eb
        refine ⟨_, rfl, a, _, 1, _, rfl, rfl, SqT.of (sF _ _ ha), atI_nat (j := 1) rfl, _, rfl, b, ys, _, y, rfl, rfl, SqT.of (sF _ _ hb), (by rw [Int.zero_add]; exact atI_nat hy), ?_⟩
        have bad : ∀ F2, Same H F2 → areNums t (wide n) 0 ((rs.length : Int) - 1) = false → 2 ≤ sizeLine ∧ ∀ p, F2 p = none → Q (.ref p) (upd F2 p (.tup [.int (0 + (i : Nat)), .str "row"])) := by
          intro F2 s2 e
          rw [Int.zero_add]
          refine ⟨by decide, fun p hp => k _ _ (s2.trans (Sk.Same.upd hp)) ?_⟩
          have e2 : badRow (rs.length : Int) (wide n) 0 rs = some i := by
            rw [eb]
            simp only [badRow, e, Bool.false_eq_true, if_false]
          rw [← hrs] at e2 ⊢
          rw [err_row hn e2]
          exact .tup upd_same (fun z => z) (.cons (.int _) (.cons (.str _) .nil))
        refine ⟨_, rfl, _, _, _, _, _, rfl, .ty _, (dy.same sF).ty, kit_tup t, _, rfl, ?_⟩
        cases t with
        | non => exact iteT ⟨_, rfl, bad _ sF rfl⟩
        | bl _ => exact iteT ⟨_, rfl, bad _ sF rfl⟩
        | int _ => exact iteT ⟨_, rfl, bad _ sF rfl⟩
        | str _ => exact iteT ⟨_, rfl, bad _ sF rfl⟩
        | lst _ => exact iteT ⟨_, rfl, bad _ sF rfl⟩
        | dct => exact iteT ⟨_, rfl, bad _ sF rfl⟩
        | tup cs =>
        cases dy with
        | @tup z zs _ hz nz dz =>
        have lz := dz.length
        refine iteF ⟨_, rfl, z, zs, rfl, .inr (SqT.of (sF _ _ hz)), _, rfl, rfl, _, rfl, ?_⟩
        rw [lz]
        refine ite2 (fun h => ?_) (fun h => ?_)
        · have hne : ¬ ((cs.length : Int) = wide n) := by
            simp only [Bool.not_eq_true', decide_eq_false_iff_not, V.int.injEq] at h
            exact h
          exact ⟨_, rfl, bad _ sF (by simp [areNums, hne])⟩
        · have heq : (cs.length : Int) = wide n := by
            simp only [Bool.not_eq_true', Bool.not_eq_false, decide_eq_true_eq, V.int.injEq] at h
            exact h
          have small : cs.length ≤ sizeLine := line1000 bdt.tl
          refine ⟨_, rfl, z, rfl, ⟨_, SqT.of (sF _ _ hz)⟩, fun D hD => lc_tup (K := K) (a := z) (xs := zs) (fun j G => Same F1 G ∧ ∃ us, G D = some (.lst us) ∧ us.length ≤ j ∧ (us = [] ↔ (cs.take j).all (fun x => isNum x 0 ((rs.length : Int) - 1)) = true))
            ⟨Sk.Same.upd hD, [], upd_same, Nat.le_refl _, by simp⟩ (fun j G _ e => SqT.of (e.1 _ _ (sF _ _ hz))) ?_ ?_⟩
          · rintro j x G hx ⟨sG, us, gD, ul, ue⟩
            obtain ⟨t2, ht2, dt2⟩ := dz.get hx
            have jl := (List.getElem?_eq_some_iff.mp ht2).1
            refine ⟨rfl, _, rfl, _, rfl, _, _, rfl, rfl, av, x, t2, 0, _, rfl, (dt2.same sF).same sG, _, rfl, ?_⟩
            have et : (cs.take (j + 1)).all (fun x => isNum x 0 ((rs.length : Int) - 1)) = ((cs.take j).all (fun x => isNum x 0 ((rs.length : Int) - 1)) && isNum t2 0 ((rs.length : Int) - 1)) := by
              rw [List.take_add_one, ht2, List.all_append]
              simp
            cases e : isNum t2 0 ((rs.length : Int) - 1) with
            | true =>
              refine iteF ⟨sG, us, gD, Nat.le_succ_of_le ul, ?_⟩
              rw [et, e, Bool.and_true]
              exact ue
            | false =>
              refine iteT ⟨_, rfl, us, gD, Nat.lt_of_le_of_lt ul (Nat.lt_of_lt_of_le jl small), fun q o w => ?_, us ++ [x], upd_same, ?_, ?_⟩
              · rw [upd_ne (ne_of_none w hD)]
                exact sG q o w
              · rw [List.length_append]
                exact Nat.succ_le_succ ul
              · rw [et, e, Bool.and_false]
                simp
          · rintro G ⟨sG, us, gD, ul, ue⟩
            rw [lz, List.take_length] at ue
            refine ⟨by decide, fun e he => ⟨D, e, us, rfl, rfl, SqL.of (Sk.Same.upd he _ _ gD), SqL.of upd_same, _, rfl, ?_⟩⟩
            have sG2 : Same H (upd G e (.lst [])) := (sF.trans sG).trans (Sk.Same.upd he)
            cases us with
            | cons a1 a2 =>
              refine iteT ⟨_, rfl, bad _ sG2 ?_⟩
              have e3 : cs.all (fun x => isNum x 0 ((rs.length : Int) - 1)) = false := by
                cases e4 : cs.all (fun x => isNum x 0 ((rs.length : Int) - 1)) with
                | false => rfl
                | true => exact nomatch ue.mpr e4
              simp only [areNums, e3, Bool.and_false]
            | nil =>
              refine iteF ⟨_, _, rfl, sG2, ?_⟩
              have e3 := ue.mp rfl
              have e4 : areNums (.tup cs) (wide n) 0 ((rs.length : Int) - 1) = true := by simp only [areNums, heq, e3, decide_true, Bool.and_self]
              rw [eb]
              simp only [badRow, e4, if_true]
      · rintro σ F ⟨v3, v4, rfl, sF, eb⟩
        have e0 : badRow (rs.length : Int) (wide n) 0 rs = none := by
          rw [eb, Int.toNat_natCast, List.drop_length]
          rfl
        have ee : err (.tup [.int n, .tup rs, v]) = if areNums v (rs.length : Int) (-1) 1 = true then .fine else .word "verdicts" := by
          rw [← hrs] at e0 ⊢
          exact err_end hn e0
        have dv2 := dv.same sF
        refine ⟨_, rfl, a, _, 2, _, rfl, rfl, SqT.of (sF _ _ ha), atI_nat (j := 2) rfl, _, _, _, _, _, rfl, .ty _, dv2.ty, kit_tup v, _, rfl, ?_⟩
        cases v with
        | non => exact iteT (tellW k sF ee)
        | bl _ => exact iteT (tellW k sF ee)
        | int _ => exact iteT (tellW k sF ee)
        | str _ => exact iteT (tellW k sF ee)
        | lst _ => exact iteT (tellW k sF ee)
        | dct => exact iteT (tellW k sF ee)
        | tup cs =>
        cases dv with
        | @tup z zs _ hz nz dz =>
        have lz := dz.length
        refine iteF ⟨_, rfl, a, _, 2, _, rfl, rfl, SqT.of (sF _ _ ha), atI_nat (j := 2) rfl, z, zs, rfl, .inr (SqT.of (sF _ _ hz)), _, rfl, rfl, _, rfl, ?_⟩
        rw [lz]
        refine ite2 (fun h => ?_) (fun h => ?_)
        · have hne : ¬ ((cs.length : Int) = (rs.length : Nat)) := by
            simp only [Bool.not_eq_true', decide_eq_false_iff_not, V.int.injEq] at h
            exact h
          rw [show areNums (.tup cs) (rs.length : Int) (-1) 1 = false by simp only [areNums, hne, decide_false, Bool.false_and], if_neg (by decide)] at ee
          exact tellW k sF ee
        · have heq : (cs.length : Int) = (rs.length : Nat) := by
            simp only [Bool.not_eq_true', Bool.not_eq_false, decide_eq_true_eq, V.int.injEq] at h
            exact h
          have small : cs.length ≤ sizeLine := line1000 bdv.tl
          refine ⟨_, rfl, a, _, 2, _, rfl, rfl, SqT.of (sF _ _ ha), atI_nat (j := 2) rfl, z, rfl, ⟨_, SqT.of (sF _ _ hz)⟩, fun D hD => lc_tup (K := K) (a := z) (xs := zs) (fun j G => Same F G ∧ ∃ us, G D = some (.lst us) ∧ us.length ≤ j ∧ (us = [] ↔ (cs.take j).all (fun x => isNum x (-1) 1) = true))
            ⟨Sk.Same.upd hD, [], upd_same, Nat.le_refl _, by simp⟩ (fun j G _ e => SqT.of (e.1 _ _ (sF _ _ hz))) ?_ ?_⟩
          · rintro j x G hx ⟨sG, us, gD, ul, ue⟩
            obtain ⟨t2, ht2, dt2⟩ := dz.get hx
            have jl := (List.getElem?_eq_some_iff.mp ht2).1
            refine ⟨rfl, _, rfl, 1, rfl, av, x, t2, -1, 1, rfl, (dt2.same sF).same sG, _, rfl, ?_⟩
            have et : (cs.take (j + 1)).all (fun x => isNum x (-1) 1) = ((cs.take j).all (fun x => isNum x (-1) 1) && isNum t2 (-1) 1) := by
              rw [List.take_add_one, ht2, List.all_append]
              simp
            cases e : isNum t2 (-1) 1 with
            | true =>
              refine iteF ⟨sG, us, gD, Nat.le_succ_of_le ul, ?_⟩
              rw [et, e, Bool.and_true]
              exact ue
            | false =>
              refine iteT ⟨_, rfl, us, gD, Nat.lt_of_le_of_lt ul (Nat.lt_of_lt_of_le jl small), fun q o w => ?_, us ++ [x], upd_same, ?_, ?_⟩
              · rw [upd_ne (ne_of_none w hD)]
                exact sG q o w
              · rw [List.length_append]
                exact Nat.succ_le_succ ul
              · rw [et, e, Bool.and_false]
                simp
          · rintro G ⟨sG, us, gD, ul, ue⟩
            rw [lz, List.take_length] at ue
            refine ⟨by decide, fun e he => ⟨D, e, us, rfl, rfl, SqL.of (Sk.Same.upd he _ _ gD), SqL.of upd_same, _, rfl, ?_⟩⟩
            have sG2 : Same H (upd G e (.lst [])) := (sF.trans sG).trans (Sk.Same.upd he)
            have ev : areNums (.tup cs) (rs.length : Int) (-1) 1 = cs.all (fun x => isNum x (-1) 1) := by simp only [areNums, heq, decide_true, Bool.true_and]
            rw [ev] at ee
            cases us with
            | cons a1 a2 =>
              refine iteF ?_
              have e3 : cs.all (fun x => isNum x (-1) 1) = false := by
                cases e4 : cs.all (fun x => isNum x (-1) 1) with
                | false => rfl
                | true => exact nomatch ue.mpr e4
              rw [e3, if_neg (by decide)] at ee
              exact tellW k sG2 ee
            | nil =>
              rw [ue.mp rfl, if_pos rfl] at ee
              refine iteT (k _ _ sG2 ?_)
              rw [ee]
              exact .non
end
end K35


set_option Elab.async false
set_option linter.all false
set_option maxRecDepth 100000
set_option maxHeartbeats 4000000
/-! A value with one part otherwise. -/
namespace Sk
open PySem PySem.Spec PyProof.Rows L2
def cutG {α : Type} (xs : List α) (lo hi : Option Int) : List α := (xs.drop (HT.sIx xs.length 0 lo)).take (HT.sIx xs.length xs.length hi - HT.sIx xs.length 0 lo)
theorem cutG_len {α : Type} (xs : List α) (lo hi : Option Int) : (cutG xs lo hi).length ≤ HT.sIx xs.length xs.length hi - HT.sIx xs.length 0 lo ∧ (cutG xs lo hi).length ≤ xs.length := by
  unfold cutG
  rw [List.length_take, List.length_drop]
  omega
theorem cutG_mem {α : Type} {xs : List α} {lo hi : Option Int} {x : α} (h : x ∈ cutG xs lo hi) : x ∈ xs := List.mem_of_mem_drop (List.mem_of_mem_take h)
theorem DatA.cut {av : Addr → Prop} {H : Hp} {xs : List V} {ts : List Tr} (d : DatA av H xs ts) (lo hi : Option Int) : DatA av H (cutV xs lo hi) (cutG ts lo hi) := by
  have e := d.length
  unfold cutV cutG
  rw [← e]
  exact (d.drop _).take _
theorem sl_dat {K : PySem.W.Frag} {av : Addr → Prop} {G : Hp} {v : V} {ts : List Tr} {lo hi : Option Int} {Q : VK} (d : Dat av G v (.tup ts)) (off : ∀ p, G p = none → ¬ av p) (k : ∀ r F, Same G F → Dat av F r (.tup (cutG ts lo hi)) → Q r F) : rSlA K v lo hi G Q := by
  cases id d with
  | @tup a xs _ h n da =>
    refine ⟨a, xs, rfl, SqT.of h, fun e => ?_, fun _ p hp => ?_⟩
    · refine k _ G (Same.refl G) ?_
      have e2 : cutG ts lo hi = ts := by
        unfold cutG
        rw [← da.length, e.1, e.2, List.drop_zero, Nat.sub_zero, da.length, List.take_length]
      rw [e2]
      exact d
    · exact k _ _ (Sk.Same.upd hp) (.tup upd_same (off p hp) ((da.cut lo hi).same (Sk.Same.upd hp)))
theorem cat_dat {K : PySem.W.Frag} {av : Addr → Prop} {G : Hp} {v u : V} {ts ss : List Tr} {Q : VK} (d : Dat av G v (.tup ts)) (d2 : Dat av G u (.tup ss)) (off : ∀ p, G p = none → ¬ av p) (len : ts.length + ss.length ≤ sizeLine)
    (k : ∀ r F, Same G F → Dat av F r (.tup (ts ++ ss)) → Q r F) : rCatA K v u G Q := by
  cases id d with
  | @tup a xs _ h n da =>
  cases id d2 with
  | @tup b ys _ h2 n2 db =>
    refine ⟨a, b, xs, ys, rfl, rfl, SqT.of h, SqT.of h2, by rw [da.length, db.length]; exact len, fun e => ?_, fun _ e => ?_, fun _ _ p hp => ?_⟩
    · subst e
      cases da
      exact k _ G (Same.refl G) d2
    · subst e
      cases db
      have e2 : ts ++ [] = ts := List.append_nil ts
      exact k _ G (Same.refl G) (by rw [e2]; exact d)
    · exact k _ _ (Sk.Same.upd hp) (.tup upd_same (off p hp) ((da.append db).same (Sk.Same.upd hp)))
theorem DatA.mem {av : Addr → Prop} {H : Hp} : ∀ {vs : List V} {ts : List Tr} {x : V}, DatA av H vs ts → x ∈ vs → ∃ t, t ∈ ts ∧ Dat av H x t
  | _, _, _, .nil, h => nomatch h
  | _, _, _, .cons a b, h => by
    rcases List.mem_cons.mp h with e | e
    · rw [e]
      exact ⟨_, List.mem_cons_self, a⟩
    · obtain ⟨t, h1, h2⟩ := b.mem e
      exact ⟨t, List.mem_cons_of_mem _ h1, h2⟩
theorem bd_sub {b : Nat} {ts l : List Tr} (bd : Bd b (.tup ts)) (hl : l.length ≤ b + 1) (hm : ∀ x ∈ l, x ∈ ts ∨ Bd (b + 1) x) : Bd (b + 1) (.tup l) :=
  .tup hl fun x hx => (hm x hx).elim (fun h => (bd.ti x h).mono (Nat.le_succ b)) id
theorem lenA {α : Type} (ts : List α) (i : Nat) : (cutG ts none (some (i : Int))).length ≤ i := by
  refine Nat.le_trans (cutG_len ts _ _).1 ?_
  rw [HT.sIx_none, HT.sIx_nat]
  omega
theorem lenB {α : Type} (ts : List α) (i : Nat) : (cutG ts (some ((i : Int) + 1)) none).length ≤ ts.length - (i + 1) := by
  refine Nat.le_trans (cutG_len ts _ _).1 ?_
  rw [HT.sIx_none, show (i : Int) + 1 = ((i + 1 : Nat) : Int) by omega, HT.sIx_nat]
  omega
theorem lenC {α : Type} (ts : List α) (i : Nat) : (cutG ts (some (i : Int)) (some ((i : Int) + 1))).length ≤ 1 := by
  refine Nat.le_trans (cutG_len ts _ _).1 ?_
  rw [show (i : Int) + 1 = ((i + 1 : Nat) : Int) by omega, HT.sIx_nat, HT.sIx_nat]
  omega
def zeros : Tr := .tup [.int 0, .int 0, .int 0]
def oddT : List Tr := [.non, .bl true, .bl false, .int 0, .int 1, .int 2, .int 3, .int 4, .int (-1), .int (-2), .int ((10 : Int) ^ (40 : Int).toNat), .str "0", .str "a", .tup [], .tup [.int 0], .tup [.non], .lst [], .dct, zeros, .tup [zeros]]
theorem bd_all {n : Nat} {ts : List Tr} (h : ts.length ≤ n) (ha : ∀ t ∈ ts, Bd n t) : Bd n (.tup ts) := .tup h ha
theorem zerosBd : Bd 40 zeros := by
  refine .tup (by decide) fun t h => ?_
  simp only [List.mem_cons, List.mem_nil_iff, or_false] at h
  rcases h with rfl | rfl | rfl <;> exact .int _
theorem oddBd : ∀ t ∈ oddT, Bd 40 t := by
  intro t h
  unfold oddT at h
  simp only [List.mem_cons, List.mem_nil_iff, or_false] at h
  rcases h with rfl | rfl | rfl | rfl | rfl | rfl | rfl | rfl | rfl | rfl | rfl | rfl | rfl | rfl | rfl | rfl | rfl | rfl | rfl | rfl
  · exact .non
  · exact .bl _
  · exact .bl _
  · exact .int _
  · exact .int _
  · exact .int _
  · exact .int _
  · exact .int _
  · exact .int _
  · exact .int _
  · exact .int _
  · exact .str _
  · exact .str _
  · exact .tup (by decide) fun t h => nomatch h
  · exact .tup (by decide) fun t h => by rw [List.mem_singleton.mp h]; exact .int _
  · exact .tup (by decide) fun t h => by rw [List.mem_singleton.mp h]; exact .non
  · exact .lst (by decide) fun t h => nomatch h
  · exact .dct
  · exact zerosBd
  · exact .tup (by decide) fun t h => by rw [List.mem_singleton.mp h]; exact zerosBd
end Sk
namespace K35
open PySem PySem.Spec PyProof.Rows L2 Sk
abbrev sOther : Stmt := top 21
def spOther (j : Nat) : Sp := fun vs H Q _ => ∃ (d c : Addr) (av : Addr → Prop) (n : Int) (v : V) (t : Tr) (b : Nat), vs = [.ref d, v, .int (j : Nat)] ∧ Deck d c n H ∧ (∀ b, dk d c b → av b) ∧ (∀ b, av b → H b ≠ none) ∧ n + 4 * ((j : Nat) + 1) ≤ 10 ^ 8 ∧ Dat av H v t ∧ Bd b t ∧ 40 ≤ b ∧ b ≤ 900 ∧
  ∀ r G n2 t2, Deck d c n2 G → n2 ≤ n + 4 * ((j : Nat) + 1) → Keep (dk d c) H G → Dat av G r t2 → Bd (b + 1) t2 → Q r G
theorem avLive {av : Addr → Prop} {d c : Addr} {n : Int} {H F : Hp} (live : ∀ b, av b → H b ≠ none) (k : Keep (dk d c) H F) (D : Deck d c n F) : ∀ b, av b → F b ≠ none := fun b a e =>
  live b a (k.free (D.off e) e)
theorem avOff {av : Addr → Prop} {d c : Addr} {n : Int} {H F : Hp} (live : ∀ b, av b → H b ≠ none) (k : Keep (dk d c) H F) (D : Deck d c n F) {p : Addr} (h : F p = none) : ¬ av p := fun a => avLive live k D p a h
def spPrev : Nat → Sp
  | 0 => fun _ _ _ _ => False
  | j + 1 => spOther j
section
variable {P : Program} {w : World} {K : PySem.W.Frag} {mg : Str → Option Value} {base : Heap}
theorem scOther : FnScope ["_law_deck_here", "_law_value", "_law_deep", "_law_odd", "_law_at", "_law_way"] ["_law_deck_here", "_law_value", "_law_deep"] (defScope sOther) := ⟨rfl, rfl, rfl, by decide +kernel, rfl, by decide +kernel, by decide +kernel⟩
theorem ok_other1 {f : Addr} {fd : FuncData} (j : Nat) (F : Fun K "_law_otherwise" "_law_otherwise" sOther f fd) (T : Fre mg) (U : Fre2 mg) (CD : Callee P w K mg base 1 "_law_draw" ["_law_deck_here", "_law_most"] spDraw)
    (CO : Callee P w K mg base 2 "_law_one" ["_law_deck_here", "_law_items"] (spOne K)) (mf : mg "_law_otherwise" = some (.ref f)) (bf : Binds K fd ["_law_deck_here", "_law_value", "_law_deep"] [])
    (G : FnOk P w K mg base CX0 (2 + j) f fd ["_law_deck_here", "_law_value", "_law_deep"] (spPrev j)) : FnOk P w K mg base CX0 (2 + j + 1) f fd ["_law_deck_here", "_law_value", "_law_deep"] (spOther j) := by
  obtain ⟨fD, fdD, GD, mD, kD, bD⟩ := CD
  obtain ⟨fO, fdO, GO, mO, kO, bO⟩ := CO
  refine F.ok scOther (fun vs H Q E h => ?_) (fun cdv A outer s H vs Q E hr h => ?_)
  · obtain ⟨d, c, av, n, v, t, b, rfl, _⟩ := h
    rfl
  · obtain ⟨d, c, av, n, v, t, b, rfl, D, sub, live, n8, dv, bd, b40, b900, k⟩ := h
    have hr1 : Room 1 _ := hr.mono (by omega)
    have hr2 : Room 2 _ := hr.mono (by omega)
    have hu := hr.units
    refine ⟨_, pss_cons (ps_set (i := 3) scOther.nd rfl (Or.inl rfl) (pe_lst (pa_cons pe_non (pa_cons pe_bl (pa_cons pe_bl (pa_cons pe_int (pa_cons pe_int (pa_cons pe_int (pa_cons pe_int (pa_cons pe_int (pa_cons (pe_un un_neg pe_int) (pa_cons (pe_un un_neg pe_int)
        (pa_cons (pe_op op_pow pe_int pe_int) (pa_cons pe_str (pa_cons pe_str (pa_cons (pe_tup pa_nil) (pa_cons (pe_tup (pa_cons pe_int pa_nil)) (pa_cons (pe_tup (pa_cons pe_non pa_nil)) (pa_cons (pe_lst pa_nil) (pa_cons pe_dnewK
        (pa_cons (pe_tup (pa_cons pe_int (pa_cons pe_int (pa_cons pe_int pa_nil)))) (pa_cons (pe_tup (pa_cons (pe_tup (pa_cons pe_int (pa_cons pe_int (pa_cons pe_int pa_nil)))) pa_nil)) pa_nil))))))))))))))))))))))
      (pss_cons (ps_if (PW.pt (pw_or (pt_not (pt_val (pe_callB call_isi (by rfl) T.isi (by decide +kernel) (pa_cons (pv 1) (pa_cons (pe_bltn (v := .ty "tuple") (by rfl) T.tup (by decide +kernel) rfl) pa_nil)))))
          (pw_or (pt_cmpR (op_eqNilT hu) (pv 1) (pe_tup pa_nil) (nomark _)) (pw_or (pt_cmpR op_eq (pv 2) pe_int (nomark _)) (pw_or1 (pt_cmpR op_eq (pe_call GD hr1 (by rfl) mD kD bD .nil pass0 (pa_cons (pv 0) (pa_cons pe_int pa_nil))) pe_int (nomark _)))))))
        (pss_one (ps_ret (pe_call GO hr2 (by rfl) mO kO bO .nil pass0 (pa_cons (pv 0) (pa_cons (pv 3) pa_nil))))) pss_nil)
      (pss_cons (ps_par (i := 4) (j := 5) (by rfl) scOther.nd rfl rfl (by decide) rfl rfl (pa_cons (pe_call GD hr1 (by rfl) mD kD bD .nil pass0 (pa_cons (pv 0) (pa_cons (pe_callB call_len_seq (by rfl) T.len PySem.boot_len (pa_cons (pv 1) pa_nil)) pa_nil))) (pa_cons (pe_call GD hr1 (by rfl) mD kD bD .nil pass0 (pa_cons (pv 0) (pa_cons pe_int pa_nil))) pa_nil)) (by rfl))
      (pss_cons (ps_if (pt_cmpR op_eq (pv 5) pe_int (nomark _)) (pss_one (ps_ret (pe_op op_catA (pe_slice sl_tupA (pv 1) po_none (po_some (pv 4))) (pe_slice sl_tupA (pv 1) (po_some (pe_op op_add (pv 4) pe_int)) po_none)))) pss_nil)
      (pss_cons (ps_if (pt_cmpR op_eq (pv 5) pe_int (nomark _)) (pss_one (ps_ret (pe_op op_catA (pv 1) (pe_slice sl_tupA (pv 1) (po_some (pv 4)) (po_some (pe_op op_add (pv 4) pe_int)))))) pss_nil)
      (pss_cons (ps_if (pt_cmpR op_eq (pv 5) pe_int (nomark _)) (pss_one (ps_ret (pe_callTy call_list_of (by rfl) U.list (by decide +kernel) (pa_cons (pv 1) pa_nil)))) pss_nil)
      (pss_cons (ps_if (pt_cmpR op_eq (pv 5) pe_int (nomark _)) (pss_one (ps_ret (pe_revT (pv 1)))) pss_nil)
      (pss_one (ps_ret (pe_op op_catA (pe_op op_catA (pe_slice sl_tupA (pv 1) po_none (po_some (pv 4))) (pe_tup (pa_cons (pe_call G hr (by rfl) mf F.kp bf .nil pass0 (pa_cons (pv 0) (pa_cons (pe_ix ix_tup (pv 1) (pv 4) (fun _ _ => rfl)) (pa_cons (pe_op op_sub (pv 2) pe_int) pa_nil)))) pa_nil)))
        (pe_slice sl_tupA (pv 1) (po_some (pe_op op_add (pv 4) pe_int)) po_none)))))))))), ?_⟩
    refine ⟨1, rfl, 2, rfl, 10, 40, rfl, rfl, ⟨by decide, by decide, by decide⟩, (by decide), fun p1 h1 => ?_⟩
    have s1 : Same H (upd H p1 (.tup [])) := Sk.Same.upd h1
    have g1 : (upd H p1 (.tup [])) p1 = some (.tup []) := upd_same
    generalize (upd H p1 (.tup [])) = H1 at *
    refine ⟨(by show 1 ≤ sizeLine; decide), fun p2 h2 => ?_⟩
    have s2 : Same H1 (upd H1 p2 (.tup [.int 0])) := Sk.Same.upd h2
    have g2 : (upd H1 p2 (.tup [.int 0])) p2 = some (.tup [.int 0]) := upd_same
    generalize (upd H1 p2 (.tup [.int 0])) = H2 at *
    refine ⟨(by show 1 ≤ sizeLine; decide), fun p3 h3 => ?_⟩
    have s3 : Same H2 (upd H2 p3 (.tup [.non])) := Sk.Same.upd h3
    have g3 : (upd H2 p3 (.tup [.non])) p3 = some (.tup [.non]) := upd_same
    generalize (upd H2 p3 (.tup [.non])) = H3 at *
    refine ⟨(by show 0 ≤ sizeLine; decide), fun p4 h4 => ?_⟩
    have s4 : Same H3 (upd H3 p4 (.lst [])) := Sk.Same.upd h4
    have g4 : (upd H3 p4 (.lst [])) p4 = some (.lst []) := upd_same
    generalize (upd H3 p4 (.lst [])) = H4 at *
    refine fun p5 h5 => ?_
    have s5 : Same H4 (upd H4 p5 (.dK [])) := Sk.Same.upd h5
    have g5 : (upd H4 p5 (.dK [])) p5 = some (.dK []) := upd_same
    generalize (upd H4 p5 (.dK [])) = H5 at *
    refine ⟨(by show 3 ≤ sizeLine; decide), fun p6 h6 => ?_⟩
    have s6 : Same H5 (upd H5 p6 (.tup [.int 0, .int 0, .int 0])) := Sk.Same.upd h6
    have g6 : (upd H5 p6 (.tup [.int 0, .int 0, .int 0])) p6 = some (.tup [.int 0, .int 0, .int 0]) := upd_same
    generalize (upd H5 p6 (.tup [.int 0, .int 0, .int 0])) = H6 at *
    refine ⟨(by show 3 ≤ sizeLine; decide), fun p7 h7 => ?_⟩
    have s7 : Same H6 (upd H6 p7 (.tup [.int 0, .int 0, .int 0])) := Sk.Same.upd h7
    have g7 : (upd H6 p7 (.tup [.int 0, .int 0, .int 0])) p7 = some (.tup [.int 0, .int 0, .int 0]) := upd_same
    generalize (upd H6 p7 (.tup [.int 0, .int 0, .int 0])) = H7 at *
    refine ⟨(by show 1 ≤ sizeLine; decide), fun p8 h8 => ?_⟩
    have s8 : Same H7 (upd H7 p8 (.tup [.ref p7])) := Sk.Same.upd h8
    have g8 : (upd H7 p8 (.tup [.ref p7])) p8 = some (.tup [.ref p7]) := upd_same
    generalize (upd H7 p8 (.tup [.ref p7])) = H8 at *
    refine ⟨(by show 20 ≤ sizeLine; decide), fun o ho => ?_⟩
    have so : Same H8 (upd H8 o (.lst [.non, .bl true, .bl false, .int 0, .int 1, .int 2, .int 3, .int 4, .int (-1), .int (-2), .int ((10 : Int) ^ (40 : Int).toNat), .str "0", .str "a", .ref p1, .ref p2, .ref p3, .ref p4, .ref p5, .ref p6, .ref p8])) := Sk.Same.upd ho
    have go : (upd H8 o (.lst [.non, .bl true, .bl false, .int 0, .int 1, .int 2, .int 3, .int 4, .int (-1), .int (-2), .int ((10 : Int) ^ (40 : Int).toNat), .str "0", .str "a", .ref p1, .ref p2, .ref p3, .ref p4, .ref p5, .ref p6, .ref p8])) o = some (.lst [.non, .bl true, .bl false, .int 0, .int 1, .int 2, .int 3, .int 4, .int (-1), .int (-2), .int ((10 : Int) ^ (40 : Int).toNat), .str "0", .str "a", .ref p1, .ref p2, .ref p3, .ref p4, .ref p5, .ref p6, .ref p8]) := upd_same
    generalize (upd H8 o (.lst [.non, .bl true, .bl false, .int 0, .int 1, .int 2, .int 3, .int 4, .int (-1), .int (-2), .int ((10 : Int) ^ (40 : Int).toNat), .str "0", .str "a", .ref p1, .ref p2, .ref p3, .ref p4, .ref p5, .ref p6, .ref p8])) = H9 at *
    have r8 : Same H8 H9 := so
    have r7 : Same H7 H9 := s8.trans r8
    have r6 : Same H6 H9 := s7.trans r7
    have r5 : Same H5 H9 := s6.trans r6
    have r4 : Same H4 H9 := s5.trans r5
    have r3 : Same H3 H9 := s4.trans r4
    have r2 : Same H2 H9 := s3.trans r3
    have r1 : Same H1 H9 := s2.trans r2
    have r0 : Same H H9 := s1.trans r1
    have D1 := D.keep s1
    have D2 := D1.keep s2
    have D3 := D2.keep s3
    have D4 := D3.keep s4
    have D5 := D4.keep s5
    have D6 := D5.keep s6
    have D7 := D6.keep s7
    have D8 := D7.keep s8
    have D9 := D8.keep so
    have no : ¬ dk d c o := D8.off ho
    have q0 : Keep (dk d c) H H := Keep.refl
    have q1 : Keep (dk d c) H H1 := q0.trans (.of s1)
    have q2 : Keep (dk d c) H H2 := q1.trans (.of s2)
    have q3 : Keep (dk d c) H H3 := q2.trans (.of s3)
    have q4 : Keep (dk d c) H H4 := q3.trans (.of s4)
    have q5 : Keep (dk d c) H H5 := q4.trans (.of s5)
    have q6 : Keep (dk d c) H H6 := q5.trans (.of s6)
    have q7 : Keep (dk d c) H H7 := q6.trans (.of s7)
    have q8 : Keep (dk d c) H H8 := q7.trans (.of s8)
    have f1 : ¬ av p1 := avOff live q0 D h1
    have f2 : ¬ av p2 := avOff live q1 D1 h2
    have f3 : ¬ av p3 := avOff live q2 D2 h3
    have f4 : ¬ av p4 := avOff live q3 D3 h4
    have f5 : ¬ av p5 := avOff live q4 D4 h5
    have f6 : ¬ av p6 := avOff live q5 D5 h6
    have f7 : ¬ av p7 := avOff live q6 D6 h7
    have f8 : ¬ av p8 := avOff live q7 D7 h8
    have zerosD : ∀ p, H9 p = some (.tup [.int 0, .int 0, .int 0]) → ¬ av p → Dat av H9 (.ref p) zeros := fun p e q => .tup e q (.cons (.int 0) (.cons (.int 0) (.cons (.int 0) .nil)))
    have items : DatA av H9 [.non, .bl true, .bl false, .int 0, .int 1, .int 2, .int 3, .int 4, .int (-1), .int (-2), .int ((10 : Int) ^ (40 : Int).toNat), .str "0", .str "a", .ref p1, .ref p2, .ref p3, .ref p4, .ref p5, .ref p6, .ref p8] oddT :=
      .cons .non (.cons (.bl _) (.cons (.bl _) (.cons (.int _) (.cons (.int _) (.cons (.int _) (.cons (.int _) (.cons (.int _) (.cons (.int _) (.cons (.int _) (.cons (.int _) (.cons (.str _) (.cons (.str _)
      (.cons (.tup (r1 _ _ g1) f1 .nil) (.cons (.tup (r2 _ _ g2) f2 (.cons (.int 0) .nil)) (.cons (.tup (r3 _ _ g3) f3 (.cons .non .nil)) (.cons (.lst (r4 _ _ g4) f4 .nil) (.cons (.dct (r5 _ _ g5) f5)
      (.cons (zerosD _ (r6 _ _ g6) f6) (.cons (.tup (r8 _ _ g8) f8 (.cons (zerosD _ (r7 _ _ g7) f7) .nil)) .nil)))))))))))))))))))
    have one : ∀ F n1, Deck d c n1 F → n1 ≤ n + 1 → Keep (dk d c) H9 F → spOne K [.ref d, .ref o] F (fun x F2 => Q x F2) E0 := by
      intro F n1 DF nl kf
      refine ⟨d, c, o, n1, _, rfl, DF, by omega, kf o _ go no, no, by simp, (by show 20 ≤ 1000; decide), fun x F2 hx D2 kf2 => ?_⟩
      obtain ⟨t2, ht2, dt2⟩ := items.mem hx
      have kk : Keep (dk d c) H9 F2 := kf.trans kf2
      exact k x F2 (n1 + 1) t2 D2 (by omega) ((Keep.of r0).trans kk) (dt2.keep (kk.mono sub)) ((oddBd t2 ht2).mono (by omega))
    have dv9 : Dat av H9 v t := dv.same r0
    refine ⟨_, rfl, _, _, _, _, _, rfl, .ty _, dv9.ty, kit_tup t, _, rfl, ?_⟩
    cases t with
    | non => exact iteT ⟨_, rfl, _, rfl, one H9 n D9 (by omega) Keep.refl⟩
    | bl _ => exact iteT ⟨_, rfl, _, rfl, one H9 n D9 (by omega) Keep.refl⟩
    | int _ => exact iteT ⟨_, rfl, _, rfl, one H9 n D9 (by omega) Keep.refl⟩
    | str _ => exact iteT ⟨_, rfl, _, rfl, one H9 n D9 (by omega) Keep.refl⟩
    | lst _ => exact iteT ⟨_, rfl, _, rfl, one H9 n D9 (by omega) Keep.refl⟩
    | dct => exact iteT ⟨_, rfl, _, rfl, one H9 n D9 (by omega) Keep.refl⟩
    | tup ts =>
    cases id dv9 with
    | @tup a xs _ ha na da =>
    refine iteF ⟨_, rfl, (by show 0 ≤ sizeLine; decide), fun e he => ⟨a, e, xs, rfl, rfl, SqT.of (Sk.Same.upd he _ _ ha), SqT.of upd_same, _, rfl, ?_⟩⟩
    have se : Same H9 (upd H9 e (.tup [])) := Sk.Same.upd he
    have De := D9.keep se
    generalize (upd H9 e (.tup [])) = He at *
    cases xs with
    | nil => exact iteT ⟨_, rfl, _, rfl, one He n De (by omega) (.of se)⟩
    | cons x0 xs0 =>
    refine iteF ?_
    have xne : 0 < (x0 :: xs0).length := by rw [List.length_cons]; omega
    generalize x0 :: xs0 = xs at *
    have lx := da.length
    have tne : 0 < ts.length := by rw [← lx]; exact xne
    refine ⟨_, rfl, rfl, _, rfl, ?_⟩
    refine ite2 (fun _ => ⟨_, rfl, _, rfl, one He n De (by omega) (.of se)⟩) (fun hj => ?_)
    refine ⟨_, rfl, d, c, n, 6, rfl, De, by omega, by decide, by decide, fun q F1 q0 q1 D10 k10 => ⟨rfl, _, rfl, ?_⟩⟩
    have kF1 : Keep (dk d c) H9 F1 := (Keep.of se).trans k10
    refine ite2 (fun _ => ⟨_, rfl, _, rfl, one F1 (n + 1) D10 (by omega) kF1⟩) (fun _ => ?_)
    refine ⟨_, rfl, _, rfl, a, xs, rfl, .inr (SqT.of (kF1 _ _ ha fun z => na (sub _ z))), d, c, n + 1, _, rfl, D10, by omega, by omega, (by have := bd.tl; omega), fun at_ F2 a0 a1 D11 k11 => ⟨_, rfl, d, c, n + 1 + 1, 9, rfl, D11, by omega, by decide, by decide, fun way F3 w0 w1 D12 k12 => ⟨_, _, rfl, ?_⟩⟩⟩
    have kF : Keep (dk d c) H9 F3 := (kF1.trans k11).trans k12
    have dF : Dat av F3 (.ref a) (.tup ts) := dv9.keep (kF.mono sub)
    have off : ∀ {F4 : Hp}, Same F3 F4 → ∀ p, F4 p = none → ¬ av p := fun s4 p hp => avOff live (((Keep.of r0).trans kF).trans (.of s4)) (D12.keep s4) hp
    have bl := bd.tl
    have line : ∀ {x : Nat}, x ≤ 3000 → x ≤ sizeLine := fun h => Nat.le_trans h (by decide)
    have done : ∀ {r : V} {F4 : Hp} {t2 : Tr}, Same F3 F4 → Dat av F4 r t2 → Bd (b + 1) t2 → Q r F4 := fun s4 d4 b4 => k _ _ _ _ (D12.keep s4) (by omega) (((Keep.of r0).trans kF).trans (.of s4)) d4 b4
    obtain ⟨i, rfl⟩ : ∃ i : Nat, at_ = (i : Int) := ⟨at_.toNat, by omega⟩
    have il : i < ts.length := by omega
    refine ⟨_, rfl, rfl, _, rfl, ?_⟩
    refine ite2 (fun _ => ?_) (fun _ => ?_)
    · refine ⟨_, rfl, _, rfl, _, rfl, sl_dat dF (off (Same.refl _)) fun r1 E1 m1 d1 => ⟨_, rfl, _, rfl, _, _, rfl, rfl, _, rfl, sl_dat (dF.same m1) (off m1) fun r2 E2 m2 d2 => cat_dat (d1.same m2) d2 (off (m1.trans m2)) ?_ fun r3 E3 m3 d3 => done ((m1.trans m2).trans m3) d3 (bd_sub bd ?_ ?_)⟩⟩
      · have := lenA ts i
        have := lenB ts i
        exact line (by omega)
      · rw [List.length_append]
        have := lenA ts i
        have := lenB ts i
        omega
      · intro x hx
        rcases List.mem_append.mp hx with h | h
        · exact .inl (cutG_mem h)
        · exact .inl (cutG_mem h)
    refine ⟨_, rfl, rfl, _, rfl, ?_⟩
    refine ite2 (fun _ => ?_) (fun _ => ?_)
    · refine ⟨_, rfl, _, rfl, _, rfl, _, rfl, _, rfl, _, _, rfl, rfl, _, rfl, sl_dat dF (off (Same.refl _)) fun r1 E1 m1 d1 => cat_dat (dF.same m1) d1 (off m1) ?_ fun r3 E3 m3 d3 => done (m1.trans m3) d3 (bd_sub bd ?_ ?_)⟩
      · have := lenC ts i
        exact line (by omega)
      · rw [List.length_append]
        have := lenC ts i
        omega
      · intro x hx
        rcases List.mem_append.mp hx with h | h
        · exact .inl h
        · exact .inl (cutG_mem h)
    refine ⟨_, rfl, rfl, _, rfl, ?_⟩
    refine ite2 (fun _ => ?_) (fun _ => ?_)
    · refine ⟨_, rfl, a, xs, rfl, .inr (SqT.of (kF _ _ ha fun z => na (sub _ z))), fun l hl => ?_⟩
      exact done (Sk.Same.upd hl) (.lst upd_same (off (Same.refl _) l hl) ((da.keep (kF.mono sub)).same (Sk.Same.upd hl))) (.lst (by omega) fun x hx => (bd.ti x hx).mono (Nat.le_succ b))
    refine ⟨_, rfl, rfl, _, rfl, ?_⟩
    refine ite2 (fun _ => ?_) (fun _ => ?_)
    · refine ⟨_, rfl, a, xs, rfl, SqT.of (kF _ _ ha fun z => na (sub _ z)), fun l hl => ?_⟩
      exact done (Sk.Same.upd hl) (.tup upd_same (off (Same.refl _) l hl) ((da.keep (kF.mono sub)).same (Sk.Same.upd hl)).reverse) (.tup (by rw [List.length_reverse]; omega) fun x hx => (bd.ti x (List.mem_reverse.mp hx)).mono (Nat.le_succ b))
    cases j with
    | zero => exact absurd (decide_eq_true rfl) hj
    | succ j =>
    have ej : (((j + 1 : Nat) : Int) - 1) = (j : Nat) := by omega
    have ix : i < xs.length := by omega
    obtain ⟨ti, hti, dti⟩ := da.get (List.getElem?_eq_getElem ix)
    have bti := bd.ti ti (List.mem_of_getElem? hti)
    refine ⟨_, rfl, _, rfl, _, rfl, sl_dat dF (off (Same.refl _)) fun r1 E1 m1 d1 => ⟨_, rfl, _, rfl, _, rfl, a, xs, (i : Int), xs[i], rfl, rfl, SqT.of (m1 _ _ (kF _ _ ha fun z => na (sub _ z))), atI_nat (List.getElem?_eq_getElem ix), _, rfl, _, _, rfl, rfl, ?_⟩⟩
    refine ⟨d, c, av, n + 1 + 1 + 1, xs[i], ti, b, (by show [V.ref d, xs[i], V.int (((j + 1 : Nat) : Int) - 1)] ++ [] = _; rw [ej]; rfl), D12.keep m1, sub, avLive live (((Keep.of r0).trans kF).trans (.of m1)) (D12.keep m1), by omega, (dti.keep (kF.mono sub)).same m1, bti, b40, b900, fun r2 E2 n2 t2 D13 nle k13 d2 b2 => ⟨(by show 1 ≤ sizeLine; decide), fun u hu => ?_⟩⟩
    have mu : Same E2 (upd E2 u (.tup [r2])) := Sk.Same.upd hu
    have D14 := D13.keep mu
    have gu : (upd E2 u (.tup [r2])) u = some (.tup [r2]) := upd_same
    have du : Dat av (upd E2 u (.tup [r2])) (.ref u) (.tup [t2]) :=   .tup gu (avOff live (((Keep.of r0).trans kF).trans ((Keep.of m1).trans k13)) D13 hu) (.cons (d2.same mu) .nil)
    have k1u : Keep (dk d c) F3 (upd E2 u (.tup [r2])) := ((Keep.of m1).trans k13).trans (.of mu)
    have d1u : Dat av (upd E2 u (.tup [r2])) r1 (.tup (cutG ts none (some (i : Int)))) := (d1.keep (k13.mono sub)).same mu
    generalize (upd E2 u (.tup [r2])) = E3 at *
    have off2 : ∀ {F4 : Hp}, Same E3 F4 → ∀ p, F4 p = none → ¬ av p := fun s4 p hp => avOff live ((((Keep.of r0).trans kF).trans k1u).trans (.of s4)) (D14.keep s4) hp
    have la := lenA ts i
    have lb := lenB ts i
    refine cat_dat d1u du (off2 (Same.refl _)) (line (by rw [List.length_singleton]; omega)) fun r3 E4 m4 d4 => ⟨_, rfl, _, rfl, _, _, rfl, rfl, _, rfl, sl_dat ((dF.keep (k1u.mono sub)).same m4) (off2 m4) fun r4 E5 m5 d5 => cat_dat (d4.same m5) d5 (off2 (m4.trans m5)) (line (by rw [List.length_append, List.length_singleton]; omega)) fun r5 E6 m6 d6 => ?_⟩
    refine k r5 E6 n2 _ (D14.keep ((m4.trans m5).trans m6)) (by omega) (((Keep.of r0).trans (kF.trans k1u)).trans (.of ((m4.trans m5).trans m6))) d6 (bd_sub bd ?_ ?_)
    · rw [List.length_append, List.length_append, List.length_singleton]
      omega
    · intro x hx
      rcases List.mem_append.mp hx with h | h
      · rcases List.mem_append.mp h with h | h
        · exact .inl (cutG_mem h)
        · rw [List.mem_singleton.mp h]
          exact .inr b2
      · exact .inl (cutG_mem h)
/-- up to any depth -/
theorem ok_other {f : Addr} {fd : FuncData} (F : Fun K "_law_otherwise" "_law_otherwise" sOther f fd) (T : Fre mg) (U : Fre2 mg) (CD : Callee P w K mg base 1 "_law_draw" ["_law_deck_here", "_law_most"] spDraw)
    (CO : Callee P w K mg base 2 "_law_one" ["_law_deck_here", "_law_items"] (spOne K)) (mf : mg "_law_otherwise" = some (.ref f)) (bf : Binds K fd ["_law_deck_here", "_law_value", "_law_deep"] []) :
    ∀ j : Nat, FnOk P w K mg base CX0 (2 + j + 1) f fd ["_law_deck_here", "_law_value", "_law_deep"] (spOther j)
  | 0 => ok_other1 0 F T U CD CO mf bf ⟨fun _ _ _ _ h => h.elim, fun _ _ _ _ _ _ _ _ _ _ _ _ _ h => h.elim⟩
  | j + 1 => ok_other1 (j + 1) F T U CD CO mf bf (ok_other F T U CD CO mf bf j)
end
end K35


set_option Elab.async false
set_option linter.all false
set_option maxRecDepth 100000
set_option maxHeartbeats 4000000
/-! The law. -/
namespace Sk
open PySem PySem.Spec PyProof.Rows L2
def Res.pd : Res → PyData
  | .fine => .none
  | .word x => .tuple [.none, .str x]
  | .row k => .tuple [.int (k : Nat), .str "row"]
theorem badRow_lt {n wd : Int} : ∀ (ts : List Tr) (i k : Nat), badRow n wd i ts = some k → k < i + ts.length
  | [], _, _, h => nomatch h
  | t :: ts, i, k, h => by
    unfold badRow at h
    rw [List.length_cons]
    split at h
    · have := badRow_lt ts (i + 1) k h
      omega
    · cases h
      omega
def isWord (x : Str) : Prop := x = "comp" ∨ x = "letters" ∨ x = "rows" ∨ x = "verdicts"
theorem err_form {t : Tr} (b : Bd 1000 t) : err t = .fine ∨ (∃ x, isWord x ∧ err t = .word x) ∨ ∃ k, k < 1000 ∧ err t = .row k := by
  unfold err
  split
  · split
    · split
      · split
        · rename_i q qs
          split
          · rename_i k hk
            refine .inr (.inr ⟨k, ?_, rfl⟩)
            have h1 := badRow_lt _ _ _ hk
            have h2 : Bd 1000 (.tup (q :: qs)) := b.ti _ (by simp)
            have h3 := h2.tl
            omega
          · split
            · exact .inl rfl
            · exact .inr (.inl ⟨_, .inr (.inr (.inr rfl)), rfl⟩)
        · exact .inr (.inl ⟨_, .inr (.inr (.inl rfl)), rfl⟩)
      · exact .inr (.inl ⟨_, .inr (.inl rfl), rfl⟩)
    · exact .inr (.inl ⟨_, .inr (.inl rfl), rfl⟩)
  · exact .inr (.inl ⟨_, .inl rfl, rfl⟩)
theorem pd_ok {t : Tr} (b : Bd 1000 t) : (err t).pd.showable = true ∧ (err t).pd.hasDict = false ∧ (err t).pd.depth ≤ 60 ∧ (err t).pd.shown.length ≤ sizeLine := by
  rcases err_form b with e | ⟨x, hx, e⟩ | ⟨k, hk, e⟩
  · rw [e]
    exact ⟨by decide, by decide, by decide, by decide +kernel⟩
  · rw [e]
    rcases hx with rfl | rfl | rfl | rfl <;> exact ⟨by decide, by decide, by decide, by decide +kernel⟩
  · rw [e]
    have l1 : (Str.ofString (toString (k : Int))).length ≤ 4 := PyProof.Rows.toString_length_le (by omega) (by decide) (by omega)
    refine ⟨?_, rfl, by simp [Res.pd, PyData.depth, PyData.depthAll], ?_⟩
    · have : k.log2 < 1920 := Nat.lt_of_le_of_lt (Nat.log2_le_self k) (by omega)
      simp [Res.pd, PyData.showable, PyData.showableAll, this]
    · refine Nat.le_trans (tupleText_len_le _) ?_
      show (((PyData.shownAll [.int (k : Nat), .str "row"]).map (·.length)).sum + 2 * 2 + 3) ≤ sizeLine
      have l2 : (reprText "row").length ≤ 10 := by decide +kernel
      show ((Str.ofString (toString (k : Int))).length + ((reprText "row").length + 0)) + 2 * 2 + 3 ≤ sizeLine
      exact Nat.le_trans (by omega : _ ≤ 100) (by decide)
theorem Dat.dp {K : PySem.W.Frag} {H : Hp} {r : V} {e : Res} (d : Dat noA H r e.tr) : Dp K H r e.pd ∧ ((r = .non ∧ e.pd = .none) ∨ ∃ a, r = .ref a) := by
  cases e with
  | fine =>
    cases d
    exact ⟨.non, .inl ⟨rfl, rfl⟩⟩
  | word x =>
    cases d with
    | tup h _ da =>
      cases da with
      | cons d1 da =>
        cases d1
        cases da with
        | cons d2 da =>
          cases d2
          cases da
          exact ⟨.tup (SqT.of h) (.cons .non (.cons (.str x) .nil)), .inr ⟨_, rfl⟩⟩
  | row k =>
    cases d with
    | tup h _ da =>
      cases da with
      | cons d1 da =>
        cases d1
        cases da with
        | cons d2 da =>
          cases d2
          cases da
          exact ⟨.tup (SqT.of h) (.cons (.int _) (.cons (.str _) .nil)), .inr ⟨_, rfl⟩⟩
end Sk


set_option Elab.async false
set_option linter.all false
set_option maxRecDepth 100000
set_option maxHeartbeats 4000000
namespace K35
open PySem PySem.Spec PyProof.Rows L2 Sk
abbrev sLaw : Stmt := top 22
def colD (l : Int) : PyData := .tuple ((colsOf l).map PyData.str)
theorem col_dp {K : PySem.W.Frag} {H : Hp} : ∀ xs : List Str, DpAll K H (xs.map V.str) (xs.map PyData.str)
  | [] => .nil
  | x :: xs => .cons (.str x) (col_dp xs)
theorem col_ok {l : Int} (h1 : 1 ≤ l) (h3 : l ≤ 3) : SeqAt.shaped (colD l) = true ∧ PyData.eqv (colD l) (colD l) = true := by
  rcases signs_cases h1 h3 with rfl | rfl | rfl <;> exact ⟨by decide +kernel, by decide +kernel⟩
def spLaw (K : PySem.W.Frag) : Sp := fun vs H Q _ => ∃ (a : Addr) (ns : List Int), vs = [.ref a] ∧ SqL K H a (ns.map V.int) ∧ ns.length ≤ 63 ∧ ∀ H1, Q (.bl true) H1
theorem cmp_bd {l m : Int} {rows : List (List Int)} {vd : List Int} (l1 : 1 ≤ l) (l3 : l ≤ 3) (m60 : m ≤ 60) (c : IsCmp l m rows vd) : Bd 100 (cmpT l rows vd) := by
  obtain ⟨w15, _⟩ := Sk.wide_le l1 l3
  have intsBd : ∀ x : List Int, x.length ≤ 100 → Bd 100 (intsT x) := fun x h => .tup (by rw [List.length_map]; exact h) fun t ht => by
    obtain ⟨z, _, rfl⟩ := List.mem_map.mp ht
    exact .int z
  refine .tup (by show 3 ≤ 100; decide) fun t ht => ?_
  simp only [List.mem_cons, List.mem_nil_iff, or_false] at ht
  rcases ht with rfl | rfl | rfl
  · exact .int l
  · have h1 := c.rl
    refine .tup (by rw [List.length_map]; omega) fun t ht => ?_
    obtain ⟨r, hr, rfl⟩ := List.mem_map.mp ht
    have h2 := (c.rw_ r hr).1
    exact intsBd r (by omega)
  · have h1 := c.vl
    exact intsBd vd (by omega)
theorem e0B : Bd 1000 (.tup []) := .tup (by decide) fun t h => nomatch h
theorem z1B : Bd 1000 (.tup [.int 0]) := .tup (by decide) fun t h => by rw [List.mem_singleton.mp h]; exact .int 0
theorem bds {ts0 : List Tr} (b : Bd 100 (.tup ts0)) : ∀ t ∈ ([.tup ts0, .lst ts0, .tup (cutG ts0 none (some 2)), .tup (ts0 ++ [.int 0]), .non, .int 3, .str "comp", .dct, .tup [], .tup [.int 1, .tup [], .tup []], .tup [.int 0, .tup [.tup [.int 0]], .tup [.int 0]]] : List Tr), Bd 1000 t := by
  intro t ht
  have l := b.tl
  have m : ∀ x ∈ ts0, Bd 1000 x := fun x h => (b.ti x h).mono (by decide)
  simp only [List.mem_cons, List.mem_nil_iff, or_false] at ht
  rcases ht with rfl | rfl | rfl | rfl | rfl | rfl | rfl | rfl | rfl | rfl | rfl
  · exact b.mono (by decide)
  · exact .lst (by omega) m
  · exact .tup (Nat.le_trans (cutG_len ts0 _ _).2 (by omega)) fun x h => m x (cutG_mem h)
  · refine .tup (by rw [List.length_append, List.length_singleton]; omega) fun x h => ?_
    rcases List.mem_append.mp h with h | h
    · exact m x h
    · rw [List.mem_singleton.mp h]
      exact .int 0
  · exact .non
  · exact .int 3
  · exact .str _
  · exact .dct
  · exact e0B
  · refine .tup (by show 3 ≤ 1000; decide) fun x h => ?_
    simp only [List.mem_cons, List.mem_nil_iff, or_false] at h
    rcases h with rfl | rfl | rfl
    · exact .int 1
    · exact e0B
    · exact e0B
  · refine .tup (by show 3 ≤ 1000; decide) fun x h => ?_
    simp only [List.mem_cons, List.mem_nil_iff, or_false] at h
    rcases h with rfl | rfl | rfl
    · exact .int 0
    · exact .tup (by show 1 ≤ 1000; decide) fun x h => by rw [List.mem_singleton.mp h]; exact z1B
    · exact z1B
def avL (d c L : Addr) : Addr → Prop := fun b => dk d c b ∨ b = L
/-- behind i parts otherwise -/
def PvK (a d c L : Addr) (v2 v3 : Option V) (v : V) (t0 : Tr) (n0 : Int) (i : Nat) (σ : L2.St) (G : Hp) : Prop :=
  ∃ (n : Int) (v7 : Option V) (x6 : V) (t6 : Tr) (xs : List V) (ts : List Tr), σ = [some (.ref a), some (.ref d), v2, v3, some v, some (.ref L), some x6, v7] ∧ Deck d c n G ∧ n ≤ n0 + 16 * (i : Nat) ∧
    Dat (avL d c L) G v t0 ∧ G L = some (.lst xs) ∧ DatA (avL d c L) G xs ts ∧ (∀ t ∈ ts, Bd 1000 t) ∧ xs.length ≤ 11 + i ∧ Dat (avL d c L) G x6 t6 ∧ Bd (100 + i) t6
section
variable {P : Program} {w : World} {K : PySem.W.Frag} {mg : Str → Option Value} {base : Heap}
theorem scLaw : FnScope ["_law_script", "_law_deck_here", "_law_letters", "_law_turn", "_law_comp_here", "_law_values", "_law_value", "_law_k"] ["_law_script"] (defScope sLaw) := ⟨rfl, rfl, rfl, by decide +kernel, rfl, by decide +kernel, by decide +kernel⟩
theorem ok_law {f : Addr} {fd : FuncData} (room : Room 7 callerA) (F : Fun K "law" "law" sLaw f fd) (T : Fre mg) (U : Fre2 mg)
    (CDk : Callee P w K mg base 1 "_law_deck" ["_law_script"] (spDeck K)) (CD : Callee P w K mg base 1 "_law_draw" ["_law_deck_here", "_law_most"] spDraw) (CO : Callee P w K mg base 2 "_law_one" ["_law_deck_here", "_law_items"] (spOne K))
    (CL : Callee P w K mg base 1 "_law_columns" ["_law_letters"] spLCols) (CP : Callee P w K mg base 1 "columns" ["letters"] spCols) (CC : Callee P w K mg base 3 "_law_comp" ["_law_deck_here", "_law_letters", "_law_states"] spComp)
    (CT : Callee P w K mg base 6 "_law_otherwise" ["_law_deck_here", "_law_value", "_law_deep"] (spOther 3)) (CE : Callee P w K mg base 4 "comp_error" ["value"] spErr) (CU : Callee P w K mg base 2 "_law_due" ["_law_value"] spErr) :
    TopOk P w K mg base f fd ["_law_script"] (spLaw K) := by
  obtain ⟨f1, fd1, G1, m1, k1, b1⟩ := CDk
  obtain ⟨f2, fd2, G2, m2, k2, b2⟩ := CD
  obtain ⟨f3, fd3, G3, m3, k3, b3⟩ := CO
  obtain ⟨f4, fd4, G4, m4, k4, b4⟩ := CL
  obtain ⟨f5, fd5, G5, m5, k5, b5⟩ := CP
  obtain ⟨f6, fd6, G6, m6, k6, b6⟩ := CC
  obtain ⟨f7, fd7, G7, m7, k7, b7⟩ := CT
  obtain ⟨f8, fd8, G8, m8, k8, b8⟩ := CE
  obtain ⟨f9, fd9, G9, m9, k9, b9⟩ := CU
  refine topOk (k := 6) F scLaw room (fun vs H Q E h => ?_) (fun cdv s H vs Q E hr h => ?_)
  · obtain ⟨a, ns, rfl, _⟩ := h
    rfl
  · obtain ⟨a, ns, rfl, hs, hl, k⟩ := h
    have hu := hr.units
    have r1 : Room 1 _ := hr.mono (by decide)
    have r2 : Room 2 _ := hr.mono (by decide)
    have r3 : Room 3 _ := hr.mono (by decide)
    have r4 : Room 4 _ := hr.mono (by decide)
    refine ⟨_, pss_cons (ps_set (i := 1) scLaw.nd rfl (Or.inl rfl) (pe_call G1 r1 (by rfl) m1 k1 b1 .nil pass0 (pa_cons (pv 0) pa_nil)))
      (pss_cons (ps_for PassesOwn.never rfl (pi_tup (pe_tup (pa_cons pe_int (pa_cons pe_int (pa_cons pe_int pa_nil))))) (pg_name (i := 2) scLaw.nd rfl (Or.inl rfl))
        (pss_one (ps_if (pt_cmpR (op_neD hu) (pe_call G5 r1 (by rfl) m5 k5 b5 .nil pass0 (pa_cons (pv 2) pa_nil)) (pe_callTy call_tuple_of (by rfl) T.tup (by decide +kernel) (pa_cons (pe_call G4 r1 (by rfl) m4 k4 b4 .nil pass0 (pa_cons (pv 2) pa_nil)) pa_nil)) (nomark _)) (pss_one (ps_ret pe_bl)) pss_nil)))
      (pss_cons (ps_for PassesOwn.never rfl (pi_range1 (by rfl) U.range (pa_cons pe_int pa_nil)) (pg_name (i := 3) scLaw.nd rfl (Or.inl rfl))
        (pss_cons (ps_set (i := 4) scLaw.nd rfl (Or.inl rfl) (pe_call G6 r3 (by rfl) m6 k6 b6 .nil pass0 (pa_cons (pv 1) (pa_cons (pe_op op_add pe_int (pe_call G2 r1 (by rfl) m2 k2 b2 .nil pass0 (pa_cons (pv 1) (pa_cons pe_int pa_nil))))
            (pa_cons (pe_op op_add pe_int (pe_call G2 r1 (by rfl) m2 k2 b2 .nil pass0 (pa_cons (pv 1) (pa_cons (pe_call G3 r2 (by rfl) m3 k3 b3 .nil pass0 (pa_cons (pv 1) (pa_cons (pe_lst (pa_cons pe_int (pa_cons pe_int (pa_cons pe_int pa_nil)))) pa_nil))) pa_nil)))) pa_nil)))))
        (pss_cons (ps_par (i := 5) (j := 6) (by rfl) scLaw.nd rfl rfl (by decide) rfl rfl (pa_cons (pe_lst (pa_cons (pv 4) (pa_cons (pe_callTy call_list_of (by rfl) U.list (by decide +kernel) (pa_cons (pv 4) pa_nil)) (pa_cons (pe_slice sl_tupA (pv 4) po_none (po_some pe_int)) (pa_cons (pe_op op_catA (pv 4) (pe_tup (pa_cons pe_int pa_nil)))
            (pa_cons pe_non (pa_cons pe_int (pa_cons pe_str (pa_cons pe_dnewK (pa_cons (pe_tup pa_nil) (pa_cons (pe_tup (pa_cons pe_int (pa_cons (pe_tup pa_nil) (pa_cons (pe_tup pa_nil) pa_nil)))) (pa_cons (pe_tup (pa_cons pe_int (pa_cons (pe_tup (pa_cons (pe_tup (pa_cons pe_int pa_nil)) pa_nil)) (pa_cons (pe_tup (pa_cons pe_int pa_nil)) pa_nil)))) pa_nil)))))))))))) (pa_cons (pv 4) pa_nil)) (by rfl))
        (pss_cons (ps_for PassesOwn.never rfl (pi_range1 (by rfl) U.range (pa_cons pe_int pa_nil)) (pg_name (i := 7) scLaw.nd rfl (Or.inl rfl))
          (pss_cons (ps_set (i := 6) scLaw.nd rfl (Or.inl rfl) (pe_call G7 hr (by rfl) m7 k7 b7 .nil pass0 (pa_cons (pv 1) (pa_cons (pe_ifExp (pt_cmpR op_gt (pe_op op_mod (pv 7) pe_int) pe_int (nomark _)) (pv 6) (pv 4)) (pa_cons pe_int pa_nil)))))
          (pss_one (ps_expr (pe_bm PySem.F.plainAttrs_list PySem.F.slot_list_append PySem.F.type_list_append mt_append (pv 5) (pa_cons (pv 6) pa_nil))))))
        (pss_one (ps_for PassesOwn.never rfl (pi_list (pv 5)) (pg_name (i := 6) scLaw.nd rfl (Or.inl rfl))
          (pss_one (ps_if (pt_cmpR op_ne (pe_callB (call_reprD rfl hu) (by rfl) U.repr (by decide +kernel) (pa_cons (pe_call G8 r4 (by rfl) m8 k8 b8 .nil pass0 (pa_cons (pv 6) pa_nil)) pa_nil))
              (pe_callB (call_reprD rfl hu) (by rfl) U.repr (by decide +kernel) (pa_cons (pe_call G9 r2 (by rfl) m9 k9 b9 .nil pass0 (pa_cons (pv 6) pa_nil)) pa_nil)) (nomark _)) (pss_one (ps_ret pe_bl)) pss_nil))))))))
      (pss_one (ps_ret pe_bl)))), ?_⟩
    refine ⟨_, rfl, a, ns, rfl, hs, hl, fun d c F1 sm hd hc D => ?_⟩
    refine ⟨by decide, fun p hp => ⟨p, rfl, ⟨_, SqT.of upd_same⟩, for_it walk_tup (fun i σ G => ∃ v2, σ = [some (.ref a), some (.ref d), v2, none, none, none, none, none] ∧ Deck d c 0 G ∧ G p = some (.tup [.int 1, .int 2, .int 3]))
      ⟨none, rfl, D.keep (Sk.Same.upd hp), upd_same⟩ (fun i σ G _ ⟨_, _, _, e⟩ => SqT.of e) ?_ ?_⟩⟩
    · rintro i x σ G G2' hi ⟨v2, rfl, DG, gp⟩ ⟨rfl, hx⟩
      obtain ⟨l, rfl, l1, l3⟩ : ∃ l : Int, x = .int l ∧ 1 ≤ l ∧ l ≤ 3 := by
        match i, hx with
        | 0, hx => exact ⟨1, (Option.some.inj hx).symm, by decide, by decide⟩
        | 1, hx => exact ⟨2, (Option.some.inj hx).symm, by decide, by decide⟩
        | 2, hx => exact ⟨3, (Option.some.inj hx).symm, by decide, by decide⟩
        | i + 3, hx => simp at hx
      obtain ⟨sh, ev⟩ := col_ok l1 l3
      refine ⟨_, rfl, l, rfl, l1, l3, fun p1 E1 s1 hp1 g1 => ⟨_, rfl, l, rfl, l1, l3, fun p2 E2 s2 hp2 g2 => ⟨p2, _, rfl, .inl ⟨SqL.of g2, fun q hq => ⟨colD l, colD l, .tup (SqT.of (Sk.Same.upd hq _ _ (s2 _ _ g1))) (col_dp _), .tup (SqT.of upd_same) (col_dp _), sh, sh, _, rfl, ?_⟩⟩⟩⟩⟩
      rw [ev]
      refine iteF ⟨some (.int l), rfl, ((DG.keep s1).keep s2).keep (Sk.Same.upd hq), Sk.Same.upd hq _ _ (s2 _ _ (s1 _ _ gp))⟩
    · rintro σ G ⟨v2, rfl, DG, _⟩
      refine ⟨14, rfl, by decide, by decide, for_it walk_range (fun i σ G => ∃ v3 v4 v5 v6 v7 n, σ = [some (.ref a), some (.ref d), v2, v3, v4, v5, v6, v7] ∧ Deck d c n G ∧ n ≤ 5000 * (i : Nat))
        ⟨none, none, none, none, none, 0, rfl, DG, by omega⟩ (fun _ _ _ _ _ => trivial) ?_ ?_⟩
      · rintro i x σ G G' hi ⟨v3, v4, v5, v6, v7, n, rfl, DG, nle⟩ ⟨rfl, rfl⟩
        have n0 := DG.n0
        have hi14 : i < 14 := hi
        refine ⟨_, rfl, _, rfl, d, c, n, 3, rfl, DG, by omega, by decide, by decide, fun l0 E1 l00 l03 D1 kk1 => ⟨_, _, rfl, rfl, _, rfl, _, rfl, (by show 3 ≤ sizeLine; decide), fun q hq => ⟨d, c, q, n + 1, _, rfl, D1.keep (Sk.Same.upd hq), by omega, upd_same, D1.off hq, by simp, (by show 3 ≤ 1000; decide), fun x E3 hx D2 kk2 => ?_⟩⟩⟩
        obtain ⟨y, rfl, y1, y60⟩ : ∃ y : Int, x = .int y ∧ 1 ≤ y ∧ y ≤ 60 := by
          simp only [List.mem_cons, List.mem_nil_iff, or_false] at hx
          rcases hx with e | e | e
          · exact ⟨3, e, by decide, by decide⟩
          · exact ⟨8, e, by decide, by decide⟩
          · exact ⟨60, e, by decide, by decide⟩
        refine ⟨d, c, n + 1 + 1, y, rfl, D2, by omega, y1, by omega, fun s0 E4 s00 s01 D3 kk3 => ⟨_, _, rfl, rfl, d, c, n + 1 + 1 + 1, 1 + l0, 1 + s0, rfl, D3, by omega, by omega, by omega, by omega, by omega, fun v E5 n2 rows vd D5 n2le kk4 dv cmp => ?_⟩⟩
        have bt0 := cmp_bd (by omega) (by omega) (by omega) cmp
        obtain ⟨ts0, e0⟩ : ∃ ts0, cmpT (1 + l0) rows vd = .tup ts0 := ⟨_, rfl⟩
        rw [e0] at dv bt0
        cases id dv with
        | @tup a0 xs0 _ h0 n00 da0 =>
        refine ⟨_, rfl, _, rfl, a0, xs0, rfl, .inr (SqT.of h0), fun q1 hq1 => ?_⟩
        have D_E5 := D5
        have s_X1 : Same E5 (upd E5 q1 (.lst xs0)) := Sk.Same.upd hq1
        have g_X1 : (upd E5 q1 (.lst xs0)) q1 = some (.lst xs0) := upd_same
        have o_X1 : ¬ dk d c q1 := D_E5.off hq1
        have D_X1 := D_E5.keep s_X1
        generalize (upd E5 q1 (.lst xs0)) = X1 at *
        refine ⟨_, rfl, 2, rfl, sl_dat (dv.same s_X1) (fun p h => D_X1.off h) fun w1 E6 s_E6 d6 => ⟨_, rfl, (by show 1 ≤ sizeLine; decide), fun q2 hq2 => ?_⟩⟩
        have D_E6 := D_X1.keep s_E6
        have s_X2 : Same E6 (upd E6 q2 (.tup [.int 0])) := Sk.Same.upd hq2
        have g_X2 : (upd E6 q2 (.tup [.int 0])) q2 = some (.tup [.int 0]) := upd_same
        have o_X2 : ¬ dk d c q2 := D_E6.off hq2
        have D_X2 := D_E6.keep s_X2
        generalize (upd E6 q2 (.tup [.int 0])) = X2 at *
        have lx0 := da0.length
        have l100 : ts0.length ≤ 100 := bt0.tl
        refine cat_dat (((dv.same s_X1).same s_E6).same s_X2) (.tup g_X2 o_X2 (.cons (.int 0) .nil)) (fun p h => D_X2.off h) (Nat.le_trans (by rw [List.length_singleton]; omega : _ ≤ 1000) (by decide)) fun w2 E7 s_E7 d7 => ?_
        have D_E7 := D_X2.keep s_E7
        refine fun q3 hq3 => ?_
        have s_X3 : Same E7 (upd E7 q3 (.dK [])) := Sk.Same.upd hq3
        have g_X3 : (upd E7 q3 (.dK [])) q3 = some (.dK []) := upd_same
        have o_X3 : ¬ dk d c q3 := D_E7.off hq3
        have D_X3 := D_E7.keep s_X3
        generalize (upd E7 q3 (.dK [])) = X3 at *
        refine ⟨(by show 0 ≤ sizeLine; decide), fun q4 hq4 => ?_⟩
        have s_X4 : Same X3 (upd X3 q4 (.tup [])) := Sk.Same.upd hq4
        have g_X4 : (upd X3 q4 (.tup [])) q4 = some (.tup []) := upd_same
        have o_X4 : ¬ dk d c q4 := D_X3.off hq4
        have D_X4 := D_X3.keep s_X4
        generalize (upd X3 q4 (.tup [])) = X4 at *
        refine ⟨(by show 0 ≤ sizeLine; decide), fun q5 hq5 => ?_⟩
        have s_X5 : Same X4 (upd X4 q5 (.tup [])) := Sk.Same.upd hq5
        have g_X5 : (upd X4 q5 (.tup [])) q5 = some (.tup []) := upd_same
        have o_X5 : ¬ dk d c q5 := D_X4.off hq5
        have D_X5 := D_X4.keep s_X5
        generalize (upd X4 q5 (.tup [])) = X5 at *
        refine ⟨(by show 0 ≤ sizeLine; decide), fun q6 hq6 => ?_⟩
        have s_X6 : Same X5 (upd X5 q6 (.tup [])) := Sk.Same.upd hq6
        have g_X6 : (upd X5 q6 (.tup [])) q6 = some (.tup []) := upd_same
        have o_X6 : ¬ dk d c q6 := D_X5.off hq6
        have D_X6 := D_X5.keep s_X6
        generalize (upd X5 q6 (.tup [])) = X6 at *
        refine ⟨(by show 3 ≤ sizeLine; decide), fun q7 hq7 => ?_⟩
        have s_X7 : Same X6 (upd X6 q7 (.tup [.int 1, .ref q5, .ref q6])) := Sk.Same.upd hq7
        have g_X7 : (upd X6 q7 (.tup [.int 1, .ref q5, .ref q6])) q7 = some (.tup [.int 1, .ref q5, .ref q6]) := upd_same
        have o_X7 : ¬ dk d c q7 := D_X6.off hq7
        have D_X7 := D_X6.keep s_X7
        generalize (upd X6 q7 (.tup [.int 1, .ref q5, .ref q6])) = X7 at *
        refine ⟨(by show 1 ≤ sizeLine; decide), fun q8 hq8 => ?_⟩
        have s_X8 : Same X7 (upd X7 q8 (.tup [.int 0])) := Sk.Same.upd hq8
        have g_X8 : (upd X7 q8 (.tup [.int 0])) q8 = some (.tup [.int 0]) := upd_same
        have o_X8 : ¬ dk d c q8 := D_X7.off hq8
        have D_X8 := D_X7.keep s_X8
        generalize (upd X7 q8 (.tup [.int 0])) = X8 at *
        refine ⟨(by show 1 ≤ sizeLine; decide), fun q9 hq9 => ?_⟩
        have s_X9 : Same X8 (upd X8 q9 (.tup [.ref q8])) := Sk.Same.upd hq9
        have g_X9 : (upd X8 q9 (.tup [.ref q8])) q9 = some (.tup [.ref q8]) := upd_same
        have o_X9 : ¬ dk d c q9 := D_X8.off hq9
        have D_X9 := D_X8.keep s_X9
        generalize (upd X8 q9 (.tup [.ref q8])) = X9 at *
        refine ⟨(by show 1 ≤ sizeLine; decide), fun q10 hq10 => ?_⟩
        have s_X10 : Same X9 (upd X9 q10 (.tup [.int 0])) := Sk.Same.upd hq10
        have g_X10 : (upd X9 q10 (.tup [.int 0])) q10 = some (.tup [.int 0]) := upd_same
        have o_X10 : ¬ dk d c q10 := D_X9.off hq10
        have D_X10 := D_X9.keep s_X10
        generalize (upd X9 q10 (.tup [.int 0])) = X10 at *
        refine ⟨(by show 3 ≤ sizeLine; decide), fun q11 hq11 => ?_⟩
        have s_X11 : Same X10 (upd X10 q11 (.tup [.int 0, .ref q9, .ref q10])) := Sk.Same.upd hq11
        have g_X11 : (upd X10 q11 (.tup [.int 0, .ref q9, .ref q10])) q11 = some (.tup [.int 0, .ref q9, .ref q10]) := upd_same
        have o_X11 : ¬ dk d c q11 := D_X10.off hq11
        have D_X11 := D_X10.keep s_X11
        generalize (upd X10 q11 (.tup [.int 0, .ref q9, .ref q10])) = X11 at *
        have z_X11 : Same X11 X11 := Same.refl _
        have z_X10 : Same X10 X11 := s_X11.trans z_X11
        have z_X9 : Same X9 X11 := s_X10.trans z_X10
        have z_X8 : Same X8 X11 := s_X9.trans z_X9
        have z_X7 : Same X7 X11 := s_X8.trans z_X8
        have z_X6 : Same X6 X11 := s_X7.trans z_X7
        have z_X5 : Same X5 X11 := s_X6.trans z_X6
        have z_X4 : Same X4 X11 := s_X5.trans z_X5
        have z_X3 : Same X3 X11 := s_X4.trans z_X4
        have z_E7 : Same E7 X11 := s_X3.trans z_X3
        have z_X2 : Same X2 X11 := s_E7.trans z_E7
        have z_E6 : Same E6 X11 := s_X2.trans z_X2
        have z_X1 : Same X1 X11 := s_E6.trans z_E6
        have z_E5 : Same E5 X11 := s_X1.trans z_X1
        refine ⟨(by show 11 ≤ sizeLine; decide), fun L hL => ⟨_, rfl, _, _, rfl, ?_⟩⟩
        have oL : ¬ dk d c L := D_X11.off hL
        have upk : ∀ b o, X11 b = some o → ¬ dk d c b → (upd X11 L (.lst [.ref a0, .ref q1, w1, w2, .non, .int 3, .str "comp", .ref q3, .ref q4, .ref q7, .ref q11])) b = some o ∧ ¬ avL d c L b := fun b o e z => ⟨by rw [upd_ne (ne_of_none e hL)]; exact e, fun q => q.elim z fun q => ne_of_none e hL q⟩
        have items : DatA (dk d c) X11 [.ref a0, .ref q1, w1, w2, .non, .int 3, .str "comp", .ref q3, .ref q4, .ref q7, .ref q11] [.tup ts0, .lst ts0, .tup (cutG ts0 none (some 2)), .tup (ts0 ++ [.int 0]), .non, .int 3, .str "comp", .dct, .tup [], .tup [.int 1, .tup [], .tup []], .tup [.int 0, .tup [.tup [.int 0]], .tup [.int 0]]] := by
          refine .cons (dv.same z_E5) (.cons (.lst (z_X1 _ _ g_X1) o_X1 (da0.same z_E5)) (.cons (d6.same z_E6) (.cons (d7.same z_E7) (.cons .non (.cons (.int 3) (.cons (.str _) (.cons (.dct (z_X3 _ _ g_X3) o_X3) (.cons (.tup (z_X4 _ _ g_X4) o_X4 .nil) (.cons ?_ (.cons ?_ .nil))))))))))
          · exact .tup (z_X7 _ _ g_X7) o_X7 (.cons (.int 1) (.cons (.tup (z_X5 _ _ g_X5) o_X5 .nil) (.cons (.tup (z_X6 _ _ g_X6) o_X6 .nil) .nil)))
          · exact .tup (z_X11 _ _ g_X11) o_X11 (.cons (.int 0) (.cons (.tup (z_X9 _ _ g_X9) o_X9 (.cons (.tup (z_X8 _ _ g_X8) o_X8 (.cons (.int 0) .nil)) .nil)) (.cons (.tup (z_X10 _ _ g_X10) o_X10 (.cons (.int 0) .nil)) .nil)))
        have upL : ∀ {F : Hp} {o : HO}, Keep (avL d c L) F (upd F L o) := fun b u e z => by rw [upd_ne fun q => z (.inr q)]; exact e
        have dv0 := Dat.move upk _ _ (dv.same z_E5)
        refine ⟨8, rfl, by decide, by decide, for_it walk_range (PvK a d c L v2 (some (.int (0 + (i : Nat)))) (.ref a0) (.tup ts0) n2)
          ⟨n2, v7, .ref a0, .tup ts0, _, _, rfl, D_X11.upd oL, by omega, dv0, upd_same, DatA.move upk _ _ items, bds bt0, by show 11 ≤ 11 + 0; decide, dv0, bt0⟩ (fun _ _ _ _ _ => trivial) ?_ ?_⟩
        · rintro j x σ Gz Gy hj ⟨n3, u7, x6, t6, xs, ts, rfl, DG1, n3le, dv1, gL1, dxs, bxs, xl, d6', b6'⟩ ⟨rfl, rfl⟩
          have j8 : j < 8 := hj
          have live : ∀ b, avL d c L b → Gy b ≠ none := by
            rintro b (h | h) e
            · exact DG1.off e h
            · rw [h, gL1] at e
              cases e
          have fin : ∀ (Q' : VK) (x : V) (t : Tr), Dat (avL d c L) Gy x t → Bd (100 + j) t → (∀ r F n4 t4, Deck d c n4 F → n4 ≤ n3 + 16 → Keep (dk d c) Gy F → Dat (avL d c L) F r t4 → Bd (100 + (j + 1)) t4 → Q' r F) → spOther 3 [.ref d, x, .int 3] Gy Q' E0 :=
            fun Q' x t hd hb hk => ⟨d, c, avL d c L, n3, x, t, 100 + j, rfl, DG1, fun b h => .inl h, live, by omega, hd, hb, by omega, by omega, fun r F n4 t4 D4 n4le k4 d4 b4 => hk r F n4 t4 D4 (by omega) k4 d4 b4⟩
          have post : ∀ r F n4 t4, Deck d c n4 F → n4 ≤ n3 + 16 → Keep (dk d c) Gy F → Dat (avL d c L) F r t4 → Bd (100 + (j + 1)) t4 →
              F L = some (.lst xs) ∧ xs.length < sizeLine ∧ PvK a d c L v2 (some (.int (0 + (i : Nat)))) (.ref a0) (.tup ts0) n2 (j + 1) [some (.ref a), some (.ref d), v2, some (.int (0 + (i : Nat))), some (.ref a0), some (.ref L), some r, some (.int (0 + (j : Nat)))] (upd F L (.lst (xs ++ [r]))) := by
            intro r F n4 t4 D4 n4le kF d4 b4
            have gF := kF _ _ gL1 oL
            have kA : Keep (avL d c L) Gy F := kF.mono fun b h => .inl h
            refine ⟨gF, Nat.lt_of_le_of_lt (by omega : xs.length ≤ 100) (by decide), n4, _, r, t4, xs ++ [r], ts ++ [t4], rfl, D4.upd oL, by omega, (dv1.keep kA).keep upL, upd_same, ?_, ?_, ?_, d4.keep upL, b4⟩
            · exact (((dxs.keep kA).keep upL).append (.cons (d4.keep upL) .nil))
            · intro t ht
              rcases List.mem_append.mp ht with h | h
              · exact bxs t h
              · rw [List.mem_singleton.mp h]
                exact b4.mono (by omega)
            · rw [List.length_append, List.length_singleton]
              omega
          refine ⟨_, rfl, _, rfl, _, _, rfl, rfl, (by show (0 : Int) < 4; decide), _, _, rfl, rfl, _, rfl, ?_⟩
          refine ite2 (fun _ => ⟨_, rfl, ?_⟩) (fun _ => ⟨_, rfl, ?_⟩)
          · refine fin _ x6 t6 d6' b6' fun r F n4 t4 D4 n4le kF d4 b4 => ?_
            obtain ⟨gF, lF, pF⟩ := post r F n4 t4 D4 n4le kF d4 b4
            exact ⟨_, rfl, .inl ⟨rfl, _, SqL.of gF⟩, _, rfl, L, xs, r, rfl, rfl, gF, lF, pF⟩
          · refine fin _ (.ref a0) (.tup ts0) dv1 (bt0.mono (by omega)) fun r F n4 t4 D4 n4le kF d4 b4 => ?_
            obtain ⟨gF, lF, pF⟩ := post r F n4 t4 D4 n4le kF d4 b4
            exact ⟨_, rfl, .inl ⟨rfl, _, SqL.of gF⟩, _, rfl, L, xs, r, rfl, rfl, gF, lF, pF⟩
        · rintro σ Gy ⟨n3, u7, x6, t6, xs, ts, rfl, DG1, n3le, dv1, gL1, dxs, bxs, xl, d6', b6'⟩
          refine ⟨_, rfl, L, rfl, ⟨_, SqL.of gL1⟩, for_it walk_list (fun j σ F => ∃ u6, σ = [some (.ref a), some (.ref d), v2, some (.int (0 + (i : Nat))), some (.ref a0), some (.ref L), u6, u7] ∧ Same Gy F)
            ⟨some x6, rfl, Same.refl Gy⟩ (fun j σ F _ ⟨_, _, sF⟩ => SqL.of (sF _ _ gL1)) ?_ ?_⟩
          · rintro j x σ F F' hj ⟨u6, rfl, sF⟩ ⟨rfl, hx⟩
            obtain ⟨t, ht, dt⟩ := dxs.get hx
            have bt := bxs t (List.mem_of_getElem? ht)
            obtain ⟨p1, p2, p3, p4⟩ := pd_ok bt
            refine ⟨_, rfl, avL d c L, x, t, rfl, dt.same sF, bt, fun w3 F2 s2 d2 => ⟨w3, (err t).pd, rfl, d2.dp.1, (d2.dp (K := K)).2, p1, p2, p3, p4, _, rfl, avL d c L, x, t, rfl, (dt.same sF).same s2, bt, fun w4 F3 s3 d3 => ⟨w4, (err t).pd, rfl, d3.dp.1, (d3.dp (K := K)).2, p1, p2, p3, p4, rfl, _, rfl, iteNS rfl ?_⟩⟩⟩
            exact ⟨_, rfl, (sF.trans s2).trans s3⟩
          · rintro σ F ⟨u6, rfl, sF⟩
            exact ⟨_, _, _, _, _, n3, rfl, DG1.keep sF, by omega⟩
      · rintro σ G ⟨v3, v4, v5, v6, v7, n, rfl, DG, nle⟩
        exact k _
end
end K35


set_option Elab.async false
set_option linter.all false
set_option maxRecDepth 100000
set_option maxHeartbeats 4000000
namespace K35
open PySem PySem.Spec PyProof.Rows L2 Sk
theorem all_mk {l : PySem.W.OpenLaw} {w : World} {K : PySem.W.Frag} {h : Heap} {mg : Str → Option Value} {fa f1 f2 f3 f4 f5 f6 f7 f8 f9 f10 f11 f12 f13 f14 : Addr} (X : K.In h) (G : h.Ns mainGlobals mg) (hfa : mg "law" = some (.ref fa))
    {od1 an1 od2 an2 od3 an3 od4 an4 od5 an5 od6 an6 od7 an7 od8 an8 od9 an9 od10 an10 od11 an11 od12 an12 od13 an13 od14 an14 : Option Addr} {sl1 sl2 sl3 sl4 sl5 sl6 sl7 sl8 sl9 sl10 sl11 sl12 sl13 sl14 : Array (Option Value)} {oc1 kV1 dc1 pm1 cd1 ct1 oc2 kV2 dc2 pm2 cd2 ct2 oc3 kV3 dc3 pm3 cd3 ct3 oc4 kV4 dc4 pm4 cd4 ct4 oc5 kV5 dc5 pm5 cd5 ct5 oc6 kV6 dc6 pm6 cd6 ct6 oc7 kV7 dc7 pm7 cd7 ct7 oc8 kV8 dc8 pm8 cd8 ct8 oc9 kV9 dc9 pm9 cd9 ct9 oc10 kV10 dc10 pm10 cd10 ct10 oc11 kV11 dc11 pm11 cd11 ct11 oc12 kV12 dc12 pm12 cd12 ct12 oc13 kV13 dc13 pm13 cd13 ct13 oc14 kV14 dc14 pm14 cd14 ct14 : Value} {tk1 tk2 tk3 : Tok}
    (a1 : PySem.W.nsIn K mainGlobals "comp_error" = some (some (.ref f1)))
    (l1 : K.lookup f1 = some ⟨oc1, od1, .func (PySem.W.fnOf "comp_error" "comp_error" (defArgs sErr) (defBody sErr) (defScope sErr) .none kV1 dc1 pm1 an1 cd1 ct1), sl1⟩)
    (c1 : PySem.W.codeIn K cd1 "comp_error" = true) (k1 : PySem.W.keepIn K (.ref f1) = true)
    (a2 : PySem.W.nsIn K mainGlobals "columns" = some (some (.ref f2)))
    (l2 : K.lookup f2 = some ⟨oc2, od2, .func (PySem.W.fnOf "columns" "columns" (defArgs sCols) (defBody sCols) (defScope sCols) .none kV2 dc2 pm2 an2 cd2 ct2), sl2⟩)
    (c2 : PySem.W.codeIn K cd2 "columns" = true) (k2 : PySem.W.keepIn K (.ref f2) = true)
    (a3 : PySem.W.nsIn K mainGlobals "first_wrong_row" = some (some (.ref f3)))
    (l3 : K.lookup f3 = some ⟨oc3, od3, .func (PySem.W.fnOf "first_wrong_row" "first_wrong_row" (defArgs sFirst) (defBody sFirst) (defScope sFirst) .none kV3 dc3 pm3 an3 cd3 ct3), sl3⟩)
    (c3 : PySem.W.codeIn K cd3 "first_wrong_row" = true) (k3 : PySem.W.keepIn K (.ref f3) = true)
    (a4 : PySem.W.nsIn K mainGlobals "are_numbers" = some (some (.ref f4)))
    (l4 : K.lookup f4 = some ⟨oc4, od4, .func (PySem.W.fnOf "are_numbers" "are_numbers" (defArgs sAre) (defBody sAre) (defScope sAre) .none kV4 dc4 pm4 an4 cd4 ct4), sl4⟩)
    (c4 : PySem.W.codeIn K cd4 "are_numbers" = true) (k4 : PySem.W.keepIn K (.ref f4) = true)
    (a5 : PySem.W.nsIn K mainGlobals "is_number" = some (some (.ref f5)))
    (l5 : K.lookup f5 = some ⟨oc5, od5, .func (PySem.W.fnOf "is_number" "is_number" (defArgs sNum) (defBody sNum) (defScope sNum) .none kV5 dc5 pm5 an5 cd5 ct5), sl5⟩)
    (c5 : PySem.W.codeIn K cd5 "is_number" = true) (k5 : PySem.W.keepIn K (.ref f5) = true)
    (a6 : PySem.W.nsIn K mainGlobals "_law_deck" = some (some (.ref f6)))
    (l6 : K.lookup f6 = some ⟨oc6, od6, .func (PySem.W.fnOf "_law_deck" "_law_deck" (defArgs sDeck) (defBody sDeck) (defScope sDeck) .none kV6 dc6 pm6 an6 cd6 ct6), sl6⟩)
    (c6 : PySem.W.codeIn K cd6 "_law_deck" = true) (k6 : PySem.W.keepIn K (.ref f6) = true)
    (a7 : PySem.W.nsIn K mainGlobals "_law_draw" = some (some (.ref f7)))
    (l7 : K.lookup f7 = some ⟨oc7, od7, .func (PySem.W.fnOf "_law_draw" "_law_draw" (defArgs sDraw) (defBody sDraw) (defScope sDraw) .none kV7 dc7 pm7 an7 cd7 ct7), sl7⟩)
    (c7 : PySem.W.codeIn K cd7 "_law_draw" = true) (k7 : PySem.W.keepIn K (.ref f7) = true)
    (a8 : PySem.W.nsIn K mainGlobals "_law_one" = some (some (.ref f8)))
    (l8 : K.lookup f8 = some ⟨oc8, od8, .func (PySem.W.fnOf "_law_one" "_law_one" (defArgs sOne) (defBody sOne) (defScope sOne) .none kV8 dc8 pm8 an8 cd8 ct8), sl8⟩)
    (c8 : PySem.W.codeIn K cd8 "_law_one" = true) (k8 : PySem.W.keepIn K (.ref f8) = true)
    (a9 : PySem.W.nsIn K mainGlobals "_law_columns" = some (some (.ref f9)))
    (l9 : K.lookup f9 = some ⟨oc9, od9, .func (PySem.W.fnOf "_law_columns" "_law_columns" (defArgs sLCols) (defBody sLCols) (defScope sLCols) .none kV9 dc9 pm9 an9 cd9 ct9), sl9⟩)
    (c9 : PySem.W.codeIn K cd9 "_law_columns" = true) (k9 : PySem.W.keepIn K (.ref f9) = true)
    (a10 : PySem.W.nsIn K mainGlobals "_law_comp" = some (some (.ref f10)))
    (l10 : K.lookup f10 = some ⟨oc10, od10, .func (PySem.W.fnOf "_law_comp" "_law_comp" (defArgs sComp) (defBody sComp) (defScope sComp) .none kV10 dc10 pm10 an10 cd10 ct10), sl10⟩)
    (c10 : PySem.W.codeIn K cd10 "_law_comp" = true) (k10 : PySem.W.keepIn K (.ref f10) = true)
    (a11 : PySem.W.nsIn K mainGlobals "_law_whole" = some (some (.ref f11)))
    (l11 : K.lookup f11 = some ⟨oc11, od11, .func (PySem.W.fnOf "_law_whole" "_law_whole" (defArgs sWhole) (defBody sWhole) (defScope sWhole) .none kV11 dc11 pm11 an11 cd11 ct11), sl11⟩)
    (c11 : PySem.W.codeIn K cd11 "_law_whole" = true) (k11 : PySem.W.keepIn K (.ref f11) = true)
    (a12 : PySem.W.nsIn K mainGlobals "_law_due" = some (some (.ref f12)))
    (l12 : K.lookup f12 = some ⟨oc12, od12, .func (PySem.W.fnOf "_law_due" "_law_due" (defArgs sDue) (defBody sDue) (defScope sDue) .none kV12 dc12 pm12 an12 cd12 ct12), sl12⟩)
    (c12 : PySem.W.codeIn K cd12 "_law_due" = true) (k12 : PySem.W.keepIn K (.ref f12) = true)
    (a13 : PySem.W.nsIn K mainGlobals "_law_otherwise" = some (some (.ref f13)))
    (l13 : K.lookup f13 = some ⟨oc13, od13, .func (PySem.W.fnOf "_law_otherwise" "_law_otherwise" (defArgs sOther) (defBody sOther) (defScope sOther) .none kV13 dc13 pm13 an13 cd13 ct13), sl13⟩)
    (c13 : PySem.W.codeIn K cd13 "_law_otherwise" = true) (k13 : PySem.W.keepIn K (.ref f13) = true)
    (a14 : PySem.W.nsIn K mainGlobals "law" = some (some (.ref f14)))
    (l14 : K.lookup f14 = some ⟨oc14, od14, .func (PySem.W.fnOf "law" "law" (defArgs sLaw) (defBody sLaw) (defScope sLaw) .none kV14 dc14 pm14 an14 cd14 ct14), sl14⟩)
    (c14 : PySem.W.codeIn K cd14 "law" = true) (k14 : PySem.W.keepIn K (.ref f14) = true)
    (y1 : PySem.W.nsIn K mainGlobals "LETTERS" = some (some (.str "abc" tk1)))
    (y2 : PySem.W.nsIn K mainGlobals "END" = some (some (.str "." tk2)))
    (y3 : PySem.W.nsIn K mainGlobals "MAX_LETTERS" = some (some (.int 3 tk3)))
    (z1 : PySem.W.nsIn K mainGlobals "isinstance" = some none)
    (z2 : PySem.W.nsIn K mainGlobals "tuple" = some none)
    (z3 : PySem.W.nsIn K mainGlobals "int" = some none)
    (z4 : PySem.W.nsIn K mainGlobals "bool" = some none)
    (z5 : PySem.W.nsIn K mainGlobals "len" = some none)
    (z6 : PySem.W.nsIn K mainGlobals "all" = some none)
    (z7 : PySem.W.nsIn K mainGlobals "enumerate" = some none)
    (z8 : PySem.W.nsIn K mainGlobals "abs" = some none)
    (z9 : PySem.W.nsIn K mainGlobals "range" = some none)
    (z10 : PySem.W.nsIn K mainGlobals "list" = some none)
    (z11 : PySem.W.nsIn K mainGlobals "repr" = some none)
    : ∃ fd : FuncData, (∀ (s : Shared) (v : Value), BindsTo s fd ⟨[v], []⟩ [("_law_script", v)]) ∧ ∀ base : Heap, K.In base → base.Ns mainGlobals mg → TopOk l.prog w K mg base fa fd ["_law_script"] (spLaw K) := by
  have e := hfa.symm.trans (PySem.W.mg_of X G a14)
  cases e
  have T : Fre mg := ⟨PySem.W.mg_none_of X G z1, PySem.W.mg_none_of X G z2, PySem.W.mg_none_of X G z3, PySem.W.mg_none_of X G z4, PySem.W.mg_none_of X G z5, PySem.W.mg_none_of X G z6, PySem.W.mg_none_of X G z7, ⟨_, PySem.W.mg_of X G y1⟩, ⟨_, PySem.W.mg_of X G y2⟩, ⟨_, PySem.W.mg_of X G y3⟩⟩
  have U : Fre2 mg := ⟨PySem.W.mg_none_of X G z8, PySem.W.mg_none_of X G z9, PySem.W.mg_none_of X G z10, PySem.W.mg_none_of X G z11⟩
  have F1 := fun_mk (st := sErr) l1 c1 k1
  have b1 := F1.binds (ps := ["value"]) fun _ _ _ _ _ _ us hl => match us, hl with | [_], _ => rfl
  have m1 := PySem.W.mg_of X G a1
  have F2 := fun_mk (st := sCols) l2 c2 k2
  have b2 := F2.binds (ps := ["letters"]) fun _ _ _ _ _ _ us hl => match us, hl with | [_], _ => rfl
  have m2 := PySem.W.mg_of X G a2
  have F3 := fun_mk (st := sFirst) l3 c3 k3
  have b3 := F3.binds (ps := ["rows", "width"]) fun _ _ _ _ _ _ us hl => match us, hl with | [_, _], _ => rfl
  have m3 := PySem.W.mg_of X G a3
  have F4 := fun_mk (st := sAre) l4 c4 k4
  have b4 := F4.binds (ps := ["value", "many", "low", "high"]) fun _ _ _ _ _ _ us hl => match us, hl with | [_, _, _, _], _ => rfl
  have m4 := PySem.W.mg_of X G a4
  have F5 := fun_mk (st := sNum) l5 c5 k5
  have b5 := F5.binds (ps := ["value", "low", "high"]) fun _ _ _ _ _ _ us hl => match us, hl with | [_, _, _], _ => rfl
  have m5 := PySem.W.mg_of X G a5
  have F6 := fun_mk (st := sDeck) l6 c6 k6
  have b6 := F6.binds (ps := ["_law_script"]) fun _ _ _ _ _ _ us hl => match us, hl with | [_], _ => rfl
  have m6 := PySem.W.mg_of X G a6
  have F7 := fun_mk (st := sDraw) l7 c7 k7
  have b7 := F7.binds (ps := ["_law_deck_here", "_law_most"]) fun _ _ _ _ _ _ us hl => match us, hl with | [_, _], _ => rfl
  have m7 := PySem.W.mg_of X G a7
  have F8 := fun_mk (st := sOne) l8 c8 k8
  have b8 := F8.binds (ps := ["_law_deck_here", "_law_items"]) fun _ _ _ _ _ _ us hl => match us, hl with | [_, _], _ => rfl
  have m8 := PySem.W.mg_of X G a8
  have F9 := fun_mk (st := sLCols) l9 c9 k9
  have b9 := F9.binds (ps := ["_law_letters"]) fun _ _ _ _ _ _ us hl => match us, hl with | [_], _ => rfl
  have m9 := PySem.W.mg_of X G a9
  have F10 := fun_mk (st := sComp) l10 c10 k10
  have b10 := F10.binds (ps := ["_law_deck_here", "_law_letters", "_law_states"]) fun _ _ _ _ _ _ us hl => match us, hl with | [_, _, _], _ => rfl
  have m10 := PySem.W.mg_of X G a10
  have F11 := fun_mk (st := sWhole) l11 c11 k11
  have b11 := F11.binds (ps := ["_law_value", "_law_least", "_law_most"]) fun _ _ _ _ _ _ us hl => match us, hl with | [_, _, _], _ => rfl
  have m11 := PySem.W.mg_of X G a11
  have F12 := fun_mk (st := sDue) l12 c12 k12
  have b12 := F12.binds (ps := ["_law_value"]) fun _ _ _ _ _ _ us hl => match us, hl with | [_], _ => rfl
  have m12 := PySem.W.mg_of X G a12
  have F13 := fun_mk (st := sOther) l13 c13 k13
  have b13 := F13.binds (ps := ["_law_deck_here", "_law_value", "_law_deep"]) fun _ _ _ _ _ _ us hl => match us, hl with | [_, _, _], _ => rfl
  have m13 := PySem.W.mg_of X G a13
  have F14 := fun_mk (st := sLaw) l14 c14 k14
  refine ⟨PySem.W.fnOf "law" "law" (defArgs sLaw) (defBody sLaw) (defScope sLaw) .none kV14 dc14 pm14 an14 cd14 ct14, fun s v => .of_eq rfl, fun base _ _ => ?_⟩
  have C5 : Callee l.prog w K mg base 1 "is_number" ["value", "low", "high"] spNum := ⟨f5, _, ok_num F5 T, m5, k5, b5⟩
  have C4 : Callee l.prog w K mg base 2 "are_numbers" ["value", "many", "low", "high"] spAre := ⟨f4, _, ok_are F4 T C5, m4, k4, b4⟩
  have C3 : Callee l.prog w K mg base 3 "first_wrong_row" ["rows", "width"] spFirst := ⟨f3, _, ok_first F3 T C4, m3, k3, b3⟩
  have C2 : Callee l.prog w K mg base 1 "columns" ["letters"] spCols := ⟨f2, _, ok_cols F2 T, m2, k2, b2⟩
  have C1 : Callee l.prog w K mg base 4 "comp_error" ["value"] spErr := ⟨f1, _, ok_err F1 T C5 C4 C3 C2, m1, k1, b1⟩
  have C6 : Callee l.prog w K mg base 1 "_law_deck" ["_law_script"] (spDeck K) := ⟨f6, _, ok_deck F6 T U, m6, k6, b6⟩
  have C7 : Callee l.prog w K mg base 1 "_law_draw" ["_law_deck_here", "_law_most"] spDraw := ⟨f7, _, ok_draw F7 T, m7, k7, b7⟩
  have C8 : Callee l.prog w K mg base 2 "_law_one" ["_law_deck_here", "_law_items"] (spOne K) := ⟨f8, _, ok_one F8 T C7, m8, k8, b8⟩
  have C9 : Callee l.prog w K mg base 1 "_law_columns" ["_law_letters"] spLCols := ⟨f9, _, ok_lcols F9, m9, k9, b9⟩
  have C10 : Callee l.prog w K mg base 3 "_law_comp" ["_law_deck_here", "_law_letters", "_law_states"] spComp := ⟨f10, _, ok_comp F10 T U C7 C8 C9, m10, k10, b10⟩
  have C11 : Callee l.prog w K mg base 1 "_law_whole" ["_law_value", "_law_least", "_law_most"] spNum := ⟨f11, _, ok_whole F11 T, m11, k11, b11⟩
  have C12 : Callee l.prog w K mg base 2 "_law_due" ["_law_value"] spErr := ⟨f12, _, ok_due F12 T U C11 C9, m12, k12, b12⟩
  have C13 : Callee l.prog w K mg base 6 "_law_otherwise" ["_law_deck_here", "_law_value", "_law_deep"] (spOther 3) := ⟨f13, _, ok_other F13 T U C7 C8 m13 b13 3, m13, k13, b13⟩
  exact ok_law ⟨rfl, by decide, by decide⟩ F14 T U C6 C7 C8 C9 C2 C10 C13 C1 C12
theorem walk {l : PySem.W.OpenLaw} {q : Program} {loose : List Str} {XP : (Str → Option Value) → Heap → Prop} {YP : World → Heap → Prop} {d : DefRec} {K : Params → PySem.W.Frag} (hn : l.most = some 63) (hdf : d.params.defaults = [])
    (hY : ∀ (w : World) (h : Heap), YP w h → (K w.params).In h)
    (F : ∀ (w : World) (mg : Str → Option Value) (fa : Addr) (h : Heap), (K w.params).In h → h.Ns mainGlobals mg → mg d.name = some (.ref fa) →
      ∃ fd : FuncData, (∀ (s : Shared) (u : Value), BindsTo s fd ⟨[u], []⟩ [("_law_script", u)]) ∧ ∀ base : Heap, (K w.params).In base → base.Ns mainGlobals mg → TopOk l.prog w (K w.params) mg base fa fd ["_law_script"] (spLaw (K w.params))) :
    PySem.W.WalkO q loose XP YP l.row.toRowW d [] (fun f vs => PySem.call f vs) :=
  topWalk (n := 63) (x := "_law_script") (sp := fun w => spLaw (K w.params)) hn (by decide) hdf hY F fun _ _ a ns hl _ _ hS => ⟨a, ns, rfl, hS, hl, fun _ => rfl⟩
end K35
open PySem PySem.W PyProof.Rows
set_option maxRecDepth 100000 in
set_option maxHeartbeats 0 in
theorem PySem.Challenge.cw_surelyorders_k35_comparisons_with_errors_holds : PySem.Challenge.rw_surelyorders_k35_comparisons_with_errors.Holds := by
  w_on; o_law; k_head; (case hw => w_witness2)
  k_fill
  refine K35.walk (l := PySem.Challenge.rw_surelyorders_k35_comparisons_with_errors) rfl rfl (fun w h Y => PySem.W.kIn_of Y) ?F
  case F =>
    intro w mg fa h KX G hmg
    refine' K35.all_mk KX G hmg ?a1 ?l1 ?c1 ?k1 ?a2 ?l2 ?c2 ?k2 ?a3 ?l3 ?c3 ?k3 ?a4 ?l4 ?c4 ?k4 ?a5 ?l5 ?c5 ?k5 ?a6 ?l6 ?c6 ?k6 ?a7 ?l7 ?c7 ?k7 ?a8 ?l8 ?c8 ?k8 ?a9 ?l9 ?c9 ?k9 ?a10 ?l10 ?c10 ?k10 ?a11 ?l11 ?c11 ?k11 ?a12 ?l12 ?c12 ?k12 ?a13 ?l13 ?c13 ?k13 ?a14 ?l14 ?c14 ?k14 ?y1 ?y2 ?y3 ?z1 ?z2 ?z3 ?z4 ?z5 ?z6 ?z7 ?z8 ?z9 ?z10 ?z11
    (case a1 => k_is)
    (case l1 => k_is)
    (case c1 => k_is)
    (case k1 => k_is)
    (case a2 => k_is)
    (case l2 => k_is)
    (case c2 => k_is)
    (case k2 => k_is)
    (case a3 => k_is)
    (case l3 => k_is)
    (case c3 => k_is)
    (case k3 => k_is)
    (case a4 => k_is)
    (case l4 => k_is)
    (case c4 => k_is)
    (case k4 => k_is)
    (case a5 => k_is)
    (case l5 => k_is)
    (case c5 => k_is)
    (case k5 => k_is)
    (case a6 => k_is)
    (case l6 => k_is)
    (case c6 => k_is)
    (case k6 => k_is)
    (case a7 => k_is)
    (case l7 => k_is)
    (case c7 => k_is)
    (case k7 => k_is)
    (case a8 => k_is)
    (case l8 => k_is)
    (case c8 => k_is)
    (case k8 => k_is)
    (case a9 => k_is)
    (case l9 => k_is)
    (case c9 => k_is)
    (case k9 => k_is)
    (case a10 => k_is)
    (case l10 => k_is)
    (case c10 => k_is)
    (case k10 => k_is)
    (case a11 => k_is)
    (case l11 => k_is)
    (case c11 => k_is)
    (case k11 => k_is)
    (case a12 => k_is)
    (case l12 => k_is)
    (case c12 => k_is)
    (case k12 => k_is)
    (case a13 => k_is)
    (case l13 => k_is)
    (case c13 => k_is)
    (case k13 => k_is)
    (case a14 => k_is)
    (case l14 => k_is)
    (case c14 => k_is)
    (case k14 => k_is)
    (case y1 => k_is)
    (case y2 => k_is)
    (case y3 => k_is)
    (case z1 => k_is)
    (case z2 => k_is)
    (case z3 => k_is)
    (case z4 => k_is)
    (case z5 => k_is)
    (case z6 => k_is)
    (case z7 => k_is)
    (case z8 => k_is)
    (case z9 => k_is)
    (case z10 => k_is)
    (case z11 => k_is)

