import PyProof.Rows.All
import Wide.All
import OpenK.AllK
import Wide.FinOn
import HandS.ForSpec
import HandS.ForMost
import KE.GoesEnum
import HandS.RepeatKit
import HandS.Iter
import HandS.Set
import KE.KRevSl
import HandS.Dict
import HandS.Style
import HandS.OwnIter
import PyProof.ListNew
import HandS.Zip
import KE.KDictZip
import HandS.Conv
import HandS.TupAny
import HandS.TupMul
import HandS.Strs
import KE.KDictPairs
import HandS.DictComp
import KE.KDictCopyH
import HandS.SetFor
import HandS.TupSets
import HandS.Comp
import HandS.ExcIs
import HandS.ExcField
import KE.KExcIs
import HandS.ExcInit
import HandS.FStr
import PyProof.ExcBaseAll.LookupError
import PyProof.ExcBaseAll.ValueError
import KE.KExcInit
import HandS.Star
import HandS.IsInst
import HandS.Gcd
import HandS.TupLe
import HandS.Deep
import HandS.Wide
import HandS.Defaults
import KE.KDictKeyed
import KE.SortData
import KE.KMathGC
import KE.DataMinMax
import HandS.WordsDict
import HandS.SortKw
import HandS.More
import HandS.RevRange
import HandS.Flow
import PySem.Challenge.RW_sendershade_k05_luck_and_one_house_by_ha
set_option Elab.async false
set_option linter.all false
set_option maxRecDepth 100000
set_option maxHeartbeats 4000000
namespace EV
open PySem PySem.Spec PyProof.Rows L2
/-! ## f(e, ..), f any expression that gives a def -/
section
variable {X : Cx} {f e : Expr} {es : List Expr} {tf : TE} {ta : TA} {pos : Pos} {E : XK}
/-- a def that may be called -/
structure CanCall (X : Cx) (E : XK) (adr : Addr) (n : Nat) (sp : Sp) : Prop where
  ex : ∃ (CX : CXT) (k : Nat) (fd : FuncData) (ps : List Str) (dvs : List V) (ds : List Value) (sp0 : Sp), FnOk X.prog X.w X.K X.mg X.base CX k adr fd ps sp0 ∧ Room k X.A ∧ PySem.W.keepIn X.K (.ref adr) = true ∧ Binds X.K fd ps ds ∧ Vals dvs ds ∧ Passes CX X E ∧
    ∀ vs H Q, vs.length = n → sp vs H Q E → sp0 (vs ++ dvs) H Q E
def tCallA (X : Cx) (E : XK) (n : Nat) (tf : TE) (ta : TA) : TE := fun σ H Q => tf σ H fun x H1 => ∃ (adr : Addr) (sp : Sp), x = .ref adr ∧ CanCall X E adr n sp ∧ ta σ H1 fun vs H2 => vs.length = n ∧ sp vs H2 Q E
theorem pe_callA {n : Nat} (hf : PE X f tf) (ha : PA X (e :: es) ta)
    (ht : eval (.Call f (e :: es) [] pos) X.env = (do callWith pos (← eval f X.env) [] (backTo pos (starEach (e :: es) X.env)) (backToKw pos (keywordEach [] X.env))))
    (he : starEach (e :: es) X.env = (false, eval e X.env) :: starEach es X.env) (hpl : (backTo pos (starEach es X.env)).any (·.1) = false) : PE X (.Call f (e :: es) [] pos) (tCallA X E n tf ta) := by
  refine ⟨fun pins s σ H Q I h => ?_⟩
  refine Call_ (thn (hf.run pins s σ H _ I h) fun u s1 ⟨x, H1, I1, rx, adr, sp, ex, cc, q⟩ => ?_) ht
  subst ex
  obtain rfl : u = Value.ref adr := rx
  obtain ⟨CX, k, fd, ps, dvs, ds, sp0, F, hr, hk, hb, hd, hx, hq⟩ := cc.ex
  refine PySem.W.callWith_K (h₀ := X.base) I1.ok.mod.kin hk (thn (ha.run pos pins s1 σ H1 _ I1 q) fun us s2 ⟨vs, H2, I2, r, hl, q2⟩ => ⟨I2.kIn, ?_⟩) he hpl
  exact run_fn F hr hb hd hx I2 r (hq vs H2 Q hl q2)
theorem pe_callA0 (hf : PE X f tf) (ht : eval (.Call f [] [] pos) X.env = (do callWith pos (← eval f X.env) [] (backTo pos (starEach [] X.env)) (backToKw pos (keywordEach [] X.env)))) : PE X (.Call f [] [] pos) (tCallA X E 0 tf tNil) := by
  refine ⟨fun pins s σ H Q I h => ?_⟩
  refine Call_ (thn (hf.run pins s σ H _ I h) fun u s1 ⟨x, H1, I1, rx, adr, sp, ex, cc, hl, q⟩ => ?_) ht
  subst ex
  obtain rfl : u = Value.ref adr := rx
  obtain ⟨CX, k, fd, ps, dvs, ds, sp0, F, hr, hk, hb, hd, hx, hq⟩ := cc.ex
  exact PySem.W.callWith_K0 I1.kIn hk (run_fn (us := []) F hr hb hd hx I1 .nil (hq [] H1 Q rfl q))
end
/-! ## enumerate over a tuple -/
section
/-- the tuple at a, item by item, each in a new pair -/
def IteT (K : PySem.W.Frag) (a : Addr) : It where
  go := fun j H => ∃ (ys : List V) (y : V), SqT K H a ys ∧ ys[j]? = some y
  yld := fun j H v H' => ∃ T y, v = .ref T ∧ H T = none ∧ H' = upd H T (.tup [.int (j : Nat), y]) ∧ ∀ ys, SqT K H a ys → ys[j]? = some y
  stop := fun j H => ∃ ys : List V, SqT K H a ys ∧ ys.length ≤ j
theorem enumT_fresh {Pg : Program} {wd : World} {Ar : Around} {Er : Value → Shared → Prop} {st : Shared} {a : Addr} {ws : Array Value} {R : Value → Shared → Prop} (hT : st.heap.IsTuple a ws)
    (h : ∀ h', IsEnum h' (st.heap.objs.size + 1) st.heap.objs.size ((0 : Nat) : Int) .none → h'.IsTupleIter st.heap.objs.size a 0 → h'.objs.size = st.heap.objs.size + 2 → (∀ b o, st.heap.get? b = some o → h'.get? b = some o) → R (.ref (st.heap.objs.size + 1)) { st with heap := h' }) :
    wpAny (model Pg wd) Ar (call (.type "enumerate") [.ref a]) R Er st := by
  have M : Meets (Builtin.«enumerate.__new__» ⟨[.type "enumerate", .ref a], []⟩) (fun _ R s => s.heap.IsTuple a ws ∧
      R (.ok (.ret (.ref (s.heap.push { cls := .type "tuple_iterator", data := .fields #[.ref a, .int 0 0] }).objs.size)))
        { s with heap := (s.heap.push { cls := .type "tuple_iterator", data := .fields #[.ref a, .int 0 0] }).push { cls := .type "enumerate", data := .fields #[.none, .bool false, .ref s.heap.objs.size, rawInt 0, .none, .none] } }) := by
    refine .of_wp fun P2 w2 A2 R2 s2 h2 => ?_
    obtain ⟨h0, g0, d0, t0, o0⟩ := s2
    obtain ⟨hy, h2⟩ := h2
    have es := sub_enumerate
    have it : ∀ {A3 : Around} {E3 : Value → Shared → Prop} {Q3 : Value → Shared → Prop}, Q3 (.ref h0.objs.size) ⟨h0.push { cls := .type "tuple_iterator", data := .fields #[.ref a, .int 0 0] }, g0, d0, t0, o0⟩ → wpAny (model P2 w2) A3 (pyIter (.ref a)) Q3 E3 ⟨h0, g0, d0, t0, o0⟩ :=
      fun q => (begins_tuple a ws).iter P2 w2 _ _ ⟨h0, g0, d0, t0, o0⟩ _ hy q
    wp_walk using it
    refine wpAny_stack_any fun z => wpAny_pure ?_
    split
    · rename_i cc _ _ _ _ _
      cases (cc == Value.type "enumerate") <;> (wp_walk using it; exact ⟨_, rfl, h2⟩)
    · wp_walk using it
      exact ⟨_, rfl, h2⟩
  refine callType_new F.called_enumerate (by decide) (F.typeCall_enumerate_1 _) (F.newCall_enumerate_1 _) (fun ob => F.args_object_init_2 ob _) F.entry_enumerate_new M ⟨hT, ?_⟩
  have sz : (st.heap.push { cls := .type "tuple_iterator", data := .fields #[.ref a, .int 0 0] }).objs.size = st.heap.objs.size + 1 := Heap.size_push ..
  show _ ∧ _
  rw [sz]
  have ee : IsEnum ((st.heap.push { cls := .type "tuple_iterator", data := .fields #[.ref a, .int 0 0] }).push { cls := .type "enumerate", data := .fields #[.none, .bool false, .ref st.heap.objs.size, rawInt 0, .none, .none] }) (st.heap.objs.size + 1) st.heap.objs.size ((0 : Nat) : Int) .none := by
    have z := Heap.get?_push_size (st.heap.push { cls := .type "tuple_iterator", data := .fields #[.ref a, .int 0 0] }) (o := { cls := .type "enumerate", data := .fields #[.none, .bool false, .ref st.heap.objs.size, rawInt 0, .none, .none] }) rfl
    rw [sz] at z
    exact z
  exact ⟨⟨_, ee, rfl⟩, h _ ee ⟨_, Heap.get?_push_of_some _ (Heap.get?_push_size _ rfl), rfl, rfl⟩ (by rw [Heap.size_push, sz]) fun b o z => Heap.get?_push_of_some _ (Heap.get?_push_of_some _ z)⟩
theorem turn_enumT {Pg : Program} {wd : World} {K : PySem.W.Frag} {elts : List Expr} {kk : Nat} {tpos : Pos} (a e it : Addr) (hai : a ≠ it) (hae : a ≠ e) :
    Turn Pg wd K (.Tuple elts kk tpos) (IteT K a) [e, it] e (fun j h => (∃ old, IsEnum h e it ((j : Nat) : Int) old) ∧ h.IsTupleIter it a j ∧ e ≠ it) where
  mem := List.mem_cons_self
  obj := by
    rintro j h ⟨⟨old, en⟩, ⟨ob, o1, o2, o3⟩, _⟩ b hb
    rcases List.mem_cons.mp hb with rfl | hb
    · exact ⟨_, en, fun v q => nomatch q⟩
    · rcases List.mem_singleton.mp hb with rfl
      exact ⟨ob, o1, fun v q => by rw [o3] at q; cases q⟩
  keep := by
    rintro j h h' ⟨⟨old, en⟩, ti, ne⟩ kp
    exact ⟨⟨old, kp e List.mem_cons_self _ en⟩, ti.at fun o q => kp it (List.mem_cons_of_mem _ List.mem_cons_self) o q, ne⟩
  item := by
    rintro X rfl rfl rfl hc j pins s σ H Er I hf ⟨⟨old, en⟩, ti, ne⟩ ⟨ys, y, sq, hy⟩
    obtain ⟨ws, rv, tp, _⟩ := I.tuple sq
    obtain ⟨u, hu, ru⟩ := rv.get hy
    have le : e < s.heap.objs.size := Heap.lt_size en
    have li : it < s.heap.objs.size := by
      obtain ⟨_, q, _⟩ := ti
      exact Heap.lt_size q
    have TT : s.heap.IsTuple a ws.toArray := tp
    have hj : j < ws.toArray.size := by
      have := (List.getElem?_eq_some_iff.mp hu).1
      simpa using this
    have nef : e ∉ [it, a] := by
      intro m
      rcases List.mem_cons.mp m with z | z
      · exact ne z
      · exact hae (List.mem_singleton.mp z).symm
    refine wpAny_pyNext_enum_itemC (Draws.tuple (A := X.A.in1) (show X.A.in1.handled = none from I.ok.hd hc) it a hai ws.toArray) en ⟨ti, TT⟩ hj ne nef fun x h' tk hx ho hs hT hz hk => ?_
    have exu : x = u := by
      have : ws.toArray[j]? = some x := hx
      rw [List.getElem?_toArray, hu] at this
      exact (Option.some.inj this).symm
    subst exu
    refine ⟨_, rfl, wpAny_letOwnedTupleGo_enum (s := { s with heap := h', toks := tk + 1 }) ho fun h2 he2 sb => ?_⟩
    have hT2 : h2.get? s.heap.objs.size = some { cls := .type "tuple", data := .seq #[.int ((j : Nat) : Int) tk, x] } := (sb.2 _ (Nat.ne_of_gt le)).trans hT
    have kept : ∀ b ob, b ∉ [e, it] → s.heap.get? b = some ob → h2.get? b = some ob := fun b ob nb q => by
      have n1 : b ≠ e := fun z => nb (by rw [z]; exact List.mem_cons_self)
      have n2 : b ≠ it := fun z => nb (by rw [z]; exact List.mem_cons_of_mem _ List.mem_cons_self)
      exact (sb.2 b n1).trans (hk b ob n1 n2 q)
    have new : ObjOk X.prog X.w (upd H s.heap.objs.size (.tup [.int (j : Nat), y])) h2 s.heap.objs.size (.tup [.int (j : Nat), y]) :=
      ⟨by show 2 ≤ sizeLine; decide, [.int ((j : Nat) : Int) tk, x], .cons ⟨_, rfl⟩ (.cons ru .nil), ⟨_, hT2, rfl, _, rfl⟩⟩
    have I2 := I.turnedNew (ch := [e, it]) (t' := tk + 1) kept hf (Nat.le_refl _) new
    refine ⟨.ref s.heap.objs.size, _, I2, rfl, ⟨_, y, rfl, I.hok.fresh (Nat.le_refl _), rfl, fun zs hz => by rw [I.tuple_inj hz sq]; exact hy⟩, ⟨⟨x, ?_⟩, hs.1.at fun o q => (sb.2 it (Ne.symm ne)).trans q, ne⟩, fun b hb => ?_⟩
    · rw [show ((j + 1 : Nat) : Int) = (j : Int) + 1 by omega]
      exact he2
    · have lb : b < s.heap.objs.size := by
        rcases List.mem_cons.mp hb with rfl | hb
        · exact le
        · rcases List.mem_singleton.mp hb with rfl
          exact li
      rw [upd_ne (Nat.ne_of_lt lb)]
      exact (hf b hb).1
  done := by
    rintro X rfl rfl rfl hc j pins s σ H Er I hf ⟨⟨old, en⟩, ti, ne⟩ ⟨ys, sq, hy⟩
    obtain ⟨ws, rv, tp, _⟩ := I.tuple sq
    have TT : s.heap.IsTuple a ws.toArray := tp
    have none : ws.toArray[j]? = none := by
      rw [List.getElem?_toArray, List.getElem?_eq_none_iff, ← rv.length]
      exact hy
    obtain ⟨f0, f1, f2, f3, f4, f5⟩ := hf it (List.mem_cons_of_mem _ List.mem_cons_self)
    have ty : s.TypeIs (.ref e) "enumerate" := ⟨_, en, rfl⟩
    unfold pyNext
    refine wpAny_bind (wpAny_attempt (wpAny_callSpecial?_slot (name := Str.ofString "__next__") ty F.slot_enumerate_next (wpAny_call_entry F.slot_enumerate_next ty F.entry_enumerate_next ?_ (F.args_enumerate_next_1 _))))
    show wpAny _ _ (field (.ref e) 2 >>= _) _ _ s
    refine wpAny_bind (wpAny_field en rfl (x := .ref it) rfl (wpAny_bind (wpAny_nextOf_tuple_end (I.ok.hd hc) ti TT none fun h' x xb hx => ?_)))
    obtain ⟨ob, o1, o2⟩ := hx
    refine wpAny_bind (wpAny_isInstance (T := "StopIteration") (b := true) ⟨ob, o1, o2⟩ isSubtype_stop (wpAny_pure ⟨rfl, ?_⟩))
    exact I.turned (t' := s.toks) (fun b o nb q => xb b o nb q) f0 f1 f3 f4 f5
  self := by
    rintro Ar j s R Er ⟨⟨_, en⟩, _⟩ q
    exact wpAny_pyIter_enum en q
/-- for j, x in enumerate(t), t a list or a tuple -/
def iEnumA (K : PySem.W.Frag) (ta : TA) : TI := fun σ H R => ta σ H fun vs H1 => ∃ a, vs = [.ref a] ∧ ((∃ xs, SqL K H1 a xs ∧ R (Ite K a) H1) ∨ (∃ ys, SqT K H1 a ys ∧ R (IteT K a) H1))
theorem pi_enumA {X : Cx} {e : Expr} {ta : TA} {p pos tpos : Pos} {elts : List Expr} {kk : Nat} (hg : Gl X "enumerate") (hm : X.mg "enumerate" = none) (ha : PA X [e] ta) (hs : starEach [e] X.env = [(false, eval e X.env)]) :
    PI X (.Tuple elts kk tpos) (.Call (.Name "enumerate" p) [e] [] pos) (iEnumA X.K ta) := by
  refine ⟨fun pins s σ H R I h => ?_⟩
  refine Call_ (ld_blt I hg hm boot_enumerate (PyProof.Rows.callWith_type1 (thn (ha.run pos pins s σ H _ I h) fun us s1 ⟨vs, H1, I1, r1, a, ea, w1⟩ => ?_) hs rfl))
  subst ea
  rw [Vals.ref1 r1]
  have two : ∀ {b : Addr}, b ∈ [s1.heap.objs.size + 1, s1.heap.objs.size] → FpOk X pins H1 b := fun {b} hb => by
    have l : s1.heap.objs.size ≤ b := by
      rcases List.mem_cons.mp hb with rfl | hb
      · exact Nat.le_succ _
      · rcases List.mem_singleton.mp hb with rfl
        exact Nat.le_refl _
    exact I1.fpOk l (I1.hok.fresh l)
  rcases w1 with ⟨xs, sq, q⟩ | ⟨ys, sq, q⟩
  · obtain ⟨its, rv, pl, _⟩ := I1.list sq
    refine call_enumerate_list pl.isList fun h' en li sz kp => wpAny_pyIter_enum en ?_
    exact ⟨s1.heap.objs.size + 1, [s1.heap.objs.size + 1, s1.heap.objs.size], _, _, H1, rfl, I1.kept (t' := s1.toks) kp, turn_enum a (s1.heap.objs.size + 1) s1.heap.objs.size, ⟨⟨.none, en⟩, li, Nat.succ_ne_self _⟩, fun b hb => two hb, q⟩
  · obtain ⟨ws, rv, tp, _⟩ := I1.tuple sq
    have TT : s1.heap.IsTuple a ws.toArray := tp
    have la : a < s1.heap.objs.size := tp.lt
    refine enumT_fresh TT fun h' en li sz kp => wpAny_pyIter_enum en ?_
    exact ⟨s1.heap.objs.size + 1, [s1.heap.objs.size + 1, s1.heap.objs.size], _, _, H1, rfl, I1.kept (t' := s1.toks) kp, turn_enumT a (s1.heap.objs.size + 1) s1.heap.objs.size (Nat.ne_of_lt la) (Nat.ne_of_lt (Nat.lt_succ_of_lt la)), ⟨⟨.none, en⟩, li, Nat.succ_ne_self _⟩, fun b hb => two hb, q⟩
end
end EV
set_option Elab.async false
set_option linter.all false
set_option maxRecDepth 100000
set_option maxHeartbeats 4000000
/-! combinations(l, r) -/
namespace EV
open PySem PySem.Spec PyProof.Rows L2
namespace F2
theorem mro_cmb : mroOf (.type "itertools.combinations") = pure [.type "itertools.combinations", .type "object"] := by rw [mroOf_type]; kernel_rfl
theorem new_cmb : typeLookup (.type "itertools.combinations") "__new__" = pure (some (.builtin "itertools.combinations.__new__")) := by rw [typeLookup_type, builtinLookup_eq_fast]; kernel_rfl
theorem sub_cmb : isSubtype (.type "itertools.combinations") (.type "itertools.combinations") = pure true := by rw [isSubtype_type]; kernel_rfl
theorem init_cmb : Slot "itertools.combinations" "__init__" "object.__init__" := .of (owner := "object") (n := "__init__") (by rw [typeLookup_type, builtinLookup_eq_fast]; kernel_rfl) (by decide +kernel) (by decide +kernel) (by decide +kernel) (by first | exact .inl (by decide +kernel) | exact .inr (by decide +kernel)) (by rw [isSubtype_type]; kernel_rfl)
theorem called_cmb : TypeCalled "itertools.combinations" "itertools.combinations.__new__" "object.__init__" := ⟨by decide +kernel, by decide +kernel, ⟨_, _, mro_cmb⟩, madeBy_type mro_cmb new_cmb (by decide +kernel), by decide +kernel, sub_cmb, init_cmb⟩
theorem type_cmb (a b : Value) : checkTypeCall "itertools.combinations" ⟨[a, b], []⟩ = pure () := by kernel_rfl
theorem newc_cmb (a b : Value) : checkBuiltinCall "itertools.combinations.__new__" ⟨[.type "itertools.combinations", a, b], []⟩ = pure () := by kernel_rfl
theorem e_new_cmb : entryFor table "itertools.combinations.__new__" = some Builtin.«itertools.combinations.__new__» := entryFor_of_tree (by kernel_rfl)
theorem iter_cmb : Slot "itertools.combinations" "__iter__" "itertools.combinations.__iter__" := .of (owner := "itertools.combinations") (n := "__iter__") (by rw [typeLookup_type, builtinLookup_eq_fast]; kernel_rfl) (by decide +kernel) (by decide +kernel) (by decide +kernel) (by first | exact .inl (by decide +kernel) | exact .inr (by decide +kernel)) sub_cmb
theorem next_cmb : Slot "itertools.combinations" "__next__" "itertools.combinations.__next__" := .of (owner := "itertools.combinations") (n := "__next__") (by rw [typeLookup_type, builtinLookup_eq_fast]; kernel_rfl) (by decide +kernel) (by decide +kernel) (by decide +kernel) (by first | exact .inl (by decide +kernel) | exact .inr (by decide +kernel)) sub_cmb
theorem e_iter_cmb : entryFor table "itertools.combinations.__iter__" = some Builtin.«dict_keyiterator.__iter__» := entryFor_alias (id' := "dict_keyiterator.__iter__") (by kernel_rfl) (by first | rfl | decide +kernel | (unfold String.splitOn; simp +decide [String.splitOnAux])) (by decide +kernel) (by kernel_rfl)
theorem e_next_cmb : entryFor table "itertools.combinations.__next__" = some Builtin.«itertools.combinations.__next__» := entryFor_of_tree (by kernel_rfl)
theorem own_cmb : Manifest.owners.lookup (String.ofList "itertools.combinations".toList) = some Manifest.sig_itertools_combinations := by kernel_rfl
theorem a_iter_cmb (a : Value) : argsOk "itertools.combinations.__iter__" ⟨[a], []⟩ := by
  unfold argsOk; rw [signature?_of (id := "itertools.combinations.__iter__") (n := "__iter__".toList.reverse) (o := "itertools.combinations".toList.reverse) (by kernel_rfl) own_cmb]; kernel_rfl
theorem a_next_cmb (a : Value) : argsOk "itertools.combinations.__next__" ⟨[a], []⟩ := by
  unfold argsOk; rw [signature?_of (id := "itertools.combinations.__next__") (n := "__next__".toList.reverse) (o := "itertools.combinations".toList.reverse) (by kernel_rfl) own_cmb]; kernel_rfl
theorem nd_cmb : typeHasDict (.type "itertools.combinations") = false := by decide +kernel
end F2
end EV
set_option Elab.async false
set_option linter.all false
set_option maxRecDepth 100000
set_option maxHeartbeats 4000000
namespace EV
/-- the places behind some places, in the order of combinations -/
def nextC (n : Nat) (l : List Nat) : Option (List Nat) := match (List.range l.length).reverse.find? fun i => l.getD i 0 != i + n - l.length with
  | none => none
  | some i => some (l.take i ++ (List.range (l.length - i)).map (l.getD i 0 + 1 + ·))
/-- a chain of such places, each behind the one ahead; behind the last one none -/
def rowsC (n : Nat) : Nat → List Nat → Option (List (List Nat))
  | 0, _ => none
  | f + 1, l => match nextC n l with
    | some m => (match rowsC n f m with | some r => some (l :: r) | none => none)
    | none => some [l]
theorem rowsC_ne {n : Nat} : ∀ {f : Nat} {l : List Nat} {r : List (List Nat)}, rowsC n f l = some r → r[0]? = some l
  | 0, _, _, e => by cases e
  | f + 1, l, r, e => by
    unfold rowsC at e
    split at e
    · split at e
      · cases e; rfl
      · cases e
    · cases e; rfl
theorem rowsC_at {n : Nat} : ∀ {f : Nat} {l : List Nat} {r : List (List Nat)}, rowsC n f l = some r → ∀ (i : Nat) m, r[i]? = some m → nextC n m = r[i + 1]?
  | 0, _, _, e, _, _, _ => by cases e
  | f + 1, l, r, e, i, m, h => by
    unfold rowsC at e
    split at e
    · rename_i q e1
      split at e
      · rename_i r' e2
        cases e
        cases i with
        | zero =>
          cases h
          rw [e1]
          exact (rowsC_ne e2).symm
        | succ i => exact rowsC_at e2 i m h
      · cases e
    · rename_i e1
      cases e
      cases i with
      | zero => cases h; exact e1
      | succ i => cases h
end EV
set_option Elab.async false
set_option linter.all false
set_option maxRecDepth 100000
set_option maxHeartbeats 4000000
namespace EV
open PySem PySem.Spec PyProof.Rows L2
abbrev nats (l : List Nat) : List Value := l.map fun n => rawInt (n : Nat)
abbrev IsCmb (h : Heap) (it : Addr) (p : Value) (st : Int) (last : Value) (ix : List Nat) : Prop := h.get? it = some { cls := .type "itertools.combinations", dict := none, data := .fields ([p, rawInt st, last] ++ nats ix).toArray, slots := #[] }
section
variable {prog : Program} {w : World} {A : Around} {E : Value → Shared → Prop} {s : Shared}
theorem cmb_new {l : Addr} {vs : List Value} (r : Nat) (t : Tok) (hr : r ≤ vs.length) (hz : vs.length ≤ 1000) :
    Meets (Builtin.«itertools.combinations.__new__» ⟨[.type "itertools.combinations", .ref l, .int (r : Nat) t], []⟩) (fun _ R s => s.heap.IsList l vs.toArray ∧
      ∀ (h' : Heap) (p it : Addr), (∀ b o, s.heap.get? b = some o → h'.get? b = some o) → s.heap.objs.size ≤ p → s.heap.objs.size ≤ it → p ≠ it → h'.get? p = some { cls := .type "tuple", data := .seq vs.toArray } → IsCmb h' it (.ref p) 0 .none (List.range r) → R (.ok (.ret (.ref it))) { s with heap := h' }) :=
  .of_wp fun prog w A R s h => by
    obtain ⟨hp, g, dd, tk, os⟩ := s
    obtain ⟨e1, h⟩ := h
    have hsub : isSubtype (Value.type "itertools.combinations") (Value.type ("itertools." ++ "combinations")) = pure true := F2.sub_cmb
    have hd := F2.nd_cmb
    have q1 : ¬ ((decide ((r : Int) < -(2 ^ 63 : Int)) || decide ((r : Int) ≥ (2 ^ 63 : Int))) = true) := by
      rw [decide_eq_false (by omega), decide_eq_false (by omega)]
      decide
    have q2 : ¬ ((r : Int) < 0) := by omega
    have q3 : ¬ (Builtin.Itertools.itTooMany (r : Int) = true) := by
      unfold Builtin.Itertools.itTooMany
      rw [decide_eq_true_eq]
      omega
    have q4 : ¬ (r > vs.length) := by omega
    unfold Builtin.«itertools.combinations.__new__»
    repeat (first
      | wp_step
      | simp only [List.head?_cons, Option.some_or, List.getElem?_cons_succ, List.getElem?_cons_zero, List.length_cons, List.length_nil, List.forIn_nil])
    refine wp_if_neg (by exact q1) ?_
    refine wpAny_pure ?_
    refine wpAny_bind (PyProof.Rows.collect_list e1 ?_ (by rw [sizeLine_eq]; omega))
    have k1 : ∀ b o, hp.get? b = some o → ((hp.push (PyProof.Rows.seqObj "list" #[] 0)).update hp.objs.size (Obj.mapSeq (· ++ vs.toArray))).get? b = some o := fun b o q => by
      have lt := Heap.lt_size q
      rw [Heap.get?_update_ne _ _ _ _ (Nat.ne_of_lt lt), Heap.get?_push_ne _ _ _ (Nat.ne_of_lt lt)]
      exact q
    have z1 : ((hp.push (PyProof.Rows.seqObj "list" #[] 0)).update hp.objs.size (Obj.mapSeq (· ++ vs.toArray))).objs.size = hp.objs.size + 1 := by
      rw [Heap.size_update, PyProof.Rows.size_push']
    show wpAny _ _ _ _ _ { heap := (hp.push (PyProof.Rows.seqObj "list" #[] 0)).update hp.objs.size (Obj.mapSeq (· ++ vs.toArray)), gens := g, drawn := dd, toks := tk, os := os }
    generalize (hp.push (PyProof.Rows.seqObj "list" #[] 0)).update hp.objs.size (Obj.mapSeq (· ++ vs.toArray)) = h1 at k1 z1 ⊢
    refine wp_if_neg q2 ?_
    refine wp_if_neg q3 ?_
    refine wpAny_bind (wpAny_newTuple ?_ (by rw [sizeLine_eq]; omega))
    refine wpAny_pure ?_
    dsimp only
    rw [if_neg (by exact q4)]
    unfold Builtin.Itertools.itNewRecord
    rw [hd]
    refine wpAny_bind ?_
    simp only [Bool.not_false, if_true]
    have z2 : (h1.push { cls := .type "tuple", data := .seq vs.toArray }).objs.size = h1.objs.size + 1 := Heap.size_push ..
    refine wpAny_newObj_type ?_ ?_
    · refine wpAny_pure ⟨_, rfl, h _ h1.objs.size _ (fun b o e => Heap.get?_push_of_some _ (Heap.get?_push_of_some _ (k1 b o e))) (by show hp.objs.size ≤ _; omega) ?_ ?_ (Heap.get?_push_of_some _ (Heap.get?_push_size _ rfl)) (Heap.get?_push_size _ rfl)⟩
      · show hp.objs.size ≤ (h1.push _).objs.size
        rw [z2]
        omega
      · show h1.objs.size ≠ (h1.push _).objs.size
        rw [z2]
        omega
    · show _ ≤ _
      simp
      rw [sizeLine_eq]
      omega
theorem call_cmb {l : Addr} {vs : List Value} {r : Nat} {t : Tok} {Q : Value → Shared → Prop} (hl : s.heap.IsList l vs.toArray) (hr : r ≤ vs.length) (hz : vs.length ≤ 1000)
    (h : ∀ (h' : Heap) (p it : Addr), (∀ b o, s.heap.get? b = some o → h'.get? b = some o) → s.heap.objs.size ≤ p → s.heap.objs.size ≤ it → p ≠ it → h'.get? p = some { cls := .type "tuple", data := .seq vs.toArray } → IsCmb h' it (.ref p) 0 .none (List.range r) → Q (.ref it) { s with heap := h' }) :
    wpAny (model prog w) A (call (.type "itertools.combinations") [.ref l, .int (r : Nat) t]) Q E s := by
  refine callType_new F2.called_cmb (by decide +kernel) (F2.type_cmb _ _) (F2.newc_cmb _ _) (fun obj => F.args_object_init_3 obj _ _) F2.e_new_cmb (cmb_new r t hr hz) ⟨hl, fun h' p it k f1 f2 ne e1 e2 => ?_⟩
  show _ ∧ _
  exact ⟨⟨_, e2, rfl⟩, h h' p it k f1 f2 ne e1 e2⟩
theorem iter_cmb {it : Addr} {p last : Value} {st : Int} {ix : List Nat} {Q : Value → Shared → Prop} (hit : IsCmb s.heap it p st last ix) (h : Q (.ref it) s) : wpAny (model prog w) A (pyIter (.ref it)) Q E s := by
  have ty : s.TypeIs (.ref it) "itertools.combinations" := ⟨_, hit, rfl⟩
  refine wpAny_pyIter_slot ty F2.iter_cmb (wpAny_call_entry F2.iter_cmb ty F2.e_iter_cmb ?_ (F2.a_iter_cmb _))
  show wpAny _ _ (ret (.ref it)) _ _ s
  exact wpAny_pure ⟨_, rfl, "itertools.combinations", _, ty, F2.next_cmb.lookup, h⟩
theorem nats_back (ix : List Nat) : (nats ix).map (fun v : Value => match v with | .int n _ => n.toNat | _ => 0) = ix := by
  rw [List.map_map]
  conv => rhs; rw [← List.map_id ix]
  exact List.map_congr_left fun n _ => rfl
end
end EV
set_option Elab.async false
set_option linter.all false
set_option maxRecDepth 100000
set_option maxHeartbeats 4000000
namespace EV
open PySem PySem.Spec PyProof.Rows L2
section
variable {prog : Program} {w : World} {A : Around} {E : Value → Shared → Prop} {s : Shared}
theorem set_cmb {h : Heap} {it : Addr} {p last x : Value} {st : Int} {ix : List Nat} (e : IsCmb h it p st last ix) (i : Nat) : (h.update it (Obj.mapFields fun vs => vs.setIfInBounds i x)).get? it = some { cls := .type "itertools.combinations", dict := none, data := .fields (([p, rawInt st, last] ++ nats ix).set i x).toArray, slots := #[] } := by
  have q := Heap.get?_update_self (Obj.mapFields fun vs => vs.setIfInBounds i x) e rfl
  rw [q]
  simp only [Obj.mapFields, List.setIfInBounds_toArray]
/-- one is handed out -/
theorem hand_cmb {it pl : Addr} {vs : List Value} {last : Value} {st : Int} {ix : List Nat} {Q : PySem.Fin → Shared → Prop} (hit : IsCmb s.heap it (.ref pl) st last ix) (hp : s.heap.IsTuple pl vs.toArray) (hz : ix.length ≤ 1000) (ne : pl ≠ it)
    (q : ∀ h', h'.get? s.heap.objs.size = some { cls := .type "tuple", data := .seq (ix.map fun i => vs.toArray.getD i .none).toArray } → IsCmb h' it (.ref pl) st (.ref s.heap.objs.size) ix → (∀ b o, b ≠ it → s.heap.get? b = some o → h'.get? b = some o) → Q (.done (.ret (.ref s.heap.objs.size))) { s with heap := h' }) :
    wpAny (model prog w) A (do
      let result ← (do
        let items ← Builtin.Itertools.itPoolItems (.ref pl)
        newTuple (ix.map fun i => items.getD i .none))
      let before ← field (.ref it) 2
      setField (.ref it) 2 result
      letGo [before] [result]
      ret result) Q E s := by
  obtain ⟨o, e1, e2, n, e3⟩ := hp
  unfold Builtin.Itertools.itPoolItems
  refine wpAny_bind (wpAny_bind (wpAny_bind (wpAny_seqItems e1 e3 (wpAny_pure ?_))))
  refine wpAny_newTuple ?_ (by rw [List.length_map, sizeLine_eq]; omega)
  have lt := Heap.lt_size hit
  have h1 : IsCmb (s.heap.push { cls := .type "tuple", data := .seq (ix.map fun i => vs.toArray.getD i .none).toArray }) it (.ref pl) st last ix := Heap.get?_push_of_some _ hit
  refine wpAny_bind (wpAny_field h1 rfl (x := last) (by simp) ?_)
  refine wpAny_bind (wpAny_setField h1 rfl (by simp) ?_)
  refine wpAny_bind (wpAny_letGo ?_)
  have h2 := set_cmb (x := .ref s.heap.objs.size) h1 2
  refine wpAny_pure (q _ ?_ h2 fun b o nb e => ?_)
  · rw [Heap.get?_update_ne _ _ _ _ (Nat.ne_of_gt lt)]
    exact Heap.get?_push_size _ rfl
  · rw [Heap.get?_update_ne _ _ _ _ nb]
    exact Heap.get?_push_of_some _ e
/-- the first one -/
theorem first_cmb {it pl : Addr} {vs : List Value} {last : Value} {ix : List Nat} {Q : Option Value → Shared → Prop} (hit : IsCmb s.heap it (.ref pl) 0 last ix) (hp : s.heap.IsTuple pl vs.toArray) (hz : ix.length ≤ 1000) (ne : pl ≠ it)
    (q : ∀ h', h'.get? s.heap.objs.size = some { cls := .type "tuple", data := .seq (ix.map fun i => vs.toArray.getD i .none).toArray } → IsCmb h' it (.ref pl) 1 (.ref s.heap.objs.size) ix → (∀ b o, b ≠ it → s.heap.get? b = some o → h'.get? b = some o) → Q (some (.ref s.heap.objs.size)) { s with heap := h' }) :
    wpAny (model prog w) A (callSpecial? (.ref it) "__next__") Q E s := by
  have ty : s.TypeIs (.ref it) "itertools.combinations" := ⟨_, hit, rfl⟩
  refine wpAny_callSpecial?_slot (name := Str.ofString "__next__") ty F2.next_cmb (wpAny_call_entry F2.next_cmb ty F2.e_next_cmb ?_ (F2.a_next_cmb _))
  show wpAny _ _ (field (.ref it) 0 >>= _) _ _ s
  refine wpAny_bind (wpAny_field hit rfl (x := .ref pl) rfl ?_)
  show wpAny _ _ (Builtin.Itertools.itNumbersFrom (.ref it) 3 >>= _) _ _ s
  refine wpAny_bind ?_
  unfold Builtin.Itertools.itNumbersFrom
  dsimp only
  refine wpAny_bind (wpAny_load hit (wpAny_pure ?_))
  generalize hL : List.map _ (List.drop 3 _) = L
  have eL : L = ix := by
    rw [← hL]
    show List.map _ (nats ix) = ix
    rw [List.map_map]
    conv => rhs; rw [← List.map_id ix]
    exact List.map_congr_left fun n _ => rfl
  clear hL
  rw [eL]
  show wpAny _ _ ((field (.ref it) 1 >>= _) >>= _) _ _ s
  refine wpAny_bind (wpAny_bind (wpAny_field hit rfl (x := .int 0 0) rfl (wpAny_pure ?_)))
  show wpAny _ _ (setField (.ref it) 1 (rawInt 1) >>= _) _ _ s
  refine wpAny_bind (wpAny_setField hit rfl (by simp) ?_)
  have h1 : IsCmb (s.heap.update it (Obj.mapFields fun vs => vs.setIfInBounds 1 (rawInt 1))) it (.ref pl) 1 last ix := set_cmb (x := rawInt 1) hit 1
  have k1 : ∀ b o, b ≠ it → s.heap.get? b = some o → (s.heap.update it (Obj.mapFields fun vs => vs.setIfInBounds 1 (rawInt 1))).get? b = some o := fun b o nb e => by
    rw [Heap.get?_update_ne _ _ _ _ nb]
    exact e
  have sz : (s.heap.update it (Obj.mapFields fun vs => vs.setIfInBounds 1 (rawInt 1))).objs.size = s.heap.objs.size := Heap.size_update ..
  have hp1 : (s.heap.update it (Obj.mapFields fun vs => vs.setIfInBounds 1 (rawInt 1))).IsTuple pl vs.toArray := by
    obtain ⟨o, e1, e2⟩ := hp
    exact ⟨o, k1 _ _ ne e1, e2⟩
  refine hand_cmb (s := { s with heap := s.heap.update it (Obj.mapFields fun vs => vs.setIfInBounds 1 (rawInt 1)) }) h1 hp1 hz ne fun h' a1 a2 a3 => ?_
  dsimp only at a1 a2
  rw [sz] at a1 a2
  show ∃ v, _ ∧ _
  refine ⟨_, rfl, ?_⟩
  rw [sz]
  exact q h' a1 a2 fun b o nb e => a3 b o nb (k1 b o nb e)
/-- a further one -/
theorem more_cmb {it pl : Addr} {vs : List Value} {last : Value} {ix jx : List Nat} {Q : Option Value → Shared → Prop} (hit : IsCmb s.heap it (.ref pl) 1 last ix) (hp : s.heap.IsTuple pl vs.toArray) (nx : nextC vs.length ix = some jx) (hz : jx.length ≤ 1000) (ne : pl ≠ it)
    (q : ∀ h', h'.get? s.heap.objs.size = some { cls := .type "tuple", data := .seq (jx.map fun i => vs.toArray.getD i .none).toArray } → IsCmb h' it (.ref pl) 1 (.ref s.heap.objs.size) jx → (∀ b o, b ≠ it → s.heap.get? b = some o → h'.get? b = some o) → Q (some (.ref s.heap.objs.size)) { s with heap := h' }) :
    wpAny (model prog w) A (callSpecial? (.ref it) "__next__") Q E s := by
  have ty : s.TypeIs (.ref it) "itertools.combinations" := ⟨_, hit, rfl⟩
  refine wpAny_callSpecial?_slot (name := Str.ofString "__next__") ty F2.next_cmb (wpAny_call_entry F2.next_cmb ty F2.e_next_cmb ?_ (F2.a_next_cmb _))
  show wpAny _ _ (field (.ref it) 0 >>= _) _ _ s
  refine wpAny_bind (wpAny_field hit rfl (x := .ref pl) rfl ?_)
  show wpAny _ _ (Builtin.Itertools.itNumbersFrom (.ref it) 3 >>= _) _ _ s
  refine wpAny_bind ?_
  unfold Builtin.Itertools.itNumbersFrom
  dsimp only
  refine wpAny_bind (wpAny_load hit (wpAny_pure ?_))
  generalize hL : List.map _ (List.drop 3 _) = L
  have eL : L = ix := by
    rw [← hL]
    show List.map _ (nats ix) = ix
    rw [List.map_map]
    conv => rhs; rw [← List.map_id ix]
    exact List.map_congr_left fun n _ => rfl
  clear hL
  rw [eL]
  show wpAny _ _ ((field (.ref it) 1 >>= _) >>= _) _ _ s
  refine wpAny_bind (wpAny_bind (wpAny_field hit rfl (x := .int 1 0) rfl (wpAny_pure ?_)))
  show wpAny _ _ (Builtin.Itertools.itPoolItems (.ref pl) >>= _) _ _ s
  obtain ⟨o, e1, e2, n, e3⟩ := id hp
  refine wpAny_bind ?_
  conv in Builtin.Itertools.itPoolItems _ => unfold Builtin.Itertools.itPoolItems
  refine wpAny_bind (wpAny_seqItems e1 e3 (wpAny_pure ?_))
  split
  · rename_i next hn
    have e : nextC vs.toArray.size ix = some next := hn
    rw [List.size_toArray, nx] at e
    cases e
    have h1 : IsCmb (s.heap.update it (Obj.mapFields fun fs => fs.extract 0 3 ++ (jx.map fun (n : Nat) => rawInt n).toArray)) it (.ref pl) 1 last jx := by
      have q := Heap.get?_update_self (Obj.mapFields fun fs => fs.extract 0 3 ++ (jx.map fun (n : Nat) => rawInt n).toArray) hit rfl
      unfold IsCmb
      rw [q]
      simp [Obj.mapFields]
    have k1 : ∀ b o, b ≠ it → s.heap.get? b = some o → (s.heap.update it (Obj.mapFields fun fs => fs.extract 0 3 ++ (jx.map fun (n : Nat) => rawInt n).toArray)).get? b = some o := fun b o nb e => by
      rw [Heap.get?_update_ne _ _ _ _ nb]
      exact e
    have sz : (s.heap.update it (Obj.mapFields fun fs => fs.extract 0 3 ++ (jx.map fun (n : Nat) => rawInt n).toArray)).objs.size = s.heap.objs.size := Heap.size_update ..
    refine wpAny_bind ?_
    unfold Builtin.Itertools.itSetNumbersFrom
    refine wpAny_updateFields hit rfl ?_ ?_
    · refine hand_cmb (s := { s with heap := s.heap.update it (Obj.mapFields fun fs => fs.extract 0 3 ++ (jx.map fun (n : Nat) => rawInt n).toArray) }) h1 ⟨o, k1 _ _ ne e1, e2, n, e3⟩ hz ne fun h' a1 a2 a3 => ?_
      dsimp only at a1 a2
      rw [sz] at a1 a2
      show ∃ v, _ ∧ _
      refine ⟨_, rfl, ?_⟩
      rw [sz]
      exact q h' a1 a2 fun b o nb e => a3 b o nb (k1 b o nb e)
    · simp
      rw [sizeLine_eq]
      omega
  · rename_i hn
    have e : nextC vs.toArray.size ix = none := hn
    rw [List.size_toArray, nx] at e
    cases e
/-- the end -/
theorem end_cmb {it pl : Addr} {vs : List Value} {last : Value} {ix : List Nat} {Q : Option Value → Shared → Prop} (hh : A.handled = none) (hit : IsCmb s.heap it (.ref pl) 1 last ix) (hp : s.heap.IsTuple pl vs.toArray) (nx : nextC vs.length ix = none)
    (q : ∀ e h', CpRep.StopE e h' → (∀ b o, b ≠ it → s.heap.get? b = some o → h'.get? b = some o) → E e { s with heap := h' }) : wpAny (model prog w) A (callSpecial? (.ref it) "__next__") Q E s := by
  have ty : s.TypeIs (.ref it) "itertools.combinations" := ⟨_, hit, rfl⟩
  refine wpAny_callSpecial?_slot (name := Str.ofString "__next__") ty F2.next_cmb (wpAny_call_entry F2.next_cmb ty F2.e_next_cmb ?_ (F2.a_next_cmb _))
  show wpAny _ _ (field (.ref it) 0 >>= _) _ _ s
  refine wpAny_bind (wpAny_field hit rfl (x := .ref pl) rfl ?_)
  show wpAny _ _ (Builtin.Itertools.itNumbersFrom (.ref it) 3 >>= _) _ _ s
  refine wpAny_bind ?_
  unfold Builtin.Itertools.itNumbersFrom
  dsimp only
  refine wpAny_bind (wpAny_load hit (wpAny_pure ?_))
  generalize hL : List.map _ (List.drop 3 _) = L
  have eL : L = ix := by
    rw [← hL]
    show List.map _ (nats ix) = ix
    rw [List.map_map]
    conv => rhs; rw [← List.map_id ix]
    exact List.map_congr_left fun n _ => rfl
  clear hL
  rw [eL]
  show wpAny _ _ ((field (.ref it) 1 >>= _) >>= _) _ _ s
  refine wpAny_bind (wpAny_bind (wpAny_field hit rfl (x := .int 1 0) rfl (wpAny_pure ?_)))
  show wpAny _ _ (Builtin.Itertools.itPoolItems (.ref pl) >>= _) _ _ s
  obtain ⟨o, e1, e2, n, e3⟩ := id hp
  refine wpAny_bind ?_
  conv in Builtin.Itertools.itPoolItems _ => unfold Builtin.Itertools.itPoolItems
  refine wpAny_bind (wpAny_seqItems e1 e3 (wpAny_pure ?_))
  split
  · rename_i next hn
    have e : nextC vs.toArray.size ix = some next := hn
    rw [List.size_toArray, nx] at e
    cases e
  · refine wpAny_bind (wpAny_setField hit rfl (by simp) ?_)
    unfold Builtin.Itertools.itStop
    show wpAny _ _ (newExc (.type "StopIteration") [] >>= _) _ _ _
    refine wpAny_bind ?_
    simp only [newExc, newTuple]
    refine wpAny_bind (wpAny_newObj_type ?_ (by size_fits))
    refine wpAny_bind (m := firstArgMember _ _) (wpAny_of_eq (a := Value.none) (by first | rfl | (simp only [firstArgMember]; rfl)) ?_)
    refine wpAny_newObj_type ?_ (by size_fits)
    simp only [raiseNew]
    refine wpAny_bind (wpAny_handled ?_)
    first | rw [show A.in1.handled = none from hh] | rw [hh]
    refine wpAny_bind (wpAny_pure (wpAny_throw ?_))
    refine q _ _ ⟨_, _, _, rfl, Heap.get?_push_size _ rfl, rfl, rfl, rfl⟩ fun b o nb e => ?_
    refine Heap.get?_push_of_some _ (Heap.get?_push_of_some _ ?_)
    rw [Heap.get?_update_ne _ _ _ _ nb]
    exact e
end
end EV
set_option Elab.async false
set_option linter.all false
set_option maxRecDepth 100000
set_option maxHeartbeats 4000000
namespace EV
open PySem PySem.Spec PyProof.Rows L2
/-- rows handed out one by one, each a new tuple -/
def ItC (rows : List (List V)) : It where
  go := fun j _ => j < rows.length
  yld := fun j H v H' => ∃ T row o, v = .ref T ∧ H T = none ∧ H' = upd H T (.frz o (.tup row)) ∧ o.dict = none ∧ rows[j]? = some row
  stop := fun j _ => rows.length ≤ j
def pickV (xs : List V) (ix : List Nat) : List V := ix.map fun i => xs.getD i .non
theorem pick_vals {xs : List V} {vs : List Value} (r : Vals xs vs) : ∀ ix : List Nat, Vals (pickV xs ix) (ix.map fun i => vs.toArray.getD i .none)
  | [] => .nil
  | i :: ix => by
    refine .cons ?_ (pick_vals r ix)
    have e : vs.toArray.getD i .none = vs.getD i .none := by simp [Array.getD_eq_getD_getElem?, List.getD_eq_getElem?_getD]
    show RelV (xs.getD i .non) (vs.toArray.getD i .none)
    rw [e]
    clear e
    induction r generalizing i with
    | nil => simp; rfl
    | cons h t ih => cases i with
      | zero => exact h
      | succ i => simpa using ih i
/-- where the walk stands behind j turns -/
def cmbAt (it pl : Addr) (R : List (List Nat)) (j : Nat) (h : Heap) : Prop :=
  (j = 0 ∧ ∃ ix, R[0]? = some ix ∧ IsCmb h it (.ref pl) 0 .none ix) ∨ ∃ k ix last, j = k + 1 ∧ R[k]? = some ix ∧ IsCmb h it (.ref pl) 1 last ix
theorem turn_cmb {Pg : Program} {wd : World} {K : PySem.W.Frag} {tg : Expr} (it pl : Addr) (vs : List Value) (xs : List V) (R : List (List Nat)) (rv : Vals xs vs) (ne : pl ≠ it) (chain : ∀ (i : Nat) m, R[i]? = some m → nextC vs.length m = R[i + 1]?) (r1 : ∀ m ∈ R, m.length ≤ 1000) (r0 : 0 < R.length) :
    Turn Pg wd K tg (ItC (R.map (pickV xs))) [it, pl] it (fun j h => cmbAt it pl R j h ∧ h.IsTuple pl vs.toArray) where
  mem := List.mem_cons_self
  obj := by
    rintro j h ⟨c, ⟨o, o1, o2, n, o3⟩⟩ b hb
    rcases List.mem_cons.mp hb with rfl | hb
    · rcases c with ⟨_, ix, _, e⟩ | ⟨k, ix, last, _, _, e⟩
      · exact ⟨_, e, fun v q => nomatch q⟩
      · exact ⟨_, e, fun v q => nomatch q⟩
    · rcases List.mem_singleton.mp hb with rfl
      exact ⟨o, o1, fun v q => by rw [o3] at q; cases q⟩
  keep := by
    rintro j h h' ⟨c, ⟨o, o1, o2⟩⟩ kp
    refine ⟨?_, ⟨o, kp pl (List.mem_cons_of_mem _ List.mem_cons_self) _ o1, o2⟩⟩
    rcases c with ⟨e0, ix, f, e⟩ | ⟨k, ix, last, e0, f, e⟩
    · exact .inl ⟨e0, ix, f, kp it List.mem_cons_self _ e⟩
    · exact .inr ⟨k, ix, last, e0, f, kp it List.mem_cons_self _ e⟩
  item := by
    rintro X rfl rfl rfl hc j pins s σ H Er I hf ⟨c, tp⟩ go
    have lj : j < R.length := by
      have : j < (R.map (pickV xs)).length := go
      rwa [List.length_map] at this
    obtain ⟨jx, fj⟩ : ∃ jx, R[j]? = some jx := ⟨_, List.getElem?_eq_getElem lj⟩
    have lz := r1 jx (List.mem_of_getElem? fj)
    have hn : H s.heap.objs.size = none := I.hok.fresh (Nat.le_refl _)
    have rj : (R.map (pickV xs))[j]? = some (pickV xs jx) := by rw [List.getElem?_map, fj]; rfl
    have fin : ∀ h', h'.get? s.heap.objs.size = some { cls := .type "tuple", data := .seq (jx.map fun i => vs.toArray.getD i .none).toArray } → IsCmb h' it (.ref pl) 1 (.ref s.heap.objs.size) jx → (∀ b o, b ≠ it → s.heap.get? b = some o → h'.get? b = some o) →
        ∃ u, some (Value.ref s.heap.objs.size) = some u ∧ wpAny (model X.prog X.w) X.A (letOwnedTupleGo tg (.ref it) u) (fun _ s2 => ∃ x H', Inv X pins σ H' s2 ∧ RelV x u ∧ (ItC (R.map (pickV xs))).yld j H x H' ∧ (cmbAt it pl R (j + 1) s2.heap ∧ s2.heap.IsTuple pl vs.toArray) ∧ ∀ b ∈ [it, pl], H' b = none) Er { s with heap := h' } := by
      intro h' a1 a2 a3
      refine ⟨_, rfl, go_of a2 rfl rfl (by decide) ?_⟩
      have kept : ∀ b ob, b ∉ [it, pl] → s.heap.get? b = some ob → h'.get? b = some ob := fun b ob nb q => a3 b ob (fun z => nb (by rw [z]; exact List.mem_cons_self)) q
      have rr := pick_vals rv jx
      have lr : (pickV xs jx).length ≤ sizeLine := by
        unfold pickV
        rw [List.length_map, sizeLine_eq]
        omega
      have new : ObjOk X.prog X.w (upd H s.heap.objs.size (.frz { cls := .type "tuple", data := .seq (jx.map fun i => vs.toArray.getD i .none).toArray } (.tup (pickV xs jx)))) h' s.heap.objs.size (.frz { cls := .type "tuple", data := .seq (jx.map fun i => vs.toArray.getD i .none).toArray } (.tup (pickV xs jx))) := ⟨a1, lr, _, rr, ⟨_, a1, rfl, _, rfl⟩⟩
      have J := I.turnedNew (ch := [it, pl]) (t' := s.toks) kept hf (Nat.le_refl _) new
      obtain ⟨o, o1, o2⟩ := tp
      refine ⟨.ref s.heap.objs.size, _, J, rfl, ⟨_, _, _, rfl, hn, rfl, rfl, rj⟩, ⟨.inr ⟨j, jx, _, rfl, fj, a2⟩, ⟨o, a3 pl o ne o1, o2⟩⟩, fun b hb => ?_⟩
      have lb : b < s.heap.objs.size := by
        rcases List.mem_cons.mp hb with rfl | hb
        · rcases c with ⟨_, ix, _, e⟩ | ⟨k, ix, last, _, _, e⟩
          · exact Heap.lt_size e
          · exact Heap.lt_size e
        · rcases List.mem_singleton.mp hb with rfl
          exact Heap.lt_size o1
      rw [upd_ne (Nat.ne_of_lt lb)]
      exact (hf b hb).1
    unfold pyNext
    refine wpAny_bind (wpAny_attempt ?_)
    rcases c with ⟨e0, ix, f, e⟩ | ⟨k, ix, last, e0, f, e⟩
    · subst e0
      rw [f] at fj
      cases fj
      exact first_cmb e tp lz ne fun h' a1 a2 a3 => wpAny_pure (fin h' a1 a2 a3)
    · subst e0
      have nx := chain k ix f
      rw [fj] at nx
      exact more_cmb e tp nx lz ne fun h' a1 a2 a3 => wpAny_pure (fin h' a1 a2 a3)
  done := by
    rintro X rfl rfl rfl hc j pins s σ H Er I hf ⟨c, tp⟩ st
    have lj : R.length ≤ j := by
      have : (R.map (pickV xs)).length ≤ j := st
      rwa [List.length_map] at this
    obtain ⟨f0, f1, f2, f3, f4, f5⟩ := hf it List.mem_cons_self
    unfold pyNext
    refine wpAny_bind (wpAny_attempt ?_)
    rcases c with ⟨e0, ix, f, e⟩ | ⟨k, ix, last, e0, f, e⟩
    · omega
    · subst e0
      have nx := chain k ix f
      rw [List.getElem?_eq_none lj] at nx
      refine end_cmb (I.ok.hd hc) e tp nx fun ee h' xs' k' => ?_
      obtain ⟨a, o, vs', rfl, x1, x2, _⟩ := xs'
      refine wpAny_bind (wpAny_isInstance (T := "StopIteration") (b := true) ⟨o, x1, x2⟩ isSubtype_stop (wpAny_pure ⟨rfl, ?_⟩))
      exact I.turned (t' := s.toks) (fun b o nb q => k' b o nb q) f0 f1 f3 f4 f5
  self := by
    rintro Ar j s R' Er ⟨c, _⟩ q
    rcases c with ⟨_, ix, _, e⟩ | ⟨k, ix, last, _, _, e⟩
    · exact iter_cmb e q
    · exact iter_cmb e q
/-- for x in combinations(l, r), l a list -/
def iCmb (K : PySem.W.Frag) (ta : TA) : TI := fun σ H R => ta σ H fun vs H1 => ∃ (a : Addr) (xs : List V) (r : Nat) (Rw : List (List Nat)), vs = [.ref a, .int (r : Nat)] ∧ SqL K H1 a xs ∧ r ≤ xs.length ∧ xs.length ≤ 1000 ∧ rowsC xs.length 100000 (List.range r) = some Rw ∧ (∀ m ∈ Rw, m.length ≤ 1000) ∧ R (ItC (Rw.map (pickV xs))) H1
theorem pi_cmb {X : Cx} {tg e f : Expr} {ta : TA} {p pos : Pos} (hg : Gl X "combinations") (hm : X.mg "combinations" = some (.type "itertools.combinations")) (ha : PA X [e, f] ta)
    (hs : starEach [e, f] X.env = (false, eval e X.env) :: starEach [f] X.env := by rfl) (hpl : (backTo pos (starEach [f] X.env)).any (·.1) = false := by rfl) :
    PI X tg (.Call (.Name "combinations" p) [e, f] [] pos) (iCmb X.K ta) := by
  refine ⟨fun pins s σ H R I h => ?_⟩
  refine Call_ (ld_glob I hg hm (PyProof.Rows.callWith_type1 (thn (ha.run pos pins s σ H _ I h) fun us s1 ⟨vs, H1, I1, r1, q1⟩ => ?_) hs hpl))
  obtain ⟨a, xs, r, Rw, ex, hq, hr, hz, hw, hl, q⟩ := q1
  subst ex
  cases r1 with
  | cons rv rr =>
    cases rr with
    | cons rv' rr =>
      cases rr
      cases rv
      obtain ⟨t, ru⟩ := rv'
      subst ru
      obtain ⟨its, rvs, p1, _⟩ := I1.list hq
      have el := rvs.length
      refine call_cmb (r := r) p1.isList (by omega) (by omega) fun h' pl it k f1 f2 ne e1 e2 => iter_cmb e2 ?_
      have I2 : Inv X pins σ H1 { s1 with heap := h' } := I1.kept (t' := s1.toks) k
      have lp : 0 < Rw.length := by
        have := rowsC_ne hw
        rcases Rw with _ | ⟨_, _⟩
        · cases this
        · exact Nat.succ_pos _
      refine ⟨it, [it, pl], _, _, H1, rfl, I2, turn_cmb it pl its xs Rw rvs ne (fun i m e => el ▸ rowsC_at hw i m e) hl lp, ⟨.inl ⟨rfl, _, rowsC_ne hw, e2⟩, ⟨_, e1, rfl, _, rfl⟩⟩, fun b hb => ?_, q⟩
      have f3 : s1.heap.objs.size ≤ b := by
        rcases List.mem_cons.mp hb with rfl | hb
        · exact f2
        · rcases List.mem_singleton.mp hb with rfl
          exact f1
      exact I1.fpOk f3 (I1.hok.fresh f3)
end EV
set_option Elab.async false
set_option linter.all false
set_option maxRecDepth 100000
set_option maxHeartbeats 4000000
namespace EV
open PySem PySem.Spec PyProof.Rows L2
theorem back_pick (xs : Array Value) : ((List.range xs.size).filterMap fun (m : Nat) => xs[(((xs.size : Int) - 1) + (m : Int) * (-1)).toNat]?).toArray = xs.toList.reverse.toArray := by
  have e : ((List.range xs.size).filterMap fun (m : Nat) => xs[(((xs.size : Int) - 1) + (m : Int) * (-1)).toNat]?) = ((List.range xs.size).map fun k => xs.size - 1 - k).filterMap (xs[·]?) := by
    rw [List.filterMap_map]
    have aux : ∀ (l : List Nat), (∀ m ∈ l, m < xs.size) → (l.filterMap fun (m : Nat) => xs[(((xs.size : Int) - 1) + (m : Int) * (-1)).toNat]?) = l.filterMap ((fun x => xs[x]?) ∘ fun k => xs.size - 1 - k) := by
      intro l hl
      induction l with
      | nil => rfl
      | cons m l ih =>
        have hm := hl m List.mem_cons_self
        rw [List.filterMap_cons, List.filterMap_cons, ih fun k hk => hl k (List.mem_cons_of_mem _ hk)]
        have e : (((xs.size : Int) - 1) + (m : Int) * (-1)).toNat = xs.size - 1 - m := by omega
        rw [e]
        rfl
    exact aux _ fun m hm => List.mem_range.mp hm
  rw [e, PySem.W.krv_range, List.filterMap_reverse, PySem.W.krv_all]
section
variable {prog : Program} {w : World} {A : Around} {E : Value → Shared → Prop} {s : Shared}
theorem applied_rev {sl : Addr} {vs : Value} {n : Nat} {Q : Int × Int × Nat → Shared → Prop} (hs : s.heap.IsSliceOf sl .none .none vs) (ps : IsPart vs (some (-1)))
    (h : Q ((n : Int) - 1, -1, n) s) : wpAny (model prog w) A (Builtin.Slice.sliceApplied (.ref sl) (pure (n : Int))) Q E s := by
  obtain ⟨os, hos, hcs, hds⟩ := id hs
  unfold Builtin.Slice.sliceApplied Builtin.Slice.sliceFields
  refine wpAny_bind (wpAny_bind (wpAny_field hos hds (x := .none) rfl (wpAny_bind (wpAny_field hos hds (x := .none) rfl (wpAny_bind (wpAny_field hos hds (x := vs) rfl (wpAny_pure ?_)))))))
  refine wpAny_bind (HT.slicePart_ ps ?_)
  show wpAny _ _ (if ((-1 : Int) == 0) = true then _ else _) _ _ s
  rw [if_neg (by decide)]
  refine wpAny_bind (HT.slicePart_ .none (wpAny_bind (HT.slicePart_ .none (wpAny_bind (wpAny_pure ?_)))))
  show wpAny _ _ (match Builtin.Slice.sliceAdjust none none (-1) (n : Int) with | (lo, hi) => pure (lo, (-1 : Int), Builtin.Slice.slicePlaces lo hi (-1))) _ _ s
  have e1 : Builtin.Slice.sliceAdjust none none (-1) (n : Int) = ((n : Int) - 1, -1) := by
    unfold Builtin.Slice.sliceAdjust
    simp
  rw [e1]
  have e2 : Builtin.Slice.slicePlaces ((n : Int) - 1) (-1) (-1) = n := by
    unfold Builtin.Slice.slicePlaces
    simp
    omega
  show wpAny _ _ (pure ((n : Int) - 1, (-1 : Int), Builtin.Slice.slicePlaces ((n : Int) - 1) (-1) (-1))) _ _ s
  rw [e2]
  exact wpAny_pure h
theorem getItem_tuple_rev {t sl : Addr} {items : Array Value} {vs : Value} {Q : Value → Shared → Prop} (ht : IsTup s.heap t items) (hs : s.heap.IsSliceOf sl .none .none vs) (ps : IsPart vs (some (-1)))
    (h : Q (.ref s.heap.objs.size) { s with heap := s.heap.push { cls := .type "tuple", data := .seq items.toList.reverse.toArray } })
    (hsz : items.size ≤ sizeLine) : wpAny (model prog w) A (getItem (.ref t) (.ref sl)) Q E s := by
  have htake : sizeOk (.seq items.toList.reverse.toArray) := by
    show items.toList.reverse.toArray.size ≤ sizeLine
    rw [List.size_toArray, List.length_reverse, Array.length_toList]
    exact hsz
  obtain ⟨os, hos, hcs, hds⟩ := id hs
  have hTs : s.TypeIs (.ref sl) "slice" := ⟨os, hos, hcs⟩
  unfold getItem
  try with_reducible refine wpAny_holding ?_
  first | refine wpAny_bind (wpAny_pure ?_) | skip
  refine wpAny_bind (wpAny_sequenceKey ht.typeIs (by decide) ?_)
  refine wpAny_bind (wpAny_callSpecial?_slot (name := Str.ofString "__getitem__") ht.typeIs PyProof.Rows.slot_tuple_getitem
    (wpAny_call_entry PyProof.Rows.slot_tuple_getitem ht.typeIs entry_tuple_getitem ?_ (args_tuple_getitem _ _)))
  show wpAny _ _ (Builtin.Tuple.tupleItemsOf (.ref t) >>= _) _ _ s
  refine wpAny_bind (tupleItemsOf_ ht ?_)
  refine wpAny_bind (wpAny_typeOf hTs ?_)
  rw [if_pos (by decide)]
  refine wpAny_bind (applied_rev hs ps ?_)
  have hno : ¬ ((((items.size : Int) - 1) == 0 && (-1 : Int) == 1 && items.size == items.size) = true) := by
    intro q
    rw [Bool.and_eq_true, Bool.and_eq_true] at q
    exact absurd q.1.2 (by decide)
  show wpAny _ _ (if (((items.size : Int) - 1) == 0 && (-1 : Int) == 1 && items.size == items.size) = true then _ else _) _ _ s
  rw [if_neg hno, back_pick]
  first
    | exact wpAny_bind (m := Builtin.Tuple.tupleExact _) (wpAny_newObj_type (wpAny_pure ⟨_, rfl, wpAny_pure h⟩) htake)
    | exact wpAny_bind (m := Builtin.Tuple.tupleExact _) (wpAny_newObj_type (wpAny_bind (wpAny_pure (wpAny_pure ⟨_, rfl, wpAny_pure h⟩))) htake)
    | exact wpAny_bind (wpAny_bind (m := Builtin.Tuple.tupleExact _) (wpAny_newObj_type (wpAny_pure (wpAny_pure ⟨_, rfl, wpAny_pure h⟩)) htake))
    | exact wpAny_bind (wpAny_bind (m := Builtin.Tuple.tupleExact _) (wpAny_newObj_type (wpAny_pure ⟨_, rfl, wpAny_pure h⟩) htake))
end
section
variable {X : Cx}
/-- x[::-1] of a list or a tuple: a new one -/
def tRevA (K : PySem.W.Frag) (te : TE) : TE := fun σ H Q => te σ H fun x H1 => ∃ a xs, x = .ref a ∧ ((SqL K H1 a xs ∧ ∀ p, H1 p = none → Q (.ref p) (upd H1 p (.lst xs.reverse))) ∨ (SqT K H1 a xs ∧ ∀ p, H1 p = none → Q (.ref p) (upd H1 p (.tup xs.reverse))))
theorem pe_revA {e : Expr} {te : TE} {k : Nat} {p1 p2 p3 pos : Pos} (he : PE X e te) : PE X (.Subscript e (.Slice none none (some (.UnaryOp .USub (.Constant (.int 1) k p1) p2)) p3) pos) (tRevA X.K te) := by
  refine ⟨fun pins s σ H Q I h => ?_⟩
  refine Subscript_ (thn (he.run pins s σ H _ I h) fun v s1 ⟨x, H1, I1, r1, q1⟩ => ?_)
  obtain ⟨a, xs, ex, q⟩ := q1
  subst ex
  cases r1
  have hst : PO X (some (.UnaryOp .USub (.Constant (.int 1) k p1) p2)) (tPart (tUn (rU fun i => .int (-i)) (tC (.int 1)))) := po_some (pe_un un_neg pe_int)
  refine wpAny_Slice ?_
  rw [evalPart_none]
  refine wpAny_pure (wpAny_pure ?_)
  refine thn (hst.run pins s1 σ H1 (fun o H4 => o = some (-1) ∧ H4 = H1) I1 ⟨1, rfl, -1, rfl, rfl, rfl⟩) fun vs s4 ⟨o, H4, I4, ps, eo, e4⟩ => ?_
  subst eo e4
  have I5 : Inv X pins σ H4 { s4 with heap := s4.heap.push { cls := .type "slice", data := .fields #[.none, .none, vs] } } := I4.kept (t' := s4.toks) fun b ob q => Heap.get?_push_of_some _ q
  show wpAny (model X.prog X.w) X.A (subscriptTail e (.Slice none none (some (.UnaryOp .USub (.Constant (.int 1) k p1) p2)) p3) (.ref a) (.ref s4.heap.objs.size)) (EP X pins σ Q) X.xe { s4 with heap := s4.heap.push { cls := .type "slice", data := .fields #[.none, .none, vs] } }
  rcases q with ⟨hx, q⟩ | ⟨hx, q⟩
  · obtain ⟨its, r, ht, hz⟩ := I5.list hx
    have hlen := r.length
    refine tail_any (ops := [.ref a, .ref s4.heap.objs.size]) ht.isList.typeIs (PySem.slot_list_getitem.lookup) ?_ (by with_unfolding_all rfl)
    refine wpAny_getItem_list_slice ht.isList (Heap.IsSliceOf.new _ .none .none vs) .none .none ps (by decide) ?_ (by rw [List.size_toArray]; omega)
    rw [PySem.W.krv_pick]
    refine ⟨.ref _, _, I5.laid (t' := s4.toks) (o := .lst xs.reverse) (fun b ob q => Heap.get?_push_of_some _ q) (Nat.le_refl _) ?_, rfl, q _ (I5.hok.fresh (Nat.le_refl _))⟩
    exact ⟨by rw [List.length_reverse]; exact hz, _, 0, r.reverse, Heap.get?_push_size _ rfl⟩
  · obtain ⟨its, r, ht, hz⟩ := I5.tuple hx
    have hlen := r.length
    refine tail_any (ops := [.ref a, .ref s4.heap.objs.size]) ht.typeIs (PyProof.Rows.slot_tuple_getitem.lookup) ?_ (by with_unfolding_all rfl)
    refine getItem_tuple_rev ht (Heap.IsSliceOf.new _ .none .none vs) ps ?_ (by rw [List.size_toArray]; omega)
    refine ⟨.ref _, _, I5.laid (t' := s4.toks) (o := .tup xs.reverse) (fun b ob q => Heap.get?_push_of_some _ q) (Nat.le_refl _) ?_, rfl, q _ (I5.hok.fresh (Nat.le_refl _))⟩
    exact ⟨by rw [List.length_reverse]; exact hz, _, r.reverse, IsTup.new _ _⟩
end
end EV
set_option Elab.async false
set_option linter.all false
set_option maxRecDepth 100000
set_option maxHeartbeats 4000000
namespace EV
open PySem PySem.Spec PyProof.Rows L2
theorem inv_atA {X : Cx} {pins : List (Addr × Obj)} {σ : L2.St} {H : Hp} {s : Shared} {A' : Around} (I : L2.Inv X pins σ H s) (hh : X.calm = true → A'.handled = none) (hf : A'.frames = X.A.frames) : L2.Inv { X with A := A' } pins σ H s :=
  { ok := { mod := I.ok.mod, kind := I.ok.kind, glob := I.ok.glob, blt := I.ok.blt, above := I.ok.above, inj := I.ok.inj, has := I.ok.has, cab := I.ok.cab, hd := hh, frames := hf.trans I.ok.frames, stk := I.ok.stk, exf := I.ok.exf, bs := I.ok.bs, bsz := I.ok.bsz, noex := I.ok.noex, exfs := I.ok.exfs, funs := I.ok.funs, frf := I.ok.frf }
    os := I.os, bare := I.bare, base := I.base, loc := I.loc, cell := I.cell, free := I.free, freeC := I.freeC, pin := I.pin, hok := I.hok, len := I.len }
/-- the loop that fills a list, over any iterator whose turns keep no tuple -/
theorem turn_loop {X : Cx} {A1 : Around} {J : It} {tg : Expr} {fp : List Addr} {it q : Addr} {tn : Nat → Heap → Prop} {n : Nat} {P : Nat → Hp → List V → Prop} {Rs : Result → Shared → Prop} {pins : List (Addr × Obj)} {σ : L2.St}
    (T : L2.Turn X.prog X.w X.K tg J fp it tn) (htg : ∀ u, letOwnedTupleGo tg (.ref it) u = pure ()) (hc : X.calm = true) (hf : A1.in1.frames = X.A.frames) (hh : A1.in1.handled = none)
    (hgo : ∀ i H xs, P i H xs → i < n → J.go i H) (hend : ∀ H xs, P n H xs → J.stop n H)
    (hst : ∀ i H xs x H2, P i H xs → i < n → J.yld i H x H2 → H q = some (.lst xs) → H2 q = some (.lst xs) ∧ xs.length < sizeLine ∧ P (i + 1) (upd H2 q (.lst (xs ++ [x]))) (xs ++ [x]))
    (hdone : ∀ H xs s, P n H xs → H q = some (.lst xs) → L2.Inv X pins σ H s → Rs (.ok (.ret .none)) s) :
    ∀ (k i : Nat) (H : Hp) (xs : List V) (s : Shared), n - i = k → i ≤ n → P i H xs → H q = some (.lst xs) → L2.Inv X pins σ H s → (∀ b ∈ fp, FpOk X pins H b) → tn i s.heap → codeAny (model X.prog X.w) A1 (.builtin "list.extend.loop" ⟨[.ref q, .ref it, .none], []⟩) Rs s := by
  intro k
  induction k with
  | zero =>
    intro i H xs s hk hi hP hq I hfp ht
    have e : i = n := by omega
    subst e
    refine codeAny_builtin PySem.F.entry_extend_loop ?_
    rw [Around.under_plainId PySem.F.plain_extend_loop _]
    show wpAny _ A1.in1 (pyNext (.ref it) >>= _) _ _ s
    have I1 := inv_atA (A' := A1.in1) I (fun _ => hh) hf
    refine wpAny_bind (wpAny_mono (T.done { X with A := A1.in1 } rfl rfl rfl hc i pins s σ H (fun e s' => Rs (.error e) s') I1 hfp ht (hend H xs hP)) (fun r s' hr => ?_) fun e s' he => he)
    obtain ⟨rfl, I2⟩ := hr
    exact wpAny_pure (hdone H xs s' hP hq (inv_atA (X := { X with A := A1.in1 }) (A' := X.A) I2 I.ok.hd hf.symm))
  | succ k ih =>
    intro i H xs s hk hi hP hq I hfp ht
    have lt : i < n := by omega
    refine codeAny_builtin PySem.F.entry_extend_loop ?_
    rw [Around.under_plainId PySem.F.plain_extend_loop _]
    show wpAny _ A1.in1 (pyNext (.ref it) >>= _) _ _ s
    have I1 := inv_atA (A' := A1.in1) I (fun _ => hh) hf
    refine wpAny_bind (wpAny_mono (T.item { X with A := A1.in1 } rfl rfl rfl hc i pins s σ H (fun e s' => Rs (.error e) s') I1 hfp ht (hgo i H xs hP lt)) (fun r s' hr => ?_) fun e s' he => he)
    obtain ⟨u, rfl, hr⟩ := hr
    rw [htg u] at hr
    show wpAny _ A1.in1 ((pure () : Sem Unit) >>= fun _ => (updateSeq q (·.push u) >>= _)) _ _ s'
    refine wpAny_bind (wpAny_mono hr (fun _ s2 hr2 => ?_) fun e s' he => he)
    obtain ⟨x, H2, I2, rx, y, ht2, fr2⟩ := hr2
    obtain ⟨q2, lx, hP2⟩ := hst i H xs x H2 hP lt y hq
    have I2 : L2.Inv X pins σ H2 s2 := inv_atA (X := { X with A := A1.in1 }) (A' := X.A) I2 I.ok.hd hf.symm
    obtain ⟨z, its, m, r2, hl, e⟩ := I2.lstM q2
    show wpAny _ A1.in1 (updateSeq q (·.push u) >>= _) _ _ s2
    have nq : ∀ b ∈ fp, b ≠ q := fun b hb e0 => by
      have := fr2 b hb
      rw [e0, q2] at this
      cases this
    refine wpAny_bind (wpAny_updateSeq e rfl (wpAny_pure ⟨plainId_quiet PySem.F.plain_extend_loop _, ?_⟩) (by rw [List.size_toArray]; omega) (by show (its.toArray.push u).size ≤ sizeLine + 1; rw [Array.size_push, List.size_toArray]; omega))
    refine ih (i + 1) _ (xs ++ [x]) _ (by omega) (by omega) hP2 upd_same (I2.lset (f := (·.push u)) (its' := its ++ [u]) (t' := s2.toks) q2 e (by simp) (r2.append (.cons rx .nil)) (by rw [List.length_append, List.length_singleton]; omega)) (fun b hb => ?_) (T.keep _ _ _ ht2 fun b hb o ho => ?_)
    · obtain ⟨_, f1⟩ := hfp b hb
      exact ⟨by rw [upd_ne (nq b hb)]; exact fr2 b hb, f1⟩
    · rw [Heap.get?_update_ne _ _ _ _ (nq b hb)]
      exact ho
end EV
set_option Elab.async false
set_option linter.all false
set_option maxRecDepth 100000
set_option maxHeartbeats 4000000
/-! list(it) of an iterator that hands out new tuples -/
namespace EV
open PySem PySem.Spec PyProof.Rows L2
/-- what stands behind list(it): new tuples, a new list of them -/
structure NewL (H H' : Hp) (q : Addr) (Ts : List Addr) (rows : List (List V)) : Prop where
  len : Ts.length = rows.length
  nd : Ts.Nodup
  qn : H q = none
  qT : q ∉ Ts
  new : ∀ T ∈ Ts, H T = none
  oth : ∀ b, b ≠ q → b ∉ Ts → H' b = H b
  lst : H' q = some (.lst (Ts.map V.ref))
  row : ∀ (j : Nat) T us, Ts[j]? = some T → rows[j]? = some us → ∃ o, H' T = some (.frz o (.tup us)) ∧ o.dict = none
structure Fill (X : Cx) (A : Around) (it q : Addr) (fp : List Addr) (rows : List (List V)) (tn : Nat → Hp → Heap → Prop) : Prop where
  keep : ∀ i H h H' h', tn i H h → (∀ b o, b ≠ q → H b = some o → H' b = some o) → (∀ b o, b ≠ q → h.get? b = some o → h'.get? b = some o) → tn i H' h'
  item : ∀ i us pins σ H s Q Er, rows[i]? = some us → (∃ l, H q = some (.lst l)) → L2.Inv { X with A := A } pins σ H s → (∀ b ∈ fp, FpOk X pins H b) → tn i H s.heap →
    (∀ T o H' s', H T = none → o.dict = none → H' = upd H T (.frz o (.tup us)) → L2.Inv { X with A := A } pins σ H' s' → tn (i + 1) H' s'.heap → (∀ b ∈ fp, H' b = none) → Q (some (.ref T)) s') →
    wpAny (model X.prog X.w) A (pyNext (.ref it)) Q Er s
  done : ∀ pins σ H s Q Er, X.calm = true → L2.Inv { X with A := A } pins σ H s → (∀ b ∈ fp, FpOk X pins H b) → tn rows.length H s.heap →
    (∀ s', L2.Inv { X with A := A } pins σ H s' → Q none s') → wpAny (model X.prog X.w) A (pyNext (.ref it)) Q Er s
theorem fill_loop {X : Cx} {A1 : Around} {it q : Addr} {fp : List Addr} {rows : List (List V)} {tn : Nat → Hp → Heap → Prop} {pins : List (Addr × Obj)} {σ : L2.St} {H0 : Hp} {Rs : Result → Shared → Prop}
    (T : Fill X A1.in1 it q fp rows tn) (hf : A1.in1.frames = X.A.frames) (hh : X.calm = true → A1.in1.handled = none) (hz : rows.length < sizeLine) (hq : q ∉ fp) (hc : X.calm = true)
    (hdone : ∀ H Ts s, NewL H0 H q Ts rows → L2.Inv X pins σ H s → Rs (.ok (.ret .none)) s) :
    ∀ (k i : Nat) (H : Hp) (Ts : List Addr) (s : Shared), rows.length - i = k → i ≤ rows.length → NewL H0 H q Ts (rows.take i) → L2.Inv X pins σ H s → (∀ b ∈ fp, FpOk X pins H b) → tn i H s.heap →
      codeAny (model X.prog X.w) A1 (.builtin "list.extend.loop" ⟨[.ref q, .ref it, .none], []⟩) Rs s := by
  intro k
  induction k with
  | zero =>
    intro i H Ts s hk hi hP I hfp ht
    have e : i = rows.length := by omega
    subst e
    rw [List.take_length] at hP
    refine codeAny_builtin PySem.F.entry_extend_loop ?_
    rw [Around.under_plainId PySem.F.plain_extend_loop _]
    show wpAny _ A1.in1 (pyNext (.ref it) >>= _) _ _ s
    refine wpAny_bind (T.done pins σ H s _ _ hc (inv_atA (A' := A1.in1) I hh hf) hfp ht fun s' I2 => ?_)
    exact wpAny_pure (hdone H Ts s' hP (inv_atA (X := { X with A := A1.in1 }) (A' := X.A) I2 I.ok.hd hf.symm))
  | succ k ih =>
    intro i H Ts s hk hi hP I hfp ht
    have lt : i < rows.length := by omega
    obtain ⟨us, hus⟩ : ∃ us, rows[i]? = some us := ⟨_, List.getElem?_eq_getElem lt⟩
    refine codeAny_builtin PySem.F.entry_extend_loop ?_
    rw [Around.under_plainId PySem.F.plain_extend_loop _]
    show wpAny _ A1.in1 (pyNext (.ref it) >>= _) _ _ s
    refine wpAny_bind (T.item i us pins σ H s _ _ hus ⟨_, hP.lst⟩ (inv_atA (A' := A1.in1) I hh hf) hfp ht fun T1 o1 H2 s2 hT od hu I2 ht2 fr2 => ?_)
    subst hu
    have I2 : L2.Inv X pins σ (upd H T1 (.frz o1 (.tup us))) s2 := inv_atA (X := { X with A := A1.in1 }) (A' := X.A) I2 I.ok.hd hf.symm
    have nTq : T1 ≠ q := fun e => by rw [e, hP.lst] at hT; cases hT
    have q2 : (upd H T1 (.frz o1 (.tup us))) q = some (.lst (Ts.map V.ref)) := by rw [upd_ne nTq.symm]; exact hP.lst
    have lT : Ts.length = i := by rw [hP.len, List.length_take]; omega
    obtain ⟨z, its, m, r2, hl, e⟩ := I2.lstM q2
    rw [List.length_map] at hl z
    have nq : ∀ b ∈ fp, b ≠ q := fun b hb e0 => hq (e0 ▸ hb)
    show wpAny _ A1.in1 (updateSeq q (·.push (.ref T1)) >>= _) _ _ s2
    refine wpAny_bind (wpAny_updateSeq e rfl (wpAny_pure ⟨plainId_quiet PySem.F.plain_extend_loop _, ?_⟩) (by rw [List.size_toArray]; omega) (by show (its.toArray.push _).size ≤ sizeLine + 1; rw [Array.size_push, List.size_toArray]; omega))
    have nT1 : T1 ∉ Ts := fun hm => by
      have hm' := hm
      obtain ⟨j, hj⟩ := List.getElem?_of_mem hm
      have lj := (List.getElem?_eq_some_iff.mp hj).1
      obtain ⟨us', hus'⟩ : ∃ us', (rows.take i)[j]? = some us' := ⟨_, List.getElem?_eq_getElem (by rw [← hP.len]; exact lj)⟩
      obtain ⟨o, r, _⟩ := hP.row j _ _ hj hus'
      rw [hT] at r
      cases r
    have hT0 : H0 T1 = none := by rw [← hP.oth T1 nTq nT1]; exact hT
    have et : rows.take (i + 1) = rows.take i ++ [us] := by rw [List.take_add_one, hus]; rfl
    refine ih (i + 1) (upd (upd H T1 (.frz o1 (.tup us))) q (.lst ((Ts ++ [T1]).map V.ref))) (Ts ++ [T1]) _ (by omega) (by omega) ?_ ?_ (fun b hb => ?_) ?_
    · refine ⟨by rw [et, List.length_append, List.length_append, hP.len]; rfl, ?_, hP.qn, ?_, ?_, fun b hb hT' => ?_, upd_same, fun j T us' hj hr => ?_⟩
      · rw [List.nodup_append]
        exact ⟨hP.nd, by simp, fun a ha b hb => by
          simp at hb
          subst hb
          exact fun e => nT1 (e ▸ ha)⟩
      · rw [List.mem_append]
        rintro (h | h)
        · exact hP.qT h
        · exact nTq (List.mem_singleton.mp h).symm
      · intro T hm
        rcases List.mem_append.mp hm with h | h
        · exact hP.new T h
        · rw [List.mem_singleton.mp h]; exact hT0
      · rw [upd_ne hb, upd_ne (fun e => hT' (by rw [e]; simp))]
        exact hP.oth b hb fun h => hT' (List.mem_append_left _ h)
      · have nTq' : T ≠ q := fun e => by
          rw [e] at hj
          have hm := List.mem_of_getElem? hj
          rcases List.mem_append.mp hm with h | h
          · exact hP.qT h
          · exact nTq (List.mem_singleton.mp h).symm
        rw [et] at hr
        by_cases lj : j < i
        · rw [List.getElem?_append_left (by omega)] at hj
          rw [List.getElem?_append_left (by rw [List.length_take]; omega)] at hr
          have old := hP.row j T us' hj hr
          have nT : T ≠ T1 := fun e => nT1 (e ▸ List.mem_of_getElem? hj)
          obtain ⟨o, r, od'⟩ := old
          exact ⟨o, by rw [upd_ne nTq', upd_ne nT]; exact r, od'⟩
        · have ej : j = i := by
            have := (List.getElem?_eq_some_iff.mp hj).1
            rw [List.length_append] at this
            simp at this
            omega
          subst ej
          rw [List.getElem?_append_right (by omega), lT, Nat.sub_self] at hj
          cases hj
          rw [List.getElem?_append_right (by rw [List.length_take]; omega), List.length_take, Nat.min_eq_left (by omega), Nat.sub_self] at hr
          cases hr
          exact ⟨o1, by rw [upd_ne nTq', upd_same], od⟩
    · rw [List.map_append]
      exact I2.lset (f := (·.push (.ref T1))) (its' := its ++ [.ref T1]) (t' := s2.toks) q2 e (by simp) (by rw [← List.map_append]; rw [List.map_append]; exact r2.append (.cons (show RelV (.ref T1) (.ref T1) from rfl) .nil)) (by simp; omega)
    · obtain ⟨_, f1⟩ := hfp b hb
      exact ⟨by rw [upd_ne (nq b hb)]; exact fr2 b hb, f1⟩
    · refine T.keep _ _ _ _ _ ht2 (fun b o hb h => by rw [upd_ne hb]; exact h) fun b o hb h => ?_
      show (s2.heap.update q _).get? b = some o
      rw [Heap.get?_update_ne _ _ _ _ hb]
      exact h
/-- list(it) -/
theorem call_list_fill {X : Cx} {Ty : String} {it : Addr} {fp : List Addr} {rows : List (List V)} {tn : Nat → Hp → Heap → Prop} {pins : List (Addr × Obj)} {σ : L2.St} {H : Hp} {s : Shared} {Q : Value → Shared → Prop} {Er : Value → Shared → Prop}
    (I : L2.Inv X pins σ H s) (hc : X.calm = true) (hl : typeLookup (.type Ty) "__len__" = pure none) (hn0 : typeLookup (.type Ty) "__length_hint__" = pure none)
    (h2 : (Value.type Ty == Value.type "list") = false) (h3 : (Value.type Ty == Value.type "tuple") = false)
    (ty : ∀ i H h, tn i H h → ∃ o, h.get? it = some o ∧ o.cls = .type Ty) (self : ∀ A s H Q E, tn 0 H s.heap → Q (.ref it) s → wpAny (model X.prog X.w) A (pyIter (.ref it)) Q E s)
    (T : Fill X X.A.in1.in1 it s.heap.objs.size fp rows tn) (hz : rows.length < sizeLine) (hq : ∀ b ∈ fp, b < s.heap.objs.size) (hfp : ∀ b ∈ fp, FpOk X pins H b) (hI : it ∈ fp) (ht : tn 0 H s.heap)
    (hQ : ∀ H' Ts s', NewL H H' s.heap.objs.size Ts rows → L2.Inv X pins σ H' s' → Q (.ref s.heap.objs.size) s') :
    wpAny (model X.prog X.w) X.A (call (.type "list") [.ref it]) Q Er s := by
  have hSf : s.heap.objs.size ∉ fp := fun hm => Nat.lt_irrefl _ (hq _ hm)
  have hSI : s.heap.objs.size ≠ it := fun e => hSf (e ▸ hI)
  refine callType_codes (Q₁ := fun obj s₁ => obj = .ref s.heap.objs.size ∧ s₁ = { s with heap := s.heap.push { cls := .type "list", data := .seq #[] } }) PySem.F.called_list (PySem.F.typeCall_list_1 _) PySem.F.entry_list_init
    (code_list_new _ ⟨rfl, rfl⟩) fun obj s₁ h₁ => ?_
  obtain ⟨rfl, rfl⟩ := h₁
  have hS : (s.heap.push { cls := .type "list", data := .seq #[] }).get? s.heap.objs.size = some { cls := .type "list", data := .seq #[] } := Heap.get?_push_size _ rfl
  refine ⟨⟨_, hS, rfl⟩, PySem.F.args_list_init_2 _ _, ?_⟩
  have I0 : L2.Inv X pins σ (upd H s.heap.objs.size (.lst [])) { s with heap := s.heap.push { cls := .type "list", data := .seq ([] : List Value).toArray }, toks := s.toks } := I.lnew .nil (by show 0 ≤ _; omega)
  have nq : ∀ b ∈ fp, b ≠ s.heap.objs.size := fun b hb e => hSf (e ▸ hb)
  have t1 : tn 0 (upd H s.heap.objs.size (.lst [])) (s.heap.push { cls := .type "list", data := .seq #[] }) := T.keep _ _ _ _ _ ht (fun b o hb h => by rw [upd_ne hb]; exact h) fun b o hb h => Heap.get?_push_of_some _ h
  show wpAny _ X.A.in1.in1 (do let old ← Builtin.List.listItems (.ref s.heap.objs.size); Builtin.List.listUpdate (.ref s.heap.objs.size) (fun _ => #[]); letGo old.toList.reverse; Builtin.List.listExtendWith (.ref s.heap.objs.size) (.ref it) .none) _ _ _
  refine wpAny_bind ?_
  unfold Builtin.List.listItems
  refine wpAny_bind (wpAny_seqItems hS rfl (wpAny_pure ?_))
  show wpAny _ X.A.in1.in1 (updateSeq s.heap.objs.size (fun _ => #[]) >>= fun _ => letGo (#[] : Array Value).toList.reverse >>= fun _ => Builtin.List.listExtendWith (.ref s.heap.objs.size) (.ref it) .none) _ _ _
  have I1 := I0.lset (f := fun _ => (#[] : Array Value)) (its' := []) (t' := s.toks) upd_same hS rfl .nil (by show 0 ≤ _; omega)
  refine wpAny_bind (wpAny_updateSeq hS rfl ?_)
  have hS1 := Heap.get?_update_self (Obj.mapSeq (fun _ => (#[] : Array Value))) hS rfl
  refine wpAny_bind (wpAny_letGo ?_)
  rw [upd_upd] at I1
  have t2 : tn 0 (upd H s.heap.objs.size (.lst [])) ((s.heap.push { cls := .type "list", data := .seq #[] }).update s.heap.objs.size (Obj.mapSeq (fun _ => (#[] : Array Value)))) := T.keep _ _ _ _ _ t1 (fun b o hb h => h) fun b o hb h => by
    rw [Heap.get?_update_ne _ _ _ _ hb]; exact h
  generalize (s.heap.push { cls := .type "list", data := .seq #[] }).update s.heap.objs.size (Obj.mapSeq (fun _ => (#[] : Array Value))) = h1 at hS1 I1 t2 ⊢
  unfold Builtin.List.listExtendWith
  obtain ⟨o, e1, e2⟩ := ty _ _ _ t2
  refine wpAny_bind (wpAny_typeOf (show Shared.TypeIs { s with heap := h1 } (.ref it) Ty from ⟨o, e1, e2⟩) ?_)
  have g1 : Builtin.List.listSameRef (.ref s.heap.objs.size) (.ref it) = false := by simp [Builtin.List.listSameRef, hSI]
  simp only [g1, h2, h3, Bool.or_false, Bool.false_eq_true, if_false]
  refine wpAny_bind (self _ _ _ _ _ t2 ?_)
  refine wpAny_bind (wpAny_holding ?_)
  unfold Builtin.List.listLengthHint
  refine wpAny_bind (wpAny_specialOf (show Shared.TypeIs { s with heap := h1 } (.ref it) Ty from ⟨o, e1, e2⟩) hl ?_)
  show wpAny _ _ (specialOf (Value.ref it) (Str.ofString "__length_hint__") >>= _) _ _ _
  refine wpAny_bind (wpAny_specialOf (show Shared.TypeIs { s with heap := h1 } (.ref it) Ty from ⟨o, e1, e2⟩) hn0 ?_)
  refine wpAny_pure ?_
  have fin : ∀ (h : Heap), L2.Inv X pins σ (upd H s.heap.objs.size (.lst [])) { s with heap := h, toks := s.toks } → tn 0 (upd H s.heap.objs.size (.lst [])) h →
      codeAny (model X.prog X.w) X.A.in1 (.builtin "list.extend.loop" ⟨[.ref s.heap.objs.size, .ref it, .none], []⟩) (wants (fun r s₂ => r = .none ∧ Q (.ref s.heap.objs.size) s₂) Er) { s with heap := h } := fun h J t =>
    fill_loop (H0 := H) T rfl (fun z => I.ok.hd z) hz hSf hc (fun H' Ts s' n J => ⟨rfl, hQ H' Ts s' n J⟩) rows.length 0 _ [] _ (by omega) (by omega)
      ⟨rfl, List.nodup_nil, I.fresh, by simp, by simp, fun b hb _ => upd_ne hb, upd_same, fun j T us hj => by simp at hj⟩ J
      (fun b hb => ⟨(upd_ne (nq b hb)).trans (hfp b hb).1, (hfp b hb).2⟩) t
  show wpAny _ _ (rule "list.extend.makes-room" >>= fun _ => Builtin.List.listTouch (.ref s.heap.objs.size) >>= fun _ =>
    again (.builtin "list.extend.loop" ⟨[.ref s.heap.objs.size, .ref it, .none], []⟩)) _ _ _
  refine wpAny_bind (wpAny_rule ?_)
  refine wpAny_bind ?_
  show wpAny _ _ (updateSeq s.heap.objs.size (·.push .none) >>= fun _ => updateSeq s.heap.objs.size (·.pop)) _ _ _
  refine wpAny_bind (wpAny_updateSeq hS1 rfl ?_)
  have hS2 := Heap.get?_update_self (Obj.mapSeq (·.push Value.none)) hS1 rfl
  refine wpAny_updateSeq (hz := by seq_fits) hS2 rfl ?_
  have hS3 := Heap.get?_update_self (Obj.mapSeq (·.pop)) hS2 rfl
  have oth : ∀ b o, b ≠ s.heap.objs.size → h1.get? b = some o → ((h1.update s.heap.objs.size (Obj.mapSeq (·.push Value.none))).update s.heap.objs.size (Obj.mapSeq (·.pop))).get? b = some o :=
    fun b o hb e => (Heap.get?_update_other _ _ (Ne.symm hb)).trans ((Heap.get?_update_other _ _ (Ne.symm hb)).trans e)
  refine wpAny_pure ⟨plainId_quiet PySem.F.plain_extend_loop _, fin _ ?_ (T.keep _ _ _ _ _ t2 (fun b o hb h => h) oth)⟩
  have J := I1.write (x := s.heap.objs.size) (e := s.heap.objs.size) (o := .lst []) (h' := (h1.update s.heap.objs.size (Obj.mapSeq (·.push Value.none))).update s.heap.objs.size (Obj.mapSeq (·.pop))) (t' := s.toks) (by rw [upd_same]; exact trivial) (.inl rfl) oth ⟨_, hS3⟩ ⟨by show 0 ≤ _; omega, [], _, .nil, hS3⟩
  rw [upd_upd] at J
  exact J
end EV
set_option Elab.async false
set_option linter.all false
set_option maxRecDepth 100000
set_option maxHeartbeats 4000000
/-! list(zip(l, m)) -/
namespace EV
open PySem PySem.Spec PyProof.Rows L2
theorem zip_no_len : typeLookup (.type "zip") "__len__" = pure none := am_miss_of_fast (by decide +kernel)
theorem zip_no_hint : typeLookup (.type "zip") "__length_hint__" = pure none := am_miss_of_fast (by decide +kernel)
def zipV (xs ys : List V) : List (List V) := (xs.zip ys).map fun p => [p.1, p.2]
theorem zipV_get {xs ys : List V} {i : Nat} {us : List V} (h : (zipV xs ys)[i]? = some us) : ∃ x y, xs[i]? = some x ∧ ys[i]? = some y ∧ us = [x, y] := by
  unfold zipV at h
  rw [List.getElem?_map] at h
  cases e : (xs.zip ys)[i]? with
  | none => rw [e] at h; cases h
  | some p =>
    rw [e] at h
    cases h
    rw [List.getElem?_zip_eq_some] at e
    exact ⟨p.1, p.2, e.1, e.2, rfl⟩
theorem zipV_len {xs ys : List V} : (zipV xs ys).length = min xs.length ys.length := by
  unfold zipV
  rw [List.length_map, List.length_zip]
def tnZip (K : PySem.W.Frag) (q z TI TO i1 i2 a b : Addr) (xs ys : List V) (i : Nat) (H : Hp) (h : Heap) : Prop :=
  SqL K H a xs ∧ SqL K H b ys ∧ IsPair h TI (.ref i1) (.ref i2) ∧ h.IsListIter i1 a i ∧ h.IsListIter i2 b i ∧ (∃ x y, IsPair h TO x y) ∧
    (IsZip h z TI TO .none ∨ ∃ T f us, IsZipHeld h z TI TO T f ∧ Rd H T (.tup us) ∧ T ≠ q)
theorem sqL_mono {K : PySem.W.Frag} {H H' : Hp} {q a : Addr} {xs : List V} (h : SqL K H a xs) (ne : a ≠ q) (k : ∀ b o, b ≠ q → H b = some o → H' b = some o) : SqL K H' a xs := by
  rcases h with h | h
  · rcases h with h | ⟨o, h⟩
    · exact .inl (.inl (k _ _ ne h))
    · exact .inl (.inr ⟨o, k _ _ ne h⟩)
  · exact .inr h
theorem rd_mono {H H' : Hp} {q a : Addr} {u : HO} (h : Rd H a u) (ne : a ≠ q) (k : ∀ b o, b ≠ q → H b = some o → H' b = some o) : Rd H' a u := by
  rcases h with h | ⟨o, h⟩
  · exact .inl (k _ _ ne h)
  · exact .inr ⟨o, k _ _ ne h⟩
theorem rd_some {H : Hp} {a : Addr} {u : HO} (h : Rd H a u) : ∃ o, H a = some o := by
  rcases h with h | ⟨o, h⟩
  · exact ⟨_, h⟩
  · exact ⟨_, h⟩
theorem fill_zip {X : Cx} {A : Around} (hh : X.calm = true → A.handled = none) {q z TI TO i1 i2 a b : Addr} {xs ys : List V} (D : ZipApart z TI TO i1 i2 a b) (qz : z ≠ q) (qI : TI ≠ q) (qO : TO ≠ q) (q1 : i1 ≠ q) (q2 : i2 ≠ q) (qa : a ≠ q) (qb : b ≠ q) :
    Fill X A z q [z, TI, TO, i1, i2] (zipV xs ys) (tnZip X.K q z TI TO i1 i2 a b xs ys) where
  keep := by
    rintro i H h H' h' ⟨sa, sb, hI, h1, h2, ⟨x0, y0, hO⟩, c⟩ k k'
    refine ⟨sqL_mono sa qa k, sqL_mono sb qb k, k' _ _ qI hI, h1.at fun o e => k' _ o q1 e, h2.at fun o e => k' _ o q2 e, ⟨x0, y0, k' _ _ qO hO⟩, ?_⟩
    rcases c with hz | ⟨T, f, us, hz, hT, nT⟩
    · exact .inl (k' _ _ qz hz)
    · exact .inr ⟨T, f, us, k' _ _ qz hz, rd_mono hT nT k, nT⟩
  item := by
    rintro i us pins σ H s Q Er hr ⟨lq, hq⟩ I hfp ⟨sa, sb, hI, h1, h2, ⟨x0, y0, hO⟩, c⟩ hQ
    obtain ⟨x, y, ex, ey, rfl⟩ := zipV_get hr
    obtain ⟨its, rv, p1, _⟩ := I.list sa
    obtain ⟨its2, rv2, p2, _⟩ := I.list sb
    obtain ⟨u, hu, ru⟩ := rv.get ex
    obtain ⟨u2, hu2, ru2⟩ := rv2.get ey
    have hn : H s.heap.objs.size = none := I.fresh
    have nq : s.heap.objs.size ≠ q := fun e => by rw [e, hq] at hn; cases hn
    have fp' : ∀ c ∈ [z, TI, TO, i1, i2], FpOk { X with A := A } pins H c := hfp
    have l1 : i1 < s.heap.objs.size := by obtain ⟨o, e, _⟩ := id h1; exact Heap.lt_size e
    have l2 : i2 < s.heap.objs.size := by obtain ⟨o, e, _⟩ := id h2; exact Heap.lt_size e
    have lI : TI < s.heap.objs.size := Heap.lt_size hI
    have fin : ∀ h', (∀ c o, c ∉ [z, TI, TO, i1, i2] → s.heap.get? c = some o → h'.get? c = some o) → IsPair h' s.heap.objs.size u u2 →
        L2.Inv { X with A := A } pins σ (upd H s.heap.objs.size (.frz { cls := .type "tuple", data := .seq #[u, u2] } (.tup [x, y]))) { s with heap := h', toks := s.toks } := fun h' kp pr =>
      I.turnedNew (t' := s.toks) (ch := [z, TI, TO, i1, i2]) kp fp' (Nat.le_refl _) ⟨pr, by show 2 ≤ sizeLine; decide, [u, u2], .cons ru (.cons ru2 .nil), ⟨_, pr, rfl, _, rfl⟩⟩
    have ku : ∀ c o, c ≠ s.heap.objs.size → H c = some o → (upd H s.heap.objs.size (.frz { cls := .type "tuple", data := .seq #[u, u2] } (.tup [x, y]))) c = some o := fun c o hc h => by rw [upd_ne hc]; exact h
    have up : ∀ c xs', SqL X.K H c xs' → SqL X.K (upd H s.heap.objs.size (.frz { cls := .type "tuple", data := .seq #[u, u2] } (.tup [x, y]))) c xs' := fun c xs' h => by
      rcases h with h | h
      · rcases h with h | ⟨o, h⟩
        · exact .inl (.inl (ku _ _ (ne_of_none h hn) h))
        · exact .inl (.inr ⟨o, ku _ _ (ne_of_none h hn) h⟩)
      · exact .inr h
    have lO : TO < s.heap.objs.size := Heap.lt_size hO
    have lz : z < s.heap.objs.size := by
      rcases c with h | ⟨_, _, _, h, _⟩
      · exact Heap.lt_size h
      · exact Heap.lt_size h
    have frn : ∀ c ∈ [z, TI, TO, i1, i2], c < s.heap.objs.size → (upd H s.heap.objs.size (.frz { cls := .type "tuple", data := .seq #[u, u2] } (.tup [x, y]))) c = none := fun c hc lc => by
      rw [upd_ne (Nat.ne_of_lt lc)]
      exact (hfp c hc).1
    rcases c with hz | ⟨T, f, us', hz, hT, nT⟩
    · refine wpAny_pyNext_zip_item D hz hI hO h1 h2 p1.isList p2.isList (x := u) (y := u2) (by simpa using hu) (by simpa using hu2) fun h' a1 a2 a3 a4 a5 a6 hk => ?_
      refine hQ s.heap.objs.size { cls := .type "tuple", data := .seq #[u, u2] } (upd H s.heap.objs.size (.frz { cls := .type "tuple", data := .seq #[u, u2] } (.tup [x, y]))) { s with heap := h' } hn rfl rfl (fin h' (fun c o hc e => hk c o (fun q' => hc (by simp [q'])) (fun q' => hc (by simp [q'])) (fun q' => hc (by simp [q'])) (fun q' => hc (by simp [q'])) e) a5) ⟨up _ _ sa, up _ _ sb, hk _ _ D.TIz D.TITO D.TIi1 D.TIi2 hI, a3, a4, ⟨_, _, a2⟩, .inr ⟨s.heap.objs.size, false, [x, y], a1, .inr ⟨_, upd_same⟩, nq⟩⟩ fun c hc => ?_
      refine frn c hc ?_
      simp only [List.mem_cons, List.not_mem_nil, or_false] at hc
      rcases hc with e | e | e | e | e <;> subst e <;> assumption
    · obtain ⟨oT, eT⟩ := rd_some hT
      have nfT : ∀ c ∈ [z, TI, TO, i1, i2], T ≠ c := fun c hc e => by
        have := (hfp c hc).1
        rw [← e, eT] at this
        cases this
      have hv : ∃ o, s.heap.get? T = some o := by
        obtain ⟨_, _, _, o, e, _⟩ := hT.ok I.hok
        exact ⟨o, e⟩
      obtain ⟨oT', hTh⟩ := hv
      refine wpAny_pyNext_zip_item_held D hz hTh hI h1 h2 p1.isList p2.isList (x := u) (y := u2) (by simpa using hu) (by simpa using hu2) fun h' a1 a3 a4 a5 a6 hk => ?_
      have nu : (s.heap.objs.size : Addr) ≠ T := fun e => by rw [e] at hn; rw [hn] at eT; cases eT
      refine hQ s.heap.objs.size { cls := .type "tuple", data := .seq #[u, u2] } (upd H s.heap.objs.size (.frz { cls := .type "tuple", data := .seq #[u, u2] } (.tup [x, y]))) { s with heap := h' } hn rfl rfl (fin h' (fun c o hc e => hk c o (fun q' => hc (by simp [q'])) (fun q' => hc (by simp [q'])) (fun q' => hc (by simp [q'])) e) a5) ⟨up _ _ sa, up _ _ sb, hk _ _ D.TIz D.TIi1 D.TIi2 hI, a3, a4, ⟨_, _, hk _ _ D.TOz D.TOi1 D.TOi2 hO⟩, .inr ⟨T, true, us', a1, ?_, nT⟩⟩ fun c hc => ?_
      · rcases hT with h | ⟨o, h⟩
        · exact .inl (ku _ _ nu.symm h)
        · exact .inr ⟨o, ku _ _ nu.symm h⟩
      · refine frn c hc ?_
        simp only [List.mem_cons, List.not_mem_nil, or_false] at hc
        rcases hc with e | e | e | e | e <;> subst e <;> assumption
  done := by
    rintro pins σ H s Q Er hc I hfp ⟨sa, sb, hI, h1, h2, ⟨x0, y0, hO⟩, c⟩ hQ
    obtain ⟨its, rv, p1, _⟩ := I.list sa
    obtain ⟨its2, rv2, p2, _⟩ := I.list sb
    have fp' : ∀ c ∈ [z, TI, TO, i1, i2], FpOk { X with A := A } pins H c := hfp
    have e1 := rv.length
    have e2 := rv2.length
    rw [zipV_len] at h1 h2
    have hend : its.toArray[min xs.length ys.length]? = none ∨ its2.toArray[min xs.length ys.length]? = none := by
      rcases Nat.le_total xs.length ys.length with h | h
      · exact .inl (by simp; omega)
      · exact .inr (by simp; omega)
    rcases c with hz | ⟨T, f, us', hz, hT, nT⟩
    · exact wpAny_pyNext_zip_end (hh hc) D hz hI hO h1 h2 p1.isList p2.isList hend fun h' hk => hQ _ (I.turnedL (t' := s.toks) (ch := [z, TI, TO, i1, i2]) (fun c o hb q =>
        hk c o (fun q' => hb (by simp [q'])) (fun q' => hb (by simp [q'])) (fun q' => hb (by simp [q'])) (fun q' => hb (by simp [q'])) q) fp')
    · have hv : ∃ o, s.heap.get? T = some o := by
        obtain ⟨_, _, _, o, e, _⟩ := hT.ok I.hok
        exact ⟨o, e⟩
      obtain ⟨oT', hTh⟩ := hv
      exact wpAny_pyNext_zip_end_held (hh hc) D hz hTh hI h1 h2 p1.isList p2.isList hend fun h' hk => hQ _ (I.turnedL (t' := s.toks) (ch := [z, TI, TO, i1, i2]) (fun c o hb q =>
        hk c o (fun q' => hb (by simp [q'])) (fun q' => hb (by simp [q'])) (fun q' => hb (by simp [q'])) q) fp')
theorem iter_held {prog : Program} {w : World} {A : Around} {E : Value → Shared → Prop} {s : Shared} {z TI TO T : Addr} {f : Bool} {Q : Value → Shared → Prop} (hz : IsZipHeld s.heap z TI TO T f) (h : Q (.ref z) s) : wpAny (model prog w) A (pyIter (.ref z)) Q E s := by
  have hT : s.TypeIs (.ref z) "zip" := ⟨_, hz, rfl⟩
  refine wpAny_pyIter_slot hT PySem.F.slot_zip_iter (wpAny_call_entry PySem.F.slot_zip_iter hT PySem.F.entry_zip_iter ?_ (PySem.F.args_zip_iter_1 _))
  show wpAny _ _ (ret (.ref z)) _ _ s
  exact wpAny_pure ⟨_, rfl, "zip", _, hT, PySem.F.slot_zip_next.lookup, h⟩
def tLstZip (K : PySem.W.Frag) (ta : TA) : TE := fun σ H Q => ta σ H fun vs H1 => ∃ a b xs ys, vs = [.ref a, .ref b] ∧ SqL K H1 a xs ∧ SqL K H1 b ys ∧ xs.length < sizeLine ∧ ∀ H' q Ts, NewL H1 H' q Ts (zipV xs ys) → Q (.ref q) H'
theorem pe_listZip {X : Cx} {e e2 : Expr} {ta : TA} {p p2 pos pos2 : Pos} (hc : X.calm = true) (hg : Gl X "list") (hm : X.mg "list" = none) (hg2 : Gl X "zip") (hm2 : X.mg "zip" = none) (ha : PA X [e, e2] ta)
    (na : starEach [.Call (.Name "zip" p2) [e, e2] [] pos2] X.env = (false, eval (.Call (.Name "zip" p2) [e, e2] [] pos2) X.env) :: starEach [] X.env := by rfl)
    (hs : starEach [e, e2] X.env = (false, eval e X.env) :: starEach [e2] X.env := by rfl) (hpl : (backTo pos2 (starEach [e2] X.env)).any (·.1) = false := by rfl) :
    PE X (.Call (.Name "list" p) [.Call (.Name "zip" p2) [e, e2] [] pos2] [] pos) (tLstZip X.K ta) := by
  refine ⟨fun pins s σ H Q I h => ?_⟩
  have inner : wpAny (model X.prog X.w) X.A (eval (.Call (.Name "zip" p2) [e, e2] [] pos2) X.env) (fun x s' => ∃ z TI TO i1 i2 a b xs ys H1, x = .ref z ∧ ZipApart z TI TO i1 i2 a b ∧ a < s'.heap.objs.size ∧ b < s'.heap.objs.size ∧ L2.Inv X pins σ H1 s' ∧ (∀ q, tnZip X.K q z TI TO i1 i2 a b xs ys 0 H1 s'.heap) ∧
      (∀ c ∈ [z, TI, TO, i1, i2], FpOk X pins H1 c ∧ c < s'.heap.objs.size) ∧ xs.length < sizeLine ∧ ∀ H' q Ts, NewL H1 H' q Ts (zipV xs ys) → Q (.ref q) H') X.xe s := by
    refine Call_ (ld_blt I hg2 hm2 PyProof.Rows.boot_zip (PyProof.Rows.callWith_type1 (thn (ha.run pos2 pins s σ H _ I h) fun us s1 ⟨vs, H1, I1, r1, q1⟩ => ?_) hs hpl))
    obtain ⟨a, b, xs, ys, ex, hqx, hqy, lx, q⟩ := q1
    subst ex
    cases r1 with
    | cons r rr =>
      cases rr with
      | cons r' rr =>
        cases rr
        cases r
        cases r'
        obtain ⟨its, rv, p1, _⟩ := I1.list hqx
        obtain ⟨its2, rv2, p2, _⟩ := I1.list hqy
        refine call_zip_2 p1.isList p2.isList fun h' hz hTI hTO h1 h2 hsz hk => ?_
        have I2 : L2.Inv X pins σ H1 { s1 with heap := h' } := I1.kept (t' := s1.toks) hk
        refine ⟨_, _, _, _, _, a, b, xs, ys, H1, rfl, PySem.W.ktu_apart s1.heap.objs.size a b p1.lt p2.lt, ?_, ?_, I2, fun q => ⟨hqx, hqy, hTI, h1, h2, ⟨_, _, hTO⟩, .inl hz⟩, fun c hcm => ?_, lx, q⟩
        · show a < h'.objs.size; rw [hsz]; exact Nat.lt_of_lt_of_le p1.lt (Nat.le_add_right _ _)
        · show b < h'.objs.size; rw [hsz]; exact Nat.lt_of_lt_of_le p2.lt (Nat.le_add_right _ _)
        · have e' : c = s1.heap.objs.size + 4 ∨ c = s1.heap.objs.size + 2 ∨ c = s1.heap.objs.size + 3 ∨ c = s1.heap.objs.size ∨ c = s1.heap.objs.size + 1 := by simpa using hcm
          have hle : s1.heap.objs.size ≤ c := by rcases e' with z | z | z | z | z <;> rw [z] <;> first | exact Nat.le_add_right _ _ | exact Nat.le_refl _
          exact ⟨I1.fpOk hle (I1.hok.fresh hle), by show c < h'.objs.size; rw [hsz]; rcases e' with z | z | z | z | z <;> rw [z] <;> first | exact Nat.lt_add_of_pos_right (by decide) | exact Nat.add_lt_add_left (by decide) _⟩
  refine Call_ (ld_blt I hg hm boot_list (PyProof.Rows.callWith_type1 (args_cons (thn inner fun x s1 ⟨z, TI, TO, i1, i2, a, b, xs, ys, H1, ex, D, la, lb, I1, t0, hf, lx, q⟩ => args_nil ?_) na) na))
  subst ex
  have nz : ∀ c ∈ [z, TI, TO, i1, i2], c ≠ s1.heap.objs.size := fun c hc => Nat.ne_of_lt (hf c hc).2
  refine call_list_fill I1 hc zip_no_len zip_no_hint (by decide) (by decide) (tn := tnZip X.K s1.heap.objs.size z TI TO i1 i2 a b xs ys) (fun i H h t => ?_) (fun A s H Q E t h => ?_)
    (fill_zip (A := X.A.in1.in1) (xs := xs) (ys := ys) (fun z => I1.ok.hd z) D (nz _ (by simp)) (nz _ (by simp)) (nz _ (by simp)) (nz _ (by simp)) (nz _ (by simp)) (Nat.ne_of_lt la) (Nat.ne_of_lt lb)) (by rw [zipV_len]; omega) (fun c hc => (hf c hc).2) (fun c hc => (hf c hc).1) (by simp) (t0 _) fun H' Ts s' n J => ?_
  · obtain ⟨_, _, _, _, _, _, c⟩ := t
    rcases c with hz | ⟨T, f, us, hz, _⟩
    · exact ⟨_, hz, rfl⟩
    · exact ⟨_, hz, rfl⟩
  · obtain ⟨_, _, _, _, _, _, c⟩ := t
    rcases c with hz | ⟨T, f, us, hz, _⟩
    · exact wpAny_pyIter_zip hz h
    · exact iter_held hz h
  · exact ⟨.ref s1.heap.objs.size, H', J, rfl, q H' _ Ts n⟩
end EV
set_option Elab.async false
set_option linter.all false
set_option maxRecDepth 100000
set_option maxHeartbeats 4000000
/-! permutations(l, r) -/
namespace EV
open PySem PySem.Spec PyProof.Rows L2
namespace F2
theorem mro_prm : mroOf (.type "itertools.permutations") = pure [.type "itertools.permutations", .type "object"] := by rw [mroOf_type]; kernel_rfl
theorem new_prm : typeLookup (.type "itertools.permutations") "__new__" = pure (some (.builtin "itertools.permutations.__new__")) := by rw [typeLookup_type, builtinLookup_eq_fast]; kernel_rfl
theorem sub_prm : isSubtype (.type "itertools.permutations") (.type "itertools.permutations") = pure true := by rw [isSubtype_type]; kernel_rfl
theorem init_prm : Slot "itertools.permutations" "__init__" "object.__init__" := .of (owner := "object") (n := "__init__") (by rw [typeLookup_type, builtinLookup_eq_fast]; kernel_rfl) (by decide +kernel) (by decide +kernel) (by decide +kernel) (by first | exact .inl (by decide +kernel) | exact .inr (by decide +kernel)) (by rw [isSubtype_type]; kernel_rfl)
theorem called_prm : TypeCalled "itertools.permutations" "itertools.permutations.__new__" "object.__init__" := ⟨by decide +kernel, by decide +kernel, ⟨_, _, mro_prm⟩, madeBy_type mro_prm new_prm (by decide +kernel), by decide +kernel, sub_prm, init_prm⟩
theorem type_prm (a b : Value) : checkTypeCall "itertools.permutations" ⟨[a, b], []⟩ = pure () := by kernel_rfl
theorem newc_prm (a b : Value) : checkBuiltinCall "itertools.permutations.__new__" ⟨[.type "itertools.permutations", a, b], []⟩ = pure () := by kernel_rfl
theorem e_new_prm : entryFor table "itertools.permutations.__new__" = some Builtin.«itertools.permutations.__new__» := entryFor_of_tree (by kernel_rfl)
theorem iter_prm : Slot "itertools.permutations" "__iter__" "itertools.permutations.__iter__" := .of (owner := "itertools.permutations") (n := "__iter__") (by rw [typeLookup_type, builtinLookup_eq_fast]; kernel_rfl) (by decide +kernel) (by decide +kernel) (by decide +kernel) (by first | exact .inl (by decide +kernel) | exact .inr (by decide +kernel)) sub_prm
theorem next_prm : Slot "itertools.permutations" "__next__" "itertools.permutations.__next__" := .of (owner := "itertools.permutations") (n := "__next__") (by rw [typeLookup_type, builtinLookup_eq_fast]; kernel_rfl) (by decide +kernel) (by decide +kernel) (by decide +kernel) (by first | exact .inl (by decide +kernel) | exact .inr (by decide +kernel)) sub_prm
theorem e_iter_prm : entryFor table "itertools.permutations.__iter__" = some Builtin.«dict_keyiterator.__iter__» := entryFor_alias (id' := "dict_keyiterator.__iter__") (by kernel_rfl) (by first | rfl | decide +kernel | (unfold String.splitOn; simp +decide [String.splitOnAux])) (by decide +kernel) (by kernel_rfl)
theorem e_next_prm : entryFor table "itertools.permutations.__next__" = some Builtin.«itertools.permutations.__next__» := entryFor_of_tree (by kernel_rfl)
theorem own_prm : Manifest.owners.lookup (String.ofList "itertools.permutations".toList) = some Manifest.sig_itertools_permutations := by kernel_rfl
theorem a_iter_prm (a : Value) : argsOk "itertools.permutations.__iter__" ⟨[a], []⟩ := by
  unfold argsOk; rw [signature?_of (id := "itertools.permutations.__iter__") (n := "__iter__".toList.reverse) (o := "itertools.permutations".toList.reverse) (by kernel_rfl) own_prm]; kernel_rfl
theorem a_next_prm (a : Value) : argsOk "itertools.permutations.__next__" ⟨[a], []⟩ := by
  unfold argsOk; rw [signature?_of (id := "itertools.permutations.__next__") (n := "__next__".toList.reverse) (o := "itertools.permutations".toList.reverse) (by kernel_rfl) own_prm]; kernel_rfl
theorem nd_prm : typeHasDict (.type "itertools.permutations") = false := by decide +kernel
end F2
end EV
set_option Elab.async false
set_option linter.all false
set_option maxRecDepth 100000
set_option maxHeartbeats 4000000
namespace EV
open PySem PySem.Spec PyProof.Rows L2
/-- the places behind some places, in the order of permutations -/
def nextP (n : Nat) : (place : Nat) → (indices cycles : List Nat) → Option (List Nat × List Nat)
  | 0, _, _ => none
  | i + 1, indices, cycles =>
    let c := cycles.getD i 0 - 1
    if c == 0 then nextP n i (indices.take i ++ indices.drop (i + 1) ++ [indices.getD i 0]) (cycles.set i (n - i))
    else some ((indices.set i (indices.getD (n - c) 0)).set (n - c) (indices.getD i 0), cycles.set i c)
theorem nextP_of (f : Nat → Nat → List Nat → List Nat → Option (List Nat × List Nat)) (h0 : ∀ n a b, f n 0 a b = none)
    (h1 : ∀ n i indices cycles, f n (i + 1) indices cycles = (let c := cycles.getD i 0 - 1
      if c == 0 then f n i (indices.take i ++ indices.drop (i + 1) ++ [indices.getD i 0]) (cycles.set i (n - i))
      else some ((indices.set i (indices.getD (n - c) 0)).set (n - c) (indices.getD i 0), cycles.set i c))) :
    ∀ (n i : Nat) (a b : List Nat), nextP n i a b = f n i a b
  | n, 0, a, b => (h0 n a b).symm
  | n, i + 1, a, b => by
    rw [h1]
    show (let c := b.getD i 0 - 1
      if c == 0 then nextP n i (a.take i ++ a.drop (i + 1) ++ [a.getD i 0]) (b.set i (n - i))
      else some ((a.set i (a.getD (n - c) 0)).set (n - c) (a.getD i 0), b.set i c)) = _
    dsimp only
    rw [nextP_of f h0 h1 n i]
def rowsP (n r : Nat) : Nat → List Nat × List Nat → Option (List (List Nat × List Nat))
  | 0, _ => none
  | f + 1, p => match nextP n r p.1 p.2 with
    | some m => (match rowsP n r f m with | some l => some (p :: l) | none => none)
    | none => some [p]
theorem rowsP_ne {n r : Nat} : ∀ {f : Nat} {p : List Nat × List Nat} {l : List (List Nat × List Nat)}, rowsP n r f p = some l → l[0]? = some p
  | 0, _, _, e => by cases e
  | f + 1, p, l, e => by
    unfold rowsP at e
    split at e
    · split at e
      · cases e; rfl
      · cases e
    · cases e; rfl
theorem rowsP_at {n r : Nat} : ∀ {f : Nat} {p : List Nat × List Nat} {l : List (List Nat × List Nat)}, rowsP n r f p = some l → ∀ (i : Nat) m, l[i]? = some m → nextP n r m.1 m.2 = l[i + 1]?
  | 0, _, _, e, _, _, _ => by cases e
  | f + 1, p, l, e, i, m, h => by
    unfold rowsP at e
    split at e
    · rename_i q e1
      split at e
      · rename_i r' e2
        cases e
        cases i with
        | zero =>
          cases h
          rw [e1]
          exact (rowsP_ne e2).symm
        | succ i => exact rowsP_at e2 i m h
      · cases e
    · rename_i e1
      cases e
      cases i with
      | zero => cases h; exact e1
      | succ i => cases h
def prm0 (n r : Nat) : List Nat × List Nat := (List.range n, (List.range r).map fun i => n - i)
abbrev IsPrm (h : Heap) (it : Addr) (p : Value) (st : Int) (r : Nat) (last : Value) (ix : List Nat) : Prop := h.get? it = some { cls := .type "itertools.permutations", dict := none, data := .fields ([p, rawInt st, rawInt (r : Nat), last] ++ nats ix).toArray, slots := #[] }
section
variable {prog : Program} {w : World} {A : Around} {E : Value → Shared → Prop} {s : Shared}
theorem iter_prm {it : Addr} {p last : Value} {st : Int} {r : Nat} {ix : List Nat} {Q : Value → Shared → Prop} (hit : IsPrm s.heap it p st r last ix) (h : Q (.ref it) s) : wpAny (model prog w) A (pyIter (.ref it)) Q E s := by
  have ty : s.TypeIs (.ref it) "itertools.permutations" := ⟨_, hit, rfl⟩
  refine wpAny_pyIter_slot ty F2.iter_prm (wpAny_call_entry F2.iter_prm ty F2.e_iter_prm ?_ (F2.a_iter_prm _))
  show wpAny _ _ (ret (.ref it)) _ _ s
  exact wpAny_pure ⟨_, rfl, "itertools.permutations", _, ty, F2.next_prm.lookup, h⟩
theorem set_prm {h : Heap} {it : Addr} {p last x : Value} {st : Int} {r : Nat} {ix : List Nat} (e : IsPrm h it p st r last ix) (i : Nat) : (h.update it (Obj.mapFields fun vs => vs.setIfInBounds i x)).get? it = some { cls := .type "itertools.permutations", dict := none, data := .fields (([p, rawInt st, rawInt (r : Nat), last] ++ nats ix).set i x).toArray, slots := #[] } := by
  have q := Heap.get?_update_self (Obj.mapFields fun vs => vs.setIfInBounds i x) e rfl
  rw [q]
  simp only [Obj.mapFields, List.setIfInBounds_toArray]
/-- one is handed out -/
theorem hand_prm {it pl : Addr} {vs : List Value} {last : Value} {st : Int} {r : Nat} {ix row : List Nat} {Q : PySem.Fin → Shared → Prop} (hit : IsPrm s.heap it (.ref pl) st r last ix) (hz : row.length ≤ 1000)
    (q : ∀ h', h'.get? s.heap.objs.size = some { cls := .type "tuple", data := .seq (row.map fun i => vs.toArray.getD i .none).toArray } → IsPrm h' it (.ref pl) st r (.ref s.heap.objs.size) ix → (∀ b o, b ≠ it → s.heap.get? b = some o → h'.get? b = some o) → Q (.done (.ret (.ref s.heap.objs.size))) { s with heap := h' }) :
    wpAny (model prog w) A (do
      let result ← newTuple (row.map fun i => vs.toArray.getD i .none)
      let before ← field (.ref it) 3
      setField (.ref it) 3 result
      letGo [before] [result]
      ret result) Q E s := by
  refine wpAny_bind ?_
  refine wpAny_newTuple ?_ (by rw [List.length_map, sizeLine_eq]; omega)
  have lt := Heap.lt_size hit
  have h1 : IsPrm (s.heap.push { cls := .type "tuple", data := .seq (row.map fun i => vs.toArray.getD i .none).toArray }) it (.ref pl) st r last ix := Heap.get?_push_of_some _ hit
  refine wpAny_bind (wpAny_field h1 rfl (x := last) (by simp) ?_)
  refine wpAny_bind (wpAny_setField h1 rfl (by simp) ?_)
  refine wpAny_bind (wpAny_letGo ?_)
  have h2 := set_prm (x := .ref s.heap.objs.size) h1 3
  refine wpAny_pure (q _ ?_ h2 fun b o nb e => ?_)
  · rw [Heap.get?_update_ne _ _ _ _ (Nat.ne_of_gt lt)]
    exact Heap.get?_push_size _ rfl
  · rw [Heap.get?_update_ne _ _ _ _ nb]
    exact Heap.get?_push_of_some _ e
theorem nums_back (ix : List Nat) : List.map (fun v : Value => match v with | .int n _ => n.toNat | _ => 0) (nats ix) = ix := by
  rw [List.map_map]
  conv => rhs; rw [← List.map_id ix]
  exact List.map_congr_left fun n _ => rfl
/-- the first one -/
theorem first_prm {it pl : Addr} {vs : List Value} {last : Value} {r : Nat} {ix : List Nat} {Q : Option Value → Shared → Prop} (hit : IsPrm s.heap it (.ref pl) 0 r last ix) (hp : s.heap.IsTuple pl vs.toArray) (hz : (ix.take r).length ≤ 1000) (ne : pl ≠ it)
    (q : ∀ h', h'.get? s.heap.objs.size = some { cls := .type "tuple", data := .seq ((ix.take r).map fun i => vs.toArray.getD i .none).toArray } → IsPrm h' it (.ref pl) 1 r (.ref s.heap.objs.size) ix → (∀ b o, b ≠ it → s.heap.get? b = some o → h'.get? b = some o) → Q (some (.ref s.heap.objs.size)) { s with heap := h' }) :
    wpAny (model prog w) A (callSpecial? (.ref it) "__next__") Q E s := by
  have ty : s.TypeIs (.ref it) "itertools.permutations" := ⟨_, hit, rfl⟩
  refine wpAny_callSpecial?_slot (name := Str.ofString "__next__") ty F2.next_prm (wpAny_call_entry F2.next_prm ty F2.e_next_prm ?_ (F2.a_next_prm _))
  show wpAny _ _ (field (.ref it) 0 >>= _) _ _ s
  refine wpAny_bind (wpAny_field hit rfl (x := .ref pl) rfl ?_)
  show wpAny _ _ (Builtin.Itertools.itPoolItems (.ref pl) >>= _) _ _ s
  obtain ⟨o, e1, e2, n, e3⟩ := id hp
  refine wpAny_bind ?_
  conv in Builtin.Itertools.itPoolItems _ => unfold Builtin.Itertools.itPoolItems
  refine wpAny_bind (wpAny_seqItems e1 e3 (wpAny_pure ?_))
  show wpAny _ _ ((field (.ref it) 2 >>= _) >>= _) _ _ s
  refine wpAny_bind (wpAny_bind (wpAny_field hit rfl (x := .int r 0) rfl (wpAny_pure ?_)))
  show wpAny _ _ (Builtin.Itertools.itNumbersFrom (.ref it) 4 >>= _) _ _ s
  refine wpAny_bind ?_
  unfold Builtin.Itertools.itNumbersFrom
  dsimp only
  refine wpAny_bind (wpAny_load hit (wpAny_pure ?_))
  generalize hL : List.map _ (List.drop 4 _) = L
  have eL : L = ix := by
    rw [← hL]
    exact nums_back ix
  clear hL
  rw [eL]
  show wpAny _ _ ((field (.ref it) 1 >>= _) >>= _) _ _ s
  refine wpAny_bind (wpAny_bind (wpAny_field hit rfl (x := .int 0 0) rfl (wpAny_pure ?_)))
  show wpAny _ _ (setField (.ref it) 1 (rawInt 1) >>= _) _ _ s
  refine wpAny_bind (wpAny_setField hit rfl (by simp) ?_)
  have h1 : IsPrm (s.heap.update it (Obj.mapFields fun vs => vs.setIfInBounds 1 (rawInt 1))) it (.ref pl) 1 r last ix := set_prm (x := rawInt 1) hit 1
  have k1 : ∀ b o, b ≠ it → s.heap.get? b = some o → (s.heap.update it (Obj.mapFields fun vs => vs.setIfInBounds 1 (rawInt 1))).get? b = some o := fun b o nb e => by
    rw [Heap.get?_update_ne _ _ _ _ nb]
    exact e
  have sz : (s.heap.update it (Obj.mapFields fun vs => vs.setIfInBounds 1 (rawInt 1))).objs.size = s.heap.objs.size := Heap.size_update ..
  refine hand_prm (s := { s with heap := s.heap.update it (Obj.mapFields fun vs => vs.setIfInBounds 1 (rawInt 1)) }) (row := ix.take r) h1 hz fun h' a1 a2 a3 => ?_
  dsimp only at a1 a2
  rw [sz] at a1 a2
  show ∃ v, _ ∧ _
  refine ⟨_, rfl, ?_⟩
  rw [sz]
  exact q h' a1 a2 fun b o nb e => a3 b o nb (k1 b o nb e)
/-- a further one -/
theorem more_prm {it pl : Addr} {vs : List Value} {last : Value} {r : Nat} {ix cy jx jy : List Nat} {Q : Option Value → Shared → Prop} (hit : IsPrm s.heap it (.ref pl) 1 r last (ix ++ cy)) (hp : s.heap.IsTuple pl vs.toArray) (hl : ix.length = vs.length)
    (nx : nextP vs.length r ix cy = some (jx, jy)) (hz : (jx.take r).length ≤ 1000) (hz2 : jx.length + jy.length ≤ 2000) (ne : pl ≠ it)
    (q : ∀ h', h'.get? s.heap.objs.size = some { cls := .type "tuple", data := .seq ((jx.take r).map fun i => vs.toArray.getD i .none).toArray } → IsPrm h' it (.ref pl) 1 r (.ref s.heap.objs.size) (jx ++ jy) → (∀ b o, b ≠ it → s.heap.get? b = some o → h'.get? b = some o) → Q (some (.ref s.heap.objs.size)) { s with heap := h' }) :
    wpAny (model prog w) A (callSpecial? (.ref it) "__next__") Q E s := by
  have ty : s.TypeIs (.ref it) "itertools.permutations" := ⟨_, hit, rfl⟩
  refine wpAny_callSpecial?_slot (name := Str.ofString "__next__") ty F2.next_prm (wpAny_call_entry F2.next_prm ty F2.e_next_prm ?_ (F2.a_next_prm _))
  show wpAny _ _ (field (.ref it) 0 >>= _) _ _ s
  refine wpAny_bind (wpAny_field hit rfl (x := .ref pl) rfl ?_)
  show wpAny _ _ (Builtin.Itertools.itPoolItems (.ref pl) >>= _) _ _ s
  obtain ⟨o, e1, e2, n, e3⟩ := id hp
  refine wpAny_bind ?_
  conv in Builtin.Itertools.itPoolItems _ => unfold Builtin.Itertools.itPoolItems
  refine wpAny_bind (wpAny_seqItems e1 e3 (wpAny_pure ?_))
  show wpAny _ _ ((field (.ref it) 2 >>= _) >>= _) _ _ s
  refine wpAny_bind (wpAny_bind (wpAny_field hit rfl (x := .int r 0) rfl (wpAny_pure ?_)))
  show wpAny _ _ (Builtin.Itertools.itNumbersFrom (.ref it) 4 >>= _) _ _ s
  refine wpAny_bind ?_
  unfold Builtin.Itertools.itNumbersFrom
  dsimp only
  refine wpAny_bind (wpAny_load hit (wpAny_pure ?_))
  generalize hL : List.map _ (List.drop 4 _) = L
  have eL : L = ix ++ cy := by
    rw [← hL]
    exact nums_back (ix ++ cy)
  clear hL
  rw [eL]
  show wpAny _ _ ((field (.ref it) 1 >>= _) >>= _) _ _ s
  refine wpAny_bind (wpAny_bind (wpAny_field hit rfl (x := .int 1 0) rfl (wpAny_pure ?_)))
  have et : (ix ++ cy).take vs.toArray.size = ix := by rw [List.size_toArray, ← hl]; simp
  have ed : (ix ++ cy).drop vs.toArray.size = cy := by rw [List.size_toArray, ← hl]; simp
  split
  · rename_i h
    exact absurd h (by decide)
  · split
    · rename_i p1 p2 hn
      have e : nextP vs.toArray.size r ((ix ++ cy).take vs.toArray.size) ((ix ++ cy).drop vs.toArray.size) = some (p1, p2) := (nextP_of _ (by intros; rfl) (by intros; rfl) _ _ _ _).trans hn
      rw [et, ed, List.size_toArray, nx] at e
      cases e
      have h1 : IsPrm (s.heap.update it (Obj.mapFields fun fs => fs.extract 0 4 ++ ((jx ++ jy).map fun (n : Nat) => rawInt n).toArray)) it (.ref pl) 1 r last (jx ++ jy) := by
        have q := Heap.get?_update_self (Obj.mapFields fun fs => fs.extract 0 4 ++ ((jx ++ jy).map fun (n : Nat) => rawInt n).toArray) hit rfl
        unfold IsPrm
        rw [q]
        simp [Obj.mapFields]
      have k1 : ∀ b o, b ≠ it → s.heap.get? b = some o → (s.heap.update it (Obj.mapFields fun fs => fs.extract 0 4 ++ ((jx ++ jy).map fun (n : Nat) => rawInt n).toArray)).get? b = some o := fun b o nb e => by
        rw [Heap.get?_update_ne _ _ _ _ nb]
        exact e
      have sz : (s.heap.update it (Obj.mapFields fun fs => fs.extract 0 4 ++ ((jx ++ jy).map fun (n : Nat) => rawInt n).toArray)).objs.size = s.heap.objs.size := Heap.size_update ..
      refine wpAny_bind ?_
      unfold Builtin.Itertools.itSetNumbersFrom
      refine wpAny_updateFields hit rfl ?_ ?_
      · refine hand_prm (s := { s with heap := s.heap.update it (Obj.mapFields fun fs => fs.extract 0 4 ++ ((jx ++ jy).map fun (n : Nat) => rawInt n).toArray) }) (row := jx.take r) h1 hz fun h' a1 a2 a3 => ?_
        dsimp only at a1 a2
        rw [sz] at a1 a2
        show ∃ v, _ ∧ _
        refine ⟨_, rfl, ?_⟩
        rw [sz]
        exact q h' a1 a2 fun b o nb e => a3 b o nb (k1 b o nb e)
      · simp
        rw [sizeLine_eq]
        omega
    · rename_i hn
      have e : nextP vs.toArray.size r ((ix ++ cy).take vs.toArray.size) ((ix ++ cy).drop vs.toArray.size) = none := (nextP_of _ (by intros; rfl) (by intros; rfl) _ _ _ _).trans hn
      rw [et, ed, List.size_toArray, nx] at e
      cases e
  · rename_i h
    exact absurd rfl h
/-- the end -/
theorem end_prm {it pl : Addr} {vs : List Value} {last : Value} {r : Nat} {ix cy : List Nat} {Q : Option Value → Shared → Prop} (hh : A.handled = none) (hit : IsPrm s.heap it (.ref pl) 1 r last (ix ++ cy)) (hp : s.heap.IsTuple pl vs.toArray) (hl : ix.length = vs.length) (nx : nextP vs.length r ix cy = none)
    (q : ∀ e h', CpRep.StopE e h' → (∀ b o, b ≠ it → s.heap.get? b = some o → h'.get? b = some o) → E e { s with heap := h' }) : wpAny (model prog w) A (callSpecial? (.ref it) "__next__") Q E s := by
  have ty : s.TypeIs (.ref it) "itertools.permutations" := ⟨_, hit, rfl⟩
  refine wpAny_callSpecial?_slot (name := Str.ofString "__next__") ty F2.next_prm (wpAny_call_entry F2.next_prm ty F2.e_next_prm ?_ (F2.a_next_prm _))
  show wpAny _ _ (field (.ref it) 0 >>= _) _ _ s
  refine wpAny_bind (wpAny_field hit rfl (x := .ref pl) rfl ?_)
  show wpAny _ _ (Builtin.Itertools.itPoolItems (.ref pl) >>= _) _ _ s
  obtain ⟨o, e1, e2, n, e3⟩ := id hp
  refine wpAny_bind ?_
  conv in Builtin.Itertools.itPoolItems _ => unfold Builtin.Itertools.itPoolItems
  refine wpAny_bind (wpAny_seqItems e1 e3 (wpAny_pure ?_))
  show wpAny _ _ ((field (.ref it) 2 >>= _) >>= _) _ _ s
  refine wpAny_bind (wpAny_bind (wpAny_field hit rfl (x := .int r 0) rfl (wpAny_pure ?_)))
  show wpAny _ _ (Builtin.Itertools.itNumbersFrom (.ref it) 4 >>= _) _ _ s
  refine wpAny_bind ?_
  unfold Builtin.Itertools.itNumbersFrom
  dsimp only
  refine wpAny_bind (wpAny_load hit (wpAny_pure ?_))
  generalize hL : List.map _ (List.drop 4 _) = L
  have eL : L = ix ++ cy := by
    rw [← hL]
    exact nums_back (ix ++ cy)
  clear hL
  rw [eL]
  show wpAny _ _ ((field (.ref it) 1 >>= _) >>= _) _ _ s
  refine wpAny_bind (wpAny_bind (wpAny_field hit rfl (x := .int 1 0) rfl (wpAny_pure ?_)))
  have et : (ix ++ cy).take vs.toArray.size = ix := by rw [List.size_toArray, ← hl]; simp
  have ed : (ix ++ cy).drop vs.toArray.size = cy := by rw [List.size_toArray, ← hl]; simp
  split
  · rename_i h
    exact absurd h (by decide)
  · split
    · rename_i p1 p2 hn
      have e : nextP vs.toArray.size r ((ix ++ cy).take vs.toArray.size) ((ix ++ cy).drop vs.toArray.size) = some (p1, p2) := (nextP_of _ (by intros; rfl) (by intros; rfl) _ _ _ _).trans hn
      rw [et, ed, List.size_toArray, nx] at e
      cases e
    · refine wpAny_bind (wpAny_setField hit rfl (by simp) ?_)
      unfold Builtin.Itertools.itStop
      show wpAny _ _ (newExc (.type "StopIteration") [] >>= _) _ _ _
      refine wpAny_bind ?_
      simp only [newExc, newTuple]
      refine wpAny_bind (wpAny_newObj_type ?_ (by size_fits))
      refine wpAny_bind (m := firstArgMember _ _) (wpAny_of_eq (a := Value.none) (by first | rfl | (simp only [firstArgMember]; rfl)) ?_)
      refine wpAny_newObj_type ?_ (by size_fits)
      simp only [raiseNew]
      refine wpAny_bind (wpAny_handled ?_)
      first | rw [show A.in1.handled = none from hh] | rw [hh]
      refine wpAny_bind (wpAny_pure (wpAny_throw ?_))
      refine q _ _ ⟨_, _, _, rfl, Heap.get?_push_size _ rfl, rfl, rfl, rfl⟩ fun b o nb e => ?_
      refine Heap.get?_push_of_some _ (Heap.get?_push_of_some _ ?_)
      rw [Heap.get?_update_ne _ _ _ _ nb]
      exact e
  · rename_i h
    exact absurd rfl h

end
end EV
set_option Elab.async false
set_option linter.all false
set_option maxRecDepth 100000
set_option maxHeartbeats 4000000
namespace EV
open PySem PySem.Spec PyProof.Rows L2
section
variable {prog : Program} {w : World} {A : Around} {E : Value → Shared → Prop} {s : Shared}
theorem plain_new_prm : plainId "itertools.permutations.__new__" = true := by decide +kernel
theorem code_prm_new {l : Addr} {a b : Int} {t1 t2 t3 : Tok} (r : Nat) (t : Tok) {n : Nat} {Q₁ : Value → Shared → Prop} (hh : A.handled = none) (hl : IsRange s.heap l a b 1 t1 t2 t3) (hsmall : Builtin.Range.small a b 1 = true) (hn : Builtin.Range.rangeSize a b 1 = n) (hz : n ≤ 1000) (hr : r ≤ n)
    (h : ∀ (h1 h' : Heap) (tk : Nat) (acc : List Value) (p it : Addr), (∀ b o, s.heap.get? b = some o → h1.get? b = some o) → (∀ b o, h1.get? b = some o → h'.get? b = some o) → ItemsOf (fun i v => ∃ t, v = .int (a + i * 1) t) acc.toArray n → acc.length = n → h1.objs.size ≤ p → h1.objs.size ≤ it → p < h'.objs.size → it < h'.objs.size → p ≠ it →
      h'.get? p = some { cls := .type "tuple", data := .seq acc.toArray } → IsPrm h' it (.ref p) 0 r .none ((prm0 n r).1 ++ (prm0 n r).2) → Q₁ (.ref it) { s with heap := h', toks := tk }) :
    codeAny (model prog w) A (.call (.builtin "itertools.permutations.__new__") ⟨[.type "itertools.permutations", .ref l, .int (r : Nat) t], []⟩) (wants Q₁ E) s := by
  refine codeAny_of_tree ?_
  show wpAny _ A.in1 (do checkBuiltinCall "itertools.permutations.__new__" ⟨[.type "itertools.permutations", .ref l, .int (r : Nat) t], []⟩; again (.builtin "itertools.permutations.__new__" ⟨[.type "itertools.permutations", .ref l, .int (r : Nat) t], []⟩)) _ _ s
  refine wpAny_bind (wpAny_of_eq (F2.newc_prm _ _) (wpAny_pure ⟨plainId_quiet plain_new_prm _, codeAny_builtin F2.e_new_prm ?_⟩))
  rw [Around.under_plainId plain_new_prm _]
  have hsub : isSubtype (Value.type "itertools.permutations") (Value.type ("itertools." ++ "permutations")) = pure true := F2.sub_prm
  have hd := F2.nd_prm
  have q1 : ¬ ((decide ((r : Int) < -(2 ^ 63 : Int)) || decide ((r : Int) ≥ (2 ^ 63 : Int))) = true) := by
    rw [decide_eq_false (by omega), decide_eq_false (by omega)]
    decide
  have q2 : ¬ ((r : Int) < 0) := by omega
  have q3 : ¬ (Builtin.Itertools.itTooMany (r : Int) = true) := by
    unfold Builtin.Itertools.itTooMany
    rw [decide_eq_true_eq]
    omega
  unfold Builtin.«itertools.permutations.__new__»
  generalize hcol : collect = col
  repeat (first
      | wp_step
      | simp only [List.head?_cons, Option.some_or, List.getElem?_cons_succ, List.getElem?_cons_zero, List.length_cons, List.length_nil, List.forIn_nil])
  rw [← hcol]
  refine collect_range hh hl hsmall hn (by omega) fun h1 tk acc k1 hacc => ?_
  have la : acc.toList.length = n := by rw [Array.length_toList]; exact hacc.1
  have ha : ItemsOf (fun i v => ∃ t, v = .int (a + i * 1) t) acc.toList.toArray n := by rw [Array.toArray_toList]; exact hacc
  generalize acc.toList = vs at la ha ⊢
  simp only [Option.getD, Option.some_or, HOrElse.hOrElse, OrElse.orElse, Option.orElse]
  refine wpAny_bind ?_
  refine wpAny_holding ?_
  repeat (first
      | wp_step
      | simp only [List.head?_cons, Option.some_or, List.getElem?_cons_succ, List.getElem?_cons_zero, List.length_cons, List.length_nil, List.forIn_nil])
  refine wp_if_neg (by exact q1) ?_
  refine wpAny_pure ?_
  refine wp_if_neg q2 ?_
  refine wp_if_neg q3 ?_
  refine wpAny_bind (wpAny_newTuple ?_ (by rw [sizeLine_eq]; omega))
  rw [Int.toNat_natCast]
  have e0 : (if r > vs.length then 2 else 0 : Int) = 0 := by rw [if_neg (by omega)]
  unfold Builtin.Itertools.itNewRecord
  rw [hd]
  refine wpAny_bind ?_
  simp only [Bool.not_false, if_true]
  have z2 : (h1.push { cls := .type "tuple", data := .seq vs.toArray }).objs.size = h1.objs.size + 1 := Heap.size_push ..
  have ex : ([Value.ref h1.objs.size, rawInt (if r > vs.length then 2 else 0), rawInt (r : Nat), .none] ++ (List.range vs.length).map (fun (i : Nat) => rawInt i) ++ (List.range r).map fun (i : Nat) => rawInt ((vs.length : Int) - i)) = [Value.ref h1.objs.size, rawInt 0, rawInt (r : Nat), .none] ++ nats ((prm0 n r).1 ++ (prm0 n r).2) := by
    rw [e0, la]
    unfold prm0 nats
    rw [List.map_append, List.append_assoc, List.map_map]
    congr 2
    refine List.map_congr_left fun i hi => ?_
    have := List.mem_range.mp hi
    show rawInt ((n : Int) - i) = rawInt ((n - i : Nat) : Int)
    congr 1
    omega
  show wpAny _ _ (newObj (.type "itertools.permutations") (.fields ([Value.ref h1.objs.size, rawInt (if r > vs.length then 2 else 0), rawInt (r : Nat), .none] ++ (List.range vs.length).map (fun (i : Nat) => rawInt i) ++ (List.range r).map fun (i : Nat) => rawInt ((vs.length : Int) - i)).toArray)) _ _ _
  rw [ex]
  refine wpAny_newObj_type ?_ ?_
  · refine wpAny_pure (h h1 _ tk vs h1.objs.size (h1.push { cls := .type "tuple", data := .seq vs.toArray }).objs.size k1 (fun b o e => Heap.get?_push_of_some _ (Heap.get?_push_of_some _ e)) ha la (Nat.le_refl _) (by rw [z2]; exact Nat.le_succ _) ?_ ?_ ?_ (Heap.get?_push_of_some _ (Heap.get?_push_size _ rfl)) (Heap.get?_push_size _ rfl))
    · rw [Heap.size_push, z2]; exact Nat.lt_trans (Nat.lt_succ_self _) (Nat.lt_succ_self _)
    · exact Nat.lt_of_lt_of_eq (Nat.lt_succ_self _) (Heap.size_push ..).symm
    · rw [z2]; exact Nat.ne_of_lt (Nat.lt_succ_self _)
  · show _ ≤ _
    simp [prm0]
    rw [sizeLine_eq]
    omega
theorem call_prm {l : Addr} {a b : Int} {t1 t2 t3 : Tok} (r : Nat) (t : Tok) {n : Nat} {Q : Value → Shared → Prop} (hh : A.handled = none) (hl : IsRange s.heap l a b 1 t1 t2 t3) (hsmall : Builtin.Range.small a b 1 = true) (hn : Builtin.Range.rangeSize a b 1 = n) (hz : n ≤ 1000) (hr : r ≤ n)
    (h : ∀ (h1 h' : Heap) (tk : Nat) (acc : List Value) (p it : Addr), (∀ b o, s.heap.get? b = some o → h1.get? b = some o) → (∀ b o, h1.get? b = some o → h'.get? b = some o) → ItemsOf (fun i v => ∃ t, v = .int (a + i * 1) t) acc.toArray n → acc.length = n → h1.objs.size ≤ p → h1.objs.size ≤ it → p < h'.objs.size → it < h'.objs.size → p ≠ it →
      h'.get? p = some { cls := .type "tuple", data := .seq acc.toArray } → IsPrm h' it (.ref p) 0 r .none ((prm0 n r).1 ++ (prm0 n r).2) → Q (.ref it) { s with heap := h', toks := tk }) :
    wpAny (model prog w) A (call (.type "itertools.permutations") [.ref l, .int (r : Nat) t]) Q E s := by
  refine callType_codes (Q₁ := fun obj s₁ => s₁.TypeIs obj "itertools.permutations" ∧ Q obj s₁) F2.called_prm (F2.type_prm _ _) PySem.F.entry_object_init
    (code_prm_new (A := A.in1) r t hh hl hsmall hn hz hr fun h1 h' tk acc p it k1 k2 ha la l1 l2 l3 l4 ne e1 e2 => ⟨⟨_, e2, rfl⟩, h h1 h' tk acc p it k1 k2 ha la l1 l2 l3 l4 ne e1 e2⟩) fun obj s₁ h₁ => ?_
  exact ⟨h₁.1, PySem.F.args_object_init_3 obj _ _, object_init_meets F2.called_prm.init.lookup F2.called_prm.made (by decide) prog w A.in1 _ s₁ ⟨h₁.1, rfl, h₁.2⟩⟩
end
theorem prm_no_len : typeLookup (.type "itertools.permutations") "__len__" = pure none := am_miss_of_fast (by decide +kernel)
theorem prm_no_hint : typeLookup (.type "itertools.permutations") "__length_hint__" = pure none := am_miss_of_fast (by decide +kernel)
def prmAt (it pl : Addr) (r : Nat) (R : List (List Nat × List Nat)) (j : Nat) (h : Heap) : Prop :=
  (j = 0 ∧ ∃ p, R[0]? = some p ∧ IsPrm h it (.ref pl) 0 r .none (p.1 ++ p.2)) ∨ ∃ k p last, j = k + 1 ∧ R[k]? = some p ∧ IsPrm h it (.ref pl) 1 r last (p.1 ++ p.2)
def rowV (xs : List V) (r : Nat) (p : List Nat × List Nat) : List V := pickV xs (p.1.take r)
theorem fill_prm {X : Cx} {A : Around} (hh : X.calm = true → A.handled = none) {q it pl : Addr} {vs : List Value} {xs : List V} {r : Nat} {R : List (List Nat × List Nat)} (rv : Vals xs vs) (ne : pl ≠ it) (chain : ∀ (i : Nat) m, R[i]? = some m → nextP vs.length r m.1 m.2 = R[i + 1]?)
    (r1 : ∀ m ∈ R, m.1.length = vs.length ∧ m.1.length + m.2.length ≤ 2000) (hn : vs.length ≤ 1000) (hr0 : r ≤ vs.length) (r0 : 0 < R.length) (qi : it ≠ q) (qp : pl ≠ q) : Fill X A it q [it, pl] (R.map (rowV xs r)) (fun j _ h => prmAt it pl r R j h ∧ h.IsTuple pl vs.toArray) where
  keep := by
    rintro j H h H' h' ⟨c, ⟨o, o1, o2⟩⟩ _ kp
    refine ⟨?_, ⟨o, kp pl _ qp o1, o2⟩⟩
    rcases c with ⟨e0, ix, f, e⟩ | ⟨k, ix, last, e0, f, e⟩
    · exact .inl ⟨e0, ix, f, kp it _ qi e⟩
    · exact .inr ⟨k, ix, last, e0, f, kp it _ qi e⟩
  item := by
    rintro j us pins σ H s Q Er hr ⟨lq, hq⟩ I hf ⟨c, tp⟩ hQ
    rw [List.getElem?_map] at hr
    have hf' : ∀ c ∈ [it, pl], FpOk { X with A := A } pins H c := hf
    cases fj : R[j]? with
    | none => rw [fj] at hr; cases hr
    | some jx =>
      rw [fj] at hr
      have hus : us = rowV xs r jx := (Option.some.inj hr).symm
      subst hus
      obtain ⟨m1, m2⟩ := r1 jx (List.mem_of_getElem? fj)
      have lz : (jx.1.take r).length ≤ 1000 := by rw [List.length_take]; omega
      have hn : H s.heap.objs.size = none := I.fresh
      have fin : ∀ h', h'.get? s.heap.objs.size = some { cls := .type "tuple", data := .seq ((jx.1.take r).map fun i => vs.toArray.getD i .none).toArray } → IsPrm h' it (.ref pl) 1 r (.ref s.heap.objs.size) (jx.1 ++ jx.2) → (∀ b o, b ≠ it → s.heap.get? b = some o → h'.get? b = some o) →
          Q (some (.ref s.heap.objs.size)) { s with heap := h' } := by
        intro h' a1 a2 a3
        have kept : ∀ b ob, b ∉ [it, pl] → s.heap.get? b = some ob → h'.get? b = some ob := fun b ob nb q => a3 b ob (fun z => nb (by rw [z]; exact List.mem_cons_self)) q
        have rr := pick_vals rv (jx.1.take r)
        have lr : (rowV xs r jx).length ≤ sizeLine := by
          unfold rowV pickV
          rw [List.length_map, sizeLine_eq]
          omega
        have new : ObjOk X.prog X.w (upd H s.heap.objs.size (.frz { cls := .type "tuple", data := .seq ((jx.1.take r).map fun i => vs.toArray.getD i .none).toArray } (.tup (rowV xs r jx)))) h' s.heap.objs.size (.frz { cls := .type "tuple", data := .seq ((jx.1.take r).map fun i => vs.toArray.getD i .none).toArray } (.tup (rowV xs r jx))) := ⟨a1, lr, _, rr, ⟨_, a1, rfl, _, rfl⟩⟩
        have J := I.turnedNew (ch := [it, pl]) (t' := s.toks) kept hf' (Nat.le_refl _) new
        obtain ⟨o, o1, o2⟩ := tp
        refine hQ s.heap.objs.size _ _ _ hn rfl rfl J ⟨.inr ⟨j, jx, _, rfl, fj, a2⟩, ⟨o, a3 pl o ne o1, o2⟩⟩ fun b hb => ?_
        have lb : b < s.heap.objs.size := by
          rcases List.mem_cons.mp hb with rfl | hb
          · rcases c with ⟨_, ix, _, e⟩ | ⟨k, ix, last, _, _, e⟩
            · exact Heap.lt_size e
            · exact Heap.lt_size e
          · rcases List.mem_singleton.mp hb with rfl
            exact Heap.lt_size o1
        rw [upd_ne (Nat.ne_of_lt lb)]
        exact (hf b hb).1
      unfold pyNext
      refine wpAny_bind (wpAny_attempt ?_)
      rcases c with ⟨e0, ix, f, e⟩ | ⟨k, ix, last, e0, f, e⟩
      · subst e0
        rw [f] at fj
        cases fj
        have et : (jx.1 ++ jx.2).take r = jx.1.take r := List.take_append_of_le_length (by omega)
        exact first_prm e tp (by rw [et]; exact lz) ne fun h' a1 a2 a3 => wpAny_pure (fin h' (by rw [et] at a1; exact a1) a2 a3)
      · subst e0
        have nx := chain k ix f
        rw [fj] at nx
        exact more_prm e tp (r1 ix (List.mem_of_getElem? f)).1 (jx := jx.1) (jy := jx.2) nx lz m2 ne fun h' a1 a2 a3 => wpAny_pure (fin h' a1 a2 a3)
  done := by
    rintro pins σ H s Q Er hc I hf ⟨c, tp⟩ hQ
    have hf' : ∀ c ∈ [it, pl], FpOk { X with A := A } pins H c := hf
    obtain ⟨f0, f1, f2, f3, f4, f5⟩ := hf' it List.mem_cons_self
    rw [List.length_map] at c
    unfold pyNext
    refine wpAny_bind (wpAny_attempt ?_)
    rcases c with ⟨e0, ix, f, e⟩ | ⟨k, ix, last, e0, f, e⟩
    · omega
    · have nx := chain k ix f
      rw [← e0, List.getElem?_eq_none (Nat.le_refl _)] at nx
      refine end_prm (hh hc) e tp (r1 ix (List.mem_of_getElem? f)).1 nx fun ee h' xs' k' => ?_
      obtain ⟨a, o, vs', rfl, x1, x2, _⟩ := xs'
      refine wpAny_bind (wpAny_isInstance (T := "StopIteration") (b := true) ⟨o, x1, x2⟩ isSubtype_stop (wpAny_pure ?_))
      exact hQ _ (I.turned (t' := s.toks) (fun b o nb q => k' b o nb q) f0 f1 f3 f4 f5)
def tLstPrm (te tf : TE) : TE := fun σ H Q => te σ H fun x H1 => ∃ n : Int, x = .int n ∧ tf σ H1 fun y H2 => ∃ (r : Nat) (R : List (List Nat × List Nat)), y = .int (r : Nat) ∧ RgOk 0 n ∧ (n - 0).toNat ≤ 1000 ∧ r ≤ (n - 0).toNat ∧
  rowsP (n - 0).toNat r 100000 (prm0 (n - 0).toNat r) = some R ∧ (∀ m ∈ R, m.1.length = (n - 0).toNat ∧ m.1.length + m.2.length ≤ 2000) ∧ R.length < sizeLine ∧ ∀ H' q Ts, NewL H2 H' q Ts (R.map (rowV (rgV 0 n) r)) → Q (.ref q) H'
theorem pe_listPrm {X : Cx} {e f : Expr} {te tf : TE} {p p1 p2 pos pos1 pos2 : Pos} (hc : X.calm = true) (hg : Gl X "list") (hm : X.mg "list" = none) (hg1 : Gl X "range") (hm1 : X.mg "range" = none) (hg2 : Gl X "permutations") (hm2 : X.mg "permutations" = some (.type "itertools.permutations")) (he : PE X e te) (hf : PE X f tf)
    (na : starEach [.Call (.Name "permutations" p2) [.Call (.Name "range" p1) [e] [] pos1, f] [] pos2] X.env = (false, eval (.Call (.Name "permutations" p2) [.Call (.Name "range" p1) [e] [] pos1, f] [] pos2) X.env) :: starEach [] X.env := by rfl)
    (nr : starEach [e] X.env = (false, eval e X.env) :: starEach [] X.env := by rfl)
    (hs : starEach [.Call (.Name "range" p1) [e] [] pos1, f] X.env = (false, eval (.Call (.Name "range" p1) [e] [] pos1) X.env) :: starEach [f] X.env := by rfl) (hs2 : starEach [f] X.env = (false, eval f X.env) :: starEach [] X.env := by rfl) (hpl : (backTo pos2 (starEach [f] X.env)).any (·.1) = false := by rfl) :
    PE X (.Call (.Name "list" p) [.Call (.Name "permutations" p2) [.Call (.Name "range" p1) [e] [] pos1, f] [] pos2] [] pos) (tLstPrm te tf) := by
  refine ⟨fun pins s σ H Q I h => ?_⟩
  have rng : wpAny (model X.prog X.w) X.A (eval (.Call (.Name "range" p1) [e] [] pos1) X.env) (fun x s' => ∃ l z t u v H', x = .ref l ∧ IsRange s'.heap l 0 z 1 t u v ∧ FpOk X pins H' l ∧ L2.Inv X pins σ H' s' ∧ tf σ H' fun y H2 => ∃ (r : Nat) (R : List (List Nat × List Nat)), y = .int (r : Nat) ∧ RgOk 0 z ∧ (z - 0).toNat ≤ 1000 ∧ r ≤ (z - 0).toNat ∧
      rowsP (z - 0).toNat r 100000 (prm0 (z - 0).toNat r) = some R ∧ (∀ m ∈ R, m.1.length = (z - 0).toNat ∧ m.1.length + m.2.length ≤ 2000) ∧ R.length < sizeLine ∧ ∀ H' q Ts, NewL H2 H' q Ts (R.map (rowV (rgV 0 z) r)) → Q (.ref q) H') X.xe s := by
    refine Call_ (ld_blt I hg1 hm1 boot_range (PyProof.Rows.callWith_type1 (one_arg he I h (fun v s2 x H2 I2 r q => ?_) nr) nr))
    have hn := I2.fresh
    obtain ⟨n, rfl, q⟩ := q
    obtain ⟨t, rfl⟩ := r
    exact call_range_1 ⟨_, n, _, _, _, H2, rfl, IsRange.new _ _ _ _ _ _ _, I2.fpOk (Nat.le_refl _) hn, I2.kept fun b u e => Heap.get?_push_of_some _ e, q⟩
  have inner : wpAny (model X.prog X.w) X.A (eval (.Call (.Name "permutations" p2) [.Call (.Name "range" p1) [e] [] pos1, f] [] pos2) X.env) (fun x s' => ∃ it pl r R H1 vs xs, x = .ref it ∧ Vals xs vs ∧ pl ≠ it ∧ (∀ (i : Nat) m, R[i]? = some m → nextP vs.length r m.1 m.2 = R[i + 1]?) ∧ (∀ m ∈ R, m.1.length = vs.length ∧ m.1.length + m.2.length ≤ 2000) ∧ vs.length ≤ 1000 ∧ r ≤ vs.length ∧ 0 < R.length ∧
      L2.Inv X pins σ H1 s' ∧ (prmAt it pl r R 0 s'.heap ∧ s'.heap.IsTuple pl vs.toArray) ∧ (∀ c ∈ [it, pl], FpOk X pins H1 c ∧ c < s'.heap.objs.size) ∧ R.length < sizeLine ∧ ∀ H' q Ts, NewL H1 H' q Ts (R.map (rowV xs r)) → Q (.ref q) H') X.xe s := by
    refine Call_ (ld_glob I hg2 hm2 (PyProof.Rows.callWith_type1 (args_cons (thn rng fun x s1 ⟨l, z, t, u, v, H1, ex, hr, fp, I1, q1⟩ => ?_) hs) hs hpl))
    subst ex
    have I1' : L2.Inv X ((l, { cls := .type "range", data := .fields #[.int 0 t, .int z u, .int 1 v] }) :: pins) σ H1 s1 := I1.pins_of fun p hp => by
      rcases List.mem_cons.mp hp with rfl | hp
      · exact ⟨hr, fp.1, fp.2.1, fp.2.2.1, fun v q => nomatch q⟩
      · exact I1.pin p (List.mem_append_right _ hp)
    refine one_arg hf I1' q1 (fun y s2 yv H2 I2' r2 q2 => ?_) hs2
    have hr2 : IsRange s2.heap l 0 z 1 t u v := (I2'.pin _ (List.mem_append_right _ List.mem_cons_self)).1
    have I2 : L2.Inv X pins σ H2 s2 := I2'.pins_of fun p hp => I2'.pin p (List.mem_append_right _ (List.mem_cons_of_mem _ hp))
    obtain ⟨r, R, ey, ok, le, hrn, hR, hRl, hz, q⟩ := q2
    subst ey
    obtain ⟨t', rfl⟩ := r2
    obtain ⟨b1, b2, b3, b4, b5⟩ := ok
    refine call_prm (n := (z - 0).toNat) r t' (I2.ok.hd hc) hr2 (small_one b1 b2 b3 b4) (rangeSize_nat 0 z) le hrn fun h1 h' tk acc p it k1 k2 ha la l1 l2 l3 l4 ne e1 e2 => ?_
    have I3 : L2.Inv X pins σ H2 { s2 with heap := h1 } := I2.kept (t' := s2.toks) k1
    have I4 : L2.Inv X pins σ H2 { s2 with heap := h', toks := tk } := I3.kept (t' := tk) k2
    have rv : Vals (rgV 0 z) acc := by
      have := vals_rg ha
      simpa using this
    refine ⟨it, p, r, R, H2, acc, rgV 0 z, rfl, rv, ne, fun i m e => by rw [la]; exact rowsP_at hR i m e, fun m hm => by rw [la]; exact hRl m hm, by omega, by omega, ?_, I4, ⟨.inl ⟨rfl, _, rowsP_ne hR, e2⟩, ⟨_, e1, rfl, _, rfl⟩⟩, fun c hcm => ?_, hz, q⟩
    · have := rowsP_ne hR
      rcases R with _ | ⟨_, _⟩
      · cases this
      · exact Nat.succ_pos _
    · rcases List.mem_cons.mp hcm with rfl | hcm
      · exact ⟨I3.fpOk l2 (I3.hok.fresh l2), l4⟩
      · rcases List.mem_singleton.mp hcm with rfl
        exact ⟨I3.fpOk l1 (I3.hok.fresh l1), l3⟩
  refine Call_ (ld_blt I hg hm boot_list (PyProof.Rows.callWith_type1 (args_cons (thn inner fun x s1 ⟨it, pl, r, R, H1, vs, xs, ex, rv, ne, ch, r1, hn, hr0, r0, I1, t0, hf', hz, q⟩ => args_nil ?_) na) na))
  subst ex
  have nz : ∀ c ∈ [it, pl], c ≠ s1.heap.objs.size := fun c hc => Nat.ne_of_lt (hf' c hc).2
  refine call_list_fill I1 hc prm_no_len prm_no_hint (by decide) (by decide) (fun i H h t => ?_) (fun A s H Q E t h => ?_)
    (fill_prm (A := X.A.in1.in1) (xs := xs) (r := r) (fun z => I1.ok.hd z) rv ne ch r1 hn hr0 r0 (nz _ (by simp)) (nz _ (by simp))) (by rw [List.length_map]; exact hz) (fun c hc => (hf' c hc).2) (fun c hc => (hf' c hc).1) (by simp) t0 fun H' Ts s' n J => ?_
  · rcases t.1 with ⟨_, _, _, e⟩ | ⟨_, _, _, _, _, e⟩
    · exact ⟨_, e, rfl⟩
    · exact ⟨_, e, rfl⟩
  · rcases t.1 with ⟨_, _, _, e⟩ | ⟨_, _, _, _, _, e⟩
    · exact iter_prm e h
    · exact iter_prm e h
  · exact ⟨.ref s1.heap.objs.size, H', J, rfl, q H' _ Ts n⟩
end EV
set_option Elab.async false
set_option linter.all false
set_option maxRecDepth 100000
set_option maxHeartbeats 4000000
/-! l.extend(tuple) -/
namespace EV
open PySem PySem.Spec PyProof.Rows L2
theorem list_extend_tup (l : Addr) (items : Array Value) (n : Nat) (b : Addr) (items2 : Array Value) (hlong : ¬(!items.isEmpty && Builtin.List.listTooLong (items.size + items2.size)) = true) (hs1 : items.size ≤ sizeLine) (hs2 : items.size + items2.size ≤ sizeLine + 1) :
    Meets (Builtin.«list.extend» ⟨[.ref l, .ref b], []⟩) (fun _ R s => s.heap.get? l = some { cls := .type "list", dict := none, data := .seq items n, slots := #[] } ∧ s.heap.IsTuple b items2 ∧ R (.ok (.ret Value.none)) { s with heap := s.heap.update l (Obj.mapSeq fun x => x ++ items2), toks := s.toks }) :=
  .of_wp fun prog w A R s h => by
    obtain ⟨hp, g, d, tk, os⟩ := s
    obtain ⟨hl, ⟨o, e1, e2, m, e3⟩, h⟩ := h
    show wpAny _ A.in1 (Builtin.List.listExtendWith (.ref l) (.ref b) .none) _ _ _
    unfold Builtin.List.listExtendWith
    refine wpAny_bind (wpAny_typeOf (T := "tuple") ⟨o, e1, e2⟩ ?_)
    have h3 : (Value.type "tuple" == Value.type "tuple") = true := by decide
    simp only [h3, Bool.or_true, if_true]
    unfold Builtin.List.listItems
    refine wpAny_bind (wpAny_bind (wpAny_seqItems e1 e3 (wpAny_pure ?_)))
    refine wpAny_bind (wpAny_bind (wpAny_seqItems hl rfl (wpAny_pure ?_)))
    refine wp_if_neg hlong ?_
    show wpAny _ A.in1 (updateSeq l (· ++ items2) >>= fun _ => ret .none) _ _ _
    refine wpAny_bind (wpAny_updateSeq hl rfl (wpAny_pure ⟨_, rfl, h⟩) hs1 (by show (items ++ items2).size ≤ _; rw [Array.size_append]; exact hs2))
def rExtendT (K : PySem.W.Frag) : V → List V → Hp → VK → Prop := fun x vs H Q => ∃ l b xs zs, x = .ref l ∧ vs = [.ref b] ∧ H l = some (.lst xs) ∧ SqT K H b zs ∧ xs.length + zs.length ≤ sizeLine ∧ Q .non (upd H l (.lst (xs ++ zs)))
theorem mt_extendT {X : Cx} : MtR X "list.extend" (rExtendT X.K) := by
  intro pins s σ H x vs v us Q I rx rv h
  obtain ⟨l, b, xs, zs, rfl, rfl, hH, hB, hz, q⟩ := h
  cases rx
  obtain ⟨u, rfl, ru⟩ := rv.one
  cases ru
  obtain ⟨z, its, n, r, hl, e⟩ := I.lstM hH
  obtain ⟨its2, r2, p2, z2⟩ := I.tuple hB
  have hl2 := r2.length
  have hsz : its.toArray.size + its2.toArray.size ≤ sizeLine := by rw [List.size_toArray, List.size_toArray]; omega
  have hlong : ¬ (!its.toArray.isEmpty && Builtin.List.listTooLong (its.toArray.size + its2.toArray.size)) = true := by
    rw [notLongL hsz, Bool.and_false]
    exact Bool.false_ne_true
  refine call_meets PySem.F.slot_list_extend ⟨_, e, rfl⟩ PySem.F.entry_list_extend (PySem.F.args_list_extend_2 _ _)
    (list_extend_tup l its.toArray n b its2.toArray hlong (by rw [List.size_toArray]; omega) (by omega)) ⟨e, p2, ?_⟩
  refine ⟨.non, _, I.lset (its' := its ++ its2) hH e (by simp) (r.append r2) ?_, rfl, q⟩
  rw [List.length_append]
  omega
end EV
set_option Elab.async false
set_option linter.all false
set_option maxRecDepth 100000
set_option maxHeartbeats 4000000
/-! tuples that are known to have no dict of their own -/
namespace EV
open PySem PySem.Spec PyProof.Rows L2
abbrev tupObj (its : List Value) : Obj := { cls := .type "tuple", data := .seq its.toArray }
/-- a new tuple of ys is what Q wants -/
def NewT (H : Hp) (ys : List V) (Q : VK) : Prop := ∀ p o, H p = none → o.dict = none → Q (.ref p) (upd H p (.frz o (.tup ys)))
/-- a tuple that has no dict -/
def SqN (K : PySem.W.Frag) (H : Hp) (a : Addr) (xs : List V) : Prop :=
  (∃ o, H a = some (.frz o (.tup xs)) ∧ o.dict = none) ∨ ∃ (o : Obj) (its : Array Value) (n : Nat), K.lookup a = some o ∧ o.cls = .type "tuple" ∧ o.dict = none ∧ o.data = .seq its n ∧ its.size ≤ sizeLine ∧ Vals xs its.toList
theorem SqN.sqT {K : PySem.W.Frag} {H : Hp} {a : Addr} {xs : List V} (h : SqN K H a xs) : SqT K H a xs := by
  rcases h with ⟨o, h, _⟩ | ⟨o, its, n, h1, h2, _, h3⟩
  · exact .inl (.inr ⟨o, h⟩)
  · exact .inr ⟨o, its, n, h1, h2, h3⟩
theorem SqN_obj {X : Cx} {pins : List (Addr × Obj)} {σ : L2.St} {H : Hp} {s : Shared} {a : Addr} {xs : List V} (h : SqN X.K H a xs) (I : L2.Inv X pins σ H s) :
    ∃ (o : Obj) (its : List Value) (n : Nat), s.heap.get? a = some o ∧ o.cls = .type "tuple" ∧ o.dict = none ∧ o.data = .seq its.toArray n ∧ xs.length ≤ sizeLine ∧ Vals xs its := by
  rcases h with ⟨o, h, d⟩ | ⟨o, its, n, h1, h2, d, h3, h4, r⟩
  · obtain ⟨ho, hz, its, rv, o', ho', hc, n, hdat⟩ := I.hok a _ h
    rw [ho] at ho'
    cases ho'
    exact ⟨o, its, n, ho, hc, d, hdat, hz, rv⟩
  · have e := r.length
    exact ⟨o, its.toList, n, I.kIn a o h1, h2, d, by simpa using h3, by rw [e, Array.length_toList]; exact h4, r⟩
section
variable {X : Cx} {pins : List (Addr × Obj)} {σ : L2.St} {H : Hp} {s : Shared}
theorem ep_newT {h1 : Heap} {its : List Value} {ys : List V} {Q : VK} {tk : Nat} (I : L2.Inv X pins σ H { s with heap := h1 }) (r : Vals ys its) (z : ys.length ≤ sizeLine) (q : NewT H ys Q) :
    EP X pins σ Q (.ref h1.objs.size) { s with heap := h1.push (tupObj its), toks := tk } := by
  have e : (h1.push (tupObj its)).get? h1.objs.size = some (tupObj its) := Heap.get?_push_size _ rfl
  exact ⟨.ref h1.objs.size, upd H h1.objs.size (.frz (tupObj its) (.tup ys)), I.laid (s := { s with heap := h1 }) (t' := tk) (fun b u x => Heap.get?_push_of_some _ x) (Nat.le_refl _) ⟨e, z, its, r, ⟨_, e, rfl, _, rfl⟩⟩, rfl, q _ _ (I.hok.fresh (Nat.le_refl _)) rfl⟩
def tTupN (t : TA) : TE := fun σ H Q => t σ H fun xs H1 => xs.length ≤ sizeLine ∧ NewT H1 xs Q
theorem pe_tupN {es : List Expr} {t : TA} {pos : Pos} {x1} (h : PA X es t) : PE X (.Tuple es x1 pos) (tTupN t) :=
  ⟨fun pins s σ H Q I hq => wpAny_Tuple_spliced (thn (h.run pos pins s σ H _ I hq) fun us s1 ⟨xs, H1, I1, r, z, q⟩ => ⟨r.length ▸ z, ep_newT (s := s1) (h1 := s1.heap) (tk := s1.toks) I1 r z q⟩)⟩
/-- t + u: either of them where the other one is empty -/
def rCatN (K : PySem.W.Frag) : R2 := fun x y H Q => ∃ a b xs ys, x = .ref a ∧ y = .ref b ∧ SqT K H a xs ∧ SqT K H b ys ∧ xs.length + ys.length ≤ sizeLine ∧
  (xs = [] → Q (.ref b) H) ∧ (xs ≠ [] → ys = [] → Q (.ref a) H) ∧ (xs ≠ [] → ys ≠ [] → NewT H (xs ++ ys) Q)
theorem op_catN : OpR X (binaryOp .Add) (rCatN X.K) := by
  rintro pins s σ H x y v u Q I rx ry ⟨a, b, xs, ys, rfl, rfl, ha, hb, hz, q0, q1, q2⟩
  cases rx
  cases ry
  obtain ⟨its, r1, p1, _⟩ := I.tuple ha
  obtain ⟨its2, r2, p2, _⟩ := I.tuple hb
  cases r1 with
  | nil => exact cat_tup0 p1 p2 ⟨.ref b, H, I, rfl, q0 rfl⟩
  | cons c1 t1 =>
    refine HT.cat_tup p1 p2 (by simp) (fun e => ⟨.ref a, H, I, rfl, q1 (by simp) (r2.nil_iff.mp e)⟩) (fun e => ?_) (by have := t1.length; have := r2.length; simp at hz ⊢; omega)
    exact ep_newT (s := s) (h1 := s.heap) (tk := s.toks) I (L2.Vals.append (.cons c1 t1) r2) (by rw [List.length_append]; exact hz) (q2 (by simp) fun e2 => e (r2.nil_iff.mpr e2))
/-- t[lo:hi] -/
def rSlN (K : PySem.W.Frag) : V → Option Int → Option Int → Hp → VK → Prop := fun x lo hi H Q => ∃ a xs, x = .ref a ∧ SqT K H a xs ∧
  (HT.sIx xs.length 0 lo = 0 ∧ HT.sIx xs.length xs.length hi = xs.length → Q (.ref a) H) ∧ (¬ (HT.sIx xs.length 0 lo = 0 ∧ HT.sIx xs.length xs.length hi = xs.length) → NewT H (cutV xs lo hi) Q)
theorem sl_tupN : SlR X (rSlN X.K) := by
  rintro pins s σ H x v vl vu lo hi sl Q I rx hs pl pu ⟨a, xs, rfl, hx, q1, q2⟩
  cases rx
  obtain ⟨its, r, ht, hz⟩ := I.tuple hx
  have hn : its.toArray.size = xs.length := by rw [List.size_toArray, r.length]
  refine ⟨"tuple", _, PyProof.Rows.slot_tuple_getitem.lookup, ht.typeIs, ?_⟩
  by_cases hw : HT.sIx xs.length 0 lo = 0 ∧ HT.sIx xs.length xs.length hi = xs.length
  · refine getItem_tuple_whole ht hs pl pu ?_ ⟨.ref a, H, I, rfl, q1 hw⟩
    rw [hn]
    exact hw
  · refine HT.getItem_tuple_cut ht hs pl pu (by rw [hn]; exact hw) ?_ (by rw [hn]; exact hz)
    rw [hn]
    exact ep_newT (s := s) (h1 := s.heap) (tk := s.toks) I ((r.drop _).take _) (Nat.le_trans (cutV_length xs lo hi) hz) (q2 hw)
/-- tuple(x) -/
theorem call_tupleN : CallR X (.type "tuple") (fun xs H Q => ∃ p ys, xs = [.ref p] ∧ ((SqL X.K H p ys ∧ NewT H ys Q) ∨ (SqT X.K H p ys ∧ Q (.ref p) H))) := by
  rintro pins s σ H xs us Q I r ⟨p, ys, rfl, h⟩
  obtain ⟨u, rfl, rx⟩ := vals1 r
  cases rx
  rcases h with ⟨hq, q⟩ | ⟨hq, q⟩
  · obtain ⟨its, rv, pl, hz⟩ := I.list hq
    have hlen := rv.length
    refine call_tuple_list pl.isList (fun h' kp => ?_) (by simp only [List.size_toArray]; omega)
    exact ep_newT (s := s) (h1 := h') (tk := s.toks) (I.kept (t' := s.toks) kp) rv hz q
  · obtain ⟨its, rv, pl, hz⟩ := I.tuple hq
    exact call_tuple_same pl ⟨.ref p, H, I, rfl, q⟩
theorem call_divmodN : CallR X (.builtin "divmod") (fun xs H Q => ∃ i j, xs = [.int i, .int j] ∧ CDiv i j ∧ NewT H [.int (i / j), .int (i % j)] Q) := by
  rintro pins s σ H xs us Q I r ⟨i, j, rfl, ⟨h1, h2⟩, q⟩
  obtain ⟨u, w', rfl, ⟨t, rfl⟩, ⟨t', rfl⟩⟩ := vals2 r
  have e1 : i.fdiv j = i / j := Int.fdiv_eq_ediv_of_nonneg i (by omega)
  have e2 : i.fmod j = i % j := Int.fmod_eq_emod_of_nonneg i (by omega)
  refine divmod_int (by omega) ?_ (.inl (PyProof.noPylong_small (by omega)))
  rw [e1, e2]
  exact ep_newT (s := s) (h1 := s.heap) (its := [.int (i / j) s.toks, .int (i % j) (s.toks + 1)]) (ys := [.int (i / j), .int (i % j)]) I (.cons ⟨_, rfl⟩ (.cons ⟨_, rfl⟩ .nil)) (by show 2 ≤ sizeLine; decide) q
/-- tuple(range(n)) -/
def tTupRgN (te : L2.St → Hp → (Int → Int → Hp → Prop) → Prop) : TE := fun σ H Q => te σ H fun a b H1 => RgOk a b ∧ NewT H1 (rgV a b) Q
theorem pe_tupRgN {e : Expr} {te : L2.St → Hp → (Int → Int → Hp → Prop) → Prop} {p pos : Pos} (hc : X.calm = true) (hg : Gl X "tuple") (hm : X.mg "tuple" = none) (he : PRg X e te) (na : starEach [e] X.env = (false, eval e X.env) :: starEach [] X.env := by rfl) :
    PE X (.Call (.Name "tuple" p) [e] [] pos) (tTupRgN te) := by
  refine ⟨fun pins s σ H Q I h => Call_ (ld_blt I hg hm boot_tuple (PyProof.Rows.callWith_type1 (args_cons (thn (he pins s σ H _ I h) fun x s1 ⟨r, a, b, t, u, v, H1, ex, hr, I1, ok, q⟩ => args_nil ?_) na) na))⟩
  subst ex
  obtain ⟨b1, b2, b3, b4, b5⟩ := ok
  refine call_tuple_range (I1.ok.hd hc) hr (small_one b1 b2 b3 b4) (rangeSize_nat a b) b5 fun h' tk acc hk hi => ?_
  have e0 : acc = acc.toList.toArray := by rw [Array.toArray_toList]
  rw [e0]
  exact ep_newT (s := s1) (h1 := h') (tk := tk) (I1.kept (t' := s1.toks) hk) (vals_rg hi) (by rw [rgV_length, sizeLine_eq]; omega) q
/-- x[::-1] -/
def tRevN (K : PySem.W.Frag) (te : TE) : TE := fun σ H Q => te σ H fun x H1 => ∃ a xs, x = .ref a ∧ ((SqL K H1 a xs ∧ ∀ p, H1 p = none → Q (.ref p) (upd H1 p (.lst xs.reverse))) ∨ (SqT K H1 a xs ∧ NewT H1 xs.reverse Q))
theorem pe_revN {e : Expr} {te : TE} {k : Nat} {p1 p2 p3 pos : Pos} (he : PE X e te) : PE X (.Subscript e (.Slice none none (some (.UnaryOp .USub (.Constant (.int 1) k p1) p2)) p3) pos) (tRevN X.K te) := by
  refine ⟨fun pins s σ H Q I h => Subscript_ (thn (he.run pins s σ H _ I h) fun v s1 ⟨x, H1, I1, r1, q1⟩ => ?_)⟩
  obtain ⟨a, xs, ex, q⟩ := q1
  subst ex
  cases r1
  refine wpAny_Slice ?_
  rw [evalPart_none]
  refine wpAny_pure (wpAny_pure ?_)
  refine thn ((po_some (pe_un un_neg pe_int) : PO X (some (.UnaryOp .USub (.Constant (.int 1) k p1) p2)) (tPart (tUn (rU fun i => .int (-i)) (tC (.int 1))))).run pins s1 σ H1 (fun o H4 => o = some (-1) ∧ H4 = H1) I1 ⟨1, rfl, -1, rfl, rfl, rfl⟩) fun vs s4 ⟨o, H4, I4, ps, eo, e4⟩ => ?_
  subst eo e4
  have I5 := I4.kept (t' := s4.toks) (h' := s4.heap.push { cls := .type "slice", data := .fields #[.none, .none, vs] }) fun b ob q => Heap.get?_push_of_some _ q
  show wpAny _ X.A (subscriptTail e (.Slice none none (some (.UnaryOp .USub (.Constant (.int 1) k p1) p2)) p3) (.ref a) (.ref s4.heap.objs.size)) (EP X pins σ Q) X.xe { s4 with heap := s4.heap.push { cls := .type "slice", data := .fields #[.none, .none, vs] } }
  have sl := Heap.IsSliceOf.new s4.heap .none .none vs
  rcases q with ⟨hx, q⟩ | ⟨hx, q⟩
  · obtain ⟨its, r, ht, hz⟩ := I5.list hx
    have hlen := r.length
    refine tail_any (ops := [.ref a, .ref s4.heap.objs.size]) ht.isList.typeIs PySem.slot_list_getitem.lookup (wpAny_getItem_list_slice ht.isList sl .none .none ps (by decide) ?_ (by rw [List.size_toArray]; omega)) (by with_unfolding_all rfl)
    rw [PySem.W.krv_pick]
    exact ⟨.ref _, _, I5.lnew r.reverse (by rw [List.length_reverse]; exact hz), rfl, q _ I5.fresh⟩
  · obtain ⟨its, r, ht, hz⟩ := I5.tuple hx
    have hlen := r.length
    exact tail_any (ops := [.ref a, .ref s4.heap.objs.size]) ht.typeIs PyProof.Rows.slot_tuple_getitem.lookup (getItem_tuple_rev ht sl ps (ep_newT (s := s4) (tk := s4.toks) I5 r.reverse (by rw [List.length_reverse]; exact hz) q) (by rw [List.size_toArray]; omega)) (by with_unfolding_all rfl)
/-- t * k -/
def rRepN (K : PySem.W.Frag) : R2 := fun x y H Q => ∃ l k xs, x = .ref l ∧ y = .int k ∧ SqT K H l xs ∧ xs ≠ [] ∧ 2 ≤ k ∧ k ≤ 1000 ∧ xs.length ≤ 1000 ∧ NewT H (List.replicate k.toNat xs).flatten Q
theorem op_repN : OpR X (binaryOp .Mult) (rRepN X.K) := by
  rintro pins s σ H x y v u Q I rx ry ⟨l, k, xs, rfl, rfl, hT, hne, h1, h2, hz, q⟩
  cases rx
  obtain ⟨t, rfl⟩ := ry
  obtain ⟨its, r, ⟨⟨cls, dd, data, sl⟩, ho, hc, n, hd⟩, hs⟩ := I.tuple hT
  simp only at hc hd
  subst hc hd
  have hle := r.length
  have hi : its.toArray.isEmpty = false := by
    cases r with
    | nil => exact absurd rfl hne
    | cons _ _ => rfl
  have hm : ((its.toArray.size : Nat) : Int) * k ≤ 1000000 := by
    rw [List.size_toArray, ← hle]
    have : ((xs.length : Nat) : Int) * k ≤ 1000 * k := Int.mul_le_mul_of_nonneg_right (by omega) (by omega)
    omega
  have hk2 : k.toNat * xs.length ≤ 1000000 := by
    have := Nat.mul_le_mul (show k.toNat ≤ 1000 by omega) hz
    omega
  have g0 : (decide (k < -(2 ^ 63)) || decide (k ≥ 2 ^ 63)) = false := by simp; omega
  have g1 : (its.toArray.isEmpty || k == 1) = false := by rw [hi]; simp; omega
  have g2 : (decide (k ≤ 0) || its.toArray.isEmpty) = false := by rw [hi]; simp; omega
  have g4 : Builtin.Tuple.tupleTooMany (((its.toArray.size : Nat) : Int) * k) = false := decide_eq_false (by rw [sizeLine_eq]; omega)
  have fl : (List.replicate k.toNat xs).flatten.length ≤ sizeLine := by rw [PyProof.Rows.lm_len_rep_flat, sizeLine_eq]; omega
  have ty : s.TypeIs (.ref l) "tuple" := ⟨_, ho, rfl⟩
  refine wpAny_binaryOp_repeat_ref (U := "int") (by decide) ty (fun s' => typeIs_int s' k t) noFill_tuple_mul F.fills_int_mul F.slot_int_rmul repeat_tuple F.slot_int_index.lookup (call_meets F.slot_int_rmul (typeIs_int s k t) F.entry_int_rmul (F.args_int_rmul_2 _ _) (int_rmul_tuple k t l its.toArray n dd sl) ⟨ho, rfl, ty, ?_⟩)
  refine call_meets F.slot_tuple_mul ty F.entry_tuple_mul (F.args_tuple_mul_2 _ _) (tuple_mulW l its.toArray n dd sl k t g0 g1 g2 (by omega) g4 ?_) ⟨ho, ?_⟩
  · rw [size_rep, List.size_toArray, PyProof.Rows.lm_len_rep_flat, ← hle, sizeLine_eq]; omega
  · rw [size_rep]
    exact ep_newT (s := s) (h1 := s.heap) (tk := s.toks) I (r.rep k.toNat) fl q
/-- t.m(e, ..) of a tuple -/
def tBMN (K : PySem.W.Frag) (r : V → List V → Hp → VK → Prop) (to : TE) (t : TA) : TE := fun σ H Q => to σ H fun x H1 => (∃ a xs, x = .ref a ∧ SqN K H1 a xs) ∧ t σ H1 fun xs H2 => r x xs H2 Q
theorem pe_bmN {id : String} {name : Str} {r : V → List V → Hp → VK → Prop} {ob e : Expr} {es : List Expr} {to : TE} {t : TA} {apos cpos : Pos} (slot : Slot "tuple" name id) (hty : typeOf (.builtin id) = pure (.type "method_descriptor")) (hm : MtR X id r) (ho : PE X ob to) (ha : PA X (e :: es) t)
    (hbase : attributeBase ob name X.env (eval ob X.env) = eval ob X.env)
    (hfew : ((backTo cpos (starEach (e :: es) X.env)).all (fun x => !x.1) && (backToKw cpos (keywordEach [] X.env)).all (fun x => x.1.isSome) && decide ((e :: es).length + ([] : List Keyword).length + (if ([] : List Keyword).isEmpty then 0 else 1) < 30)) = true)
    (hline : (apos.endLine == cpos.line) = true) (hs : starEach (e :: es) X.env = (false, eval e X.env) :: starEach es X.env) (hplain : (backTo cpos (starEach es X.env)).any (·.1) = false) :
    PE X (.Call (.Attribute ob name apos) (e :: es) [] cpos) (tBMN X.K r to t) := by
  refine ⟨fun pins s σ H Q I h => wpAny_Call_method_late hbase hfew hline rfl (thn (ho.run pins s σ H _ I h) fun v s1 ⟨x, H1, I1, r1, ⟨a, xs, ex, sq⟩, q1⟩ => ?_)⟩
  subst ex
  cases r1
  obtain ⟨o, its, n, e1, e2, e3, _⟩ := SqN_obj sq I1
  have hA := ha.run cpos pins s1 σ H1 _ I1 q1
  rw [hs] at hA
  refine ⟨"tuple", id, PySem.F.plainAttrs_tuple, slot, hty, ⟨o, e1, e2⟩, fun b eb => ⟨o, by cases eb; exact e1, e3⟩, ?_⟩
  rw [hs]
  exact Calls.callWith_builtin (by show (false || (backTo cpos (starEach es X.env)).any (·.1)) = false; rw [hplain]; rfl) (Calls.evalArgs_plain (thn hA fun us s2 ⟨vs, H2, I2, r2, q2⟩ => hm pins s2 σ H2 (.ref a) vs _ us Q I2 rfl r2 q2))
/-- t.index(x), flat things -/
def rIndexT (K : PySem.W.Frag) : V → List V → Hp → VK → Prop := fun x xs H Q => ∃ (a : Addr) (ys : List V) (y : V) (j : Nat) (z : V), x = V.ref a ∧ xs = [y] ∧ SqT K H a ys ∧ flatV y = true ∧ ys.all flatV = true ∧ ys[j]? = some z ∧ eqV z y = true ∧
  (∀ (m : Nat) (z' : V), m < j → ys[m]? = some z' → eqV z' y = false) ∧ Q (.int (j : Nat)) H
theorem mt_tindex : MtR X "tuple.index" (rIndexT X.K) := by
  rintro pins s σ H x xs v us Q I rx rxs ⟨a, ys, y, j, z, rfl, rfl, hs, fy, fys, hz, hzj, hno, q⟩
  cases rx
  obtain ⟨uy, rfl, ry⟩ := vals1 rxs
  obtain ⟨its, rv, ⟨⟨cls, dd, data, sl⟩, ho, hc, n, hd⟩, hlen⟩ := I.tuple hs
  simp only at hc hd
  subst hc hd
  have at_ : ∀ (m : Nat) (z' : V) (hm : m < its.toArray.size), ys[m]? = some z' → eqU y its.toArray[m] = eqV z' y := fun m z' hm hz' => by
    obtain ⟨u2, hu2, ru2⟩ := rv.get hz'
    have e1 : its.toArray[m] = u2 := by simpa using (List.getElem?_eq_some_iff.mp hu2).2
    rw [e1]
    exact eqU_of ru2 (flat_at fys hz')
  have hsz : its.toArray.size = ys.length := by rw [List.size_toArray, rv.length]
  have hj : j < its.toArray.size := hsz ▸ (List.getElem?_eq_some_iff.mp hz).1
  refine call_meets PySem.F.slot_tuple_index ⟨_, ho, rfl⟩ PySem.F.entry_tuple_index (PySem.F.args_tuple_index_2 _ _) (TI.tuple_indexAt a its.toArray n dd sl uy (eqU y) j hj ?_ fun m hm hmj => ?_)
    ⟨ho, fun u' hu' => mem_eqAt ry fy rv fys u' (by simpa using hu'), ⟨.int (j : Nat), H, I.tok _, ⟨_, rfl⟩, q⟩⟩
  · rw [at_ j z hj hz]; exact hzj
  · have hy := List.getElem?_eq_getElem (show m < ys.length from hsz ▸ hm)
    rw [at_ m _ hm hy]
    exact hno m _ hmj hy
end
end EV
set_option Elab.async false
set_option linter.all false
set_option maxRecDepth 100000
set_option maxHeartbeats 4000000
namespace EV
open PySem PySem.Spec PyProof.Rows L2
section
variable {X : Cx}
theorem pairs_uv {pins : List (Addr × Obj)} {σ : L2.St} {H : Hp} {s : Shared} (I : Inv X pins σ H s) : ∀ {ps : List Addr} {kvs : List (Key × V)}, Paired (fun p kv => SqT X.K H p [kV kv.1, kv.2]) ps kvs →
    ∃ (prs : List (Key × Value)) (vv : List (Value × Value)), KV kvs prs ∧ prs.length = ps.length ∧ vv.length = ps.length ∧
      ∀ (j : Nat) (k v : Value), vv[j]? = some (k, v) → ps[j]? = some (ps.getD j 0) ∧ IsTup s.heap (ps.getD j 0) #[k, v] ∧ ∃ key, prs[j]? = some (key, v) ∧ keyIs key k = true
  | _, _, .nil => ⟨[], [], .nil, rfl, rfl, fun j k v e => by simp at e⟩
  | _, _, .cons (a := p) (b := kv) h t => by
    obtain ⟨prs, vv, r, hl, hl2, hp⟩ := pairs_uv I t
    obtain ⟨its, rv, ht, _⟩ := I.tuple h
    obtain ⟨u, y, ei, ru, ry⟩ := vals2 rv
    subst ei
    refine ⟨(kv.1, y) :: prs, (u, y) :: vv, .cons ⟨rfl, ry⟩ r, by rw [List.length_cons, List.length_cons, hl], by rw [List.length_cons, List.length_cons, hl2], fun j k v e => ?_⟩
    cases j with
    | zero =>
      cases e
      exact ⟨rfl, ht, kv.1, rfl, kV_is (P := X.prog) (w := X.w) ru⟩
    | succ j =>
      obtain ⟨e1, e2, e3⟩ := hp j k v (by simpa using e)
      exact ⟨by simpa using e1, by simpa using e2, by simpa using e3⟩
/-- dict(t) of a tuple of pairs whose object has no dict of its own -/
theorem call_dictT (hcalm : X.calm = true) : CallR X (.type "dict") (fun xs H Q => ∃ (a : Addr) (ps : List Addr) (kvs : List (Key × V)), xs = [.ref a] ∧ SqN X.K H a (ps.map V.ref) ∧ Paired (fun p kv => SqT X.K H p [kV kv.1, kv.2]) ps kvs ∧
    ∀ p, H p = none → Q (.ref p) (upd H p (.dK (mergeK [] kvs)))) := by
  intro pins s σ H xs us Q I r q
  obtain ⟨a, ps, kvs, ex, hq, hp, q⟩ := q
  subst ex
  obtain ⟨u, eu, rx⟩ := vals1 r
  subst eu
  cases rx
  obtain ⟨o, its, n, ho, hc, hod, hdat, hz, rv⟩ := SqN_obj hq I
  have ei := refs_at rv
  subst ei
  rw [List.length_map] at hz
  obtain ⟨prs, vv, rel, hl, hl2, hpr⟩ := pairs_uv I hp
  have hI : PairItems s.heap (ps.map Value.ref).toArray (fun j => ps.getD j 0) vv := ⟨by simp [hl2], fun j k v e => by
    obtain ⟨e1, e2, _⟩ := hpr j k v e
    refine ⟨?_, .inl e2⟩
    rw [List.getElem?_toArray, List.getElem?_map, e1]
    rfl⟩
  have hP : PairsHave (mixKind X.prog X.w) vv.length (PairRel vv) prs := ⟨by rw [hl, hl2], fun j k v e => by
    obtain ⟨_, _, key, e3, e4⟩ := hpr j k v e
    exact ⟨key, e3, e4⟩⟩
  refine PySem.call_dict_pairs (PairArg.tuple a _ (fun j => ps.getD j 0) vv) (I.ok.hd hcalm) ⟨⟨o, n, ho, hc, hod, hdat⟩, hI⟩ hP (by rw [hl2]; exact hz) fun h' tk hd' k => ?_
  have hm : (s.heap.objs.size == sysModules) = false := beq_eq_false_iff_ne.mpr (Nat.ne_of_gt I.big)
  have hlen : (mergeK [] kvs).length ≤ sizeLine := by
    refine Nat.le_trans (length_mergeK kvs []) ?_
    rw [List.length_nil, Nat.zero_add, rel.length, hl]
    exact hz
  exact ⟨.ref s.heap.objs.size, upd H s.heap.objs.size (.dK (mergeK [] kvs)), I.laid (t' := tk) (fun b ob e => k b ob (by simp) e) (Nat.le_refl _) (show ObjOk X.prog X.w _ _ _ (.dK (mergeK [] kvs)) from ⟨hlen, hm, merged [] prs, KV.merge rel .nil, hd'⟩), rfl, q _ (I.hok.fresh (Nat.le_refl _))⟩
end
end EV
set_option Elab.async false
set_option linter.all false
set_option maxRecDepth 100000
set_option maxHeartbeats 4000000
namespace EV
open PySem PySem.Spec PyProof.Rows L2
/-! ## keys that may be None -/
def optIs : Option Key → Value → Bool
  | some k, v => keyIs k v
  | none, .none => true
  | none, _ => false
theorem optIs_shape {k : Option Key} {v : Value} (h : optIs k v = true) : (∃ j, k = some j ∧ keyIs j v = true) ∨ (k = none ∧ v = .none) := by
  cases k with
  | some j => exact .inl ⟨j, rfl, h⟩
  | none => cases v <;> first | exact .inr ⟨rfl, rfl⟩ | (cases h; done)
theorem hash_none {prog : Program} {w : World} {A : Around} {E : Value → Shared → Prop} {s : Shared} {Q : Int → Shared → Prop} (h : Q (reduceHash 0xFCA86420) { s with toks := s.toks + 1 }) : wpAny (model prog w) A (PySem.pyHash .none) Q E s :=
  W.pyHash_slot (T := "NoneType") rfl F.slot_NoneType_hash F.entry_NoneType_hash (F.args_NoneType_hash_1 _) (beq_builtin_none _) (.inl rfl) (wpAny_bind (wpAny_pure (wpAny_bind (wpAny_mkInt (wpAny_pure ⟨_, _, rfl, h⟩)))))
def optKind (prog : Program) (w : World) : PySem.KeyKind prog w (Option Key) where
  is := optIs
  hash := fun | some k => keyH w k | none => reduceHash 0xFCA86420
  inj := fun v a b ha hb => by
    rcases optIs_shape ha with ⟨i, rfl, h1⟩ | ⟨rfl, rfl⟩
    · rcases optIs_shape hb with ⟨j, rfl, h2⟩ | ⟨rfl, rfl⟩
      · rw [(mixKind prog w).inj v i j h1 h2]
      · rcases keyIs_shape h1 with ⟨_, _, _, e⟩ | ⟨_, _, _, e⟩ <;> cases e
    · rcases optIs_shape hb with ⟨j, rfl, h2⟩ | ⟨rfl, _⟩
      · rcases keyIs_shape h2 with ⟨_, _, _, e⟩ | ⟨_, _, _, e⟩ <;> cases e
      · rfl
  byValue := fun k v h => by
    rcases optIs_shape h with ⟨i, rfl, h1⟩ | ⟨rfl, rfl⟩
    · exact (mixKind prog w).byValue i v h1
    · rfl
  pyHash := fun hv h => by
    rcases optIs_shape hv with ⟨i, rfl, h1⟩ | ⟨rfl, rfl⟩
    · exact (mixKind prog w).pyHash h1 h
    · exact hash_none h
  eqBool := fun hu hv h => by
    rcases optIs_shape hu with ⟨i, rfl, h1⟩ | ⟨rfl, rfl⟩
    · rcases optIs_shape hv with ⟨j, rfl, h2⟩ | ⟨rfl, rfl⟩
      · refine (mixKind prog w).eqBool h1 h2 ?_
        have e : decide ((some i : Option Key) = some j) = decide (i = j) := by
          by_cases q : i = j
          · subst q; simp
          · simp [q]
        rw [e] at h
        exact h
      · rcases keyIs_shape h1 with ⟨n, t, rfl, rfl⟩ | ⟨x, t, rfl, rfl⟩
        · exact SeqAt.EqAt.int_none n t _ _ _ _ h
        · exact SeqAt.EqAt.str_none x t _ _ _ _ h
    · rcases optIs_shape hv with ⟨j, rfl, h2⟩ | ⟨rfl, rfl⟩
      · rcases keyIs_shape h2 with ⟨n, t, rfl, rfl⟩ | ⟨x, t, rfl, rfl⟩
        · exact SeqAt.EqAt.none_int n t _ _ _ _ h
        · exact SeqAt.EqAt.none_str x t _ _ _ _ h
      · exact SeqAt.EqAt.same _ _ _ _ _ h
  «strs» := fun k x t v h => by
    rcases optIs_shape h with ⟨i, rfl, h1⟩ | ⟨_, e⟩
    · exact (mixKind prog w).strs i x t v h1
    · cases e
theorem opt_map {prog : Program} {w : World} {h : Heap} {a : Addr} {vs : List (Key × Value)} (d : h.DictOf (mixKind prog w) a vs) : h.MapOf (optKind prog w) a fun k => match k with | some j => valueAt vs j | none => none := by
  obtain ⟨o, es, ep, h1, h2, h3, h4, h5⟩ := d.mapOf
  refine ⟨o, es, ep, h1, h2, h3, fun e he => ?_, fun k => ?_⟩
  · obtain ⟨k, k1, k2⟩ := h4 e he
    exact ⟨some k, k1, k2⟩
  · cases k with
    | some j => exact h5 j
    | none =>
      unfold findBy
      have : (es.find? fun e => optIs none e.key) = none := by
        rw [Array.find?_eq_none]
        intro e he q
        obtain ⟨k, k1, k2⟩ := h4 e he
        rcases optIs_shape q with ⟨_, z, _⟩ | ⟨_, z⟩
        · cases z
        · have k1 : keyIs k e.key = true := k1
          rw [z] at k1
          rcases keyIs_shape k1 with ⟨_, _, _, z⟩ | ⟨_, _, _, z⟩ <;> cases z
      show (Array.find? (fun e => optIs none e.key) es).map (·.val) = none
      rw [this]
      rfl
section
variable {X : Cx} {pins : List (Addr × Obj)} {σ : L2.St} {H : Hp} {s : Shared} {a : Addr} {A : Around} {Er : Value → Shared → Prop} {kvs : List (Key × V)} {r : Value}
theorem n_get2 {R : Value → Shared → Prop} (I : Inv X pins σ H s) (e : H a = some (.dK kvs)) (k : ∀ s', Inv X pins σ H s' → R r s') : wpAny (model X.prog X.w) A (call (.builtin "dict.get") [.ref a, .none, r]) R Er s := by
  obtain ⟨z, hd, vs, rel, dd⟩ := dk_of I.hok e
  exact call_meetsIn PySem.F.slot_dict_get dd.typeIs PySem.F.entry_dict_get (PySem.F.args_dict_get_3 _ _ _) (meets_dict_get_default (optKind X.prog X.w) (k := none) a rfl hd r) ⟨_, opt_map dd, k _ (I.tok _)⟩
end
/-! ## four in a chain -/
section
variable {X : Cx} {a b c d : Expr} {ta tb tc td : TE} {pos : Pos}
def tChain3 (r r' r'' : R2) (ta tb tc td : TE) : TE := fun σ H Q => ta σ H fun x H1 => tb σ H1 fun y H2 => r x y H2 fun z H3 => ∃ k, z = .bl k ∧
  (if k = true then tc σ H3 fun w' H4 => r' y w' H4 fun z' H5 => ∃ k', z' = .bl k' ∧ (if k' = true then td σ H5 fun u' H6 => r'' w' u' H6 Q else Q (.bl false) H5) else Q (.bl false) H3)
theorem pe_chain3 {op op' op'' : CmpOp} {r r' r'' : R2} (ho : OpR X (compareOp op) r) (ho' : OpR X (compareOp op') r') (ho'' : OpR X (compareOp op'') r'') (ha : PE X a ta) (hb : PE X b tb) (hc : PE X c tc) (hd : PE X d td)
    (hm : lastMarks [op, op', op''] [b, c, d] = false) : PE X (.Compare a [op, op', op''] [b, c, d] pos) (tChain3 r r' r'' ta tb tc td) := by
  refine ⟨fun pins s σ H Q I h => ?_⟩
  refine Compare_chain (thn (ha.run pins s σ H _ I h) fun v s1 ⟨x, H1, I1, r1, q1⟩ => chain_link (thn (hb.run pins s1 σ H1 _ I1 q1) fun u s2 ⟨y, H2, I2, r2, q2⟩ =>
    thn (ho pins s2 σ H2 x y v u _ I2 r1 r2 q2) fun d s3 ⟨z, H3, I3, r3, k, e, q3⟩ => ?_)) hm
  subst e
  cases r3
  refine wpAny_truthy_bool ?_
  cases k with
  | false => exact ite_ff ⟨.bl false, H3, I3, rfl, q3⟩
  | true =>
    refine ite_tt (chain_link (thn (hc.run pins s3 σ H3 _ I3 q3) fun w' s4 ⟨z', H4, I4, r4, q4⟩ => thn (ho' pins s4 σ H4 y z' u w' _ I4 r2 r4 q4) fun d' s5 ⟨z2, H5, I5, r5, k2, e2, q5⟩ => ?_))
    subst e2
    cases r5
    refine wpAny_truthy_bool ?_
    cases k2 with
    | false => exact ite_ff ⟨.bl false, H5, I5, rfl, q5⟩
    | true => exact ite_tt (chain_last (thn (hd.run pins s5 σ H5 _ I5 q5) fun w6 s6 ⟨z6, H6, I6, r6, q6⟩ => ho'' pins s6 σ H6 z' z6 w' w6 Q I6 r4 r6 q6))
theorem pt_chain3 {op op' op'' : CmpOp} {r r' r'' : R2} (ho : OpR X (compareOp op) r) (ho' : OpR X (compareOp op') r') (ho'' : OpR X (compareOp op'') r'') (ha : PE X a ta) (hb : PE X b tb) (hc : PE X c tc) (hd : PE X d td)
    (hm : lastMarks [op, op', op''] [b, c, d] = false) : PT X (.Compare a [op, op', op''] [b, c, d] pos) (tTest (tChain3 r r' r'' ta tb tc td)) := by
  refine ⟨fun pins s σ H Q I h => ?_⟩
  refine isTrue_chain (thn (ha.run pins s σ H _ I h) fun v s1 ⟨x, H1, I1, r1, q1⟩ => test_link (thn (hb.run pins s1 σ H1 _ I1 q1) fun u s2 ⟨y, H2, I2, r2, q2⟩ =>
    thn (ho pins s2 σ H2 x y v u _ I2 r1 r2 q2) fun d s3 ⟨z, H3, I3, r3, k, e, q3⟩ => ?_)) hm
  subst e
  cases r3
  refine wpAny_truthy_bool ?_
  cases k with
  | false =>
    obtain ⟨k', e', q'⟩ := q3
    cases e'
    exact ite_ff ⟨H3, I3, q'⟩
  | true =>
    refine ite_tt (test_link (thn (hc.run pins s3 σ H3 _ I3 q3) fun w' s4 ⟨z', H4, I4, r4, q4⟩ => thn (ho' pins s4 σ H4 y z' u w' _ I4 r2 r4 q4) fun d' s5 ⟨z2, H5, I5, r5, k2, e2, q5⟩ => ?_))
    subst e2
    cases r5
    refine wpAny_truthy_bool ?_
    cases k2 with
    | false =>
      obtain ⟨k', e', q'⟩ := q5
      cases e'
      exact ite_ff ⟨H5, I5, q'⟩
    | true =>
      refine ite_tt (test_last (thn (hd.run pins s5 σ H5 _ I5 q5) fun w6 s6 ⟨z6, H6, I6, r6, q6⟩ => thn (ho'' pins s6 σ H6 z' z6 w' w6 _ I6 r4 r6 q6) fun d7 s7 ⟨z7, H7, I7, r7, k3, e3, q7⟩ => ?_))
      subst e3
      cases r7
      exact wpAny_truthy_bool ⟨H7, I7, q7⟩
end
end EV
set_option Elab.async false
set_option linter.all false
set_option maxRecDepth 100000
set_option maxHeartbeats 4000000
namespace EV
open PySem PySem.Spec PyProof.Rows L2
section
variable {P : Program} {w : World} {A : Around} {E : Value → Shared → Prop} {s : Shared}
/-- the empty set, just laid -/
abbrev newS (w : World) (h : Heap) : Heap := h.push { cls := .type "set", dict := none, data := .set #[] 0 (.fresh 0 0 (!w.params.followText "set-order")) }
/-- set(l), l a list of numbers -/
theorem set_listI {l : Addr} {items : Array Value} (ns : List Int) {Q : Value → Shared → Prop} (hh : A.handled = none) (hl : s.heap.IsList l items) (hit : IntsAre items.toList ns) (hb : ns.length + 1 < scanBound)
    (h : ∀ (h' : Heap) (tk c : Nat), SetR w h' s.heap.objs.size (fun j => decide (j ∈ ns)) c → c ≤ ns.length → (∀ b o, s.heap.get? b = some o → h'.get? b = some o) → Q (.ref s.heap.objs.size) { s with heap := h', toks := tk }) :
    wpAny (model P w) A (call (.type "set") [.ref l]) Q E s := by
  have hsz : items.size = ns.length := by
    have q := IntsAre.length hit
    rwa [Array.length_toList] at q
  obtain ⟨ol, hol, hcl, nl, hdl⟩ := hl
  obtain ⟨ocls, odict, odata, oslots⟩ := ol
  dsimp only at hcl hdl
  subst hcl hdl
  have ll : l < s.heap.objs.size := Heap.lt_size hol
  have hS : (newS w s.heap).get? s.heap.objs.size = some { cls := .type "set", dict := none, data := .set #[] 0 (.fresh 0 0 (!w.params.followText "set-order")) } := Heap.get?_push_size _ rfl
  have hL : (newS w s.heap).get? l = some { cls := .type "list", dict := odict, data := .seq items nl, slots := oslots } := Heap.get?_push_of_some _ hol
  have hLl : (newS w s.heap).IsList l items := ⟨_, hL, rfl, nl, rfl⟩
  have hT : Shared.TypeIs { s with heap := newS w s.heap } (.ref s.heap.objs.size) "set" := ⟨_, hS, rfl⟩
  have hz : (newS w s.heap).objs.size = s.heap.objs.size + 1 := Heap.size_push ..
  -- the members, one by one
  let post : Result → Shared → Prop := wants (fun r s₂ => r = .none ∧ ∃ h' tk c, s₂ = { s with heap := h', toks := tk } ∧ SetR w h' s.heap.objs.size (fun j => decide (j ∈ ns)) c ∧ c ≤ ns.length ∧ (∀ b o, s.heap.get? b = some o → h'.get? b = some o)) E
  have init : wpAny (model P w) A.in1.in1 (Builtin.«set.__init__» ⟨[.ref s.heap.objs.size, .ref l], []⟩)
      (fun fin s' => match fin with | .done f => post (.ok f) s' | .again c' => c'.quiet = true ∧ codeAny (model P w) A.in1 c' post s') (fun e s' => post (.error e) s') { s with heap := newS w s.heap } := by
    have t1 := F.sub_list_set
    have t2 := F.sub_list_frozenset
    have t3 : (Value.type "list" == Value.type "dict") = false := by decide
    unfold Builtin.«set.__init__» noKeywords Builtin.Frozenset.updateFrom
    generalize hPI : pyIter = PI
    wp_walk
    subst hPI
    refine wpAny_pyIter_list hLl (wpAny_bind (wpAny_runValue ?_))
    have nI : l ≠ (newS w s.heap).objs.size := by
      rw [hz]
      exact Nat.ne_of_lt (Nat.lt_succ_of_lt ll)
    have nS : s.heap.objs.size ∉ [(newS w s.heap).objs.size, l] := by
      simp only [List.mem_cons, List.not_mem_nil, or_false, not_or]
      rw [hz]
      exact ⟨Nat.ne_of_lt (Nat.lt_succ_self _), Nat.ne_of_gt ll⟩
    refine set_update_ints ((Walks.list (show A.in1.in1.in1.handled = none by simp [hh]) _ l nI items).toS) s.heap.objs.size nS ns hsz hb (fun i v hv => ?_) (items.size - 0) 0 _ (by omega) (Nat.zero_le _)
      ⟨⟨_, Heap.get?_push_size _ rfl, rfl, rfl⟩, hLl.push _⟩ ⟨0, Nat.le_refl 0, setR_new_at (Heap.get?_push_of_some _ hS)⟩ fun s' c hm hc R => ?_
    · have hi : i < ns.length := hsz ▸ (Array.getElem?_eq_some_iff.mp hv).1
      obtain ⟨t, e⟩ := PyProof.Rows.IntsAre.int_at hit i v (by rw [Array.getElem?_toList]; exact hv)
      refine ⟨ns[i], t, List.getElem?_eq_getElem hi, ?_⟩
      rw [e, List.getD_eq_getElem?_getD, List.getElem?_eq_getElem hi]
      rfl
    · obtain ⟨h', gg, dd, tk, oo⟩ := s'
      obtain rfl : gg = s.gens := hm.gens
      obtain rfl : dd = s.drawn := hm.drawn
      obtain rfl : oo = s.os := hm.os
      refine wpAny_pure (show wpAny _ _ (ret Value.none) _ _ _ from wpAny_pure ⟨rfl, h', tk, c, rfl, R, hsz ▸ hc, fun b o e => ?_⟩)
      have lb := Heap.lt_size e
      refine hm.heap b o (fun hb => ?_) (Heap.get?_push_of_some _ (Heap.get?_push_of_some _ e))
      simp only [List.mem_cons, List.not_mem_nil, or_false] at hb
      rw [hz] at hb
      rcases hb with hb | hb
      · exact Nat.ne_of_lt lb hb
      · exact Nat.ne_of_lt (Nat.lt_succ_of_lt lb) hb
  -- the call
  obtain ⟨c, tl, hmro⟩ := F.called_set.mro
  have hmade := F.called_set.made
  have hsub := F.called_set.sub
  have h1 := F.called_set.notType
  have h2 := F.called_set.canCreate
  have hct := F.typeCall_set_1 (.ref l)
  have hli := F.called_set.init.lookup
  have hbi := F.called_set.init.bind (.ref s.heap.objs.size)
  refine wpAny_call (codeAny_of_tree (show wpAny _ _ (callAny (.type "set") _) _ _ _ from wpAny_pure ⟨Code.quiet_builtin _ (by decide +kernel), codeAny_builtin F.entry_type_call ?_⟩))
  rw [Around.under_plain (weight_type_call_type "set" [.ref l] []) rfl]
  repeat (any_goals (first | assumption | wp_step))
  refine codeAny_mono (code_set_led1 (.ref l) (E := E) (Q₁ := fun obj s₁ => obj = .ref s.heap.objs.size ∧ s₁ = { s with heap := newS w s.heap }) ⟨rfl, rfl⟩) fun r s₁ hr => ?_
  cases r with
  | error e => exact hr
  | ok fl =>
    cases fl with
    | ret obj =>
      obtain ⟨rfl, rfl⟩ := hr
      repeat (any_goals (first | assumption | wp_step))
      refine codeAny_mono (codeAny_call_builtin (R := post) F.called_set.init.plain F.entry_set_init (check_set_init_1 hT init)) fun r₂ s₂ hr₂ => ?_
      cases r₂ with
      | error e => exact hr₂
      | ok fl₂ =>
        cases fl₂ with
        | ret r =>
          obtain ⟨rfl, h', tk, c', rfl, R, hc', hk'⟩ := hr₂
          repeat (any_goals (first | assumption | wp_step))
          exact h _ _ _ R hc' hk'
        | _ => exact hr₂.elim
    | _ => exact hr.elim
end
section
variable {X : Cx}
/-- set(l), l a list of numbers -/
def rSetLI (K : PySem.W.Frag) (w : World) : List V → Hp → VK → Prop := fun xs H Q => ∃ (l : Addr) (ns : List Int), xs = [V.ref l] ∧ SqL K H l (ns.map V.int) ∧ ns.length < 64 ∧ ∀ a c, H a = none → c ≤ ns.length → Q (.ref a) (upd H a (SetO w a (fun j => decide (j ∈ ns)) c))
theorem cr_setLI (hc : X.calm = true) : CallR X (.type "set") (rSetLI X.K X.w) := by
  intro pins s σ H xs us Q I r h
  obtain ⟨l, ns, rfl, hl, h64, q⟩ := h
  obtain ⟨its, rv, pl, hz⟩ := I.list hl
  have hn : H s.heap.objs.size = none := I.hok.fresh (Nat.le_refl _)
  rw [Vals.ref1 r]
  refine set_listI ns (I.ok.hd hc) pl.isList (by simpa using rv.ints) (by unfold scanBound; omega) fun h' tk c R hcl k => ?_
  exact ⟨.ref _, _, I.laid (t' := tk) (fun b o e => k b o e) (Nat.le_refl _) (setO_new R), rfl, q _ c hn hcl⟩
/-- set(t), t a tuple of numbers -/
def rSetTI (K : PySem.W.Frag) (w : World) : List V → Hp → VK → Prop := fun xs H Q => ∃ (l : Addr) (ns : List Int), xs = [V.ref l] ∧ SqT K H l (ns.map V.int) ∧ ns.length < 64 ∧ ∀ a c, H a = none → c ≤ ns.length → Q (.ref a) (upd H a (SetO w a (fun j => decide (j ∈ ns)) c))
theorem cr_setTI (hc : X.calm = true) : CallR X (.type "set") (rSetTI X.K X.w) := by
  intro pins s σ H xs us Q I r h
  obtain ⟨l, ns, rfl, hl, h64, q⟩ := h
  obtain ⟨its, rv, tp, hz⟩ := I.tuple hl
  have hn : H s.heap.objs.size = none := I.hok.fresh (Nat.le_refl _)
  rw [Vals.ref1 r]
  refine call_set_tupI ns (I.ok.hd hc) (show s.heap.IsTuple l its.toArray from tp) (by simpa using rv.ints) (by unfold scanBound; omega) fun h' tk c R hcl k => ?_
  exact ⟨.ref _, _, I.laid (t' := tk) (fun b o e => k b o e) (Nat.le_refl _) (setO_new R), rfl, q _ c hn hcl⟩
/-! ## ascending, each once -/
def insF {α : Type} (f : α → Int) (x : α) : List α → List α
  | [] => [x]
  | y :: r => cond (decide (f x < f y)) (x :: y :: r) (cond (decide (f x = f y)) (y :: r) (y :: insF f x r))
def sortF {α : Type} (f : α → Int) (l : List α) : List α := l.foldr (insF f) []
variable {α : Type} {f : α → Int}
theorem insF_mem {x a : α} : ∀ {l : List α}, a ∈ insF f x l → a = x ∨ a ∈ l
  | [], h => .inl (by simpa [insF] using h)
  | y :: r, h => by
    unfold insF at h
    by_cases c : f x < f y
    · simp only [c, decide_true, cond_true] at h
      simpa using h
    · by_cases c2 : f x = f y
      · simp only [c, c2, decide_false, decide_true, cond_false, cond_true] at h
        rcases Int.lt_or_le (f x) (f y) with z | z
        · exact absurd z c
        · simp only [Int.lt_irrefl, decide_false, cond_false] at h
          exact .inr h
      · simp only [c, c2, decide_false, cond_false] at h
        rcases List.mem_cons.mp h with h | h
        · exact .inr (by rw [h]; exact List.mem_cons_self)
        · rcases insF_mem h with h | h
          · exact .inl h
          · exact .inr (List.mem_cons_of_mem _ h)
theorem insF_has {x : α} : ∀ {l : List α}, (∃ b ∈ insF f x l, f b = f x) ∧ ∀ a ∈ l, a ∈ insF f x l
  | [] => ⟨⟨x, by simp [insF], rfl⟩, fun a h => by cases h⟩
  | y :: r => by
    unfold insF
    by_cases c : f x < f y
    · simp only [c, decide_true, cond_true]
      exact ⟨⟨x, List.mem_cons_self, rfl⟩, fun a h => List.mem_cons_of_mem _ h⟩
    · by_cases c2 : f x = f y
      · rw [decide_eq_false c, decide_eq_true c2]
        exact ⟨⟨y, List.mem_cons_self, c2.symm⟩, fun a h => h⟩
      · rw [decide_eq_false c, decide_eq_false c2]
        obtain ⟨⟨b, h1, h2⟩, h3⟩ := insF_has (x := x) (l := r)
        refine ⟨⟨b, List.mem_cons_of_mem _ h1, h2⟩, fun a h => ?_⟩
        rcases List.mem_cons.mp h with h | h
        · rw [h]; exact List.mem_cons_self
        · exact List.mem_cons_of_mem _ (h3 a h)
theorem insF_up {x : α} : ∀ {l : List α}, l.Pairwise (fun a b => f a < f b) → (insF f x l).Pairwise fun a b => f a < f b
  | [], _ => by simp [insF]
  | y :: r, h => by
    obtain ⟨h1, h2⟩ := List.pairwise_cons.mp h
    unfold insF
    by_cases c : f x < f y
    · rw [decide_eq_true c]
      refine List.pairwise_cons.mpr ⟨fun a ha => ?_, h⟩
      rcases List.mem_cons.mp ha with e | ha
      · rw [e]; exact c
      · exact Int.lt_trans c (h1 a ha)
    · by_cases c2 : f x = f y
      · rw [decide_eq_false c, decide_eq_true c2]
        exact h
      · rw [decide_eq_false c, decide_eq_false c2]
        refine List.pairwise_cons.mpr ⟨fun a ha => ?_, insF_up h2⟩
        rcases insF_mem ha with e | ha
        · rw [e]; omega
        · exact h1 a ha
theorem sortF_mem {a : α} : ∀ {l : List α}, a ∈ sortF f l → a ∈ l
  | [], h => by cases h
  | x :: l, h => by
    rcases insF_mem (show a ∈ insF f x (sortF f l) from h) with e | h
    · rw [e]; exact List.mem_cons_self
    · exact List.mem_cons_of_mem _ (sortF_mem h)
theorem sortF_has {a : α} : ∀ {l : List α}, a ∈ l → ∃ b ∈ sortF f l, f b = f a
  | [], h => by cases h
  | x :: l, h => by
    obtain ⟨h1, h2⟩ := insF_has (f := f) (x := x) (l := sortF f l)
    rcases List.mem_cons.mp h with e | h
    · rw [e]; exact h1
    · obtain ⟨b, hb, e⟩ := sortF_has h
      exact ⟨b, h2 b hb, e⟩
theorem sortF_up : ∀ l : List α, (sortF f l).Pairwise fun a b => f a < f b
  | [] => List.Pairwise.nil
  | _ :: l => insF_up (sortF_up l)
theorem up_eq : ∀ {l m : List α}, l.Pairwise (fun a b => f a < f b) → m.Pairwise (fun a b => f a < f b) → (∀ a, a ∈ l ↔ a ∈ m) → l = m
  | [], [], _, _, _ => rfl
  | [], y :: m, _, _, h => by have := (h y).mpr List.mem_cons_self; cases this
  | x :: l, [], _, _, h => by have := (h x).mp List.mem_cons_self; cases this
  | x :: l, y :: m, p, q, h => by
    obtain ⟨p1, p2⟩ := List.pairwise_cons.mp p
    obtain ⟨q1, q2⟩ := List.pairwise_cons.mp q
    have e : x = y := by
      rcases List.mem_cons.mp ((h x).mp List.mem_cons_self) with e | hx
      · exact e
      · rcases List.mem_cons.mp ((h y).mpr List.mem_cons_self) with e | hy
        · exact e.symm
        · have a1 := q1 x hx
          have a2 := p1 y hy
          omega
    subst e
    refine congrArg (x :: ·) (up_eq p2 q2 fun a => ?_)
    constructor
    · intro ha
      rcases List.mem_cons.mp ((h a).mp (List.mem_cons_of_mem _ ha)) with e | h'
      · have := p1 a ha
        rw [e] at this
        exact absurd this (Int.lt_irrefl _)
      · exact h'
    · intro ha
      rcases List.mem_cons.mp ((h a).mpr (List.mem_cons_of_mem _ ha)) with e | h'
      · have := q1 a ha
        rw [e] at this
        exact absurd this (Int.lt_irrefl _)
      · exact h'
/-- of numbers -/
theorem sort_ints {ns ms : List Int} (h1 : ms.Pairwise (· < ·)) (h2 : ∀ k, k ∈ ms ↔ k ∈ ns) : ms = sortF id ns := by
  refine up_eq (f := id) h1 (sortF_up ns) fun a => ?_
  rw [h2]
  constructor
  · intro h
    obtain ⟨b, hb, e⟩ := sortF_has (f := id) h
    have e : b = a := e
    rw [← e]
    exact hb
  · exact sortF_mem
/-- sorted(set(..)) of a list of numbers, fewer than 64 -/
theorem sorted_setLI {wd : World} {S : Int → Bool} {ns : List Int} (hS : ∀ k, S k = decide (k ∈ ns)) {ms : List Int} (h1 : ms.Pairwise (· < ·)) (h2 : ∀ k, k ∈ ms ↔ S k = true) : ms = sortF id ns :=
  sort_ints h1 fun k => by rw [h2, hS, decide_eq_true_eq]
/-! ### of tuples of numbers -/
theorem code_inj {B : Int} : ∀ {a b : List Int}, a.length = b.length → TS.Bd B a → TS.Bd B b → TS.code B a = TS.code B b → a = b
  | [], [], _, _, _, _ => rfl
  | x :: a, y :: b, hl, ha, hb, e => by
    have hl' : a.length = b.length := by simpa using hl
    have ca := code_bd (TS.Bd.tail ha)
    have cb := code_bd (TS.Bd.tail hb)
    have e : x * B ^ a.length + TS.code B a = y * B ^ b.length + TS.code B b := e
    rw [← hl'] at e cb
    have hxy : x = y := by
      rcases Int.lt_trichotomy x y with c | c | c
      · exfalso
        have : x * B ^ a.length + B ^ a.length ≤ y * B ^ a.length := by
          have : (x + 1) * B ^ a.length ≤ y * B ^ a.length := Int.mul_le_mul_of_nonneg_right (by omega) (by omega)
          rwa [Int.add_mul, Int.one_mul] at this
        omega
      · exact c
      · exfalso
        have : y * B ^ a.length + B ^ a.length ≤ x * B ^ a.length := by
          have : (y + 1) * B ^ a.length ≤ x * B ^ a.length := Int.mul_le_mul_of_nonneg_right (by omega) (by omega)
          rwa [Int.add_mul, Int.one_mul] at this
        omega
    subst hxy
    rw [code_inj hl' (TS.Bd.tail ha) (TS.Bd.tail hb) (by omega)]
  | [], _ :: _, h, _, _, _ => by cases h
  | _ :: _, [], h, _, _, _ => by cases h
where
  code_bd {B : Int} : ∀ {a : List Int}, TS.Bd B a → 0 ≤ TS.code B a ∧ TS.code B a < B ^ a.length
    | [], _ => ⟨Int.le_refl _, by show (0 : Int) < B ^ 0; rw [Int.pow_zero]; decide⟩
    | x :: a, h => by
      have := code_bd (TS.Bd.tail h)
      have h0 := TS.Bd.head h
      have := TS.num1 this.1 this.2 h0.1 h0.2
      show 0 ≤ x * B ^ a.length + TS.code B a ∧ x * B ^ a.length + TS.code B a < B ^ (a.length + 1)
      rw [Int.pow_succ]
      exact this
end
end EV
set_option Elab.async false
set_option linter.all false
set_option maxRecDepth 100000
set_option maxHeartbeats 4000000
namespace EV
open PySem PySem.Spec PyProof.Rows L2
section
variable {X : Cx}
/-- y = {.. for ..}: stored at once -/
theorem ps_setDc {i : Nat} {y : Str} {py : Pos} {kx vx tg iter : Expr} {ifs : List Expr} {scope : Scope} {own : List (Str × Nat)} {pos spos : Pos} {wi : TI} {g : TG} {tt : TT} {tk tv : TE} (hc : X.calm = true) (hN : X.N.Nodup) (hy : X.N[i]? = some y) (hyl : X.env.scope.names.lookup y = some .local)
    (hsw : swapsWith (.DictComp kx vx [⟨tg, iter, ifs, 0⟩] scope pos) (some (.Name y py)) spos.line X.env = pure true) (hi : PI X tg iter wi) (ok : BlkOk X.N X.env.scope scope own)
    (hg : ∀ (s : Shared) (H : Hp) (C : Addr) (cl : List (Str × Addr)) (fp : List Addr), PG (X.blk s H scope (compEnvC scope cl C X.env) fp) tg g) (ht : ∀ (s : Shared) (H : Hp) (C : Addr) (cl : List (Str × Addr)) (fp : List Addr), PTs (X.blk s H scope (compEnvC scope cl C X.env) fp) ifs tt)
    (hk : ∀ (s : Shared) (H : Hp) (C : Addr) (cl : List (Str × Addr)) (fp : List Addr), PE (X.blk s H scope (compEnvC scope cl C X.env) fp) kx tk)
    (he : ∀ (s : Shared) (H : Hp) (C : Addr) (cl : List (Str × Addr)) (fp : List Addr), PE (X.blk s H scope (compEnvC scope cl C X.env) fp) vx tv) (hs : ∀ x, foldedSetIterable iter X.env x = pure x) :
    PS X (.Assign [.Name y py] (.DictComp kx vx [⟨tg, iter, ifs, 0⟩] scope pos) spos) (tAsg (tDc wi g tt tk tv (own.map (·.2))) (gName i)) := by
  refine ⟨fun pins s σ H D I h => ?_⟩
  rw [exec_Assign_Name_used _ _ _ _ hsw]
  refine wpAny_bind (wpAny_standAt (wpAny_bind ?_))
  show wpAny _ X.A (do let _ ← comprehension (.DictComp kx vx [⟨tg, iter, ifs, 0⟩] scope pos) scope X.env (firstIterPos [⟨tg, iter, ifs, 0⟩] pos) newDict false (eval iter X.env) (some (assign (.Name y py) X.env))) _ _ s
  have h : tDc wi g tt tk tv (own.map (·.2)) σ H (fun x H1 => gName i x σ H1 D.nx) := h
  refine wpAny_bind (thn (dc_core (Qf := fun _ s' => SP X pins D .next s') hc hN I hi ok hg ht hk he hs h fun d C s1 m H1 I1 q ns fp => ?_) fun _ s1 hq => wpAny_pure (wpAny_pure hq))
  obtain ⟨f0, f1, f2, f3, f4, f5⟩ := fp
  show wpAny _ _ (assign (.Name y py) X.env (.ref d)) _ _ _
  refine wpAny_assign_Name (store_ok2 (v := V.ref d) I1 hN hy (.inl hyl) rfl (fun s2 I2 ⟨a, sb, at_⟩ => ?_) (.inr hyl))
  have apart : C ≠ a := at_.elim (fun z => z ▸ f1) fun z e => f4 y a z e.symm
  exact ⟨m, ns.sameBut sb apart, fun h3 sb3 => ⟨_, H1, I2.turned (t' := s2.toks) (fun b o hb e => (sb3.2 b hb).trans e) f0 f1 f3 f4 f5, q⟩⟩
theorem sw_trueD {kx vx : Expr} {gs : List Comprehension} {scope : Scope} {pos py : Pos} {y : Str} {l : Nat} {env : Env} (hk : env.scope.kind = .function) (hy : env.scope.names.lookup y = some .local) (hl : (py.line == pos.line) = true)
    (ha : (scope.names.any fun (n, k) => n == y && (k == .local || k == .cell)) = false) : swapsWith (.DictComp kx vx gs scope pos) (some (.Name y py)) l env = pure true := by
  have ky : env.kindOf y = some .local := hy
  have hb : env.blockKind = .function := by
    unfold Env.blockKind
    rw [hk]
    rfl
  unfold swapsWith
  simp only [hb, ky, ha, Expr.pos, hl]
  rfl
end
end EV
set_option Elab.async false
set_option linter.all false
set_option maxRecDepth 100000
set_option maxHeartbeats 4000000
namespace EV
open PySem PySem.Spec PyProof.Rows L2
/-- isinstance(e, c), e the exception that the suite holds, with or without a dict of its own -/
def rIsE2 (K : PySem.W.Frag) (D a : Addr) (dO : Option Addr) : List V → Hp → VK → Prop := fun xs H Q => ∃ (c : V) (cv : Value) (b : Bool), xs = [.ref a, c] ∧ (∀ u, RelV c u → u = cv) ∧ PySem.W.kitOne K (.ref D) cv = some b ∧ (∀ dx, dO = some dx → ∃ fs, H dx = some (.xd fs)) ∧ Q (.bl b) H
theorem call_isE2 {X : Cx} {a D : Addr} {oe : Obj} {dO : Option Addr} {pn : List (Addr × Obj)} (C : ExcC X.K D) (hz : Zc (.ref D) dO oe) (hf : ∃ vs, oe.data = .fields vs) : CallR (X.suite a ((a, oe) :: pn)) (.builtin "isinstance") (rIsE2 X.K D a dO) := by
  intro pins s σ H xs us Q I r h
  obtain ⟨c, cv, b, rfl, hcv, e, hx, q⟩ := h
  cases r with
  | cons rx rr =>
    cases rr with
    | cons rt rr =>
      cases rr
      cases rx
      have ec := hcv _ rt
      subst ec
      obtain ⟨hget, _⟩ := I.pin (a, oe) (List.mem_append.mpr (.inl List.mem_cons_self))
      obtain ⟨vs, hv⟩ := hf
      have J : ∃ od, PySem.W.InstAt s.heap a oe D od := by
        cases dO with
        | none =>
          obtain ⟨oc, od, oda, osl⟩ := oe
          obtain ⟨h1, h2⟩ := hz
          dsimp only at h1 h2 hv
          subst h1 h2 hv
          exact ⟨none, hget, rfl, rfl, trivial⟩
        | some dx =>
          obtain ⟨fs, z⟩ := hx dx rfl
          obtain ⟨mA, hns, _⟩ := (show ObjOk X.prog X.w H s.heap dx (.xd fs) from I.hok dx _ z)
          obtain ⟨od, ho, _⟩ := lookIn_ns hns
          exact ⟨some od, hget, hz.1, by unfold PySem.W.notCls; rw [hv] <;> rfl, by rw [hz.2]; exact ho⟩
      obtain ⟨od, J⟩ := J
      obtain ⟨cd, hc, _⟩ := PySem.W.any_some C.hd
      exact PySem.W.kia_one (PySem.W.kitx_exc (by rw [hc]; rfl) C.hg C.hk C.hs C.ha C.hn C.ht C.hm) I.kIn J e (fun z => nomatch z) fun tk => ⟨.bl b, H, I.kept (t' := tk) fun _ _ z => z, rfl, q⟩
end EV
set_option Elab.async false
set_option linter.all false
set_option maxRecDepth 100000
set_option maxHeartbeats 4000000
/-! own exceptions over a built-in one, with an own __init__ and one field -/
namespace EV
open PySem PySem.Spec PyProof.Rows L2
def tailOf (B : String) : List Value := [.type B, .type "Exception", .type "BaseException", .type "object"]
def newOf (B : String) : String := B ++ ".__new__"
def iniOf (B : String) : String := B ++ ".__init__"
/-- what is known of the built-in class -/
structure BaseOk (B : String) : Prop where
  f : ExcBaseFacts B (newOf B) (iniOf B) (tailOf B)
  p : ∀ me : Value, refuseLoop me "__setattr__" (tailOf B) = pure ()
  o : (tailOf B).contains (.type "object") = true
  ty : typeOf (.type B) = pure (.type "type")
  st : Manifest.isStub B = false
  hi : PySem.W.handedIn (.builtin (iniOf B)) = true
theorem baseVE : BaseOk "ValueError" := ⟨F.excBase_ValueError, fun me => F.store_ValueError.passes me, by decide +kernel, by kernel_rfl, by decide +kernel, by decide +kernel⟩
theorem baseLE : BaseOk "LookupError" := ⟨F.excBase_LookupError, fun me => F.store_LookupError.passes me, by decide +kernel, by kernel_rfl, by decide +kernel, by decide +kernel⟩
/-- what the written part says of a class right over B -/
structure OexB (K : PySem.W.Frag) (C : Addr) (B : String) : Prop where
  cls : ∃ nm q N bs sn sub ab col dd k0 k1 k2 k3 k5, K.lookup C = some (excClassObj nm q C N bs (tailOf B) true sn sub ab col dd k0 k1 k2 k3 k5 (newOf B))
  sa : PySem.W.findIn K (.ref C) "__setattr__" = some (some (.builtin "object.__setattr__"))
  exC : PySem.W.subIn K (.ref C) (.type "BaseException") = some true
  tyC : PySem.W.typeIn K (.ref C) = some (.type "type")
  kC : PySem.W.keepIn K (.ref C) = true
end EV
namespace PySem
namespace EVX
open PySem.W PySem.Calls PyProof.Rows PySem.HandSPX Builtin Builtin.ObjectAttr
theorem osaB {Pg : Program} {wd : World} {Ar : Around} {R : Result → Shared → Prop} {h0 : Heap} {gs : Array GenState} {dr : Drawn} {t0 : Nat} {os : OsState} {K : W.Frag} {nme : Str} {tk : Tok} {val : Value} {x C : Addr} {fv : Array Value} {cd : ClassData} {B : String}
    (BO : EV.BaseOk B) (X : K.In h0) (hx : h0.get? x = some { cls := .ref C, data := .fields fv }) (hcd : W.clsIn K C = some cd) (hm : cd.mro = .ref C :: EV.tailOf B) (hh : cd.hasDict = true) (ha : W.findIn K (.ref C) nme = some none)
    (hq : ∀ h' tk' dx, (∀ b o, b ≠ x → h0.get? b = some o → h'.get? b = some o) → h0.objs.size ≤ dx → dx ≠ x → h'.get? x = some { cls := .ref C, dict := some dx, data := .fields fv } →
      h'.Ns1 dx (fun y => if y = nme then some val else none) → R (.ok (.ret .none)) ⟨h', gs, dr, tk', os⟩) :
    codeAny (model Pg wd) Ar (.call (.builtin "object.__setattr__") ⟨[.ref x, .str nme tk, val], []⟩) R ⟨h0, gs, dr, t0, os⟩ := by
  have II : W.InstAt h0 x { cls := .ref C, data := .fields fv } C none := ⟨hx, rfl, rfl, trivial⟩
  have so := F.store_object
  have nonE : cd.mro.isEmpty = false := by rw [hm]; rfl
  have hasO : cd.mro.contains (.type "object") = true := by rw [hm, List.contains_cons, BO.o, Bool.or_true]
  have apart : x ≠ h0.objs.size := Nat.ne_of_lt (Heap.lt_size hx)
  have isO : W.Looks (model Pg wd) h0 (isInstance (.ref x) (.type "object")) true := II.type.andThen (W.looks_mroIn X (by unfold W.mroIn; rw [hcd, Option.bind_some, if_neg (by rw [nonE]; decide), hasO]))
  refine codeAny_call_builtin so.slot.plain so.entry (@W.check_slot (model Pg wd) _ _ ⟨h0, gs, dr, t0, os⟩ "object.__setattr__" "object" "__setattr__" (.ref x) [.str nme tk, val] [] _ so.kind so.split isO (so.args (.ref x) (.str nme tk) val) ?_)
  have lm : W.Looks (model Pg wd) h0 (mroOf (.ref C)) cd.mro := (W.looks_clsIn X hcd).andThen .now
  have lt : W.Looks (model Pg wd) h0 (storeTaker? none) none := .now
  have lc : W.Looks (model Pg wd) h0 (classData C) cd := W.looks_clsIn X hcd
  rw [W.osa_eq, refuse_eq]
  refine wpAny_bind (wpAny_bind (II.type.at (wpAny_bind (lm.at ?_))))
  rw [hm, refuseLoop_ref, BO.p]
  refine wpAny_pure (wpAny_bind (II.type.at (wpAny_bind ((W.looks_findIn X ha).at (wpAny_bind (lt.at ?_))))))
  show wpAny _ _ (storeInOwnDict (.ref x) (.ref C) (.str nme tk) nme val false) _ _ _
  obtain ⟨c1, c2, c3, c4, c5, c6, c7, c8, c9, c10, c11⟩ := cd
  dsimp only at hh
  subst hh
  unfold storeInOwnDict ownDictForStores
  repeat (first | with_reducible refine store_in_new ?_ ?_ | with_reducible refine wpAny_loadPart_at hx ?_ | with_reducible refine lc.at ?_ | wp_step)
  · exact ⟨_, #[], _, (Heap.get?_update_ne _ _ _ _ apart.symm).trans (Heap.get?_push_at rfl rfl), rfl, fun e he => absurd he (by simp), fun _ => rfl⟩
  · intro h' tk' nsd sb
    have hx1 : (h0.push { cls := .type "dict", data := .dict #[] }).get? x = some { cls := .ref C, data := .fields fv } := Heap.get?_push_of_some _ hx
    refine hq h' tk' h0.objs.size (fun b o nb ho => (sb.2 b (Nat.ne_of_lt (Heap.lt_size ho))).trans ((Heap.get?_update_ne _ _ _ _ nb).trans (Heap.get?_push_of_some _ ho))) (Nat.le_refl _) apart.symm ?_ nsd
    exact (sb.2 x apart).trans (Heap.get?_update_self _ hx1 rfl)
end EVX
end PySem
namespace EV
open PySem PySem.Spec PyProof.Rows L2
section
variable {X : Cx} {pins : List (Addr × Obj)} {σ : L2.St} {H : Hp} {s : Shared} {a C : Addr} {f : Str} {y : V} {u : Value} {A : Around} {B : String}
/-- self.f = y, the only one -/
theorem field1 {R : Unit → Shared → Prop} {Er : Value → Shared → Prop} (BO : BaseOk B) (T : OexB X.K C B) (I : Inv X pins σ H s) (ea : H a = some (exo a C none)) (hno : PySem.W.findIn X.K (.ref C) f = some none) (ry : RelV y u)
    (k : ∀ dx s', H dx = none → dx ≠ a → Inv X pins σ (upd (upd H dx (exd dx [(f, y)])) a (exo a C (some dx))) s' → R () s') : wpAny (model X.prog X.w) A (setAttr (.ref a) f u) R Er s := by
  obtain ⟨nm, q, N, bs, sn, sub, ab, col, dd, k0, k1, k2, k3, k5, hC⟩ := T.cls
  have ci : PySem.W.clsIn X.K C = some { name := nm, bases := bs, mro := .ref C :: tailOf B, ns := N, qualname := q, hasDict := true, slotNames := sn, subclasses := sub, abstract := ab, collection := col, hasDel := false } := by
    unfold PySem.W.clsIn
    rw [hC] <;> rfl
  obtain ⟨t1, at1⟩ := exo_at I.hok ea
  obtain ⟨h0, gs, dr, t0, os⟩ := s
  refine PySem.W.set_plain I.kIn (ox := { cls := .ref C, dict := none, data := .fields #[.ref t1, .none, .none, .none, .bool false, .none] }) (od := none) ⟨at1, rfl, rfl, trivial⟩ T.sa ?_
  refine PySem.EVX.osaB BO I.kIn at1 ci rfl rfl hno fun h' tk' dx kp low ne now ns => ?_
  have fd : H dx = none := I.hok.fresh low
  have old : ∀ {b : Addr} {o : Obj}, h0.get? b = some o → b ≠ dx := fun {b o} z => Nat.ne_of_lt (Nat.lt_of_lt_of_le (Heap.lt_size z) low)
  have na : ∀ {b : Addr}, H b = none → b ≠ a := fun {b} n z => by
    rw [z, ea] at n
    cases n
  have U : Un X.fs [] H (upd (upd H dx (exd dx [(f, y)])) a (exo a C (some dx))) h0 h' := by
    refine ⟨fun b o z n _ _ => kp b o (na n) z, fun b o z n _ _ => ⟨o.slots, kp b o (na n) z⟩, fun b o z n _ => ?_, fun b o z _ => ?_, fun b xs z => ?_, fun b o v z => ?_, fun b ps z => ⟨#[], ?_⟩⟩
    · rw [upd_ne (na n), upd_ne (old z)]
      exact n
    · by_cases hb : b = a
      · exact ⟨_, by rw [hb]; exact now⟩
      · exact ⟨o, kp b o hb z⟩
    · rw [upd_ne (at_ne ea z exo_tup), upd_ne (ne_of_none z fd)]
      exact z
    · rw [upd_ne (at_ne ea z exo_frz), upd_ne (ne_of_none z fd)]
      exact z
    · rw [upd_ne (at_ne ea z exo_tbl), upd_ne (ne_of_none z fd), z]
      simp
  refine k dx _ fd ne (I.un (t' := tk') U fun b o z => ?_)
  by_cases hb : b = a
  · subst hb
    rw [upd_same] at z
    cases z
    exact exo_ok now
  · rw [upd_ne hb] at z
    by_cases hd : b = dx
    · subst hd
      rw [upd_same] at z
      cases z
      exact exd_ok ns (relO_put (fs := []) ry fun _ => True.intro)
    · rw [upd_ne hd] at z
      refine (I.hok b o z).stay (fun c v hc q => kp c v ?_ q) (fun c hc => ?_) (fun c xs hc => ?_)
      · rcases hc with hc | hc
        · rw [hc]
          exact hb
        · exact at_ne ea hc exo_own
      · rw [upd_ne (at_ne ea hc exo_own), upd_ne (ne_of_none hc fd)]
        exact hc
      · rw [upd_ne (at_ne ea hc exo_tup), upd_ne (ne_of_none hc fd)]
        exact hc
/-- B.__init__(self, ..): nothing of it is told -/
theorem initB {us : List Value} {R : Value → Shared → Prop} {Er : Value → Shared → Prop} (BO : BaseOk B) (T : OexB X.K C B) (I : Inv X pins σ H s) (ea : H a = some (exo a C none)) (hl : us.length ≤ sizeLine) (k : ∀ s', Inv X pins σ H s' → R .none s') :
    wpAny (model X.prog X.w) A (call (.builtin (iniOf B)) (.ref a :: us)) R Er s := by
  obtain ⟨nm, q, N, bs, sn, sub, ab, col, dd, k0, k1, k2, k3, k5, hC⟩ := T.cls
  obtain ⟨t1, at1⟩ := exo_at I.hok ea
  obtain ⟨h0, gs, dr, t0, os⟩ := s
  refine wpAny_call (PySem.HandSPX.init_base BO.f (fun _ => rfl) (I.kIn _ _ hC) at1 hl fun h' t2 kp now => ?_)
  have J := I.write (t' := t0) (x := a) (e := a) (o := exo a C none) (by rw [ea]; exact True.intro) (.inl rfl) kp ⟨_, now⟩ (exo_ok now)
  have same : upd H a (exo a C none) = H := funext fun b => by
    by_cases hb : b = a
    · rw [hb, upd_same, ea]
    · rw [upd_ne hb]
  rw [same] at J
  exact k _ J
end
def tIniB (K : PySem.W.Frag) (B : String) (ta : TA) : TE := fun σ H Q => ta σ H fun vs H1 => ∃ (a C : Addr) (ws : List V), vs = .ref a :: ws ∧ ws.length ≤ 1000 ∧ OexB K C B ∧ H1 a = some (exo a C none) ∧ Q .non H1
def tFld1 (K : PySem.W.Frag) (B : String) (f : Str) (to te : TE) : TS := fun D σ H => te σ H fun y H1 => to σ H1 fun x H2 => ∃ a C : Addr, x = .ref a ∧ OexB K C B ∧ PySem.W.findIn K (.ref C) f = some none ∧
  H2 a = some (exo a C none) ∧ ∀ dx, H2 dx = none → dx ≠ a → D.nx σ (upd (upd H2 dx (exd dx [(f, y)])) a (exo a C (some dx)))
def tMkB (C : Addr) (sp : Sp) (ta : TA) : L2.St → Hp → XK → Prop := fun σ H R => ta σ H fun vs H1 => vs.length ≤ 1000 ∧ ∀ a, H1 a = none → sp (.ref a :: vs) (upd H1 a (exo a C none))
  (fun v H2 => v = .non ∧ ∃ (d : Addr) (fs : List (Str × V)), H2 a = some (exo a C (some d)) ∧ H2 d = some (exd d fs) ∧ H1 d = none ∧ R (.ref C) (some d) (upd (del H2 a) d (.xd fs))) (fun _ _ _ => False)
section
variable {X : Cx} {o e : Expr} {es : List Expr} {to te : TE} {ta : TA} {f x : Str} {p p' p1 p2 pos : Pos} {B : String}
theorem pe_iniB {pl : Sem Bool} (BO : BaseOk B) (hg : Gl X x) (hm : X.mg x = none) (hv : bootBuiltins x = some (.type B)) (nn : x ≠ ("__name__" : Str)) (nd : (x == ("__debug__" : Str)) = false)
    (vV : PySem.W.findCls X.K (.type B) (.type "type") "__init__" = some (.val (.builtin (iniOf B)))) (ha : PA X (e :: es) ta)
    (hc : eval (.Call (.Attribute (.Name x p1) "__init__" p2) (e :: es) [] pos) X.env = (do
      let cv ← eval (.Name x p1) X.env
      standAt p2.atName
      let (g, fst) ← holding [cv] (getMethod cv "__init__" pl)
      callWith pos g fst (backTo pos (starEach (e :: es) X.env)) (backToKw pos (keywordEach [] X.env))))
    (he : starEach (e :: es) X.env = (false, eval e X.env) :: starEach es X.env) (hpl : (backTo pos (starEach es X.env)).any (·.1) = false) :
    PE X (.Call (.Attribute (.Name x p1) "__init__" p2) (e :: es) [] pos) (tIniB X.K B ta) := by
  refine ⟨fun pins s σ H Q I h => ?_⟩
  refine PySem.W.methodCall_KW (ld_blt I hg hm hv ?_ nn nd) hc
  obtain ⟨m, fr⟩ := I.fr
  refine PySem.W.method_type fr I.ok.mod.kin BO.ty BO.st vV BO.hi ?_
  show wpAny _ _ (callWith pos (Value.builtin (iniOf B)) [] (backTo pos (starEach (e :: es) X.env)) []) _ _ _
  refine PyProof.Rows.callWith_method1 (thn (ha.run pos pins _ σ H _ (I.tok _) h) fun us s1 ⟨vs, H1, I1, r1, a, C, ws, ev, hl, T, ea, q⟩ => ?_) he hpl
  subst ev
  cases r1 with
  | @cons _ z _ zs ra rz =>
    obtain rfl : z = Value.ref a := ra
    exact initB BO T I1 ea (by rw [← Paired.length rz, sizeLine_eq]; omega) fun s' J => ⟨.non, H1, J, rfl, q⟩
theorem ps_fld1 (BO : BaseOk B) (ho : PE X o to) (he : PE X e te) (hs : swapsWith e (some (.Attribute o f p')) pos.line X.env = pure false) : PS X (.Assign [.Attribute o f p'] e pos) (tFld1 X.K B f to te) := by
  refine ⟨fun pins s σ H D I h => ?_⟩
  refine plainObj_wpAny_Assign_Attribute (thn (he.run pins s σ H _ I h) fun v s1 ⟨y, H1, I1, r1, q1⟩ => thn (ho.run pins s1 σ H1 _ I1 q1) fun u s2 ⟨x, H2, I2, r2, a, C, ex, T, hno, ea, q⟩ => ?_) hs
  subst ex
  obtain rfl : u = Value.ref a := r2
  exact field1 BO T I2 ea hno r1 fun dx s' n ne J => ⟨σ, _, J, q dx n ne⟩
/-- C(e, ..), C over B, its own __init__ keeping sp -/
theorem pmk_B {CX : CXT} {C fI : Addr} {k : Nat} {fd : FuncData} {ps : List Str} {sp : Sp} (BO : BaseOk B) (T : OexB X.K C B) (iC : PySem.W.findIn X.K (.ref C) "__init__" = some (some (.ref fI))) (tI : PySem.W.typeIn X.K (.ref fI) = some (.type "function"))
    (F1 : FnOk X.prog X.w X.K X.mg X.base CX k fI fd ps sp) (hr : Room (k + 1) X.A) (hb : Binds X.K fd ps []) (hx : Passes CX X (fun _ _ _ => False)) (hg : Gl X x) (hm : X.mg x = some (.ref C)) (ha : PA X (e :: es) ta)
    (hdb : (x == ("__debug__" : Str)) = false) (he : starEach (e :: es) X.env = (false, eval e X.env) :: starEach es X.env) (hpl : (backTo pos (starEach es X.env)).any (·.1) = false) :
    PMk X (.Call (.Name x p) (e :: es) [] pos) (tMkB C sp ta) := by
  intro pins s σ H Q I h
  obtain ⟨nm, q, N, bs, sn, sub, ab, col, dd, k0, k1, k2, k3, k5, hC⟩ := T.cls
  refine wpAny_Call_Name_kw (ld_glob I hg hm ?_ hdb)
  refine PySem.W.callWith_K (h₀ := X.base) I.ok.mod.kin T.kC (thn (ha.run pos pins s σ H _ I h) fun us s1 ⟨vs, H1, I1, r1, hz, q1⟩ => ⟨I1.kIn, ?_⟩) he hpl
  show wpAny _ _ (call (.ref C) us) _ _ _
  obtain ⟨h0, gs, dr, t0, os⟩ := s1
  have low : h0.objs.size ≤ h0.objs.size + 1 := Nat.le_succ _
  have fr : H1 (h0.objs.size + 1) = none := I1.hok.fresh low
  have spq := q1 (h0.objs.size + 1) fr
  have kp : ∀ b o, h0.get? b = some o → ((h0.push (PySem.W.kdv_tup us)).push (PySem.HandSPX.excO C h0.objs.size)).get? b = some o := fun b o z => Heap.get?_push_of_some _ (Heap.get?_push_of_some _ z)
  have here : ((h0.push (PySem.W.kdv_tup us)).push (PySem.HandSPX.excO C h0.objs.size)).get? (h0.objs.size + 1) = some (PySem.HandSPX.excO C h0.objs.size) := by heap_get
  have I2 := I1.laid (t' := t0) (a := h0.objs.size + 1) (o := exo (h0.objs.size + 1) C none) (h' := (h0.push (PySem.W.kdv_tup us)).push (PySem.HandSPX.excO C h0.objs.size)) kp low (exo_ok here)
  have r2 : Vals (V.ref (h0.objs.size + 1) :: vs) (Value.ref (h0.objs.size + 1) :: us) := .cons rfl r1
  have pl : (Value.ref (h0.objs.size + 1) :: us).length = ps.length := r2.length.symm.trans (F1.len _ _ _ _ spq)
  refine wpAny_call (PySem.HandSPX.call_own BO.f (fun _ => rfl) (I1.kIn _ _ hC) (PySem.W.looks_findIn I1.kIn iC) (fun me => PySem.W.bind_fn I1.kIn me tI) (by rw [← Paired.length r1, sizeLine_eq]; omega)
    (codeAny_mono (F1.run _ X.stack _ _ ⟨Value.ref (h0.objs.size + 1) :: us, []⟩ (Value.ref (h0.objs.size + 1) :: us) _ _ (fun _ _ _ => False) (hr.make C us []) (I2.env0.make C us []) (by simpa using hb _ (Value.ref (h0.objs.size + 1) :: us) I2.kIn (by rw [List.append_nil]; exact pl)) r2 spq) fun r s' w' => ?_))
  cases r with
  | error er => exact hx pins σ _ _ er s' I2 w'
  | ok fl =>
    cases fl with
    | ret u =>
      obtain ⟨v, H2, o2, b2, un2, ok2, rv, ev, d, fs, ea, ed, n1, q2⟩ := w'
      subst ev
      obtain ⟨h2, g2, d2, t2, o3⟩ := s'
      exact ⟨rv, mk_end (raises_own T.exC T.tyC) I1 low kp un2 ok2 o2 b2 ea ed n1 q2⟩
    | next => exact False.elim w'
    | brk => exact False.elim w'
    | cont => exact False.elim w'
end
end EV
set_option Elab.async false
set_option linter.all false
set_option maxRecDepth 100000
set_option maxHeartbeats 4000000
namespace EV
open PySem PySem.Spec PyProof.Rows L2

/-! ## values, the store -/
inductive D where
  | non | bl (b : Bool) | int (i : Int) | str (s : Str) | ref (n : Nat) | tup (l : List D) | fn (x : Str) | tpf (l : List D)
/-- what stands in the store: a list; a dict by numbers; a dict by tuples -/
inductive Ob where
  | lst (l : List D) | dki (ks : List Int) (ds : List D) | dkn (kvs : List (D × D))

structure Sto where
  nx : Nat
  l : List (Nat × Ob)
def sget : List (Nat × Ob) → Nat → Option Ob
  | [], _ => none
  | p :: r, n => cond (Nat.beq p.1 n) (some p.2) (sget r n)
def Sto.obj (S : Sto) (n : Nat) : Option Ob := sget S.l n
def obL : Option Ob → Option (List D)
  | some (.lst l) => some l
  | _ => none
def Sto.get (S : Sto) (n : Nat) : Option (List D) := obL (S.obj n)
def Sto.newO (S : Sto) (x : Ob) : Sto := ⟨S.nx + 1, (S.nx, x) :: S.l⟩
/-- the first row of n taken out -/
def sdel (n : Nat) : List (Nat × Ob) → List (Nat × Ob)
  | [] => []
  | p :: r => cond (Nat.beq p.1 n) r (p :: sdel n r)
def Sto.setO (S : Sto) (n : Nat) (x : Ob) : Sto := ⟨S.nx, (n, x) :: sdel n S.l⟩
def Sto.new (S : Sto) (x : List D) : Sto := S.newO (.lst x)
def Sto.set (S : Sto) (n : Nat) (x : List D) : Sto := S.setO n (.lst x)
theorem get_obj {S : Sto} {n : Nat} {l : List D} (h : S.get n = some l) : S.obj n = some (.lst l) := by
  unfold Sto.get at h
  cases e : S.obj n with
  | none => rw [e] at h; cases h
  | some o =>
    rw [e] at h
    cases o with
    | lst m => cases h; rfl
    | _ => cases h
theorem get_of {S : Sto} {n : Nat} {l : List D} (h : S.obj n = some (.lst l)) : S.get n = some l := by
  unfold Sto.get
  rw [h]
  rfl
theorem get_new_same {S : Sto} {x : Ob} : (S.newO x).obj S.nx = some x := by
  show cond (Nat.beq S.nx S.nx) _ _ = _
  rw [Nat.beq_refl]
  rfl
theorem beq_ne {a b : Nat} (h : a ≠ b) : Nat.beq a b = false := by
  cases e : Nat.beq a b with
  | false => rfl
  | true => exact absurd (Nat.eq_of_beq_eq_true e) h
theorem get_new_ne {S : Sto} {x : Ob} {n : Nat} (h : S.nx ≠ n) : (S.newO x).obj n = S.obj n := by
  show cond (Nat.beq S.nx n) _ _ = _
  rw [beq_ne h]
  rfl
theorem get_set_same {S : Sto} {x : Ob} {n : Nat} : (S.setO n x).obj n = some x := by
  show cond (Nat.beq n n) _ _ = _
  rw [Nat.beq_refl]
  rfl
theorem sget_del {n m : Nat} (h : n ≠ m) : ∀ l : List (Nat × Ob), sget (sdel n l) m = sget l m
  | [] => rfl
  | p :: r => by
    unfold sdel
    cases e : Nat.beq p.1 n with
    | true =>
      have e1 : p.1 = n := Nat.eq_of_beq_eq_true e
      show sget r m = cond (Nat.beq p.1 m) _ (sget r m)
      rw [e1, beq_ne h]
      rfl
    | false =>
      show cond (Nat.beq p.1 m) _ (sget (sdel n r) m) = cond (Nat.beq p.1 m) _ (sget r m)
      rw [sget_del h r]
theorem get_set_ne {S : Sto} {x : Ob} {n m : Nat} (h : n ≠ m) : (S.setO n x).obj m = S.obj m := by
  show cond (Nat.beq n m) _ (sget (sdel n S.l) m) = _
  rw [beq_ne h, sget_del h]
  rfl
/-- a dict by tuples, as the hand layer's own thing -/
def dnO (w : World) (a : Addr) (es : List (NestedKey × Addr × V)) : HO := .ext fun h => es.length ≤ sizeLine ∧ (a == sysModules) = false ∧ (es.map (·.1)).Nodup ∧
  ∃ (us : List Value) (o : Obj) (ents : Array DictEntry) (ep : Nat), Vals (es.map (·.2.2)) us ∧ h.get? a = some o ∧ o.ExactDict ∧ o.data = .dict ents ep ∧ ents.toList = (es.zip us).map fun p => (⟨p.1.1.hash w, .ref p.1.2.1, p.2⟩ : DictEntry)
mutual
def keyD : D → Option NestedKey
  | .non => some .none
  | .bl b => some (.num (if b = true then 1 else 0))
  | .int i => some (.num i)
  | .str x => some (.text x)
  | .tup l => (keyDs l).map NestedKey.tup
  | _ => none
def keyDs : List D → Option (List NestedKey)
  | [] => some []
  | d :: r => (match keyD d, keyDs r with
    | some k, some ks => some (k :: ks)
    | _, _ => none)
end

mutual
inductive Rl (K : PySem.W.Frag) (μ : List Addr) (H : Hp) : D → V → Prop
  | non : Rl K μ H .non .non
  | bl (b : Bool) : Rl K μ H (.bl b) (.bl b)
  | int (i : Int) : Rl K μ H (.int i) (.int i)
  | str (s : Str) : Rl K μ H (.str s) (.str s)
  | ref {n : Nat} {a : Addr} : μ[n]? = some a → Rl K μ H (.ref n) (.ref a)
  | tup {a : Addr} {xs : List V} {ds : List D} : SqN K H a xs → RlA K μ H ds xs → Rl K μ H (.tup ds) (.ref a)
  | fn {x : Str} {a : Addr} : PySem.W.nsIn K mainGlobals x = some (some (.ref a)) → Rl K μ H (.fn x) (.ref a)
  | tpf {a : Addr} {xs : List V} {ds : List D} : SqT K H a xs → RlA K μ H ds xs → Rl K μ H (.tpf ds) (.ref a)
inductive RlA (K : PySem.W.Frag) (μ : List Addr) (H : Hp) : List D → List V → Prop
  | nil : RlA K μ H [] []
  | cons {d : D} {ds : List D} {v : V} {vs : List V} : Rl K μ H d v → RlA K μ H ds vs → RlA K μ H (d :: ds) (v :: vs)
end

section
variable {K : PySem.W.Frag} {w : World} {μ μ' μ'' : List Addr} {H H' H'' : Hp} {S S' : Sto}
theorem RlA.length : ∀ {ds : List D} {vs : List V}, RlA K μ H ds vs → ds.length = vs.length
  | _, _, .nil => rfl
  | _, _, .cons _ t => congrArg (· + 1) t.length
theorem RlA.append : ∀ {ds es : List D} {vs ws : List V}, RlA K μ H ds vs → RlA K μ H es ws → RlA K μ H (ds ++ es) (vs ++ ws)
  | _, _, _, _, .nil, h => h
  | _, _, _, _, .cons a t, h => .cons a (t.append h)
theorem RlA.get : ∀ {ds : List D} {vs : List V} {i : Nat} {d : D}, RlA K μ H ds vs → ds[i]? = some d → ∃ v, vs[i]? = some v ∧ Rl K μ H d v
  | _, _, 0, _, .cons a t, h => by
    simp at h
    subst h
    exact ⟨_, rfl, a⟩
  | _, _, i + 1, _, .cons a t, h => by
    obtain ⟨v, h1, h2⟩ := t.get (i := i) (by simpa using h)
    exact ⟨v, by simpa using h1, h2⟩
  | _, _, _, _, .nil, h => by simp at h
theorem RlA.none_of {ds : List D} {vs : List V} {i : Nat} (r : RlA K μ H ds vs) (h : ds[i]? = none) : vs[i]? = none := by
  rw [List.getElem?_eq_none_iff] at h ⊢
  rw [← r.length]
  exact h
theorem RlA.drop : ∀ {ds : List D} {vs : List V} (n : Nat), RlA K μ H ds vs → RlA K μ H (ds.drop n) (vs.drop n)
  | _, _, 0, r => r
  | _, _, _ + 1, .nil => .nil
  | _, _, n + 1, .cons _ t => RlA.drop n t
theorem RlA.take : ∀ {ds : List D} {vs : List V} (n : Nat), RlA K μ H ds vs → RlA K μ H (ds.take n) (vs.take n)
  | _, _, 0, _ => .nil
  | _, _, _ + 1, .nil => .nil
  | _, _, n + 1, .cons a t => .cons a (RlA.take n t)
theorem RlA.set {d : D} {v : V} (r : Rl K μ H d v) : ∀ {ds : List D} {vs : List V} (i : Nat), RlA K μ H ds vs → RlA K μ H (ds.set i d) (vs.set i v)
  | _, _, _, .nil => .nil
  | _, _, 0, .cons _ t => .cons r t
  | _, _, i + 1, .cons q t => .cons q (RlA.set r i t)
theorem RlA.dropLast {ds : List D} {vs : List V} (h : RlA K μ H ds vs) : RlA K μ H ds.dropLast vs.dropLast := by
  rw [List.dropLast_eq_take, List.dropLast_eq_take, ← h.length]
  exact h.take _
theorem RlA.reverse : ∀ {ds : List D} {vs : List V}, RlA K μ H ds vs → RlA K μ H ds.reverse vs.reverse
  | _, _, .nil => .nil
  | _, _, .cons a t => by
    rw [List.reverse_cons, List.reverse_cons]
    exact (RlA.reverse t).append (.cons a .nil)
theorem RlA.rep {ds : List D} {vs : List V} (h : RlA K μ H ds vs) : ∀ k : Nat, RlA K μ H (List.replicate k ds).flatten (List.replicate k vs).flatten
  | 0 => .nil
  | k + 1 => by
    rw [List.replicate_succ, List.replicate_succ, List.flatten_cons, List.flatten_cons]
    exact h.append (RlA.rep h k)

/-- the pairs of a dict by tuples -/
inductive RlN (K : PySem.W.Frag) (μ : List Addr) (H : Hp) : List (D × D) → List (NestedKey × Addr × V) → Prop
  | nil : RlN K μ H [] []
  | cons {k d : D} {nk : NestedKey} {b : Addr} {v : V} {r : List (D × D)} {es : List (NestedKey × Addr × V)} : (keyD k = some nk ∧ nk.depth ≤ 8) → Rl K μ H k (.ref b) → Rl K μ H d v → RlN K μ H r es → RlN K μ H ((k, d) :: r) ((nk, b, v) :: es)
inductive ObR (K : PySem.W.Frag) (w : World) (μ : List Addr) (H : Hp) (a : Addr) : Ob → HO → Prop
  | lst {l : List D} {xs : List V} : RlA K μ H l xs → ObR K w μ H a (.lst l) (.lst xs)
  | dki {ks : List Int} {ds : List D} {vs : List V} : ks.length = ds.length → RlA K μ H ds vs → ObR K w μ H a (.dki ks ds) (.dK ((ks.zip vs).map fun p => (Sum.inl p.1, p.2)))
  | dkn {kvs : List (D × D)} {es : List (NestedKey × Addr × V)} : RlN K μ H kvs es → ObR K w μ H a (.dkn kvs) (dnO w a es)
/-- the store is held: μ the places of its things -/
structure Good (K : PySem.W.Frag) (w : World) (μ : List Addr) (S : Sto) (H : Hp) : Prop where
  len : μ.length = S.nx
  nd : μ.Nodup
  at_ : ∀ n a, μ[n]? = some a → ∃ o ho, S.obj n = some o ∧ H a = some ho ∧ ObR K w μ H a o ho
/-- what may change -/
structure Ext (μ : List Addr) (H : Hp) (μ' : List Addr) (H' : Hp) : Prop where
  pre : ∃ ν, μ' = μ ++ ν ∧ ∀ a ∈ ν, H a = none
  keep : ∀ a o, H a = some o → a ∉ μ → H' a = some o
  dom : ∀ a, H' a = none → H a = none
theorem Ext.refl : Ext μ H μ H := ⟨⟨[], by simp, by simp⟩, fun _ _ h _ => h, fun _ h => h⟩
theorem Ext.trans (x : Ext μ H μ' H') (y : Ext μ' H' μ'' H'') : Ext μ H μ'' H'' := by
  obtain ⟨ν, rfl, h1⟩ := x.pre
  obtain ⟨ν', rfl, h2⟩ := y.pre
  refine ⟨⟨ν ++ ν', by simp, fun a ha => ?_⟩, fun a o h hn => ?_, fun a h => x.dom a (y.dom a h)⟩
  · rcases List.mem_append.mp ha with h | h
    · exact h1 a h
    · exact x.dom a (h2 a h)
  · refine y.keep a o (x.keep a o h hn) fun hm => ?_
    rcases List.mem_append.mp hm with h' | h'
    · exact hn h'
    · rw [h1 a h'] at h
      cases h
theorem Ext.at_ (x : Ext μ H μ' H') {n : Nat} {a : Addr} (h : μ[n]? = some a) : μ'[n]? = some a := by
  obtain ⟨ν, rfl, _⟩ := x.pre
  rw [List.getElem?_append_left (List.getElem?_eq_some_iff.mp h).1]
  exact h
theorem ObR.noTup {a : Addr} {o : Ob} {ho : HO} (r : ObR K w μ H a o ho) {xs : List V} (e : ho = .tup xs) : False := by
  subst e
  cases r
theorem Good.mem (g : Good K w μ S H) {a : Addr} (h : a ∈ μ) : ∃ o ho, H a = some ho ∧ ObR K w μ H a o ho := by
  obtain ⟨n, hn⟩ := List.getElem?_of_mem h
  obtain ⟨o, ho, _, h2, h3⟩ := g.at_ n a hn
  exact ⟨o, ho, h2, h3⟩
theorem Good.notinR (g : Good K w μ S H) {a : Addr} {xs : List V} (h : Rd H a (.tup xs)) : a ∉ μ := fun hm => by
  obtain ⟨o, ho, e, r⟩ := g.mem hm
  rcases h with h | ⟨q, h⟩
  · rw [h] at e
    exact r.noTup (Option.some.inj e).symm
  · rw [h] at e
    cases e
    cases r
theorem Good.notin (g : Good K w μ S H) {a : Addr} {xs : List V} (h : H a = some (.tup xs)) : a ∉ μ := fun hm => by
  obtain ⟨o, ho, e, r⟩ := g.mem hm
  rw [h] at e
  exact r.noTup (Option.some.inj e).symm
theorem Ext.tupAt (x : Ext μ H μ' H') (g : Good K w μ S H) {a : Addr} {xs : List V} (h : H a = some (.tup xs)) : H' a = some (.tup xs) :=
  x.keep _ _ h (g.notin h)
theorem Ext.sqT (x : Ext μ H μ' H') (g : Good K w μ S H) {a : Addr} {xs : List V} (h : SqT K H a xs) : SqT K H' a xs := by
  rcases h with h | h
  · have hn := g.notinR h
    rcases h with h | ⟨q, h⟩
    · exact .inl (.inl (x.keep _ _ h hn))
    · exact .inl (.inr ⟨q, x.keep _ _ h hn⟩)
  · exact .inr h
theorem Ext.sqN (x : Ext μ H μ' H') (g : Good K w μ S H) {a : Addr} {xs : List V} (h : SqN K H a xs) : SqN K H' a xs := by
  rcases h with ⟨o, h, d⟩ | h
  · exact .inl ⟨o, x.keep _ _ h (g.notinR (.inr ⟨_, h⟩)), d⟩
  · exact .inr h
mutual
theorem Rl.ext (x : Ext μ H μ' H') (g : Good K w μ S H) : ∀ {d : D} {v : V}, Rl K μ H d v → Rl K μ' H' d v
  | _, _, .non => .non
  | _, _, .bl b => .bl b
  | _, _, .int i => .int i
  | _, _, .str s => .str s
  | _, _, .ref h => .ref (x.at_ h)
  | _, _, .tup h r => .tup (x.sqN g h) (RlA.ext x g r)
  | _, _, .fn h => .fn h
  | _, _, .tpf h r => .tpf (x.sqT g h) (RlA.ext x g r)
theorem RlA.ext (x : Ext μ H μ' H') (g : Good K w μ S H) : ∀ {ds : List D} {vs : List V}, RlA K μ H ds vs → RlA K μ' H' ds vs
  | _, _, .nil => .nil
  | _, _, .cons h t => .cons (Rl.ext x g h) (RlA.ext x g t)
end
theorem RlN.ext (x : Ext μ H μ' H') (g : Good K w μ S H) : ∀ {kvs : List (D × D)} {es : List (NestedKey × Addr × V)}, RlN K μ H kvs es → RlN K μ' H' kvs es
  | _, _, .nil => .nil
  | _, _, .cons e a b t => .cons e (Rl.ext x g a) (Rl.ext x g b) (RlN.ext x g t)
theorem ObR.ext (x : Ext μ H μ' H') (g : Good K w μ S H) {a : Addr} {o : Ob} {ho : HO} (r : ObR K w μ H a o ho) : ObR K w μ' H' a o ho := by
  cases r with
  | lst r => exact .lst (RlA.ext x g r)
  | dki l r => exact .dki l (RlA.ext x g r)
  | dkn r => exact .dkn (RlN.ext x g r)
theorem Good.lst (g : Good K w μ S H) {n : Nat} {a : Addr} (h : μ[n]? = some a) {l : List D} (e : S.get n = some l) : ∃ xs, H a = some (.lst xs) ∧ RlA K μ H l xs := by
  obtain ⟨o, ho, h1, h2, h3⟩ := g.at_ n a h
  rw [get_obj e] at h1
  cases h1
  cases h3 with
  | lst r => exact ⟨_, h2, r⟩
/-- a new tuple -/
theorem ext_tup {p : Addr} {xs : List V} (hp : H p = none) : Ext μ H μ (upd H p (.tup xs)) :=
  ⟨⟨[], by simp, by simp⟩, fun a o h _ => by rw [upd_ne (ne_of_none h hp)]; exact h, fun a h => by
    by_cases e : a = p
    · subst e; exact hp
    · rw [upd_ne e] at h; exact h⟩
theorem good_tup {p : Addr} {xs : List V} (g : Good K w μ S H) (hp : H p = none) : Good K w μ S (upd H p (.tup xs)) := by
  have x : Ext μ H μ (upd H p (.tup xs)) := ext_tup hp
  refine ⟨g.len, g.nd, fun n a h => ?_⟩
  obtain ⟨o, ho, h1, h2, h3⟩ := g.at_ n a h
  exact ⟨o, ho, h1, by rw [upd_ne (ne_of_none h2 hp)]; exact h2, ObR.ext x g h3⟩
/-- any new thing that is no one's -/
theorem ext_new {p : Addr} {ho : HO} (hp : H p = none) : Ext μ H μ (upd H p ho) :=
  ⟨⟨[], by simp, by simp⟩, fun a o h _ => by rw [upd_ne (ne_of_none h hp)]; exact h, fun a h => by
    by_cases e : a = p
    · subst e; exact hp
    · rw [upd_ne e] at h; exact h⟩
theorem good_new {p : Addr} {ho : HO} (g : Good K w μ S H) (hp : H p = none) : Good K w μ S (upd H p ho) := by
  have x : Ext μ H μ (upd H p ho) := ext_new hp
  refine ⟨g.len, g.nd, fun n a h => ?_⟩
  obtain ⟨o, ho', h1, h2, h3⟩ := g.at_ n a h
  exact ⟨o, ho', h1, by rw [upd_ne (ne_of_none h2 hp)]; exact h2, ObR.ext x g h3⟩
/-- a new thing of the store -/
theorem ext_obj {p : Addr} {ho : HO} (hp : H p = none) : Ext μ H (μ ++ [p]) (upd H p ho) :=
  ⟨⟨[p], rfl, by simpa using hp⟩, fun a o h _ => by rw [upd_ne (ne_of_none h hp)]; exact h, fun a h => by
    by_cases e : a = p
    · subst e; exact hp
    · rw [upd_ne e] at h; exact h⟩
theorem good_obj {p : Addr} {o : Ob} {ho : HO} (g : Good K w μ S H) (hp : H p = none) (r : ObR K w μ H p o ho) : Good K w (μ ++ [p]) (S.newO o) (upd H p ho) := by
  have x : Ext μ H (μ ++ [p]) (upd H p ho) := ext_obj hp
  have hnp : p ∉ μ := fun hm => by
    obtain ⟨_, _, e, _⟩ := g.mem hm
    rw [hp] at e
    cases e
  refine ⟨by rw [List.length_append, g.len]; rfl, ?_, fun n a h => ?_⟩
  · rw [List.nodup_append]
    refine ⟨g.nd, by simp, fun a ha b hb => ?_⟩
    simp at hb
    subst hb
    exact fun e => hnp (e ▸ ha)
  · by_cases hn : n < μ.length
    · rw [List.getElem?_append_left hn] at h
      obtain ⟨o', ho', h1, h2, h3⟩ := g.at_ n a h
      refine ⟨o', ho', ?_, by rw [upd_ne (ne_of_none h2 hp)]; exact h2, ObR.ext x g h3⟩
      rw [get_new_ne (by rw [← g.len]; omega)]
      exact h1
    · have hl := (List.getElem?_eq_some_iff.mp h).1
      rw [List.length_append] at hl
      have e : n = μ.length := by simp at hl; omega
      subst e
      rw [List.getElem?_append_right (Nat.le_refl _)] at h
      simp at h
      subst h
      refine ⟨o, ho, ?_, upd_same, ObR.ext x g r⟩
      rw [g.len]
      exact get_new_same
theorem ext_lst {p : Addr} {xs : List V} (hp : H p = none) : Ext μ H (μ ++ [p]) (upd H p (.lst xs)) := ext_obj hp
theorem good_lst {p : Addr} {l : List D} {xs : List V} (g : Good K w μ S H) (hp : H p = none) (r : RlA K μ H l xs) : Good K w (μ ++ [p]) (S.new l) (upd H p (.lst xs)) := good_obj g hp (.lst r)
theorem at_last {p : Addr} (g : Good K w μ S H) : (μ ++ [p])[S.nx]? = some p := by
  rw [← g.len, List.getElem?_append_right (Nat.le_refl _)]
  simp
theorem nd_ix {l : List Addr} (hN : l.Nodup) {i j : Nat} {x : Addr} (a : l[i]? = some x) (b : l[j]? = some x) : i = j := by
  obtain ⟨h1, e1⟩ := List.getElem?_eq_some_iff.mp a
  obtain ⟨h2, e2⟩ := List.getElem?_eq_some_iff.mp b
  have p := List.pairwise_iff_getElem.mp hN
  rcases Nat.lt_trichotomy i j with h | h | h
  · exact absurd (e1.trans e2.symm) (p i j h1 h2 h)
  · exact h
  · exact absurd (e2.trans e1.symm) (p j i h2 h1 h)
/-- a thing of the store is changed -/
theorem ext_setO {n : Nat} {a : Addr} {ho : HO} (h : μ[n]? = some a) : Ext μ H μ (upd H a ho) :=
  ⟨⟨[], by simp, by simp⟩, fun b o hb hn => by
    rw [upd_ne fun e => hn (by rw [e]; exact List.mem_of_getElem? h)]
    exact hb, fun b hb => by
    by_cases e : b = a
    · subst e; rw [upd_same] at hb; cases hb
    · rw [upd_ne e] at hb; exact hb⟩
theorem good_setO {n : Nat} {a : Addr} {o : Ob} {ho : HO} (g : Good K w μ S H) (h : μ[n]? = some a) (r : ObR K w μ H a o ho) : Good K w μ (S.setO n o) (upd H a ho) := by
  have x : Ext μ H μ (upd H a ho) := ext_setO h
  refine ⟨g.len, g.nd, fun m b hm => ?_⟩
  by_cases e : n = m
  · subst e
    rw [h] at hm
    cases hm
    exact ⟨o, ho, get_set_same, upd_same, ObR.ext x g r⟩
  · have hb : b ≠ a := fun e2 => by
      subst e2
      exact e (nd_ix g.nd h hm)
    obtain ⟨o', ho', h1, h2, h3⟩ := g.at_ m b hm
    refine ⟨o', ho', ?_, by rw [upd_ne hb]; exact h2, ObR.ext x g h3⟩
    rw [get_set_ne e]
    exact h1
theorem ext_set {n : Nat} {a : Addr} {xs : List V} (h : μ[n]? = some a) : Ext μ H μ (upd H a (.lst xs)) := ext_setO h
theorem good_set {n : Nat} {a : Addr} {l : List D} {xs : List V} (g : Good K w μ S H) (h : μ[n]? = some a) (r : RlA K μ H l xs) : Good K w μ (S.set n l) (upd H a (.lst xs)) := good_setO g h (.lst r)

theorem sqN_up {a : Addr} {o : Obj} {xs : List V} (h : H a = some (.frz o (.tup xs))) (d : o.dict = none) : SqN K H a xs := .inl ⟨o, h, d⟩
theorem sqT_up {a : Addr} {xs : List V} (h : H a = some (.tup xs)) : SqT K H a xs := .inl (.inl h)
/-! ## the names -/
abbrev En := List (Option D)
structure EnvR (K : PySem.W.Frag) (μ : List Addr) (H : Hp) (env : En) (σ : List (Option V)) : Prop where
  len : env.length = σ.length
  at_ : ∀ (i : Nat) (d : D), env[i]? = some (some d) → ∃ v, σ[i]? = some (some v) ∧ Rl K μ H d v
theorem EnvR.ext (x : Ext μ H μ' H') (g : Good K w μ S H) {env : En} {σ : List (Option V)} (r : EnvR K μ H env σ) : EnvR K μ' H' env σ := ⟨r.len, fun i d h => by
  obtain ⟨v, h1, h2⟩ := r.at_ i d h
  exact ⟨v, h1, Rl.ext x g h2⟩⟩
theorem EnvR.set {env : En} {σ : List (Option V)} (r : EnvR K μ H env σ) {d : D} {v : V} (i : Nat) (h : Rl K μ H d v) : EnvR K μ H (env.set i (some d)) (σ.set i (some v)) := by
  refine ⟨by rw [List.length_set, List.length_set, r.len], fun j e hj => ?_⟩
  by_cases hij : i = j
  · subst hij
    have hl := (List.getElem?_eq_some_iff.mp hj).1
    rw [List.length_set] at hl
    rw [List.getElem?_set_self hl] at hj
    cases hj
    exact ⟨v, List.getElem?_set_self (r.len ▸ hl), h⟩
  · rw [List.getElem?_set_ne hij] at hj ⊢
    exact r.at_ j e hj
def wipeE (env : En) : List Nat → En
  | [] => env
  | v :: vs => (wipeE env vs).set v none
theorem EnvR.unset {env : En} {σ : List (Option V)} (r : EnvR K μ H env σ) (i : Nat) : EnvR K μ H (env.set i none) (σ.set i none) := by
  refine ⟨by rw [List.length_set, List.length_set, r.len], fun j e hj => ?_⟩
  by_cases hij : i = j
  · subst hij
    have hl := (List.getElem?_eq_some_iff.mp hj).1
    rw [List.length_set] at hl
    rw [List.getElem?_set_self hl] at hj
    cases hj
  · rw [List.getElem?_set_ne hij] at hj ⊢
    exact r.at_ j e hj
theorem EnvR.wipe {env : En} {σ : List (Option V)} (r : EnvR K μ H env σ) : ∀ vs : List Nat, EnvR K μ H (wipeE env vs) (L2.wipe σ vs)
  | [] => r
  | v :: vs => (EnvR.wipe r vs).unset v
def Post (K : PySem.W.Frag) (w : World) (μ : List Addr) (H : Hp) (d : D) (S' : Sto) (Q : VK) : Prop :=
  ∀ v μ' H', Ext μ H μ' H' → Good K w μ' S' H' → Rl K μ' H' d v → Q v H'
def PostA (K : PySem.W.Frag) (w : World) (μ : List Addr) (H : Hp) (ds : List D) (S' : Sto) (Q : List V → Hp → Prop) : Prop :=
  ∀ vs μ' H', Ext μ H μ' H' → Good K w μ' S' H' → RlA K μ' H' ds vs → Q vs H'
end
end EV
set_option Elab.async false
set_option linter.all false
set_option maxRecDepth 100000
set_option maxHeartbeats 4000000
namespace EV
open PySem PySem.Spec PyProof.Rows L2
mutual
def keyB : D → Option NestedKey
  | .non => some .none
  | .int i => some (.num i)
  | .str x => some (.text x)
  | .tup l => (match keyBs l with | some ks => some (.tup ks) | none => none)
  | _ => none
def keyBs : List D → Option (List NestedKey)
  | [] => some []
  | d :: r => (match keyB d with
    | some k => (match keyBs r with | some ks => some (k :: ks) | none => none)
    | none => none)
end
mutual
def unkey : NestedKey → D
  | .none => .non
  | .num i => .int i
  | .text x => .str x
  | .tup ks => .tup (unkeys ks)
def unkeys : List NestedKey → List D
  | [] => []
  | k :: ks => unkey k :: unkeys ks
end
mutual
theorem keyB_un : ∀ {d : D} {k : NestedKey}, keyB d = some k → unkey k = d
  | .non, _, e => by unfold keyB at e; cases e; rfl
  | .bl b, _, e => by unfold keyB at e; cases e
  | .int i, _, e => by unfold keyB at e; cases e; rfl
  | .str x, _, e => by unfold keyB at e; cases e; rfl
  | .ref n, _, e => by unfold keyB at e; cases e
  | .fn x, _, e => by unfold keyB at e; cases e
  | .tup l, _, e => by
    unfold keyB at e
    cases e1 : keyBs l with
    | none => rw [e1] at e; cases e
    | some ks =>
      rw [e1] at e
      cases e
      unfold unkey
      rw [keyBs_un e1]
theorem keyBs_un : ∀ {l : List D} {ks : List NestedKey}, keyBs l = some ks → unkeys ks = l
  | [], _, e => by unfold keyBs at e; cases e; rfl
  | d :: r, _, e => by
    unfold keyBs at e
    cases e1 : keyB d with
    | none => rw [e1] at e; cases e
    | some k =>
      cases e2 : keyBs r with
      | none => rw [e1, e2] at e; cases e
      | some ks =>
        rw [e1, e2] at e
        cases e
        unfold unkeys
        rw [keyB_un e1, keyBs_un e2]
end
mutual
theorem keyB_D : ∀ {d : D} {k : NestedKey}, keyB d = some k → keyD d = some k
  | .non, _, e => by unfold keyB at e; unfold keyD; exact e
  | .bl b, _, e => by unfold keyB at e; cases e
  | .int i, _, e => by unfold keyB at e; unfold keyD; exact e
  | .str x, _, e => by unfold keyB at e; unfold keyD; exact e
  | .ref n, _, e => by unfold keyB at e; cases e
  | .fn x, _, e => by unfold keyB at e; cases e
  | .tup l, _, e => by
    unfold keyB at e
    unfold keyD
    cases e1 : keyBs l with
    | none => rw [e1] at e; cases e
    | some ks =>
      rw [e1] at e
      cases e
      rw [keyBs_D e1]
      rfl
theorem keyBs_D : ∀ {l : List D} {ks : List NestedKey}, keyBs l = some ks → keyDs l = some ks
  | [], _, e => by unfold keyBs at e; unfold keyDs; exact e
  | d :: r, _, e => by
    unfold keyBs at e
    unfold keyDs
    cases e1 : keyB d with
    | none => rw [e1] at e; cases e
    | some k =>
      cases e2 : keyBs r with
      | none => rw [e1, e2] at e; cases e
      | some ks =>
        rw [e1, e2] at e
        cases e
        rw [keyB_D e1, keyBs_D e2]
end
/-! ## ascending keys, each once -/
def ltK (a b : NestedKey) : Bool := PySem.W.dataLt a.data b.data
def insN (k : NestedKey) : List NestedKey → List NestedKey
  | [] => [k]
  | y :: r => cond (decide (k = y)) (y :: r) (cond (ltK k y) (k :: y :: r) (y :: insN k r))
def sortN : List NestedKey → List NestedKey
  | [] => []
  | k :: r => insN k (sortN r)
def strictN : List NestedKey → Bool
  | [] => true
  | k :: r => cond (r.all fun y => cond (decide (k = y)) false (ltK k y)) (strictN r) false
theorem insN_mem {k x : NestedKey} : ∀ {l : List NestedKey}, x ∈ insN k l ↔ x = k ∨ x ∈ l
  | [] => by simp [insN]
  | y :: r => by
    unfold insN
    by_cases c : k = y
    · simp only [c, decide_true, cond_true]
      constructor
      · exact .inr
      · rintro (h | h)
        · rw [h]; exact List.mem_cons_self
        · exact h
    · simp only [c, decide_false, cond_false]
      cases ltK k y with
      | true => simp only [cond_true]; exact List.mem_cons
      | false =>
        simp only [cond_false]
        rw [List.mem_cons, insN_mem, List.mem_cons]
        constructor
        · rintro (h | h | h)
          · exact .inr (.inl h)
          · exact .inl h
          · exact .inr (.inr h)
        · rintro (h | h | h)
          · exact .inr (.inl h)
          · exact .inl h
          · exact .inr (.inr h)
theorem sortN_mem {x : NestedKey} : ∀ {l : List NestedKey}, x ∈ sortN l ↔ x ∈ l
  | [] => Iff.rfl
  | k :: r => by
    show x ∈ insN k (sortN r) ↔ _
    rw [insN_mem, sortN_mem, List.mem_cons]
theorem strictN_pw : ∀ {l : List NestedKey}, strictN l = true → l.Pairwise fun a b => a ≠ b ∧ ltK a b = true
  | [], _ => .nil
  | k :: r, h => by
    unfold strictN at h
    cases c : (r.all fun y => cond (decide (k = y)) false (ltK k y)) with
    | false => rw [c] at h; cases h
    | true =>
      rw [c] at h
      refine .cons (fun y hy => ?_) (strictN_pw h)
      have q := List.all_eq_true.mp c y hy
      by_cases e : k = y
      · simp [e] at q
      · simp only [e, decide_false, cond_false] at q
        exact ⟨e, q⟩
/-- one strictly ascending row has these members -/
theorem strict_one : ∀ {c l : List NestedKey}, c.Pairwise (fun a b => ltK a b = true) → l.Pairwise (fun a b => ltK b a = false) → c.Nodup → l.Nodup → (∀ x, x ∈ l ↔ x ∈ c) → l = c
  | [], [], _, _, _, _, _ => rfl
  | [], x :: l, _, _, _, _, h => absurd ((h x).mp List.mem_cons_self) (by simp)
  | x :: c, [], _, _, _, _, h => absurd ((h x).mpr List.mem_cons_self) (by simp)
  | x :: c, y :: l, hc, hl, nc, nl, h => by
    rw [List.pairwise_cons] at hc hl
    rw [List.nodup_cons] at nc nl
    have e : y = x := by
      rcases List.mem_cons.mp ((h y).mp List.mem_cons_self) with e | hy
      · exact e
      · rcases List.mem_cons.mp ((h x).mpr List.mem_cons_self) with e | hx
        · exact e.symm
        · have a1 := hc.1 y hy
          have a2 := hl.1 x hx
          rw [a1] at a2
          cases a2
    subst e
    rw [strict_one hc.2 hl.2 nc.2 nl.2 fun z => ?_]
    constructor
    · intro hz
      rcases List.mem_cons.mp ((h z).mp (List.mem_cons_of_mem _ hz)) with e | hz'
      · rw [e] at hz; exact absurd hz nl.1
      · exact hz'
    · intro hz
      rcases List.mem_cons.mp ((h z).mpr (List.mem_cons_of_mem _ hz)) with e | hz'
      · rw [e] at hz; exact absurd hz nc.1
      · exact hz'
def tupleB : PyData → Bool | .tuple (_ :: _) => true | _ => false
def alikeB (ps : List PyData) : Bool := ps.all fun p => ps.all fun q => PySem.W.alike p q
def ksB (ks : List NestedKey) : Bool := Nat.blt ks.length 64 && ks.all (fun k => Nat.ble k.depth 8 && Nat.ble k.data.depth 40 && tupleB k.data) && alikeB (ks.map NestedKey.data) && strictN (sortN ks)
end EV
set_option Elab.async false
set_option linter.all false
set_option maxRecDepth 100000
set_option maxHeartbeats 4000000
/-! dicts by numbers or by tuples, by values -/
namespace EV
open PySem PySem.Spec PyProof.Rows L2
mutual
inductive NKv (K : PySem.W.Frag) (H : Hp) : V → NestedKey → Prop
  | non : NKv K H .non .none
  | bl (b : Bool) : NKv K H (.bl b) (.num (if b = true then 1 else 0))
  | int (i : Int) : NKv K H (.int i) (.num i)
  | str (x : Str) : NKv K H (.str x) (.text x)
  | tup {a : Addr} {xs : List V} {ks : List NestedKey} : SqT K H a xs → NKs K H xs ks → NKv K H (.ref a) (.tup ks)
inductive NKs (K : PySem.W.Frag) (H : Hp) : List V → List NestedKey → Prop
  | nil : NKs K H [] []
  | cons {v : V} {k : NestedKey} {vs : List V} {ks : List NestedKey} : NKv K H v k → NKs K H vs ks → NKs K H (v :: vs) (k :: ks)
end
abbrev Es := List (NestedKey × Addr × V)
def KeysOk (K : PySem.W.Frag) (H : Hp) (es : Es) : Prop := ∀ e ∈ es, NKv K H (.ref e.2.1) e.1 ∧ e.1.depth ≤ 8
def valN (es : Es) (k : NestedKey) : Option V := (es.find? fun e => decide (e.1 = k)).map (·.2.2)
def putN (es : Es) (k : NestedKey) (b : Addr) (v : V) : Es := if (es.any fun e => decide (e.1 = k)) = true then es.map fun e => if e.1 = k then (e.1, e.2.1, v) else e else es ++ [(k, b, v)]
def mkX (es : Es) (us : List Value) : List (NestedKey × Addr × Value) := (es.zip us).map fun p => (p.1.1, p.1.2.1, p.2)
section
variable {P : Program} {w : World} {K : PySem.W.Frag} {H : Hp} {h : Heap}
mutual
theorem nk_is (kin : K.In h) (ok : HOk P w H h) : ∀ {x : V} {k : NestedKey} {u : Value}, NKv K H x k → RelV x u → NestedIs h k u
  | _, _, _, .non, r => by cases r; exact .none
  | _, _, _, .bl b, r => by cases r; exact .bool rfl
  | _, _, _, .int i, r => by obtain ⟨t, rfl⟩ := r; exact .int i t
  | _, _, _, .str x, r => by obtain ⟨t, rfl⟩ := r; exact .text x t
  | _, _, _, .tup e t, r => by
    cases r
    rcases e with e | ⟨o, its, n, hk, hc, hd, hs, rv⟩
    · obtain ⟨_, its, rv, ob, e1, e2, n, e3⟩ := e.ok ok
      exact .tup e1 e2 e3 (nks_is kin ok t rv)
    · exact .tup (kin _ _ hk) hc hd (nks_is kin ok t rv)
theorem nks_is (kin : K.In h) (ok : HOk P w H h) : ∀ {xs : List V} {ks : List NestedKey} {us : List Value}, NKs K H xs ks → Vals xs us → NestedAll h ks us
  | _, _, _, .nil, .nil => .nil
  | _, _, _, .cons a t, .cons r s => .cons (nk_is kin ok a r) (nks_is kin ok t s)
end
theorem nk_kind (kin : K.In h) (ok : HOk P w H h) {k : NestedKey} {b : Addr} (n : NKv K H (.ref b) k) (d : k.depth ≤ 8) : (nestedKind P w).is h k b := ⟨nk_is kin ok n rfl, d⟩
theorem mkX_fst : ∀ {es : Es} {us : List Value}, es.length = us.length → (mkX es us).map (·.1) = es.map (·.1)
  | [], [], _ => rfl
  | e :: es, u :: us, h => by
    have := mkX_fst (es := es) (us := us) (by simpa using h)
    show e.1 :: (mkX es us).map (·.1) = e.1 :: es.map (·.1)
    rw [this]
  | [], _ :: _, h => by cases h
  | _ :: _, [], h => by cases h
theorem mkX_mem : ∀ {es : Es} {us : List Value} {x : NestedKey × Addr × Value}, x ∈ mkX es us → ∃ e ∈ es, x.1 = e.1 ∧ x.2.1 = e.2.1 := fun {es us x} hx => by
  obtain ⟨p, hp, rfl⟩ := List.mem_map.mp hx
  exact ⟨p.1, (List.of_mem_zip hp).1, rfl, rfl⟩
theorem dn_at (kin : K.In h) (ok : HOk P w H h) {a : Addr} {es : Es} (e : H a = some (dnO w a es)) (kk : KeysOk K H es) :
    es.length ≤ sizeLine ∧ (a == sysModules) = false ∧ ∃ us, Vals (es.map (·.2.2)) us ∧ h.DictOfH (nestedKind P w) a (mkX es us) := by
  have x : ObjOk P w H h a (dnO w a es) := ok _ _ e
  obtain ⟨⟨z, sy, nd, us, o, ents, ep, rv, e1, e2, e3, e4⟩, _, _⟩ := x
  refine ⟨z, sy, us, rv, o, ents, ep, e1, e2, e3, ?_, fun y hy => ?_, ?_⟩
  · rw [e4]
    unfold mkX
    rw [List.map_map]
    rfl
  · obtain ⟨f, hf, k1, k2⟩ := mkX_mem hy
    rw [k1, k2]
    exact nk_kind kin ok (kk f hf).1 (kk f hf).2
  · rw [mkX_fst (by have := rv.length; simpa using this)]
    exact nd
theorem dn_new {a : Addr} {es : Es} {us : List Value} {H' : Hp} (z : es.length ≤ sizeLine) (sy : (a == sysModules) = false) (rv : Vals (es.map (·.2.2)) us) (dd : h.DictOfH (nestedKind P w) a (mkX es us)) : ObjOk P w H' h a (dnO w a es) := by
  obtain ⟨o, ents, ep, e1, e2, e3, e4, _, nd⟩ := dd
  rw [mkX_fst (by have := rv.length; simpa using this)] at nd
  refine ⟨⟨z, sy, nd, us, o, ents, ep, rv, e1, e2, e3, ?_⟩, ⟨o, e1⟩, fun h1 h2 p k => ?_⟩
  · rw [e4]
    unfold mkX
    rw [List.map_map]
    rfl
  · obtain ⟨z, sy, nd, us, o, ents, ep, rv, e1, r⟩ := p
    exact ⟨z, sy, nd, us, o, ents, ep, rv, k _ e1, r⟩
theorem at_mk (k : NestedKey) : ∀ {es : Es} {us : List Value}, Vals (es.map (·.2.2)) us → RelO (valN es k) ((atKey (mkX es us) k).map (·.2))
  | [], [], _ => True.intro
  | e :: es, u :: us, r => by
    cases r with
    | cons r1 r2 =>
      by_cases q : e.1 = k
      · have a1 : valN (e :: es) k = some e.2.2 := by simp [valN, q]
        have a2 : atKey (mkX (e :: es) (u :: us)) k = some (e.2.1, u) := by simp [atKey, mkX, q]
        rw [a1, a2]
        exact r1
      · have a1 : valN (e :: es) k = valN es k := by simp [valN, q]
        have a2 : atKey (mkX (e :: es) (u :: us)) k = atKey (mkX es us) k := by simp [atKey, mkX, q]
        rw [a1, a2]
        exact at_mk k r2
  | e :: es, [], r => by cases r
  | [], _ :: _, r => by cases r
theorem at_some (k : NestedKey) : ∀ {es : Es} {us : List Value}, es.length = us.length → (atKey (mkX es us) k).isSome = (es.any fun e => decide (e.1 = k))
  | [], [], _ => rfl
  | e :: es, u :: us, h => by
    have ih := at_some k (es := es) (us := us) (by simpa using h)
    by_cases q : e.1 = k
    · simp [atKey, mkX, q]
    · have a2 : atKey (mkX (e :: es) (u :: us)) k = atKey (mkX es us) k := by simp [atKey, mkX, q]
      rw [a2, ih]
      simp [q]
  | [], _ :: _, h => by cases h
  | _ :: _, [], h => by cases h
theorem put_old (k : NestedKey) {v : V} {u : Value} (rv : RelV v u) : ∀ {es : Es} {us : List Value}, Vals (es.map (·.2.2)) us →
    ∃ us', Vals ((es.map fun e => if e.1 = k then (e.1, e.2.1, v) else e).map (·.2.2)) us' ∧ (mkX es us).map (putAt k u) = mkX (es.map fun e => if e.1 = k then (e.1, e.2.1, v) else e) us'
  | [], [], _ => ⟨[], .nil, rfl⟩
  | e :: es, z :: us, r => by
    cases r with
    | cons r1 r2 =>
      obtain ⟨us', h1, h2⟩ := put_old k rv r2
      by_cases q : e.1 = k
      · refine ⟨u :: us', ?_, ?_⟩
        · simpa [q] using Paired.cons rv h1
        · show putAt k u (e.1, e.2.1, z) :: (mkX es us).map (putAt k u) = _
          rw [h2]
          simp [putAt, q, mkX]
      · refine ⟨z :: us', ?_, ?_⟩
        · simpa [q] using Paired.cons r1 h1
        · show putAt k u (e.1, e.2.1, z) :: (mkX es us).map (putAt k u) = _
          rw [h2]
          simp [putAt, q, mkX]
  | e :: es, [], r => by cases r
  | [], _ :: _, r => by cases r
theorem put_mk (k : NestedKey) (b : Addr) {v : V} {u : Value} (rv : RelV v u) {es : Es} {us : List Value} (r : Vals (es.map (·.2.2)) us) :
    ∃ us', Vals ((putN es k b v).map (·.2.2)) us' ∧ storedH (mkX es us) k b u = mkX (putN es k b v) us' := by
  have hl : es.length = us.length := by have := r.length; simpa using this
  have hs := at_some k hl
  cases c : (es.any fun e => decide (e.1 = k)) with
  | true =>
    rw [c] at hs
    obtain ⟨us', h1, h2⟩ := put_old k rv r
    refine ⟨us', ?_, ?_⟩
    · unfold putN
      rw [if_pos c]
      exact h1
    · unfold storedH putN
      rw [if_pos hs, if_pos c]
      exact h2
  | false =>
    rw [c] at hs
    refine ⟨us ++ [u], ?_, ?_⟩
    · unfold putN
      rw [if_neg (by rw [c]; decide), List.map_append]
      exact Vals.append r (.cons rv .nil)
    · unfold storedH putN
      rw [if_neg (by rw [hs]; decide), if_neg (by rw [c]; decide)]
      unfold mkX
      rw [List.zip_append hl, List.map_append]
      rfl
theorem putN_len (es : Es) (k : NestedKey) (b : Addr) (v : V) : (putN es k b v).length ≤ es.length + 1 := by
  unfold putN
  split <;> simp
end
/-! ### both kinds -/
def DGetA (K : PySem.W.Frag) (w : World) (H : Hp) (a : Addr) (y : V) (o : Option V) : Prop := DGet H a y o ∨ ∃ es k b, H a = some (dnO w a es) ∧ KeysOk K H es ∧ y = .ref b ∧ NKv K H (.ref b) k ∧ k.depth ≤ 8 ∧ o = valN es k
def DGetB (K : PySem.W.Frag) (w : World) (H : Hp) (a : Addr) (y : V) (o : Option V) : Prop := DGetA K w H a y o ∨ ∃ kvs, H a = some (.dK kvs) ∧ y = .non ∧ o = none
def DPutA (K : PySem.W.Frag) (w : World) (H : Hp) (a : Addr) (y v : V) (H' : Hp) : Prop := DPut H a y v H' ∨ ∃ es k b, H a = some (dnO w a es) ∧ KeysOk K H es ∧ y = .ref b ∧ NKv K H (.ref b) k ∧ k.depth ≤ 8 ∧ es.length < sizeLine ∧ H' = upd H a (dnO w a (putN es k b v))
section
variable {X : Cx} {pins : List (Addr × Obj)} {σ : L2.St} {H H' : Hp} {s : Shared} {a : Addr} {y v d : V} {u r : Value} {o : Option V} {A : Around} {Er : Value → Shared → Prop}
theorem room8 {prog : Program} {w : World} (hu : A.units + 64 < cLine) : (nestedKind prog w).room A.in1 := by
  show A.units + 1 + 8 < cLine
  omega
theorem a_val (hu : A.units + 64 < cLine) (I : Inv X pins σ H s) (g : DGetA X.K X.w H a y (some v)) (ry : RelV y u) : ∃ z, RelV v z ∧ ∀ (R : Value → Shared → Prop) (Er : Value → Shared → Prop), (∀ s', Inv X pins σ H s' → R z s') → wpAny (model X.prog X.w) A (getItem (.ref a) u) R Er s := by
  rcases g with (⟨kvs, k, e, rfl, l⟩ | ⟨kvs, k, b, e, rfl, eb, l⟩) | ⟨es, nk, b, e, kk, rfl, n, dp, ev⟩
  · obtain ⟨_, sy, vs, rel, dd⟩ := dk_rd I.hok e
    obtain ⟨z, hz, rz⟩ := RelO.some_of (v := v) (o := valueAt vs k) (by rw [l]; exact rel.val k)
    exact ⟨z, rz, fun R Er q => wpAny_getItem_of (kV_is ry) dd.mapOf hz (q _ (I.tok _))⟩
  · cases ry
    obtain ⟨_, sy, xs, rel, dd⟩ := dt_rd I.hok e
    obtain ⟨z, hz, rz⟩ := RelO.some_of (v := v) (o := (atKey xs k).map (·.2)) (by rw [l]; exact rel.val k)
    obtain ⟨p, hp, hp2⟩ := Option.map_eq_some_iff.mp hz
    refine ⟨z, rz, fun R Er q => wpAny_getItem_heap (tupleKind_room_in1 (by omega)) (key_of I.hok eb) dd hp ?_⟩
    rw [hp2]
    exact q _ (I.tok _)
  · cases ry
    obtain ⟨_, sy, us, rv, dd⟩ := dn_at (P := X.prog) I.kIn I.hok e kk
    have q := at_mk nk rv
    rw [← ev] at q
    obtain ⟨z, hz, rz⟩ := RelO.some_of (v := v) (o := (atKey (mkX es us) nk).map (·.2)) q
    obtain ⟨p, hp, hp2⟩ := Option.map_eq_some_iff.mp hz
    refine ⟨z, rz, fun R Er q => wpAny_getItem_heap (room8 hu) (nk_kind I.kIn I.hok n dp) dd hp ?_⟩
    rw [hp2]
    exact q _ (I.tok _)
theorem a_in {R : Value → Shared → Prop} (hu : A.units + 64 < cLine) (I : Inv X pins σ H s) (g : DGetA X.K X.w H a y o) (ry : RelV y u) (k : ∀ s', Inv X pins σ H s' → R (.bool o.isSome) s') : wpAny (model X.prog X.w) A (compareOp .In u (.ref a)) R Er s := by
  rcases g with g | ⟨es, nk, b, e, kk, rfl, n, dp, ev⟩
  · exact d_in (by omega) I g ry k
  · cases ry
    obtain ⟨_, sy, us, rv, dd⟩ := dn_at (P := X.prog) I.kIn I.hok e kk
    refine wpAny_in_heap (room8 hu) (nk_kind I.kIn I.hok n dp) sy dd ?_
    have q := (at_mk nk rv).isSome_eq
    rw [Option.isSome_map] at q
    rw [← q, ← ev]
    exact k _ (I.tok _)
theorem a_notIn {R : Value → Shared → Prop} (hu : A.units + 64 < cLine) (I : Inv X pins σ H s) (g : DGetA X.K X.w H a y o) (ry : RelV y u) (k : ∀ s', Inv X pins σ H s' → R (.bool (!o.isSome)) s') : wpAny (model X.prog X.w) A (compareOp .NotIn u (.ref a)) R Er s := by
  rcases g with g | ⟨es, nk, b, e, kk, rfl, n, dp, ev⟩
  · exact d_notIn (by omega) I g ry k
  · cases ry
    obtain ⟨_, sy, us, rv, dd⟩ := dn_at (P := X.prog) I.kIn I.hok e kk
    refine wpAny_notIn_heap (room8 hu) (nk_kind I.kIn I.hok n dp) sy dd ?_
    have q := (at_mk nk rv).isSome_eq
    rw [Option.isSome_map] at q
    rw [← q, ← ev]
    exact k _ (I.tok _)
theorem a_get2 {R : Value → Shared → Prop} (hu : A.units + 64 < cLine) (I : Inv X pins σ H s) (g : DGetA X.K X.w H a y o) (ry : RelV y u) (rd : RelV d r) (k : ∀ z s', Inv X pins σ H s' → RelV (o.getD d) z → R z s') : wpAny (model X.prog X.w) A (call (.builtin "dict.get") [.ref a, u, r]) R Er s := by
  rcases g with g | ⟨es, nk, b, e, kk, rfl, n, dp, ev⟩
  · exact d_get2 (by omega) I g ry rd k
  · cases ry
    obtain ⟨_, sy, us, rv, dd⟩ := dn_at (P := X.prog) I.kIn I.hok e kk
    refine call_meetsIn PySem.F.slot_dict_get dd.typeIs PySem.F.entry_dict_get (PySem.F.args_dict_get_3 _ _ _) (meetsH_dict_get_default (nestedKind X.prog X.w) a b sy r) ⟨room8 hu, nk, mkX es us, nk_kind I.kIn I.hok n dp, dd, k _ _ (I.tok _) ?_⟩
    rw [ev]
    exact (at_mk nk rv).getD rd
theorem a_set {R : Unit → Shared → Prop} (hu : A.units + 64 < cLine) (I : Inv X pins σ H s) (g : DPutA X.K X.w H a y v H') (ry : RelV y u) (rv : RelV v r) (k : ∀ s', Inv X pins σ H' s' → R () s') : wpAny (model X.prog X.w) A (setItem (.ref a) u r) R Er s := by
  rcases g with g | ⟨es, nk, b, e, kk, rfl, n, dp, lt, rfl⟩
  · exact d_setItem (by omega) I g ry rv k
  · cases ry
    obtain ⟨_, sy, us, rvs, dd⟩ := dn_at (P := X.prog) I.kIn I.hok e kk
    have hl : (mkX es us).length ≤ sizeLine := by
      unfold mkX
      rw [List.length_map, List.length_zip]
      omega
    refine wpAny_setItem_heap (hsz := hl) (room8 hu) (nk_kind I.kIn I.hok n dp) dd fun h' dd' sb => k _ ?_
    obtain ⟨us', r1, r2⟩ := put_mk nk b rv rvs
    rw [r2] at dd'
    have he : ∃ q, h'.get? a = some q := by
      obtain ⟨q, _, _, hq, _⟩ := dd'
      exact ⟨q, hq⟩
    exact d_write I (by rw [e]; exact True.intro) sb he (dn_new (by have := putN_len es nk b v; omega) sy r1 dd')
end
/-! ### rules by values -/
section
variable {X : Cx}
def rIxD (X : Cx) : R2 := fun x y H Q => ∃ a v, x = .ref a ∧ DGetA X.K X.w H a y (some v) ∧ Q v H
def DTy (X : Cx) (H : Hp) (a : Addr) : Prop := IsD H a ∨ ∃ es, H a = some (dnO X.w a es) ∧ KeysOk X.K H es
theorem dty_at {pins : List (Addr × Obj)} {σ : L2.St} {H : Hp} {s : Shared} {a : Addr} (I : Inv X pins σ H s) (t : DTy X H a) : s.TypeIs (.ref a) "dict" ∧ (∀ b, Value.ref a = .ref b → ∃ ob, s.heap.get? b = some ob ∧ ob.dict = none) := by
  rcases t with t | ⟨es, e, kk⟩
  · obtain ⟨h1, h2, _⟩ := isD_at I t
    exact ⟨h1, h2⟩
  · obtain ⟨_, _, us, _, dd⟩ := dn_at (P := X.prog) I.kIn I.hok e kk
    refine ⟨dd.typeIs, fun b q => ?_⟩
    cases q
    obtain ⟨ob, _, _, h1, h2, _⟩ := dd
    exact ⟨ob, h1, h2.2.1⟩
theorem get_ty {H : Hp} {a : Addr} {y : V} {o : Option V} (g : DGetA X.K X.w H a y o) : DTy X H a := by
  rcases g with (⟨kvs, k, e, _⟩ | ⟨kvs, k, b, e, _⟩) | ⟨es, k, b, e, kk, _⟩
  · exact .inl (.inl ⟨kvs, e⟩)
  · exact .inl (.inr ⟨kvs, e⟩)
  · exact .inr ⟨es, e, kk⟩
theorem ix_dict (hu : X.A.units + 64 < cLine) : IxR X (rIxD X) := by
  intro value slice pins s σ H x y v u Q I rx ry h hs
  obtain ⟨a, z, rfl, g, q⟩ := h
  cases rx
  have t := (dty_at I (get_ty g)).1
  obtain ⟨z', rz, k⟩ := a_val (A := X.A) hu I g ry
  exact subscriptTail_builtinR (x := z') t PySem.F.slot_dict_getitem.lookup (k _ _ fun s' I' => ⟨rfl, z, H, I', rz, q⟩) hs
def rInA (X : Cx) (neg : Bool) : R2 := fun x y H Q => ∃ a o, y = .ref a ∧ DGetA X.K X.w H a x o ∧ Q (.bl (if neg then !o.isSome else o.isSome)) H
theorem op_inD (hu : X.A.units + 64 < cLine) : OpR X (compareOp .In) (rInA X false) := by
  intro pins s σ H x y v u Q I rx ry h
  obtain ⟨a, o, rfl, g, q⟩ := h
  cases ry
  exact a_in hu I g rx fun s' I' => ⟨.bl o.isSome, H, I', rfl, q⟩
theorem op_notInD (hu : X.A.units + 64 < cLine) : OpR X (compareOp .NotIn) (rInA X true) := by
  intro pins s σ H x y v u Q I rx ry h
  obtain ⟨a, o, rfl, g, q⟩ := h
  cases ry
  exact a_notIn hu I g rx fun s' I' => ⟨.bl (!o.isSome), H, I', rfl, q⟩
def rSetD (X : Cx) : TSet := fun x y v H Q => ∃ a H', x = .ref a ∧ DPutA X.K X.w H a y v H' ∧ Q H'
theorem set_dict (hu : X.A.units + 64 < cLine) : PSet X (rSetD X) := by
  intro pins s σ H o i v ov iv u Q I ro ri rv h
  obtain ⟨a, H', rfl, g, q⟩ := h
  cases ro
  exact a_set hu I g ri rv fun s' I' => ⟨H', I', q⟩
/-- d.get(y, z) -/
def tGetA (X : Cx) (td ty tz : TE) : TE := fun σ H Q => td σ H fun x H1 => ∃ a, x = .ref a ∧ DTy X H1 a ∧ ty σ H1 fun y H2 => tz σ H2 fun z H3 => ∃ o, DGetB X.K X.w H3 a y o ∧ Q (o.getD z) H3
theorem pe_getA {o e f : Expr} {apos cpos : Pos} {td ty tz : TE} (hu : X.A.units + 64 < cLine) (ho : PE X o td) (he : PE X e ty) (hf : PE X f tz) (m : M2 X o "get" apos e f cpos) : PE X (.Call (.Attribute o "get" apos) [e, f] [] cpos) (tGetA X td ty tz) := by
  refine ⟨fun pins s σ H Q I h => ?_⟩
  refine wpAny_Call_method m.base m.few m.line PySem.F.plainAttrs_dict PySem.F.slot_dict_get PySem.F.type_dict_get (thn (ho.run pins s σ H _ I h) fun u s1 ⟨x, H1, I1, rx, a, ex, t, q1⟩ => ?_)
  subst ex
  obtain rfl : u = Value.ref a := rx
  obtain ⟨t1, t2⟩ := dty_at I1 t
  refine ⟨t1, t2, ?_⟩
  rw [m.trees]
  refine Calls.callWith_builtin rfl (Calls.evalArgs_plain (Calls.spliced_cons (thn (he.run pins s1 σ H1 _ I1 q1) fun v2 s2 ⟨y, H2, I2, ry, q2⟩ => Calls.spliced_cons (thn (hf.run pins s2 σ H2 _ I2 q2) fun v3 s3 ⟨z, H3, I3, rz, ov, g, q3⟩ => Calls.spliced_nil ?_))))
  rcases g with g | ⟨kvs, e, rfl, rfl⟩
  · exact a_get2 hu I3 g ry rz fun z' s4 I4 rz' => ⟨_, H3, I4, rz', q3⟩
  · obtain rfl : v2 = Value.none := ry
    exact n_get2 I3 e fun s4 I4 => ⟨_, H3, I4, rz, q3⟩
/-- {} by tuples -/
def tNewN (w : World) : TE := fun _ H Q => ∀ p, H p = none → Q (.ref p) (upd H p (dnO w p []))
/-- list(d.values()) -/
theorem dn_empty {P : Program} {w : World} {H : Hp} (h : Heap) (hb : sysModules < h.objs.size) : ObjOk P w H (h.push { cls := .type "dict", data := .dict #[] }) h.objs.size (dnO w h.objs.size []) := by
  refine ⟨⟨Nat.zero_le _, beq_eq_false_iff_ne.mpr (Ne.symm (Nat.ne_of_lt hb)), List.nodup_nil, [], _, #[], 0, .nil, Heap.get?_push_size _ rfl, ⟨rfl, rfl, rfl⟩, rfl, rfl⟩, ⟨_, Heap.get?_push_size _ rfl⟩, fun h1 h2 p k => ?_⟩
  obtain ⟨z, sy, nd, us, o, ents, ep, rv, e1, r⟩ := p
  exact ⟨z, sy, nd, us, o, ents, ep, rv, k _ e1, r⟩
theorem pe_newN {pos : Pos} : PE X (.Dict [] [] pos) (tNewN X.w) := by
  refine ⟨fun pins s σ H Q I h => wpAny_Dict_empty ?_⟩
  have J := I.laid (a := s.heap.objs.size) (o := dnO X.w s.heap.objs.size []) (t' := s.toks) (fun b o q => Heap.get?_push_of_some _ q) (Nat.le_refl _) (dn_empty s.heap I.big)
  exact ⟨.ref s.heap.objs.size, _, J, rfl, h _ (I.hok.fresh (Nat.le_refl _))⟩
def tValsK (td : TE) : TE := fun σ H Q => td σ H fun x H1 => ∃ a kvs, x = .ref a ∧ H1 a = some (.dK kvs) ∧ ∀ p, H1 p = none → Q (.ref p) (upd H1 p (.lst (kvs.map (·.2))))
theorem kv_vals {P : Program} {w : World} : ∀ {kvs : List (Key × V)} {vs : List (Key × Value)}, KV kvs vs → Vals (kvs.map (·.2)) (vs.map (·.2))
  | _, _, .nil => .nil
  | _, _, .cons r t => .cons r.2 (kv_vals (P := P) (w := w) t)
theorem pe_listVals {o : Expr} {p pos apos mpos : Pos} {td : TE} (hc : X.calm = true) (hg : Gl X "list") (hm : X.mg "list" = none) (hd : PE X o td) (hbase : attributeBase o "values" X.env (eval o X.env) = eval o X.env) (hline : (apos.endLine == mpos.line) = true) :
    PE X (.Call (.Name "list" p) [.Call (.Attribute o "values" apos) [] [] mpos] [] pos) (tValsK td) := by
  refine ⟨fun pins s σ H Q I h => ?_⟩
  refine Call_ (ld_blt I hg hm boot_list (PyProof.Rows.callWith_type1 ?_ (by rfl) rfl))
  refine Calls.spliced_cons (wpAny_Call_method0_late hbase hline (thn (hd.run pins s σ H _ I h) fun v s1 ⟨x, H1, I1, r1, a, kvs, ex, ha, q⟩ => ?_))
  subst ex
  obtain rfl : v = Value.ref a := r1
  obtain ⟨hz, hsys, vs, rel, dof⟩ := dk_of I1.hok ha
  obtain ⟨ep, dat⟩ := dof.dictAt
  obtain ⟨ob, es, ho, exd, hdat, hko, hpr, hnd⟩ := id dat
  refine ⟨"dict", "dict.values", F.plainAttrs_dict, F.slot_dict_values, F.type_dict_values, ⟨ob, ho, exd.1⟩, fun b e => ?_, Calls.callWith_builtin rfl (PySem.evalArgs_none ?_)⟩
  · cases e
    exact ⟨ob, ho, exd.2.1⟩
  refine call_meetsIn F.slot_dict_values ⟨ob, ho, exd.1⟩ F.entry_dict_values (F.args_dict_values_1 _) (meets_dict_values (mixKind X.prog X.w) a hsys) ⟨⟨vs, dof⟩, Calls.spliced_nil ?_⟩
  have k1 : ∀ b u, s1.heap.get? b = some u → (s1.heap.push { cls := .type "dict_values", data := .fields #[.ref a] }).get? b = some u := fun b u e => Heap.get?_push_of_some _ e
  have dat1 := dat.keep k1
  have vw : (s1.heap.push { cls := .type "dict_values", data := .fields #[.ref a] }).IsValuesView s1.heap.objs.size a := ⟨_, Heap.get?_push_size _ rfl, rfl, rfl⟩
  have I2 : Inv X pins σ H1 { s1 with heap := s1.heap.push { cls := .type "dict_values", data := .fields #[.ref a] } } := I1.kept (t' := s1.toks) k1
  have lv : kvs.length = vs.length := KV.length rel
  refine PySem.W.kdl_call (PySem.W.kdl_values (knd := mixKind X.prog X.w) (kvs := vs) (ep := ep)) (I.ok.hd hc) ⟨vw, dat1⟩ (by omega) fun h' tk acc c kp now items => ?_
  have ea : acc.toList = vs.map (·.2) := by
    obtain ⟨i1, i2⟩ := items
    refine List.ext_getElem? fun j => ?_
    by_cases hj : j < acc.size
    · have g1 : acc[j]? = some acc[j] := Array.getElem?_eq_getElem hj
      obtain ⟨k, hk⟩ := i2 j _ g1
      rw [Array.getElem?_toList, g1, List.getElem?_map, hk]
      rfl
    · have n1 : acc[j]? = none := Array.getElem?_eq_none (by omega)
      have n2 : (vs.map (·.2))[j]? = none := List.getElem?_eq_none (by rw [List.length_map]; omega)
      rw [Array.getElem?_toList, n1, n2]
  have J := I2.laid (t' := tk) (a := (s1.heap.push { cls := .type "dict_values", data := .fields #[.ref a] }).objs.size) (o := .lst (kvs.map (·.2))) (h' := h') kp (Nat.le_refl _)
    ⟨by rw [List.length_map]; exact hz, acc.toList, c, by rw [ea]; exact kv_vals (P := X.prog) (w := X.w) rel, by rw [now, Array.toArray_toList]⟩
  exact ⟨.ref _, _, J, rfl, q _ (I2.hok.fresh (Nat.le_refl _))⟩
end
end EV
set_option Elab.async false
set_option linter.all false
set_option maxRecDepth 100000
set_option maxHeartbeats 4000000
namespace EV
open PySem PySem.Spec PyProof.Rows L2

/-! ## the compact tree -/
inductive T1 where
  | nm (i : Nat) | tp (is : List Nat)
inductive Tg where
  | nm (i : Nat) | tp (is : List Nat) | nt (ts : List T1)
inductive ItK where
  | seq | rng1 | rng2 | rng3 | zip | enu | comb | revR
  deriving DecidableEq
inductive BI where
  | len | abs | int | bool | all | any | tuple | list | gcd | sorted | min | sum | max | divmod | dict | perm | comb
  deriving DecidableEq
inductive Mt where
  | append | pop | extend | index | popAt
  deriving DecidableEq
inductive C where
  | var (i : Nat)
  | kc (d : D)
  | glob (x : Str) (i : Int) | globT (i : Nat)
  | tup (cs : List C) | lst (cs : List C) | star (c : C)
  | bin (op : Operator) (a b : C) | neg (a : C)
  | not (a : C) | and (cs : List C) | or (cs : List C)
  | ite (t a b : C)
  | cmp (op : CmpOp) (a b : C) | chain (a : C) (op : CmpOp) (b : C) (op' : CmpOp) (c : C)
  | idx (a i : C) | slc (a : C) (lo hi : Option C)
  | call (j : Nat) (args : List C)
  | callK (j : Nat) (args : List C) (ks : List Str) (kws : List C) (perm : List Nat)
  | bi (b : BI) (args : List C)
  | isi (a : C) (ts : List String) | isi1 (a : C) (t : String)
  | meth (m : Mt) (o : C) (args : List C)
  | comp (vs : List Nat) (tg : Tg) (it : ItK) (ops : List C) (ifs : List C) (elt : C)
  | comp2 (vs : List Nat) (tg : Tg) (it : ItK) (ops : List C) (ifs : List C) (vs1 : List Nat) (tg1 : Tg) (it1 : ItK) (ops1 : List C) (ifs1 : List C) (elt : C)
  | dcomp (vs : List Nat) (tg : Tg) (it : ItK) (ops : List C) (ifs : List C) (k v : C)
  | glf (j : Nat) | callV (f : C) (args : List C)
  | chain3 (a : C) (op : CmpOp) (b : C) (op' : CmpOp) (c : C) (op'' : CmpOp) (d : C)
  | revs (a : C) | dnewI | dnewN | ddisp (kvs : List C) | dget (o k x : C) | dvals (o : C)
  | mdf (mx : Bool) (a d : C) | sset (a : C) | rngT (a : C) | rngL (a : C)
  | lprm (a f : C) | lzip (cs : List C) | tidx (o x : C)
inductive SE where
  | k (d : D) | isE (t : String) | fld (f : Str)
inductive CS where
  | asg (tg : Tg) (c : C) | par (is : List Nat) (cs : List C) | sub (o i c : C)
  | expr (c : C) | ret (c : C) | retN
  | ite (t : C) (a b : List CS)
  | for_ (tg : Tg) (it : ItK) (ops : List C) (body : List CS)
  | while_ (t : C) (body : List CS)
  | pass | brk | cont
  | raise (k : Nat)
  | raise1 (k : Nat) (c : C)
  | aug (i : Nat) (op : Operator) (c : C)
  | del (o i : C)
  | try_ (body : List CS) (hs : List (Nat × Nat × List SE))
structure FnE where
  name : Str
  ps : List Str
  N : List Str
  dfl : List D
  shapes : List (Nat × List Str × List Nat)
  body : List CS

structure Tb where
  fs : List FnE
  gcd : List (Str × String)
  consts : List (Str × Int)
  tcs : List (Str × List Int)
  comb : Bool
  prm : Bool
  excs : List Str
  bases : List (List String)
  flds : List (Option Str)

/-! ## the evaluator -/
inductive Rs where
  | ok (d : D) (S : Sto) | oks (ds : List D) (S : Sto)
  | nx (e : En) (S : Sto) | ret (d : D) (S : Sto) | brk (e : En) (S : Sto) | cnt (e : En) (S : Sto)
  | exc (c : Nat) (as : List D) (S : Sto) | bad
def Rs.b1 (r : Rs) (f : D → Sto → Rs) : Rs := match r with
  | .ok d S => f d S
  | .exc c as S => .exc c as S
  | _ => .bad
def Rs.bs (r : Rs) (f : List D → Sto → Rs) : Rs := match r with
  | .oks d S => f d S
  | .exc c as S => .exc c as S
  | _ => .bad
inductive Iv where
  | lst (n : Nat) | tup (ds : List D) | rng (lo : Int) (n : Nat) | zipL (n m : Nat) | zipT (xs ys : List D) | enuL (n : Nat) | enuT (ds : List D) | rngC (lo c : Int) (n : Nat) | cmb (rows : List (List D))
inductive Tk where
  | e (c : C) | es (cs : List C) | t (c : C) | ands (cs : List C) | ors (cs : List C) | andv (cs : List C) | orv (cs : List C)
  | op (c : Option C)
  | s (c : CS) | ss (cs : List CS)
  | floop (i : Nat) (iv : Iv) (tg : Tg) (body : List CS)
  | wloop (t : C) (body : List CS)
  | lc (i : Nat) (iv : Iv) (n : Nat) (vs : List Nat) (tg : Tg) (ifs : List C) (elt : C)
  | lc2 (i : Nat) (iv : Iv) (n : Nat) (vs : List Nat) (tg : Tg) (ifs : List C) (vs1 : List Nat) (tg1 : Tg) (it1 : ItK) (ops1 : List C) (ifs1 : List C) (elt : C)
  | dc (i : Nat) (iv : Iv) (n : Nat) (vs : List Nat) (tg : Tg) (ifs : List C) (k v : C)

def smallB (n : Nat) : Bool := Nat.ble n 100000
def lenOf (S : Sto) : D → Option Nat
  | .tup l => some l.length
  | .ref n => (S.get n).map List.length
  | .str s => cond (smallB s.length) (some s.length) none
  | _ => none
def truD (S : Sto) : D → Option Bool
  | .non => some false
  | .bl b => some b
  | .int i => some (i != 0)
  | .tup l => some (!l.isEmpty)
  | .ref n => (S.get n).map fun l => !l.isEmpty
  | .str _ => none
  | .fn _ => none
  | .tpf _ => none
def mapO {α β : Type} (f : α → Option β) : List α → Option (List β)
  | [] => some []
  | x :: r => match f x with
    | some y => (match mapO f r with | some ys => some (y :: ys) | none => none)
    | none => none
def toPy (S : Sto) : Nat → D → Option PyData
  | 0, _ => none
  | n + 1, d => match d with
    | .non => some .none
    | .bl b => some (.bool b)
    | .int i => some (.int i)
    | .str s => some (.str s)
    | .fn _ => none
    | .tpf _ => none
    | .tup l => (match mapO (toPy S n) l with | some ps => some (.tuple ps) | none => none)
    | .ref k => (match S.get k with
      | some l => (match mapO (toPy S n) l with | some ps => some (.list ps) | none => none)
      | none => none)
/-- dicts by numbers -/
def lookI : List Int → List D → Int → Option D
  | k :: ks, d :: ds, i => cond (decide (k = i)) (some d) (lookI ks ds i)
  | _, _, _ => none
def putI : List Int → List D → Int → D → List D
  | k :: ks, d :: ds, i, e => (cond (decide (k = i)) e d) :: putI ks ds i e
  | _, ds, _, _ => ds
def storeI (ks : List Int) (ds : List D) (i : Int) (e : D) : Ob := cond (lookI ks ds i).isSome (.dki ks (putI ks ds i e)) (.dki (ks ++ [i]) (ds ++ [e]))
def dropI : List Int → List D → Int → List Int × List D
  | k :: ks, d :: ds, i => (match dropI ks ds i with | (a, b) => cond (decide (k = i)) (a, b) (k :: a, d :: b))
  | _, _, _ => ([], [])
def pairI : List D → Option (List Int × List D)
  | [] => some ([], [])
  | .int k :: d :: r => (match pairI r with | some (ks, ds) => some (k :: ks, d :: ds) | none => none)
  | _ => none
def storeP (p : List Int × List D) (i : Int) (e : D) : List Int × List D := cond (lookI p.1 p.2 i).isSome (p.1, putI p.1 p.2 i e) (p.1 ++ [i], p.2 ++ [e])
def mergeP : List Int → List D → List Int × List D → List Int × List D
  | k :: ks, d :: ds, p => mergeP ks ds (storeP p k d)
  | _, _, p => p
def mergeI (ks : List Int) (ds : List D) : Ob := .dki (mergeP ks ds ([], [])).1 (mergeP ks ds ([], [])).2
/-- dicts by tuples -/
def lookN : List (D × D) → NestedKey → Option D
  | [], _ => none
  | p :: r, k => (match keyD p.1 with
    | some j => cond (decide (j = k)) (some p.2) (lookN r k)
    | none => lookN r k)
def putN' : List (D × D) → NestedKey → D → List (D × D)
  | [], _, _ => []
  | p :: r, k, e => (match keyD p.1 with
    | some j => cond (decide (j = k)) ((p.1, e) :: putN' r k e) (p :: putN' r k e)
    | none => p :: putN' r k e)
def storeN (kvs : List (D × D)) (kd : D) (k : NestedKey) (e : D) : Ob := cond (lookN kvs k).isSome (.dkn (putN' kvs k e)) (.dkn (kvs ++ [(kd, e)]))
/-- a tuple that may be a key -/
def tupKey (d : D) : Option NestedKey := match d with
  | .tup _ => (match keyD d with | some k => cond (decide (k.depth ≤ 8)) (some k) none | none => none)
  | _ => none
/-- what a dict holds at a key: none, a wrong question -/
def dlook (o : Ob) (y : D) : Option (Option D) := match o, y with
  | .dki ks ds, .int i => some (lookI ks ds i)
  | .dkn kvs, y => (match tupKey y with | some k => some (lookN kvs k) | none => none)
  | _, _ => none
def dlookG (o : Ob) (y : D) : Option (Option D) := match o, y with
  | .dki _ _, .non => some none
  | o, y => dlook o y
def dstore (o : Ob) (y e : D) : Option Ob := match o, y with
  | .dki ks ds, .int i => cond (smallB (ks.length + 1)) (some (storeI ks ds i e)) none
  | .dkn kvs, y => (match tupKey y with | some k => cond (smallB (kvs.length + 1)) (some (storeN kvs y k e)) none | none => none)
  | _, _ => none
def isDict : Option Ob → Bool
  | some (.dki _ _) => true
  | some (.dkn _) => true
  | _ => false
def flatD : D → Bool
  | .non => true | .bl _ => true | .int _ => true | .str _ => true | _ => false
def eqD : D → D → Bool
  | .non, .non => true
  | .bl a, .bl b => a == b
  | .bl a, .int b => (if a then 1 else 0) == b
  | .int a, .bl b => a == (if b then 1 else 0)
  | .int a, .int b => a == b
  | .str a, .str b => a == b
  | _, _ => false
def cmulB (i j : Int) : Bool := (decide (-(2 ^ 64) < i) && decide (i < 2 ^ 64)) || (decide (-(2 ^ 64) < j) && decide (j < 2 ^ 64))
def opD (op : Operator) (x y : D) (S : Sto) : Rs := match op, x, y with
  | .Add, .int i, .int j => .ok (.int (i + j)) S
  | .Sub, .int i, .int j => .ok (.int (i - j)) S
  | .Mult, .int i, .int j => cond (cmulB i j) (.ok (.int (i * j)) S) .bad
  | .FloorDiv, .int i, .int j => cond (decide (j ≠ 0) && decide (j.natAbs < 1073741824)) (.ok (.int (i.fdiv j)) S) .bad
  | .Mod, .int i, .int j => cond (decide (j ≠ 0)) (.ok (.int (i.fmod j)) S) .bad
  | .Pow, .int i, .int j => cond (decide (0 ≤ j) && decide (j ≤ 1000000) && decide (i.natAbs < 2 ^ 64)) (.ok (.int (i ^ j.toNat)) S) .bad
  | .LShift, .int i, .int j => cond (decide (0 ≤ j) && decide (j ≤ 1000000) && decide (i.natAbs < 2 ^ 64)) (.ok (.int (i * 2 ^ j.toNat)) S) .bad
  | .Add, .tup a, .tup b => cond (smallB (a.length + b.length)) (.ok (.tup (a ++ b)) S) .bad
  | .Add, .ref a, .ref b => (match S.get a, S.get b with
    | some l, some m => cond (smallB (l.length + m.length)) (.ok (.ref S.nx) (S.new (l ++ m))) .bad
    | _, _ => .bad)
  | .Mult, .tup l, .int k => cond (decide (2 ≤ k) && decide (k ≤ 1000) && Nat.ble l.length 1000 && !l.isEmpty) (.ok (.tup (List.replicate k.toNat l).flatten) S) .bad
  | .Mult, .ref a, .int k => (match S.get a with
    | some l => cond (decide (0 ≤ k) && decide (k ≤ 10000) && smallB (l.length * k.toNat)) (.ok (.ref S.nx) (S.new (List.replicate k.toNat l).flatten)) .bad
    | _ => .bad)
  | _, _, _ => .bad
def inD (S : Sto) (x y : D) : Option Bool := match y with
  | .tup l => cond (flatD x && l.all flatD) (some (l.any fun z => eqD z x)) none
  | .ref n => (match S.obj n with
    | some (.lst l) => cond (flatD x && l.all flatD) (some (l.any fun z => eqD z x)) none
    | some o => (match dlook o x with | some r => some r.isSome | none => none)
    | none => none)
  | _ => none
def inT (S : Sto) (x y : D) : Option Bool := match toPy S 40 x, toPy S 40 y with
  | some d, some (.tuple ds) => cond (SeqAt.shaped d && SeqAt.shaped (.tuple ds) && Nat.ble d.depth 40) (some (ds.any fun z => PyData.eqv z d)) none
  | some d, some (.list ds) => cond (SeqAt.shaped d && SeqAt.shaped (.list ds) && Nat.ble d.depth 40) (some (ds.any fun z => PyData.eqv z d)) none
  | _, _ => none
def cmpD (op : CmpOp) (x y : D) (S : Sto) : Rs := match op with
  | .Eq => (match toPy S 40 x, toPy S 40 y with
    | some p, some q => cond (SeqAt.shaped p && SeqAt.shaped q) (.ok (.bl (PyData.eqv p q)) S) .bad
    | _, _ => .bad)
  | .NotEq => (match toPy S 40 x, toPy S 40 y with
    | some p, some q => cond (SeqAt.shaped p && SeqAt.shaped q) (.ok (.bl (!PyData.eqv p q)) S) .bad
    | _, _ => .bad)
  | .Lt => (match x, y with | .int i, .int j => .ok (.bl (decide (i < j))) S | _, _ => .bad)
  | .LtE => (match x, y with | .int i, .int j => .ok (.bl (decide (i ≤ j))) S | _, _ => .bad)
  | .Gt => (match x, y with | .int i, .int j => .ok (.bl (decide (j < i))) S | _, _ => .bad)
  | .GtE => (match x, y with | .int i, .int j => .ok (.bl (decide (j ≤ i))) S | _, _ => .bad)
  | .Is => (match y with | .non => .ok (.bl (match x with | .non => true | _ => false)) S | _ => .bad)
  | .IsNot => (match y with | .non => .ok (.bl (match x with | .non => false | _ => true)) S | _ => .bad)
  | .In => (match inD S x y with | some b => .ok (.bl b) S | none => (match inT S x y with | some b => .ok (.bl b) S | none => .bad))
  | .NotIn => (match inD S x y with | some b => .ok (.bl (!b)) S | none => (match inT S x y with | some b => .ok (.bl (!b)) S | none => .bad))
def idxD (x y : D) (S : Sto) : Rs := match x, y with
  | .tup l, .int i => (match atI l i with | some d => .ok d S | none => .bad)
  | .ref n, y => (match S.obj n with
    | some (.lst l) => (match y with
      | .int i => (match atI l i with | some d => .ok d S | none => .bad)
      | _ => .bad)
    | some o => (match dlook o y with | some (some d) => .ok d S | _ => .bad)
    | none => .bad)
  | _, _ => .bad
def cutD (xs : List D) (lo hi : Option Int) : List D := (xs.drop (HT.sIx xs.length 0 lo)).take (HT.sIx xs.length xs.length hi - HT.sIx xs.length 0 lo)
def slcD (x : D) (lo hi : Option Int) (S : Sto) : Rs := match x with
  | .tup l => .ok (.tup (cutD l lo hi)) S
  | .ref n => (match S.get n with
    | some l => .ok (.ref S.nx) (S.new (cutD l lo hi))
    | none => .bad)
  | _ => .bad
def bools : List D → Option (List Bool) := mapO fun | .bl b => some b | _ => none
def intsD : List D → Option (List Int) := mapO fun | .int i => some i | _ => none
def ssetD (x : D) (S : Sto) : Rs := match x with
  | .tup l => (match intsD l with
    | some is => cond (Nat.blt is.length 64) (.ok (.ref S.nx) (S.new ((sortF id is).map D.int))) .bad
    | none => .bad)
  | .ref n => (match S.get n with
    | some l => (match intsD l with
      | some is => cond (Nat.blt is.length 64) (.ok (.ref S.nx) (S.new ((sortF id is).map D.int))) .bad
      | none => (match mapO keyB l with
        | some ks => cond (ksB ks) (.ok (.ref S.nx) (S.new ((sortN ks).map unkey))) .bad
        | none => .bad))
    | none => .bad)
  | _ => .bad
/-- a stable sorting -/
def insL {α : Type} (le : α → α → Bool) (x : α) : List α → List α
  | [] => [x]
  | y :: r => cond (le x y) (x :: y :: r) (y :: insL le x r)
def isort {α : Type} (le : α → α → Bool) : List α → List α
  | [] => []
  | x :: r => insL le x (isort le r)
def leP (a b : D × PyData) : Bool := !PySem.W.dataLt b.2 a.2
def simpleB : PyData → Bool | .none => false | .tuple _ => false | _ => true
def sortableB (ps : List PyData) : Bool := ps.all tupleB || ps.all simpleB
def simple2 (ps : List PyData) : Bool := ps.all fun p => match p with | .none => false | _ => true
def shallow (ps : List PyData) : Bool := ps.all fun p => Nat.ble p.depth 40
mutual
def fromPy : PyData → Option D
  | .none => some .non
  | .bool b => some (.bl b)
  | .int i => some (.int i)
  | .str s => some (.str s)
  | .tuple l => (match fromPys l with | some ds => some (.tup ds) | none => none)
  | _ => none
def fromPys : List PyData → Option (List D)
  | [] => some []
  | p :: ps => (match fromPy p with
    | some d => (match fromPys ps with | some ds => some (d :: ds) | none => none)
    | none => none)
end
/-- dict(..) of pairs whose first things are numbers -/
def pairD : List D → Option (List Int × List D)
  | [] => some ([], [])
  | .tup [.int k, d] :: r => (match pairD r with | some (ks, ds) => some (k :: ks, d :: ds) | none => none)
  | _ => none
def dictD (x : D) (S : Sto) : Rs := match x with
  | .tup l => (match pairD l with
    | some (ks, ds) => .ok (.ref S.nx) (S.newO (mergeI ks ds))
    | none => .bad)
  | _ => .bad
def biD (b : BI) (ds : List D) (S : Sto) : Rs := match b, ds with
  | .len, [x] => (match lenOf S x with | some n => .ok (.int n) S | none => (match x with | .ref n => (match S.obj n with | some (.dki ks _) => .ok (.int (ks.length : Nat)) S | _ => .bad) | _ => .bad))
  | .abs, [.int i] => .ok (.int (if i < 0 then -i else i)) S
  | .int, [.int i] => .ok (.int i) S
  | .int, [.bl k] => .ok (.int (if k then 1 else 0)) S
  | .bool, [.int i] => .ok (.bl (i != 0)) S
  | .bool, [.bl k] => .ok (.bl k) S
  | .all, [.ref n] => (match S.get n with
    | some l => (match bools l with | some bs => .ok (.bl (bs.all id)) S | none => .bad)
    | none => .bad)
  | .any, [.ref n] => (match S.get n with
    | some l => (match bools l with | some bs => .ok (.bl (bs.any id)) S | none => .bad)
    | none => .bad)
  | .tuple, [.tup l] => .ok (.tup l) S
  | .tuple, [.ref n] => (match S.get n with | some l => .ok (.tup l) S | none => .bad)
  | .list, [.tup l] => .ok (.ref S.nx) (S.new l)
  | .list, [.ref n] => (match S.get n with | some l => .ok (.ref S.nx) (S.new l) | none => .bad)
  | .sorted, [.ref n] => (match S.get n with
    | some l => (match mapO (toPy S 40) l with
      | some ps => cond (smallB l.length && alikeB ps && sortableB ps && shallow ps) (.ok (.ref S.nx) (S.new ((isort leP (l.zip ps)).map (·.1)))) .bad
      | none => .bad)
    | none => (match S.obj n with
      | some (.dki ks _) => cond (Nat.blt ks.length 64 && decide ks.Nodup) (.ok (.ref S.nx) (S.new ((sortF id ks).map D.int))) .bad
      | _ => .bad))
  | .min, [.ref n] => (match S.get n with
    | some l => (match mapO (toPy S 40) l with
      | some (p :: ps) => cond (alikeB (p :: ps) && simple2 (p :: ps) && Nat.ble (PyData.depthAll (p :: ps)) 40 && (p :: ps).all SeqAt.shaped && SeqAt.shaped (PySem.W.minD p ps)) (match fromPy (PySem.W.minD p ps) with | some d => .ok d S | none => .bad) .bad
      | _ => .bad)
    | none => .bad)
  | .sum, [.ref n] => (match S.get n with
    | some l => (match intsD l with | some is => .ok (.int is.sum) S | none => .bad)
    | none => .bad)
  | .max, [.int i, .int j] => .ok (.int (if j > i then j else i)) S
  | .divmod, [.int i, .int j] => cond (decide (0 < j) && decide (j < 1073741824)) (.ok (.tup [.int (i / j), .int (i % j)]) S) .bad
  | .dict, [x] => dictD x S
  | .perm, [.int a, .int b] => cond (decide (0 ≤ a) && decide (0 ≤ b) && decide (a < 1000) && decide (b < 1000)) (.ok (.int (PySem.W.mcPerm a b)) S) .bad
  | .comb, [.int a, .int b] => cond (decide (0 ≤ a) && decide (0 ≤ b) && decide (a < 1000) && decide (b < 1000)) (.ok (.int (PySem.W.mcComb a b)) S) .bad
  | .gcd, [.int a, .int b] => .ok (.int ((Nat.gcd a.natAbs b.natAbs : Nat) : Int)) S
  | _, _ => .bad
def rngD (n : Int) : List D := (List.range n.toNat).map fun i => D.int (i : Nat)
def seqOf (S : Sto) : D → Option (List D)
  | .tup l => some l
  | .ref n => S.get n
  | _ => none
/-- list(permutations(range(n), r)) -/
def lprmD (x y : D) (S : Sto) : Rs := match x, y with
  | .int n, .int r => cond (decide (0 ≤ r) && decide (r ≤ n) && decide (n ≤ 60)) (match rowsP n.toNat r.toNat 100000 (prm0 n.toNat r.toNat) with
    | some R => cond (smallB (R.length + 1) && R.all fun m => Nat.beq m.1.length n.toNat && Nat.ble (m.1.length + m.2.length) 2000) (.ok (.ref S.nx) (S.new (R.map fun m => .tup ((m.1.take r.toNat).map fun i => (rngD n).getD i .non)))) .bad
    | none => .bad) .bad
  | _, _ => .bad
/-- list(zip(l, m)) -/
def lzipD (ds : List D) (S : Sto) : Rs := match ds with
  | [.ref n, .ref m] => (match S.get n, S.get m with
    | some l, some k => cond (smallB (l.length + 1)) (.ok (.ref S.nx) (S.new ((l.zip k).map fun p => .tup [p.1, p.2]))) .bad
    | _, _ => .bad)
  | _ => .bad
/-- min, max of a list, with default -/
def mdfD (mx : Bool) (x z : D) (S : Sto) : Rs := match x with
  | .ref n => (match S.get n with
    | some [] => .ok z S
    | some l => (match mapO (toPy S 40) l with
      | some (p :: ps) => (match mx with
        | false => cond (alikeB (p :: ps) && simple2 (p :: ps) && Nat.ble (PyData.depthAll (p :: ps)) 40 && (p :: ps).all SeqAt.shaped && SeqAt.shaped (PySem.W.minD p ps)) (match fromPy (PySem.W.minD p ps) with | some d => .ok d S | none => .bad) .bad
        | true => cond (alikeB (p :: ps) && simple2 (p :: ps) && Nat.ble (PyData.depthAll (p :: ps)) 40 && (p :: ps).all SeqAt.shaped && SeqAt.shaped (PySem.W.maxD p ps)) (match fromPy (PySem.W.maxD p ps) with | some d => .ok d S | none => .bad) .bad)
      | _ => .bad)
    | none => .bad)
  | _ => .bad
def tyN (S : Sto) : D → String
  | .non => "NoneType" | .bl _ => "bool" | .int _ => "int" | .str _ => "str" | .tup _ => "tuple" | .fn _ => "" | .tpf _ => ""
  | .ref n => (match S.obj n with | some (.lst _) => "list" | _ => "")
/-- what isinstance says -/
def isiT (t c : String) : Option Bool :=
  cond (t == "") none (cond (c == "int") (some (t == "int" || t == "bool"))
  (cond (c == "bool" || c == "str" || c == "list" || c == "tuple") (some (t == c)) none))
def isiAny (t : String) : List String → Option Bool
  | [] => cond (t == "") none (some false)
  | c :: cs => match isiT t c with
    | some true => (match isiAny t cs with | some _ => some true | none => none)
    | some false => isiAny t cs
    | none => none
def methD (m : Mt) (x : D) (ds : List D) (S : Sto) : Rs := match m, x, ds with
  | .append, .ref n, [y] => (match S.get n with
    | some l => cond (smallB (l.length + 1)) (.ok .non (S.set n (l ++ [y]))) .bad
    | none => .bad)
  | .pop, .ref n, [] => (match S.get n with
    | some l => (match l[l.length - 1]? with | some y => .ok y (S.set n l.dropLast) | none => .bad)
    | none => .bad)
  | .popAt, .ref n, [.int i] => (match S.get n with
    | some l => (match seqIndex? i l.length with
      | some k => cond (decide (-(2 ^ 63) ≤ i) && decide (i < 2 ^ 63)) (match l[k]? with | some y => .ok y (S.set n (l.eraseIdx k)) | none => .bad) .bad
      | none => .bad)
    | none => .bad)
  | .extend, .ref n, [.ref m] => (match S.get n, S.get m with
    | some l, some k => cond (smallB (l.length + k.length)) (.ok .non (S.set n (l ++ k))) .bad
    | _, _ => .bad)
  | .extend, .ref n, [.tup k] => (match S.get n with
    | some l => cond (smallB (l.length + k.length)) (.ok .non (S.set n (l ++ k))) .bad
    | none => .bad)
  | .index, .ref n, [y] => (match S.get n with
    | some l => cond (flatD y && l.all flatD) (match l.findIdx? (fun z => eqD z y) with | some j => .ok (.int (j : Nat)) S | none => .bad) .bad
    | none => .bad)
  | _, _, _ => .bad
def ivOf (it : ItK) (ds : List D) (S : Sto) : Option Iv := match it with
  | .seq => (match ds with | [.ref n] => cond (S.get n).isSome (some (.lst n)) none | [.tup l] => some (.tup l) | _ => none)
  | .rng1 => (match ds with | [.int j] => cond (decide (-(2 ^ 62) ≤ j) && decide (j < 2 ^ 62)) (some (.rng 0 j.toNat)) none | _ => none)
  | .rng2 => (match ds with | [.int i, .int j] => cond (decide (-(2 ^ 62) ≤ i) && decide (i < 2 ^ 62) && decide (-(2 ^ 62) ≤ j) && decide (j < 2 ^ 62)) (some (.rng i (j - i).toNat)) none | _ => none)
  | .rng3 => (match ds with | [.int i, .int j, .int c] => cond (decide (c = -1) && decide (-(2 ^ 60) ≤ i) && decide (i < 2 ^ 60) && decide (-(2 ^ 60) ≤ j) && decide (j < 2 ^ 60)) (some (.rngC i (-1) (i - j).toNat)) none | _ => none)
  | .zip => (match ds with | [.ref n, .ref m] => cond ((S.get n).isSome && (S.get m).isSome) (some (.zipL n m)) none | [.tup a, .tup b] => some (.zipT a b) | _ => none)
  | .enu => (match ds with | [.ref n] => cond (S.get n).isSome (some (.enuL n)) none | [.tup l] => some (.enuT l) | _ => none)
  | .revR => (match ds with | [.int j] => cond (decide (-(2 ^ 62) ≤ j) && decide (j < 2 ^ 62)) (some (.rngC (0 + (((j - 0).toNat : Nat) : Int) - 1) (-1) (j - 0).toNat)) none | _ => none)
  | .comb => (match ds with
    | [.ref n, .int r] => (match S.get n with
      | some l => cond (decide (0 ≤ r) && decide (r ≤ (l.length : Int)) && Nat.ble l.length 60) (match rowsC l.length 100000 (List.range r.toNat) with
        | some R => cond (R.all fun m => Nat.ble m.length 1000) (some (.cmb (R.map fun ix => ix.map fun i => l.getD i .non))) none
        | none => none) none
      | none => none)
    | _ => none)
/-- none: wrong; some none: at its end -/
def ivNext (i : Nat) (iv : Iv) (S : Sto) : Option (Option D) := match iv with
  | .lst n => (match S.get n with | some l => some l[i]? | none => none)
  | .tup l => some l[i]?
  | .rng lo n => some (cond (Nat.blt i n) (some (.int (lo + i))) none)
  | .zipL n m => (match S.get n, S.get m with
    | some l, some k => (match l[i]?, k[i]? with
      | some x, some y => some (some (.tpf [x, y]))
      | _, _ => some none)
    | _, _ => none)
  | .zipT l k => (match l[i]?, k[i]? with
      | some x, some y => some (some (.tpf [x, y]))
      | _, _ => some none)
  | .enuL n => (match S.get n with
    | some l => (match l[i]? with | some x => some (some (.tpf [.int i, x])) | none => some none)
    | none => none)
  | .enuT l => (match l[i]? with | some x => some (some (.tpf [.int i, x])) | none => some none)
  | .rngC lo c n => some (cond (Nat.blt i n) (some (.int (lo + i * c))) none)
  | .cmb rows => (match rows[i]? with | some row => some (some (.tup row)) | none => some none)
def setAll : List Nat → List D → En → Option En
  | [], [], e => some e
  | i :: is, d :: ds, e => setAll is ds (e.set i (some d))
  | _, _, _ => none
def asg1 (tg : T1) (d : D) (env : En) (S : Sto) : Option En := match tg with
  | .nm i => some (env.set i (some d))
  | .tp is => (match d with
    | .tup l => setAll is l env
    | .tpf l => setAll is l env
    | .ref n => (match S.get n with | some l => setAll is l env | none => none)
    | _ => none)
def asgN : List T1 → List D → En → Sto → Option En
  | [], [], e, _ => some e
  | t :: ts, d :: ds, e, S => (match asg1 t d e S with | some e1 => asgN ts ds e1 S | none => none)
  | _, _, _, _ => none
def asgT (tg : Tg) (d : D) (env : En) (S : Sto) : Option En := match tg with
  | .nm i => some (env.set i (some d))
  | .tp is => (match d with
    | .tup l => setAll is l env
    | .tpf l => setAll is l env
    | .ref n => (match S.get n with | some l => setAll is l env | none => none)
    | _ => none)
  | .nt ts => (match d with
    | .tup l => asgN ts l env S
    | .tpf l => asgN ts l env S
    | .ref n => (match S.get n with | some l => asgN ts l env S | none => none)
    | _ => none)

def augD (op : Operator) (a : Int) (i : Nat) (env : En) (d : D) (S : Sto) : Rs := match op with
  | .Add => (match d with | .int b => .nx (env.set i (some (.int (a + b)))) S | _ => .bad)
  | .Sub => (match d with | .int b => .nx (env.set i (some (.int (a - b)))) S | _ => .bad)
  | _ => .bad

variable (T : Tb) (cl : Nat → List D → Sto → Rs)
def sesD (l : List String) (fl : Option (Str × D)) : List SE → Option (List D)
  | [] => some []
  | .k d :: r => cond (flatD d) (match sesD l fl r with | some ds => some (d :: ds) | none => none) none
  | .isE t :: r => cond (l.contains t) (match sesD l fl r with | some ds => some (.bl true :: ds) | none => none) none
  | .fld f :: r => (match fl with
    | some p => cond (decide (p.1 = f) && flatD p.2) (match sesD l fl r with | some ds => some (p.2 :: ds) | none => none) none
    | none => none)
/-- the field of an exception -/
def exFld (T : Tb) (k : Nat) (as : List D) : Option (Option (Str × D)) := match T.flds[k]?, as with
  | some none, [] => some none
  | some (some f), [d] => some (some (f, d))
  | _, _ => none
def hfind : List (Nat × Nat × List SE) → Nat → Option (List SE)
  | [], _ => none
  | h :: r, k => cond (Nat.beq k h.1) (some h.2.2) (hfind r k)
def fillD (e : FnE) (ds : List D) : Option (List D) :=
  cond (Nat.ble ds.length e.ps.length && Nat.ble e.ps.length (ds.length + e.dfl.length)) (some (ds ++ e.dfl.drop (ds.length + e.dfl.length - e.ps.length))) none
def step (rec : En → Sto → Tk → Rs) (env : En) (S : Sto) : Tk → Rs
  | .e c => (match c with
    | .var i => (match env[i]? with | some (some d) => .ok d S | _ => .bad)
    | .kc d => .ok d S
    | .glob _ i => .ok (.int i) S
    | .globT i => (match T.tcs[i]? with | some p => .ok (.tup (p.2.map .int)) S | none => .bad)
    | .tup cs => (rec env S (.es cs)).bs fun ds S => cond (smallB ds.length) (.ok (.tup ds) S) .bad
    | .lst cs => (rec env S (.es cs)).bs fun ds S => cond (smallB ds.length) (.ok (.ref S.nx) (S.new ds)) .bad
    | .star _ => .bad
    | .bin op a b => (rec env S (.e a)).b1 fun x S => (rec env S (.e b)).b1 fun y S => opD op x y S
    | .neg a => (rec env S (.e a)).b1 fun x S => (match x with | .int i => .ok (.int (-i)) S | _ => .bad)
    | .not a => (rec env S (.e a)).b1 fun x S => (match x with | .bl b => .ok (.bl (!b)) S | _ => .bad)
    | .and cs => rec env S (.andv cs)
    | .or cs => rec env S (.orv cs)
    | .ite t a b => (rec env S (.t t)).b1 fun x S => (match x with | .bl true => rec env S (.e a) | .bl false => rec env S (.e b) | _ => .bad)
    | .cmp op a b => (rec env S (.e a)).b1 fun x S => (rec env S (.e b)).b1 fun y S => cmpD op x y S
    | .chain a op b op' c => (rec env S (.e a)).b1 fun x S => (rec env S (.e b)).b1 fun y S => (cmpD op x y S).b1 fun z S => (match z with
        | .bl true => (rec env S (.e c)).b1 fun u S => cmpD op' y u S
        | .bl false => .ok (.bl false) S
        | _ => .bad)
    | .idx a i => (rec env S (.e a)).b1 fun x S => (rec env S (.e i)).b1 fun y S => idxD x y S
    | .slc a lo hi => (rec env S (.e a)).b1 fun x S => (rec env S (.op lo)).b1 fun l S => (rec env S (.op hi)).b1 fun u S => (match l, u with
        | .non, .non => slcD x none none S
        | .int i, .non => slcD x (some i) none S
        | .non, .int j => slcD x none (some j) S
        | .int i, .int j => slcD x (some i) (some j) S
        | _, _ => .bad)
    | .call j args => (rec env S (.es args)).bs fun ds S => (match T.fs[j]? with
        | some e => (match fillD e ds with | some full => cl j full S | none => .bad)
        | none => .bad)
    | .callK j args ks kws perm => (rec env S (.es args)).bs fun ds S => (rec env S (.es kws)).bs fun zs S => (match T.fs[j]? with
        | some e => cond (Nat.beq ds.length args.length && Nat.beq zs.length ks.length) (cl j (ds ++ perm.map fun i => zs.getD i .non) S) .bad
        | none => .bad)
    | .bi b args => (rec env S (.es args)).bs fun ds S => biD b ds S
    | .isi a ts => (rec env S (.e a)).b1 fun x S => (match isiAny (tyN S x) ts with | some b => .ok (.bl b) S | none => .bad)
    | .isi1 a t => (rec env S (.e a)).b1 fun x S => (match isiT (tyN S x) t with | some b => .ok (.bl b) S | none => .bad)
    | .meth m o args => (rec env S (.e o)).b1 fun x S => (match x with
        | .ref n => (match S.get n with
          | some _ => (rec env S (.es args)).bs fun ds S => methD m (.ref n) ds S
          | none => .bad)
        | _ => .bad)
    | .comp vs tg it ops ifs elt => (rec env S (.es ops)).bs fun ds S => (match ivOf it ds S with
        | some iv => (match rec (wipeE env vs) (S.new []) (.lc 0 iv S.nx vs tg ifs elt) with
          | .ok d S => .ok d S
          | _ => .bad)
        | none => .bad)
    | .comp2 vs tg it ops ifs vs1 tg1 it1 ops1 ifs1 elt => (rec env S (.es ops)).bs fun ds S => (match ivOf it ds S with
        | some iv => (match rec (wipeE env vs) (S.new []) (.lc2 0 iv S.nx vs tg ifs vs1 tg1 it1 ops1 ifs1 elt) with
          | .ok d S => .ok d S
          | _ => .bad)
        | none => .bad)
    | .dcomp vs tg it ops ifs k v => (rec env S (.es ops)).bs fun ds S => (match ivOf it ds S with
        | some iv => (match rec (wipeE env vs) (S.newO (.dki [] [])) (.dc 0 iv S.nx vs tg ifs k v) with
          | .ok d S => .ok d S
          | _ => .bad)
        | none => .bad)
    | .glf j => (match T.fs[j]? with | some e => .ok (.fn e.name) S | none => .bad)
    | .callV f args => (rec env S (.e f)).b1 fun x S => (match x with
        | .fn y => (match T.fs.findIdx? (fun f => decide (f.name = y)) with
          | some j => (match T.fs[j]? with
            | some e => cond (decide (e.name = y) && Nat.beq args.length e.ps.length) ((rec env S (.es args)).bs fun ds S => cond (Nat.beq ds.length e.ps.length) (cl j ds S) .bad) .bad
            | none => .bad)
          | none => .bad)
        | _ => .bad)
    | .chain3 a op b op' c op'' d => (rec env S (.e a)).b1 fun x S => (rec env S (.e b)).b1 fun y S => (cmpD op x y S).b1 fun z S => (match z with
        | .bl true => (rec env S (.e c)).b1 fun u S => (cmpD op' y u S).b1 fun z S => (match z with
          | .bl true => (rec env S (.e d)).b1 fun w S => cmpD op'' u w S
          | .bl false => .ok (.bl false) S
          | _ => .bad)
        | .bl false => .ok (.bl false) S
        | _ => .bad)
    | .revs a => (rec env S (.e a)).b1 fun x S => (match x with
        | .ref n => (match S.get n with | some l => .ok (.ref S.nx) (S.new l.reverse) | none => .bad)
        | .tup l => .ok (.tup l.reverse) S
        | _ => .bad)
    | .dnewI => .ok (.ref S.nx) (S.newO (.dki [] []))
    | .dnewN => .ok (.ref S.nx) (S.newO (.dkn []))
    | .ddisp kvs => (rec env (S.newO (.dki [] [])) (.es kvs)).bs fun ds S1 => (match S1.obj S.nx with
        | some (.dki [] []) => (match pairI ds with | some (ks, es) => cond (Nat.ble ks.length 15) (.ok (.ref S.nx) (S1.setO S.nx (mergeI ks es))) .bad | none => .bad)
        | _ => .bad)
    | .dget o k x => (rec env S (.e o)).b1 fun a S => (match a with
        | .ref n => cond (isDict (S.obj n)) ((rec env S (.e k)).b1 fun y S => (rec env S (.e x)).b1 fun z S => (match S.obj n with
          | some ob => (match dlookG ob y with | some r => .ok (r.getD z) S | none => .bad)
          | none => .bad)) .bad
        | _ => .bad)
    | .dvals o => (rec env S (.e o)).b1 fun a S => (match a with
        | .ref n => (match S.obj n with | some (.dki _ ds) => .ok (.ref S.nx) (S.new ds) | _ => .bad)
        | _ => .bad)
    | .mdf mx a d => (rec env S (.e a)).b1 fun x S => (rec env S (.e d)).b1 fun z S => mdfD mx x z S
    | .sset a => (rec env S (.e a)).b1 fun x S => ssetD x S
    | .rngT a => (rec env S (.e a)).b1 fun x S => (match x with | .int n => cond (decide (-1000000 ≤ n) && decide (n ≤ 100000)) (.ok (.tup (rngD n)) S) .bad | _ => .bad)
    | .rngL a => (rec env S (.e a)).b1 fun x S => (match x with | .int n => cond (decide (-1000000 ≤ n) && decide (n ≤ 100000)) (.ok (.ref S.nx) (S.new (rngD n))) .bad | _ => .bad)
    | .lprm a f => (rec env S (.e a)).b1 fun x S => (match x with | .int n => (rec env S (.e f)).b1 fun y S => lprmD (.int n) y S | _ => .bad)
    | .lzip cs => (rec env S (.es cs)).bs fun ds S => lzipD ds S
    | .tidx o x => (rec env S (.e o)).b1 fun a S => (match a with
        | .tup l => (rec env S (.e x)).b1 fun y S => cond (flatD y && l.all flatD) (match l.findIdx? (fun z => eqD z y) with | some j => .ok (.int (j : Nat)) S | none => .bad) .bad
        | _ => .bad))
  | .op c => (match c with
    | none => .ok .non S
    | some c => (rec env S (.e c)).b1 fun x S => (match x with | .int i => .ok (.int i) S | _ => .bad))
  | .es cs => (match cs with
    | [] => .oks [] S
    | .star c :: r => (rec env S (.e c)).b1 fun x S => (match x with
        | .tup l => (rec env S (.es r)).bs fun ds S => .oks (l ++ ds) S
        | .ref n => (match S.get n with
          | some l => (rec env S (.es r)).bs fun ds S => .oks (l ++ ds) S
          | none => .bad)
        | _ => .bad)
    | c :: r => (rec env S (.e c)).b1 fun x S => (rec env S (.es r)).bs fun ds S => .oks (x :: ds) S)
  | .t c => (match c with
    | .not a => (rec env S (.t a)).b1 fun x S => (match x with | .bl b => .ok (.bl (!b)) S | _ => .bad)
    | .and cs => rec env S (.ands cs)
    | .or cs => rec env S (.ors cs)
    | .ite .. => .bad
    | .cmp .. => (rec env S (.e c)).b1 fun x S => (match x with | .bl b => .ok (.bl b) S | _ => .bad)
    | .chain .. => (rec env S (.e c)).b1 fun x S => (match x with | .bl b => .ok (.bl b) S | _ => .bad)
    | .chain3 .. => (rec env S (.e c)).b1 fun x S => (match x with | .bl b => .ok (.bl b) S | _ => .bad)
    | c => (rec env S (.e c)).b1 fun x S => (match truD S x with | some b => .ok (.bl b) S | none => .bad))
  | .ands cs => (match cs with
    | [] => .bad
    | [c] => rec env S (.t c)
    | c :: r => (rec env S (.t c)).b1 fun x S => (match x with | .bl true => rec env S (.ands r) | .bl false => .ok (.bl false) S | _ => .bad))
  | .ors cs => (match cs with
    | [] => .bad
    | [c] => rec env S (.t c)
    | c :: r => (rec env S (.t c)).b1 fun x S => (match x with | .bl false => rec env S (.ors r) | .bl true => .ok (.bl true) S | _ => .bad))
  | .andv cs => (match cs with
    | [] => .bad
    | [c] => rec env S (.e c)
    | c :: r => (rec env S (.e c)).b1 fun x S => (match x with | .bl true => rec env S (.andv r) | .bl false => .ok (.bl false) S | _ => .bad))
  | .orv cs => (match cs with
    | [] => .bad
    | [c] => rec env S (.e c)
    | c :: r => (rec env S (.e c)).b1 fun x S => (match x with | .bl false => rec env S (.orv r) | .bl true => .ok (.bl true) S | _ => .bad))
  | .lc i iv n vs tg ifs elt => (match ivNext i iv S with
    | none => .bad
    | some none => .ok (.ref n) S
    | some (some d) => (match asgT tg d env S with
      | none => .bad
      | some e1 => (match (match ifs with | [] => Rs.ok (.bl true) S | [c] => rec e1 S (.t c) | _ => .bad) with
        | .ok (.bl false) S => rec env S (.lc (i + 1) iv n vs tg ifs elt)
        | .ok (.bl true) S => (match rec e1 S (.e elt) with
          | .ok y S => (match S.get n with
            | some acc => cond (smallB (acc.length + 1)) (rec env (S.set n (acc ++ [y])) (.lc (i + 1) iv n vs tg ifs elt)) .bad
            | none => .bad)
          | _ => .bad)
        | _ => .bad)))
  | .lc2 i iv n vs tg ifs vs1 tg1 it1 ops1 ifs1 elt => (match ivNext i iv S with
    | none => .bad
    | some none => .ok (.ref n) S
    | some (some d) => (match asgT tg d env S with
      | none => .bad
      | some e1 => (match (match ifs with | [] => Rs.ok (.bl true) S | [c] => rec e1 S (.t c) | _ => .bad) with
        | .ok (.bl false) S => rec env S (.lc2 (i + 1) iv n vs tg ifs vs1 tg1 it1 ops1 ifs1 elt)
        | .ok (.bl true) S => (match rec e1 S (.es ops1) with
          | .oks ds S => (match ivOf it1 ds S with
            | some iv1 => (match rec (wipeE e1 vs1) S (.lc 0 iv1 n vs1 tg1 ifs1 elt) with
              | .ok _ S => rec env S (.lc2 (i + 1) iv n vs tg ifs vs1 tg1 it1 ops1 ifs1 elt)
              | _ => .bad)
            | none => .bad)
          | _ => .bad)
        | _ => .bad)))
  | .dc i iv n vs tg ifs k v => (match ivNext i iv S with
    | none => .bad
    | some none => .ok (.ref n) S
    | some (some d) => (match asgT tg d env S with
      | none => .bad
      | some e1 => (match (match ifs with | [] => Rs.ok (.bl true) S | [c] => rec e1 S (.t c) | _ => .bad) with
        | .ok (.bl false) S => rec env S (.dc (i + 1) iv n vs tg ifs k v)
        | .ok (.bl true) S => (match rec e1 S (.e k) with
          | .ok (.int j) S => (match rec e1 S (.e v) with
            | .ok y S => (match S.obj n with
              | some (.dki ks ds) => cond (smallB (ks.length + 1)) (rec env (S.setO n (storeI ks ds j y)) (.dc (i + 1) iv n vs tg ifs k v)) .bad
              | _ => .bad)
            | _ => .bad)
          | _ => .bad)
        | _ => .bad)))
  | .ss cs => (match cs with
    | [] => .nx env S
    | c :: r => (match rec env S (.s c) with
      | .nx e S => rec e S (.ss r)
      | .ret d S => .ret d S
      | .brk e S => .brk e S
      | .cnt e S => .cnt e S
      | .exc c as S => .exc c as S
      | _ => .bad))
  | .s c => (match c with
    | .asg tg c => (rec env S (.e c)).b1 fun d S => (match asgT tg d env S with | some e => .nx e S | none => .bad)
    | .par is cs => (rec env S (.es cs)).bs fun ds S => (match setAll is ds env with | some e => .nx e S | none => .bad)
    | .sub o i c => (rec env S (.e c)).b1 fun d S => (rec env S (.e o)).b1 fun x S => (rec env S (.e i)).b1 fun y S => (match x with
        | .ref n => (match S.obj n with
          | some (.lst l) => (match y with
            | .int k => (match ixN l.length k with | some j => .nx env (S.set n (l.set j d)) | none => .bad)
            | _ => .bad)
          | some o => (match dstore o y d with | some o' => .nx env (S.setO n o') | none => .bad)
          | none => .bad)
        | _ => .bad)
    | .expr c => (rec env S (.e c)).b1 fun _ S => .nx env S
    | .ret c => (rec env S (.e c)).b1 fun d S => .ret d S
    | .retN => .ret .non S
    | .ite t a b => (rec env S (.t t)).b1 fun x S => (match x with | .bl true => rec env S (.ss a) | .bl false => rec env S (.ss b) | _ => .bad)
    | .for_ tg it ops body => (rec env S (.es ops)).bs fun ds S => (match ivOf it ds S with
        | some iv => rec env S (.floop 0 iv tg body)
        | none => .bad)
    | .while_ t body => rec env S (.wloop t body)
    | .pass => .nx env S
    | .brk => .brk env S
    | .cont => .cnt env S
    | .raise k => (match T.flds[k]? with | some none => .exc k [] S | _ => .bad)
    | .raise1 k c => (match T.flds[k]? with
      | some (some _) => (rec env S (.e c)).b1 fun d S => (match d with
        | .int i => cond (decide (i.natAbs < 1000000000000)) (.exc k [.int i] S) .bad
        | _ => .bad)
      | _ => .bad)
    | .aug i op c => (match env[i]? with
      | some (some (.int a)) => (rec env S (.e c)).b1 fun d S => augD op a i env d S
      | _ => .bad)
    | .del o i => (rec env S (.e o)).b1 fun x S => (rec env S (.e i)).b1 fun y S => (match x, y with
      | .ref n, .int j => (match S.obj n with
        | some (.dki ks ds) => cond (lookI ks ds j).isSome (.nx env (S.setO n (match dropI ks ds j with | (a, b) => .dki a b))) .bad
        | _ => .bad)
      | _, _ => .bad)
    | .try_ body hs => (match rec env S (.ss body) with
      | .exc k as S => (match T.excs[k]? with
        | some _ => (match hfind hs k with
          | some ses => (match T.bases[k]? with
            | some l => (match exFld T k as with
              | some fl => (match sesD l fl ses with | some ds => cond (smallB ds.length) (.ret (.ref S.nx) (S.new ds)) .bad | none => .bad)
              | none => .bad)
            | none => .bad)
          | none => .exc k as S)
        | none => .bad)
      | .nx e S => .nx e S
      | .ret d S => .ret d S
      | .brk e S => .brk e S
      | .cnt e S => .cnt e S
      | _ => .bad))
  | .floop i iv tg body => (match ivNext i iv S with
    | none => .bad
    | some none => .nx env S
    | some (some d) => (match asgT tg d env S with
      | none => .bad
      | some e1 => (match rec e1 S (.ss body) with
        | .nx e S => rec e S (.floop (i + 1) iv tg body)
        | .cnt e S => rec e S (.floop (i + 1) iv tg body)
        | .brk e S => .nx e S
        | .ret d S => .ret d S
        | .exc c as S => .exc c as S
        | _ => .bad)))
  | .wloop t body => (rec env S (.t t)).b1 fun x S => (match x with
    | .bl false => .nx env S
    | .bl true => (match rec env S (.ss body) with
        | .nx e S => rec e S (.wloop t body)
        | .cnt e S => rec e S (.wloop t body)
        | .brk e S => .nx e S
        | .ret d S => .ret d S
        | .exc c as S => .exc c as S
        | _ => .bad)
    | _ => .bad)
def run : Nat → En → Sto → Tk → Rs
  | 0, _, _, _ => .bad
  | n + 1, env, S, t => step T cl (run n) env S t
def fuel : Nat := 100000
/-- a def's call: k how deep calls may go -/
def runFn : Nat → Nat → List D → Sto → Rs
  | 0, _, _, _ => .bad
  | k + 1, j, ds, S => match T.fs[j]? with
    | none => .bad
    | some e => cond (Nat.beq ds.length e.ps.length)
      (match run T (runFn k) fuel (ds.map some ++ List.replicate (e.N.length - ds.length) none) S (.ss e.body) with
        | .ret d S => .ok d S
        | .nx _ S => .ok .non S
        | .exc c as S => .exc c as S
        | _ => .bad) .bad

/-! ## the check that a compact tree is an expression's -/
def visB (sc : Scope) (x : Str) : Bool := match sc.names.lookup x with | some .local => true | some .cell => true | some .free => true | _ => false
def okVar (N : List Str) (sc : Scope) (i : Nat) (x : Str) : Bool := decide (N[i]? = some x) && visB sc x && !(x == ("__debug__" : Str)) && !(x == ("__classdict__" : Str))
def okGl (sc : Scope) (x : Str) : Bool := decide (sc.names.lookup x = some .globalImplicit)
def isK (k : Const) (d : D) : Bool := match k, d with
  | .none, .non => true
  | .bool a, .bl b => a == b
  | .int i, .int j => decide (i = j)
  | .str x, .str y => decide (x = y)
  | _, _ => false
def isStar : Expr → Bool | .Starred .. => true | _ => false
def isSlice : Expr → Bool | .Slice .. => true | _ => false
def isSet : Expr → Bool | .Set .. => true | _ => false
def isComp : Expr → Bool | .ListComp .. => true | .SetComp .. => true | .DictComp .. => true | _ => false
def plainBase : Expr → Bool | .Name .. => true | .Subscript .. => true | .Attribute .. => true | .Call _ (_ :: _) _ _ => true | _ => false
def noStar (es : List Expr) : Bool := es.all fun e => !isStar e
def biName : BI → Str
  | .sum => "sum" | .max => "max" | .divmod => "divmod" | .len => "len" | .abs => "abs" | .int => "int" | .bool => "bool" | .all => "all" | .any => "any" | .tuple => "tuple" | .list => "list" | .gcd => "gcd" | .sorted => "sorted" | .min => "min" | .dict => "dict" | .perm => "perm" | .comb => "comb"
def biOk (T : Tb) : BI → Bool
  | .gcd => decide ((("gcd" : Str), "math.gcd") ∈ T.gcd)
  | .perm => decide ((("perm" : Str), "math.perm") ∈ T.gcd)
  | .comb => decide ((("comb" : Str), "math.comb") ∈ T.gcd)
  | _ => true
def mtName : Mt → Str
  | .append => "append" | .pop => "pop" | .extend => "extend" | .index => "index" | .popAt => "pop"
def mtArgs : Mt → Nat
  | .append => 1 | .pop => 0 | .extend => 1 | .index => 1 | .popAt => 1
def isTg1 (fn : Str → Bool) (N : List Str) (sc : Scope) (e : Expr) (i : Nat) : Bool := match e with
  | .Name x _ => decide (N[i]? = some x) && (decide (sc.names.lookup x = some .local) || (decide (sc.names.lookup x = some .cell) && fn x))
  | _ => false
def isTgs (fn : Str → Bool) (N : List Str) (sc : Scope) : List Expr → List Nat → Bool
  | [], [] => true
  | e :: es, i :: is => isTg1 fn N sc e i && isTgs fn N sc es is
  | _, _ => false
def isT1 (fn : Str → Bool) (N : List Str) (sc : Scope) (e : Expr) : T1 → Bool
  | .nm i => isTg1 fn N sc e i
  | .tp is => match e with | .Tuple es _ _ => isTgs fn N sc es is | _ => false
def isTn (fn : Str → Bool) (N : List Str) (sc : Scope) : List Expr → List T1 → Bool
  | [], [] => true
  | e :: es, t :: ts => isT1 fn N sc e t && isTn fn N sc es ts
  | _, _ => false
def isTg (fn : Str → Bool) (N : List Str) (sc : Scope) (e : Expr) : Tg → Bool
  | .nm i => isTg1 fn N sc e i
  | .tp is => match e with | .Tuple es _ _ => isTgs fn N sc es is | _ => false
  | .nt ts => match e with | .Tuple es _ _ => isTn fn N sc es ts | _ => false
def tgIn (vs : List Nat) : Tg → Bool
  | .nm i => vs.contains i
  | .tp is => is.all vs.contains
  | .nt ts => ts.all fun | .nm i => vs.contains i | .tp is => is.all vs.contains
def ownOf (N : List Str) (vs : List Nat) : List (Str × Nat) := vs.map fun i => (N.getD i "", i)
def isNames (sc : Scope) : List Expr → List String → Bool
  | [], [] => true
  | .Name x _ :: es, t :: ts => decide (x ∈ (["int", "bool", "str", "list", "tuple"] : List Str)) && okGl sc x && (x != ("__name__" : Str)) && !(x == ("__debug__" : Str)) && decide (bootBuiltins x = some (.type t)) && isNames sc es ts
  | _, _ => false
def weave : List (Option Expr) → List Expr → List Expr
  | some k :: ks, v :: vs => k :: v :: weave ks vs
  | _, _ => []
def calleeOk : Expr → Bool | .Name .. => true | .Subscript .. => true | .Call .. => true | _ => false
mutual
def isE (T : Tb) : Nat → List Str → Scope → Expr → C → Bool
  | 0, _, _, _, _ => false
  | n + 1, N, sc, e, c => match c with
    | .var i => (match e with | .Name x _ => okVar N sc i x | _ => false)
    | .kc d => (match e with | .Constant k _ _ => isK k d | _ => false)
    | .glob y i => (match e with | .Name x _ => decide (x = y) && decide ((y, i) ∈ T.consts) && okGl sc x && !(x == ("__debug__" : Str)) | _ => false)
    | .globT i => (match e with | .Name x _ => (match T.tcs[i]? with | some p => decide (p.1 = x) | none => false) && okGl sc x && !(x == ("__debug__" : Str)) | _ => false)
    | .tup cs => (match e with | .Tuple es _ _ => isEs T n N sc es cs | _ => false)
    | .lst cs => (match e with | .List es _ => isEs T n N sc es cs | _ => false)
    | .star _ => false
    | .bin op a b => (match e with | .BinOp l op' r _ => decide (op = op') && isE T n N sc l a && isE T n N sc r b | _ => false)
    | .neg a => (match e with | .UnaryOp .USub x _ => isE T n N sc x a | _ => false)
    | .not a => (match e with | .UnaryOp .Not x _ => isE T n N sc x a | _ => false)
    | .and cs => (match e with | .BoolOp .And vs _ => noStar vs && isEs T n N sc vs cs | _ => false)
    | .or cs => (match e with | .BoolOp .Or vs _ => noStar vs && isEs T n N sc vs cs | _ => false)
    | .ite t a b => (match e with | .IfExp x y z _ => isE T n N sc x t && isE T n N sc y a && isE T n N sc z b | _ => false)
    | .cmp op a b => (match e with | .Compare l [op'] [r] _ => decide (op = op') && !behindInMarks op r && isE T n N sc l a && isE T n N sc r b | _ => false)
    | .chain a o1 b o2 c => (match e with | .Compare l [p1, p2] [x, y] _ => decide (o1 = p1) && decide (o2 = p2) && !lastMarks [o1, o2] [x, y] && isE T n N sc l a && isE T n N sc x b && isE T n N sc y c | _ => false)
    | .idx a i => (match e with | .Subscript v s _ => !isSlice s && isE T n N sc v a && isE T n N sc s i | _ => false)
    | .slc a lo hi => (match e with | .Subscript v (.Slice l h none _) _ => isE T n N sc v a && isO T n N sc l lo && isO T n N sc h hi | _ => false)
    | .call j args => (match e with | .Call (.Name x _) es [] _ => (match T.fs[j]? with | some f => decide (f.name = x) | none => false) && okGl sc x && !(x == ("__debug__" : Str)) && noStar es && isEs T n N sc es args | _ => false)
    | .callK j args ks kws perm => (match e with | .Call (.Name x _) es kwl _ => (match T.fs[j]? with | some f => decide (f.name = x) && decide ((es.length, ks, perm) ∈ f.shapes) && decide (es.length + perm.length = f.ps.length) && decide (args.length = es.length) | none => false) && okGl sc x && !(x == ("__debug__" : Str)) && noStar es && isEs T n N sc es args && decide (kwl.map (·.arg) = ks.map some) && isEs T n N sc (kwl.map (·.value)) kws && noStar (kwl.map (·.value)) | _ => false)
    | .bi b args => (match e with | .Call (.Name x _) es [] _ => decide (x = biName b) && biOk T b && okGl sc x && noStar es && !es.isEmpty && isEs T n N sc es args | _ => false)
    | .isi a ts => (match e with | .Call (.Name x _) [y, .Tuple tes _ _] [] _ => decide (x = ("isinstance" : Str)) && okGl sc x && !isStar y && isE T n N sc y a && isNames sc tes ts && decide (ts.length < 20) | _ => false)
    | .isi1 a t => (match e with | .Call (.Name x _) [y, z] [] _ => decide (x = ("isinstance" : Str)) && okGl sc x && !isStar y && isE T n N sc y a && isNames sc [z] [t] | _ => false)
    | .meth m o args => (match e with | .Call (.Attribute ob name apos) es [] cpos => decide (name = mtName m) && (apos.endLine == cpos.line) && plainBase ob && noStar es && decide (es.length = mtArgs m) && isE T n N sc ob o && isEs T n N sc es args | _ => false)
    | .comp2 vs tg it ops ifs vs1 tg1 it1 ops1 ifs1 elt => (match e with | .ListComp el [⟨t, iter, fs, 0⟩, ⟨t1, iter1, fs1, 0⟩] scope _ => blkC N sc scope (ownOf N vs) && isTg (fun x => scope.names.lookup x == some .cell) N (relS scope sc) t tg && tgIn vs tg && isIt T n N sc t iter it ops && isEs T n N (relS scope sc) fs ifs && noStar fs && (vs1.all fun i => vs.contains i) && isTg (fun x => scope.names.lookup x == some .cell) N (relS scope sc) t1 tg1 && tgIn vs1 tg1 && isIt T n N (relS scope sc) t1 iter1 it1 ops1 && isEs T n N (relS scope sc) fs1 ifs1 && noStar fs1 && isE T n N (relS scope sc) el elt | _ => false)
    | .dcomp vs tg it ops ifs k v => (match e with | .DictComp ek ev [⟨t, iter, fs, 0⟩] scope _ => blkC N sc scope (ownOf N vs) && isTg (fun x => scope.names.lookup x == some .cell) N (relS scope sc) t tg && tgIn vs tg && isIt T n N sc t iter it ops && isEs T n N (relS scope sc) fs ifs && noStar fs && isE T n N (relS scope sc) ek k && isE T n N (relS scope sc) ev v | _ => false)
    | .glf j => (match e with | .Name x _ => (match T.fs[j]? with | some f => decide (f.name = x) | none => false) && okGl sc x && !(x == ("__debug__" : Str)) | _ => false)
    | .callV f args => (match e with | .Call fe es [] _ => calleeOk fe && noStar es && isE T n N sc fe f && isEs T n N sc es args | _ => false)
    | .chain3 a o1 b o2 c o3 d => (match e with | .Compare l [p1, p2, p3] [x, y, z] _ => decide (o1 = p1) && decide (o2 = p2) && decide (o3 = p3) && !lastMarks [o1, o2, o3] [x, y, z] && isE T n N sc l a && isE T n N sc x b && isE T n N sc y c && isE T n N sc z d | _ => false)
    | .revs a => (match e with | .Subscript v (.Slice none none (some (.UnaryOp .USub (.Constant (.int 1) _ _) _)) _) _ => isE T n N sc v a | _ => false)
    | .dnewI => (match e with | .Dict [] [] _ => true | _ => false)
    | .dnewN => (match e with | .Dict [] [] _ => true | _ => false)
    | .ddisp kvs => (match e with | .Dict keys values _ => keys.all (·.isSome) && decide (keys.length = values.length) && !keys.isEmpty && decide (keys.length ≤ 15) && noStar (weave keys values) && isEs T n N sc (weave keys values) kvs | _ => false)
    | .dget o k x => (match e with | .Call (.Attribute ob name apos) [e1, e2] [] cpos => decide (name = ("get" : Str)) && (apos.endLine == cpos.line) && plainBase ob && noStar [e1, e2] && isE T n N sc ob o && isE T n N sc e1 k && isE T n N sc e2 x | _ => false)
    | .dvals o => (match e with | .Call (.Name x _) [.Call (.Attribute ob name apos) [] [] cpos] [] _ => decide (x = ("list" : Str)) && okGl sc x && decide (name = ("values" : Str)) && (apos.endLine == cpos.line) && plainBase ob && isE T n N sc ob o | _ => false)
    | .mdf mx a d => (match e with | .Call (.Name x _) [e1] [⟨some kw, e2, _⟩] _ => decide (x = (if mx then ("max" : Str) else ("min" : Str))) && okGl sc x && decide (kw = ("default" : Str)) && noStar [e1] && isE T n N sc e1 a && isE T n N sc e2 d && noStar [e2] | _ => false)
    | .sset a => (match e with | .Call (.Name x _) [.Call (.Name y _) [e1] [] _] [] _ => decide (x = ("sorted" : Str)) && okGl sc x && decide (y = ("set" : Str)) && okGl sc y && noStar [e1] && isE T n N sc e1 a | _ => false)
    | .rngT a => (match e with | .Call (.Name x _) [.Call (.Name y _) [e1] [] _] [] _ => decide (x = ("tuple" : Str)) && okGl sc x && decide (y = ("range" : Str)) && okGl sc y && noStar [e1] && isE T n N sc e1 a | _ => false)
    | .rngL a => (match e with | .Call (.Name x _) [.Call (.Name y _) [e1] [] _] [] _ => decide (x = ("list" : Str)) && okGl sc x && decide (y = ("range" : Str)) && okGl sc y && noStar [e1] && isE T n N sc e1 a | _ => false)
    | .lprm a f => (match e with | .Call (.Name x _) [.Call (.Name y _) [.Call (.Name z _) [e1] [] _, e2] [] _] [] _ => T.prm && decide (x = ("list" : Str)) && okGl sc x && decide (y = ("permutations" : Str)) && okGl sc y && decide (z = ("range" : Str)) && okGl sc z && noStar [e1] && noStar [e2] && isE T n N sc e1 a && isE T n N sc e2 f | _ => false)
    | .lzip cs => (match e with | .Call (.Name x _) [.Call (.Name y _) [e1, e2] [] _] [] _ => decide (x = ("list" : Str)) && okGl sc x && decide (y = ("zip" : Str)) && okGl sc y && noStar [e1, e2] && isEs T n N sc [e1, e2] cs | _ => false)
    | .tidx o x => (match e with | .Call (.Attribute ob name apos) [e1] [] cpos => decide (name = ("index" : Str)) && (apos.endLine == cpos.line) && plainBase ob && noStar [e1] && isE T n N sc ob o && isE T n N sc e1 x | _ => false)
    | .comp vs tg it ops ifs elt => (match e with | .ListComp el [⟨t, iter, fs, 0⟩] scope _ => blkC N sc scope (ownOf N vs) && isTg (fun x => scope.names.lookup x == some .cell) N (relS scope sc) t tg && tgIn vs tg && isIt T n N sc t iter it ops && isEs T n N (relS scope sc) fs ifs && noStar fs && isE T n N (relS scope sc) el elt | _ => false)
def isEs (T : Tb) : Nat → List Str → Scope → List Expr → List C → Bool
  | 0, _, _, _, _ => false
  | n + 1, N, sc, es, cs => match es, cs with
    | [], [] => true
    | e :: es, c :: cs => isA T n N sc e c && isEs T n N sc es cs
    | _, _ => false
def isA (T : Tb) : Nat → List Str → Scope → Expr → C → Bool
  | 0, _, _, _, _ => false
  | n + 1, N, sc, e, c => match c with
    | .star d => (match e with | .Starred x _ => isE T n N sc x d | _ => false)
    | d => !isStar e && isE T n N sc e d
def isO (T : Tb) : Nat → List Str → Scope → Option Expr → Option C → Bool
  | 0, _, _, _, _ => false
  | n + 1, N, sc, e, c => match e, c with
    | none, none => true
    | some e, some c => isE T n N sc e c
    | _, _ => false
def isIt (T : Tb) : Nat → List Str → Scope → Expr → Expr → ItK → List C → Bool
  | 0, _, _, _, _, _, _ => false
  | n + 1, N, sc, t, e, k, ops => match k with
    | .seq => !isSet e && (match ops with | [c] => isE T n N sc e c | _ => false)
    | .rng1 => (match e with | .Call (.Name x _) [a] [] _ => decide (x = ("range" : Str)) && okGl sc x && noStar [a] && isEs T n N sc [a] ops | _ => false)
    | .rng2 => (match e with | .Call (.Name x _) [a, b] [] _ => decide (x = ("range" : Str)) && okGl sc x && noStar [a, b] && isEs T n N sc [a, b] ops | _ => false)
    | .rng3 => (match e with | .Call (.Name x _) [a, b, c] [] _ => decide (x = ("range" : Str)) && okGl sc x && noStar [a, b, c] && isEs T n N sc [a, b, c] ops | _ => false)
    | .zip => (match t, e with | .Tuple .., .Call (.Name x _) [a, b] [] _ => decide (x = ("zip" : Str)) && okGl sc x && noStar [a, b] && isEs T n N sc [a, b] ops | _, _ => false)
    | .enu => (match t, e with | .Tuple .., .Call (.Name x _) [a] [] _ => decide (x = ("enumerate" : Str)) && okGl sc x && noStar [a] && isEs T n N sc [a] ops | _, _ => false)
    | .revR => (match e with | .Call (.Name y _) [.Call (.Name x _) [a] [] _] [] _ => decide (y = ("reversed" : Str)) && okGl sc y && decide (x = ("range" : Str)) && okGl sc x && noStar [a] && isEs T n N sc [a] ops | _ => false)
    | .comb => T.comb && (match e with | .Call (.Name x _) [a, b] [] _ => decide (x = ("combinations" : Str)) && okGl sc x && noStar [a, b] && isEs T n N sc [a, b] ops | _ => false)
end

/-! ## statements -/
def isTupD : Expr → Bool | .Tuple .. => true | _ => false
def swB (sc : Scope) (x : Str) (px : Pos) (e : Expr) : Bool := match e with
  | .ListComp _ _ s p => decide (sc.names.lookup x = some .local) && (px.line == p.line) && !(s.names.any fun (n, k) => n == x && (k == .local || k == .cell))
  | .DictComp _ _ _ s p => decide (sc.names.lookup x = some .local) && (px.line == p.line) && !(s.names.any fun (n, k) => n == x && (k == .local || k == .cell))
  | _ => false
def parOk2 (N : List Str) (sc : Scope) (ts vs : List Expr) (is : List Nat) : Bool := match ts, vs, is with
  | [.Name x px, .Name y py], [a, b], [i, j] => decide (N[i]? = some x) && decide (N[j]? = some y) && decide (i ≠ j) && decide (sc.names.lookup x = some .local) && decide (sc.names.lookup y = some .local) && (px.line == py.line) && (x != y)
      && !isStar a && !isStar b && !([a, b].all (foldedForSure 8)) && !([a, b].all (constantsAlone 8))
  | [.Name x px, .Name y py, .Name z pz], [a, b, c], [i, j, l] => decide (N[i]? = some x) && decide (N[j]? = some y) && decide (N[l]? = some z) && decide (i ≠ j) && decide (i ≠ l) && decide (j ≠ l) && decide (sc.names.lookup x = some .local) && decide (sc.names.lookup y = some .local) && decide (sc.names.lookup z = some .local)
      && (px.line == py.line) && (px.line == pz.line) && (x != y) && (x != z) && (y != z)
      && !isStar a && !isStar b && !isStar c && !([a, b, c].all (foldedForSure 8)) && !([a, b, c].all (constantsAlone 8))
  | _, _, _ => false
def cellTg (sc : Scope) : Expr → Bool
  | .Tuple ts _ _ => ts.any fun | .Name x _ => !(sc.names.lookup x == some .local) | _ => true
  | _ => false
def isSeqE : Expr → Bool | .Tuple .. => true | .List .. => true | _ => false
def isTupFold (sc : Scope) (t : Expr) : Expr → Bool
  | .Tuple vs _ _ => !isSeqE t || (vs.all (foldedForSure 8) || cellTg sc t)
  | _ => true
def allT : Str → Bool := fun _ => true
def errNames : List Str := ["ValueError", "LookupError"]
def isSE (sc : Scope) (n : Str) (e : Expr) (c : SE) : Bool := match c with
  | .fld f => (match e with | .Attribute (.Name y _) g _ => decide (y = n) && decide (g = f) | _ => false)
  | .k d => (match e with | .Constant k _ _ => isK k d | _ => false)
  | .isE t => (match e with | .Call (.Name f _) [.Name y _, .Name z _] [] _ => decide (f = ("isinstance" : Str)) && okGl sc f && decide (y = n) && okGl sc z && decide (z ∈ errNames) && decide (bootBuiltins z = some (.type t)) | _ => false)
def isSEs (sc : Scope) (n : Str) : List Expr → List SE → Bool
  | [], [] => true
  | e :: es, c :: cs => isSE sc n e c && isSEs sc n es cs
  | _, _ => false
def isH (T : Tb) (N : List Str) (sc : Scope) (h : ExceptHandler) (c : Nat × Nat × List SE) : Bool := match h with
  | .ExceptHandler (some (.Name x _)) (some n) [.Return (some (.List es _)) _] _ => decide (T.excs[c.1]? = some x) && okGl sc x && !(x == ("__debug__" : Str)) && okVar N sc c.2.1 n && decide (sc.names.lookup n = some .local) && isSEs sc n es c.2.2 && noStar es
  | _ => false
def isHs (T : Tb) (N : List Str) (sc : Scope) : List ExceptHandler → List (Nat × Nat × List SE) → Bool
  | [], [] => true
  | h :: hs, c :: cs => isH T N sc h c && isHs T N sc hs cs
  | _, _ => false
mutual
def isS (T : Tb) : Nat → List Str → Scope → Stmt → CS → Bool
  | 0, _, _, _, _ => false
  | n + 1, N, sc, st, c => match c with
    | .asg tg c => (match st with | .Assign [t] v _ => isTg allT N sc t tg && isE T n N sc v c && isTupFold sc t v | _ => false)
    | .par is cs => (match st with | .Assign [.Tuple ts _ _] (.Tuple vs _ _) _ => parOk2 N sc ts vs is && isEs T n N sc vs cs | _ => false)
    | .sub o i c => (match st with | .Assign [.Subscript a b _] v _ => !isSlice b && isE T n N sc v c && isE T n N sc a o && isE T n N sc b i | _ => false)
    | .expr c => (match st with | .Expr v _ => !isComp v && isE T n N sc v c | _ => false)
    | .ret c => (match st with | .Return (some v) _ => isE T n N sc v c | _ => false)
    | .retN => (match st with | .Return none _ => true | _ => false)
    | .ite t a b => (match st with | .If x y z _ => isE T n N sc x t && isSs T n N sc y a && isSs T n N sc z b | _ => false)
    | .for_ tg it ops body => (match st with | .For t i b [] _ => isTg allT N sc t tg && isIt T n N sc t i it ops && isSs T n N sc b body | _ => false)
    | .while_ t body => (match st with | .While x b [] _ => isE T n N sc x t && isSs T n N sc b body | _ => false)
    | .pass => (match st with | .Pass _ => true | _ => false)
    | .brk => (match st with | .Break _ => true | _ => false)
    | .cont => (match st with | .Continue _ => true | _ => false)
    | .try_ body hs => (match st with | .Try b (h₀ :: hds) [] [] _ => isSs T n N sc b body && isHs T N sc (h₀ :: hds) hs | _ => false)
    | .raise k => (match st with | .Raise (some (.Call (.Name x _) [] [] _)) none _ => decide (T.excs[k]? = some x) && okGl sc x | _ => false)
    | .raise1 k c => (match st with | .Raise (some (.Call (.Name x _) [a] [] _)) none _ => decide (T.excs[k]? = some x) && okGl sc x && !(x == ("__debug__" : Str)) && noStar [a] && isE T n N sc a c | _ => false)
    | .aug i op c => (match st with | .AugAssign (.Name x _) op' v _ => decide (op = op') && (decide (op = .Add) || decide (op = .Sub)) && isTg1 allT N sc (.Name x ⟨0, 0, 0, 0⟩) i && isE T n N sc v c | _ => false)
    | .del o i => (match st with | .Delete [.Subscript a b _] _ => isE T n N sc a o && isE T n N sc b i | _ => false)
def isSs (T : Tb) : Nat → List Str → Scope → List Stmt → List CS → Bool
  | 0, _, _, _, _ => false
  | n + 1, N, sc, sts, cs => match sts, cs with
    | [], [] => true
    | st :: sts, c :: cs => isS T n N sc st c && isSs T n N sc sts cs
    | _, _ => false
end
end EV
set_option Elab.async false
set_option linter.all false
set_option maxRecDepth 100000
set_option maxHeartbeats 4000000
namespace EV
open PySem PySem.Spec PyProof.Rows L2

/-! ## the best readings -/
def WPE (X : Cx) (e : Expr) (σ : L2.St) (H : Hp) (Q : VK) : Prop := ∃ t, PE X e t ∧ t σ H Q
theorem pe_w {X : Cx} {e : Expr} : PE X e (WPE X e) := ⟨fun pins s σ H Q I ⟨_, ht, h⟩ => ht.run pins s σ H Q I h⟩
def WPT (X : Cx) (e : Expr) (σ : L2.St) (H : Hp) (Q : Bool → Hp → Prop) : Prop := ∃ t, PT X e t ∧ t σ H Q
theorem pt_w {X : Cx} {e : Expr} : PT X e (WPT X e) := ⟨fun pins s σ H Q I ⟨_, ht, h⟩ => ht.run pins s σ H Q I h⟩
def WPW (X : Cx) (e : Expr) (σ : L2.St) (H : Hp) (Q : Bool → Hp → Prop) : Prop := ∃ t, PW X e t ∧ t σ H Q
theorem pw_w {X : Cx} {e : Expr} : PW X e (WPW X e) := ⟨fun wh pins s σ H Q I ⟨_, ht, h⟩ => ht.run wh pins s σ H Q I h⟩
def WPA (X : Cx) (es : List Expr) (σ : L2.St) (H : Hp) (Q : List V → Hp → Prop) : Prop := ∃ t, PA X es t ∧ t σ H Q
theorem pa_w {X : Cx} {es : List Expr} : PA X es (WPA X es) := ⟨fun pos pins s σ H Q I ⟨_, ht, h⟩ => ht.run pos pins s σ H Q I h⟩
def WPK (X : Cx) (kws : List Keyword) (σ : L2.St) (H : Hp) (Q : List V → Hp → Prop) : Prop := ∃ t, PK X kws t ∧ t σ H Q
theorem pk_w {X : Cx} {es : List Keyword} : PK X es (WPK X es) := ⟨fun pos pins s σ H Q I ⟨_, ht, h⟩ => ht.run pos pins s σ H Q I h⟩
def WPO (X : Cx) (e : Option Expr) (σ : L2.St) (H : Hp) (Q : Option Int → Hp → Prop) : Prop := ∃ t, PO X e t ∧ t σ H Q
theorem po_w {X : Cx} {e : Option Expr} : PO X e (WPO X e) := ⟨fun pins s σ H Q I ⟨_, ht, h⟩ => ht.run pins s σ H Q I h⟩
def WPTs (X : Cx) (es : List Expr) (σ : L2.St) (H : Hp) (Q : Bool → Hp → Prop) : Prop := ∃ t, PTs X es t ∧ t σ H Q
theorem pts_w {X : Cx} {es : List Expr} : PTs X es (WPTs X es) := ⟨fun pins s σ H Q I ⟨_, ht, h⟩ => ht.run pins s σ H Q I h⟩
def WPS (X : Cx) (st : Stmt) (D : Ends) (σ : L2.St) (H : Hp) : Prop := ∃ t, PS X st t ∧ t D σ H
theorem ps_w {X : Cx} {st : Stmt} : PS X st (WPS X st) := ⟨fun pins s σ H D I ⟨_, ht, h⟩ => ht.run pins s σ H D I h⟩
def WPSs (X : Cx) (st : List Stmt) (D : Ends) (σ : L2.St) (H : Hp) : Prop := ∃ t, PSs X st t ∧ t D σ H
theorem pss_w {X : Cx} {st : List Stmt} : PSs X st (WPSs X st) := ⟨fun pins s σ H D I ⟨_, ht, h⟩ => ht.run pins s σ H D I h⟩
def WPG (X : Cx) (tg : Expr) (v : V) (σ : L2.St) (H : Hp) (Q : L2.St → Hp → Prop) : Prop := ∃ t, PG X tg t ∧ t v σ H Q
theorem pg_w {X : Cx} {tg : Expr} : PG X tg (WPG X tg) := ⟨fun pins s σ H v u Q I r ⟨_, ht, h⟩ => ht.run pins s σ H v u Q I r h⟩
def WPGs (X : Cx) (tg : List Expr) (vs : List V) (σ : L2.St) (H : Hp) (Q : L2.St → Hp → Prop) : Prop := ∃ t, PGs X tg t ∧ t vs σ H Q
theorem pgs_w {X : Cx} {tg : List Expr} : PGs X tg (WPGs X tg) := ⟨fun pins s σ H v u Q I r ⟨_, ht, h⟩ => ht.run pins s σ H v u Q I r h⟩
def WPI (X : Cx) (tg it : Expr) (σ : L2.St) (H : Hp) (R : It → Hp → Prop) : Prop := ∃ t, PI X tg it t ∧ t σ H R
theorem pi_w {X : Cx} {tg it : Expr} : PI X tg it (WPI X tg it) := ⟨fun pins s σ H R I ⟨_, ht, h⟩ => ht.run pins s σ H R I h⟩
def WOp (X : Cx) (f : Value → Value → Sem Value) : R2 := fun x y H Q => ∃ r, OpR X f r ∧ r x y H Q
theorem op_w {X : Cx} {f : Value → Value → Sem Value} : OpR X f (WOp X f) := fun pins s σ H x y v u Q I rx ry ⟨_, hr, h⟩ => hr pins s σ H x y v u Q I rx ry h
def WIx (X : Cx) : R2 := fun x y H Q => ∃ r, IxR X r ∧ r x y H Q
theorem ix_w {X : Cx} : IxR X (WIx X) := fun value slice pins s σ H x y v u Q I rx ry h e => by
  obtain ⟨_, hr, h⟩ := h
  exact hr value slice pins s σ H x y v u Q I rx ry h e
def WSl (X : Cx) : V → Option Int → Option Int → Hp → VK → Prop := fun x lo hi H Q => ∃ r, SlR X r ∧ r x lo hi H Q
theorem sl_w {X : Cx} : SlR X (WSl X) := fun pins s σ H x v vl vu lo hi sl Q I rx hs pl pu h => by
  obtain ⟨_, hr, h⟩ := h
  exact hr pins s σ H x v vl vu lo hi sl Q I rx hs pl pu h
def WCa (X : Cx) (f : Value) : List V → Hp → VK → Prop := fun xs H Q => ∃ r, CallR X f r ∧ r xs H Q
theorem ca_w {X : Cx} {f : Value} : CallR X f (WCa X f) := fun pins s σ H xs us Q I r ⟨_, hr, h⟩ => hr pins s σ H xs us Q I r h

/-! ## ends -/
section
variable {K : PySem.W.Frag} {w : World} {μ μ' : List Addr} {H H' : Hp} {S S' : Sto} {cls : Nat → Addr × Option Str} {E : XK}
def EW (K : PySem.W.Frag) (μ : List Addr) (cls : Nat → Addr × Option Str) (E : XK) (c : Nat) (as : List D) (H : Hp) : Prop := match (cls c).2, as with
  | none, [] => E (.ref (cls c).1) none H
  | some f, [d] => ∀ v, Rl K μ H d v → ∀ dx, H dx = none → E (.ref (cls c).1) (some dx) (upd H dx (.xd [(f, v)]))
  | _, _ => False
def ExP (K : PySem.W.Frag) (w : World) (cls : Nat → Addr × Option Str) (E : XK) (μ : List Addr) (H : Hp) (c : Nat) (as : List D) (S' : Sto) : Prop :=
  ∀ μ' H', Ext μ H μ' H' → Good K w μ' S' H' → EW K μ' cls E c as H'
def RsP (K : PySem.W.Frag) (w : World) (cls : Nat → Addr × Option Str) (E : XK) (μ : List Addr) (H : Hp) (r : Rs) (Q : VK) : Prop := match r with
  | .ok d S' => Post K w μ H d S' Q
  | .exc c as S' => ExP K w cls E μ H c as S'
  | _ => False
def RsA (K : PySem.W.Frag) (w : World) (cls : Nat → Addr × Option Str) (E : XK) (μ : List Addr) (H : Hp) (r : Rs) (Q : List V → Hp → Prop) : Prop := match r with
  | .oks ds S' => PostA K w μ H ds S' Q
  | .exc c as S' => ExP K w cls E μ H c as S'
  | _ => False
def RsT (K : PySem.W.Frag) (w : World) (cls : Nat → Addr × Option Str) (E : XK) (μ : List Addr) (H : Hp) (r : Rs) (Q : Bool → Hp → Prop) : Prop := match r with
  | .ok (.bl b) S' => ∀ μ' H', Ext μ H μ' H' → Good K w μ' S' H' → Q b H'
  | .exc c as S' => ExP K w cls E μ H c as S'
  | _ => False
theorem ExP.ext {c : Nat} {as : List D} (h : ExP K w cls E μ H c as S') (x : Ext μ H μ' H') : ExP K w cls E μ' H' c as S' := fun μ2 H2 y g => h μ2 H2 (x.trans y) g
theorem RsP.ext {r : Rs} {Q : VK} (h : RsP K w cls E μ H r Q) (x : Ext μ H μ' H') : RsP K w cls E μ' H' r Q := by
  cases r with
  | ok d S => exact fun v μ2 H2 y g => h v μ2 H2 (x.trans y) g
  | exc c as S => exact ExP.ext h x
  | _ => exact h
theorem RsA.ext {r : Rs} {Q : List V → Hp → Prop} (h : RsA K w cls E μ H r Q) (x : Ext μ H μ' H') : RsA K w cls E μ' H' r Q := by
  cases r with
  | oks d S => exact fun v μ2 H2 y g => h v μ2 H2 (x.trans y) g
  | exc c as S => exact ExP.ext h x
  | _ => exact h
theorem RsT.ext {r : Rs} {Q : Bool → Hp → Prop} (h : RsT K w cls E μ H r Q) (x : Ext μ H μ' H') : RsT K w cls E μ' H' r Q := by
  cases r with
  | ok d S =>
    cases d with
    | bl b => exact fun μ2 H2 y g => h μ2 H2 (x.trans y) g
    | _ => exact h
  | exc c as S => exact ExP.ext h x
  | _ => exact h
theorem RsP.mono {r : Rs} {Q Q' : VK} (h : RsP K w cls E μ H r Q) (k : ∀ v H', Q v H' → Q' v H') : RsP K w cls E μ H r Q' := by
  cases r with
  | ok d S => exact fun v μ2 H2 y g r => k v H2 (h v μ2 H2 y g r)
  | _ => exact h
theorem RsA.mono {r : Rs} {Q Q' : List V → Hp → Prop} (h : RsA K w cls E μ H r Q) (k : ∀ v H', Q v H' → Q' v H') : RsA K w cls E μ H r Q' := by
  cases r with
  | oks d S => exact fun v μ2 H2 y g r => k v H2 (h v μ2 H2 y g r)
  | _ => exact h
theorem RsT.mono {r : Rs} {Q Q' : Bool → Hp → Prop} (h : RsT K w cls E μ H r Q) (k : ∀ v H', Q v H' → Q' v H') : RsT K w cls E μ H r Q' := by
  cases r with
  | ok d S =>
    cases d with
    | bl b => exact fun μ2 H2 y g => k b H2 (h μ2 H2 y g)
    | _ => exact h
  | _ => exact h
/-- what is reached in the middle -/
def At (K : PySem.W.Frag) (w : World) (μ : List Addr) (H : Hp) (d : D) (S1 : Sto) (v : V) (H1 : Hp) (P : List Addr → Prop) : Prop :=
  ∃ μ1, Ext μ H μ1 H1 ∧ Good K w μ1 S1 H1 ∧ Rl K μ1 H1 d v ∧ P μ1
theorem b1_P {r : Rs} {f : D → Sto → Rs} {Q : VK} (h : RsP K w cls E μ H (r.b1 f) Q) :
    RsP K w cls E μ H r fun v H1 => ∃ d S1 μ1, Ext μ H μ1 H1 ∧ Good K w μ1 S1 H1 ∧ Rl K μ1 H1 d v ∧ RsP K w cls E μ1 H1 (f d S1) Q := by
  cases r with
  | ok d S => exact fun v μ1 H1 x g r => ⟨d, S, μ1, x, g, r, RsP.ext h x⟩
  | exc c as S => exact h
  | _ => exact h
theorem b1_A {r : Rs} {f : D → Sto → Rs} {Q : List V → Hp → Prop} (h : RsA K w cls E μ H (r.b1 f) Q) :
    RsP K w cls E μ H r fun v H1 => ∃ d S1 μ1, Ext μ H μ1 H1 ∧ Good K w μ1 S1 H1 ∧ Rl K μ1 H1 d v ∧ RsA K w cls E μ1 H1 (f d S1) Q := by
  cases r with
  | ok d S => exact fun v μ1 H1 x g r => ⟨d, S, μ1, x, g, r, RsA.ext h x⟩
  | exc c as S => exact h
  | _ => exact h
theorem b1_T {r : Rs} {f : D → Sto → Rs} {Q : Bool → Hp → Prop} (h : RsT K w cls E μ H (r.b1 f) Q) :
    RsP K w cls E μ H r fun v H1 => ∃ d S1 μ1, Ext μ H μ1 H1 ∧ Good K w μ1 S1 H1 ∧ Rl K μ1 H1 d v ∧ RsT K w cls E μ1 H1 (f d S1) Q := by
  cases r with
  | ok d S => exact fun v μ1 H1 x g r => ⟨d, S, μ1, x, g, r, RsT.ext h x⟩
  | exc c as S => exact h
  | _ => exact h
theorem bl_or (d : D) : (∃ b, d = .bl b) ∨ ∀ b, d ≠ .bl b := by
  cases d with
  | bl b => exact .inl ⟨b, rfl⟩
  | _ => exact .inr fun b q => by cases q
/-- behind a test -/
theorem t1_P {r : Rs} {f : D → Sto → Rs} {Q : VK} (h : RsP K w cls E μ H (r.b1 f) Q) (hf : ∀ d S, (∀ b, d ≠ .bl b) → f d S = .bad) :
    RsT K w cls E μ H r fun b H1 => ∃ S1 μ1, Ext μ H μ1 H1 ∧ Good K w μ1 S1 H1 ∧ RsP K w cls E μ1 H1 (f (.bl b) S1) Q := by
  cases r with
  | ok d S =>
    rcases bl_or d with ⟨b, rfl⟩ | hn
    · exact fun μ1 H1 x g => ⟨S, μ1, x, g, RsP.ext h x⟩
    · have e := hf d S hn
      rw [show Rs.b1 (.ok d S) f = f d S from rfl, e] at h
      exact h.elim
  | exc c as S => exact h
  | _ => exact h
theorem t1_T {r : Rs} {f : D → Sto → Rs} {Q : Bool → Hp → Prop} (h : RsT K w cls E μ H (r.b1 f) Q) (hf : ∀ d S, (∀ b, d ≠ .bl b) → f d S = .bad) :
    RsT K w cls E μ H r fun b H1 => ∃ S1 μ1, Ext μ H μ1 H1 ∧ Good K w μ1 S1 H1 ∧ RsT K w cls E μ1 H1 (f (.bl b) S1) Q := by
  cases r with
  | ok d S =>
    rcases bl_or d with ⟨b, rfl⟩ | hn
    · exact fun μ1 H1 x g => ⟨S, μ1, x, g, RsT.ext h x⟩
    · have e := hf d S hn
      rw [show Rs.b1 (.ok d S) f = f d S from rfl, e] at h
      exact h.elim
  | exc c as S => exact h
  | _ => exact h
theorem bs_P {r : Rs} {f : List D → Sto → Rs} {Q : VK} (h : RsP K w cls E μ H (r.bs f) Q) :
    RsA K w cls E μ H r fun vs H1 => ∃ ds S1 μ1, Ext μ H μ1 H1 ∧ Good K w μ1 S1 H1 ∧ RlA K μ1 H1 ds vs ∧ RsP K w cls E μ1 H1 (f ds S1) Q := by
  cases r with
  | oks d S => exact fun v μ1 H1 x g r => ⟨d, S, μ1, x, g, r, RsP.ext h x⟩
  | exc c as S => exact h
  | _ => exact h
theorem bs_A {r : Rs} {f : List D → Sto → Rs} {Q : List V → Hp → Prop} (h : RsA K w cls E μ H (r.bs f) Q) :
    RsA K w cls E μ H r fun vs H1 => ∃ ds S1 μ1, Ext μ H μ1 H1 ∧ Good K w μ1 S1 H1 ∧ RlA K μ1 H1 ds vs ∧ RsA K w cls E μ1 H1 (f ds S1) Q := by
  cases r with
  | oks d S => exact fun v μ1 H1 x g r => ⟨d, S, μ1, x, g, r, RsA.ext h x⟩
  | exc c as S => exact h
  | _ => exact h
theorem cond_P {b : Bool} {r : Rs} {Q : VK} (h : RsP K w cls E μ H (cond b r .bad) Q) : b = true ∧ RsP K w cls E μ H r Q := by
  cases b with
  | true => exact ⟨rfl, h⟩
  | false => exact h.elim
end
theorem small_of {n : Nat} (h : smallB n = true) : n ≤ sizeLine := Nat.le_trans (Nat.le_of_ble_eq_true h) (by decide)
theorem small_lt {n : Nat} (h : smallB (n + 1) = true) : n < sizeLine := Nat.lt_of_lt_of_le (Nat.lt_succ_self n) (small_of h)

/-! ## what holds around a piece of code -/
def VsOf (K : PySem.W.Frag) (ds : List D) (vs : List V) : Prop := ∀ μ H, RlA K μ H ds vs
def gP {α : Type} (x : α) (perm : List Nat) (us ws : List α) : List α := us ++ perm.map fun i => ws.getD i x
def spR (K : PySem.W.Frag) (w : World) (cls : Nat → Addr × Option Str) (cl : Nat → List D → Sto → Rs) (n j : Nat) : Sp := fun vs H Q E =>
  vs.length = n ∧ ∃ μ S ds, Good K w μ S H ∧ RlA K μ H ds vs ∧ RsP K w cls E μ H (cl j ds S) Q
structure FnA (cl : Nat → List D → Sto → Rs) (cls : Nat → Addr × Option Str) (P : Program) (w : World) (K : PySem.W.Frag) (mg : Str → Option Value) (base : Heap) (A : Around) (j : Nat) (f : FnE) : Prop where
  ex : ∃ (k : Nat) (adr : Addr) (fd : FuncData), FnOk P w K mg base (L2.CX P w) k adr fd f.ps (spR K w cls cl f.ps.length j) ∧ Room k A ∧ mg f.name = some (.ref adr) ∧ PySem.W.nsIn K mainGlobals f.name = some (some (.ref adr)) ∧ PySem.W.keepIn K (.ref adr) = true ∧
    (∀ n, n ≤ f.ps.length → f.ps.length ≤ n + f.dfl.length → ∃ dvs ds, VsOf K (f.dfl.drop (n + f.dfl.length - f.ps.length)) dvs ∧ Vals dvs ds ∧ Binds K fd f.ps ds) ∧
    ∀ sh ∈ f.shapes, KBn K fd f.ps sh.1 sh.2.1 (gP Value.none sh.2.2) (gP V.non sh.2.2)
/-- a tuple of the module -/
def KTup (K : PySem.W.Frag) (a : Addr) (xs : List V) : Prop := ∃ (o : Obj) (its : Array Value) (n : Nat), K.lookup a = some o ∧ o.cls = .type "tuple" ∧ o.dict = none ∧ o.data = .seq its n ∧ its.size ≤ sizeLine ∧ Vals xs its.toList
theorem kTup_mk {K : PySem.W.Frag} {a : Addr} {xs : List V} {oc : Value} {od : Option Addr} {its : Array Value} {n : Nat} {sl : Array (Option Value)} (l : K.lookup a = some ⟨oc, od, .seq its n, sl⟩) (c : oc = .type "tuple") (dn : od = none) (z : its.size ≤ sizeLine) (r : Vals xs its.toList) : KTup K a xs :=
  ⟨_, its, n, l, c, dn, rfl, z, r⟩
structure Ctx (T : Tb) (cl : Nat → List D → Sto → Rs) (cls : Nat → Addr × Option Str) (E : XK) (X : Cx) : Prop where
  calm : X.calm = true
  nd : X.N.Nodup
  kind : X.env.scope.kind = .function
  un : X.A.units + 64 < cLine
  pass : Passes (L2.CX X.prog X.w) X E
  fns : ∀ j f, T.fs[j]? = some f → FnA cl cls X.prog X.w X.K X.mg X.base X.A j f
  gcd : ∀ p ∈ T.gcd, X.mg p.1 = some (.builtin p.2)
  consts : ∀ p ∈ T.consts, ∃ t, X.mg p.1 = some (.int p.2 t)
  tcs : ∀ p ∈ T.tcs, ∃ a, X.mg p.1 = some (.ref a) ∧ KTup X.K a (p.2.map V.int)
  comb : T.comb = true → X.mg "combinations" = some (.type "itertools.combinations")
  prm : T.prm = true → X.mg "permutations" = some (.type "itertools.permutations")
  mg0 : ∀ x ∈ (["len", "abs", "int", "bool", "all", "any", "tuple", "list", "range", "zip", "enumerate", "isinstance", "str", "sorted", "min", "sum", "max", "divmod", "set", "dict", "reversed"] : List Str), X.mg x = none
end EV
set_option Elab.async false
set_option linter.all false
set_option maxRecDepth 100000
set_option maxHeartbeats 4000000
namespace EV
open PySem PySem.Spec PyProof.Rows L2
section
variable {α : Type} {le : α → α → Bool}
open PySem.W in
theorem ins_mem (x : α) : ∀ (l : List α) (z : α), z ∈ insL le x l ↔ z = x ∨ z ∈ l
  | [], z => by simp [insL]
  | y :: r, z => by
    unfold insL
    cases le x y with
    | true => simp
    | false =>
      simp only [cond_false, List.mem_cons, ins_mem x r z]
      constructor
      · rintro (h | h | h) <;> simp [h]
      · rintro (h | h | h) <;> simp [h]
open PySem.W in
theorem ins_sorted (h : TotalLe le) (x : α) : ∀ {l : List α}, l.Pairwise (fun a b => le a b = true) → (insL le x l).Pairwise (fun a b => le a b = true)
  | [], _ => by simp [insL]
  | y :: r, p => by
    unfold insL
    rw [List.pairwise_cons] at p
    cases c : le x y with
    | true =>
      simp only [cond_true, List.pairwise_cons]
      refine ⟨fun z hz => ?_, p⟩
      rcases List.mem_cons.mp hz with e | hz
      · rw [e]; exact c
      · exact h.trans _ _ _ c (p.1 z hz)
    | false =>
      simp only [cond_false, List.pairwise_cons]
      refine ⟨fun z hz => ?_, ins_sorted h x p.2⟩
      rcases (ins_mem x r z).mp hz with e | hz
      · rw [e]
        exact (h.total x y).resolve_left (by rw [c]; simp)
      · exact p.1 z hz
open PySem.W in
theorem ins_filter (h : TotalLe le) (x c : α) : ∀ l : List α, (insL le x l).filter (sameRank le c) = (x :: l).filter (sameRank le c)
  | [] => rfl
  | y :: r => by
    unfold insL
    cases e : le x y with
    | true => rfl
    | false =>
      simp only [cond_false, List.filter_cons]
      have ih := ins_filter h x c r
      simp only [List.filter_cons] at ih
      rw [ih]
      cases h1 : sameRank le c x with
      | false => simp
      | true =>
        cases h2 : sameRank le c y with
        | false => simp
        | true =>
          unfold sameRank at h1 h2
          rw [Bool.and_eq_true] at h1 h2
          have := h.trans _ _ _ h1.2 h2.1
          rw [e] at this
          cases this
open PySem.W in
theorem isort_is (h : TotalLe le) (l : List α) : isort le l = l.mergeSort le := by
  refine sort_unique h ?_ fun c => ?_
  · induction l with
    | nil => exact List.Pairwise.nil
    | cons x r ih => exact ins_sorted h x ih
  · induction l with
    | nil => rfl
    | cons x r ih =>
      show (insL le x (isort le r)).filter _ = _
      rw [ins_filter h, List.filter_cons, List.filter_cons, ih]
end
theorem leP_is : leP = PySem.W.dataLe false (fun p : D × PyData => p.2) := by
  rw [PySem.W.dataLe_eq]
  rfl
theorem leP_total : PySem.W.TotalLe leP := by
  rw [leP_is]
  exact PySem.W.sortLe_total _ _ _
section
variable {w : World} {X : Cx} {pins : List (Addr × Obj)} {σ : L2.St} {H : Hp} {s : Shared} {μ : List Addr} {S : Sto}
def RelP (K : PySem.W.Frag) (μ : List Addr) (H : Hp) (u : Value) (p : D × PyData) : Prop := ∃ x : V, RelV x u ∧ Rl K μ H p.1 x
theorem each_zip {K : PySem.W.Frag} : ∀ {l : List D} {xs : List V} {us : List Value} {ps : List PyData}, RlA K μ H l xs → Vals xs us → ps.length = l.length → PySem.W.EachIs (RelP K μ H) us (l.zip ps)
  | [], _, _, _, .nil, .nil, e => by
    rw [List.zip_nil_left]
    exact .nil
  | d :: l, _, _, p :: ps, .cons a t, .cons b t', e => .cons ⟨_, b, a⟩ (each_zip t t' (by simpa using e))
  | _ :: _, _, _, [], .cons _ _, _, e => by simp at e
theorem each_back {K : PySem.W.Frag} : ∀ {us : List Value} {qs : List (D × PyData)}, PySem.W.EachIs (RelP K μ H) us qs → ∃ xs : List V, Vals xs us ∧ RlA K μ H (qs.map (·.1)) xs
  | _, _, .nil => ⟨[], .nil, .nil⟩
  | _, _, .cons ⟨x, r, q⟩ t => by
    obtain ⟨xs, h1, h2⟩ := each_back t
    exact ⟨x :: xs, .cons r h1, .cons q h2⟩
theorem mapO_len {α β : Type} {f : α → Option β} : ∀ {l : List α} {ps : List β}, mapO f l = some ps → ps.length = l.length
  | [], _, h => by cases h; rfl
  | x :: l, _, h => by
    unfold mapO at h
    cases e : f x with
    | none => rw [e] at h; cases h
    | some y =>
      rw [e] at h
      cases e2 : mapO f l with
      | none => rw [e2] at h; cases h
      | some ys => rw [e2] at h; cases h; simp [mapO_len e2]
theorem zip_snd {α β : Type} : ∀ {l : List α} {ps : List β}, ps.length = l.length → (l.zip ps).map (·.2) = ps
  | [], [], _ => rfl
  | _ :: l, p :: ps, h => by
    rw [List.zip_cons_cons, List.map_cons, zip_snd (by simpa using h)]
  | [], _ :: _, h => by simp at h
  | _ :: _, [], h => by simp at h
theorem alikeB_is {ps : List PyData} (h : alikeB ps = true) : PySem.W.AllAlike ps := fun p hp q hq => List.all_eq_true.mp (List.all_eq_true.mp h p hp) q hq
theorem sortableB_is {ps : List PyData} (h : sortableB ps = true) : PySem.W.Sortable ps := by
  unfold sortableB at h
  rw [Bool.or_eq_true] at h
  rcases h with h | h
  · refine .inl fun d hd => ?_
    have := List.all_eq_true.mp h d hd
    unfold tupleB at this
    split at this
    · exact ⟨_, _, rfl⟩
    · cases this
  · refine .inr fun d hd => ?_
    have := List.all_eq_true.mp h d hd
    unfold simpleB at this
    split at this
    · cases this
    · cases this
    · rename_i n1 n2
      exact ⟨n1, n2⟩
mutual
theorem from_to : ∀ (n : Nat) (d : D) (p : PyData) (e : D), toPy S n d = some p → fromPy p = some e → d = e
  | 0, _, _, _, h, _ => by cases h
  | n + 1, d, p, e, h, q => by
    unfold toPy at h
    cases d with
    | non => cases h; cases q; rfl
    | bl b => cases h; cases q; rfl
    | int i => cases h; cases q; rfl
    | str s => cases h; cases q; rfl
    | fn x => cases h
    | tpf x => cases h
    | ref k =>
      dsimp only at h
      cases e1 : S.get k with
      | none => rw [e1] at h; cases h
      | some l =>
        rw [e1] at h
        dsimp only at h
        cases e2 : mapO (toPy S n) l with
        | none => rw [e2] at h; cases h
        | some ps => rw [e2] at h; cases h; cases q
    | tup l =>
      dsimp only at h
      cases e2 : mapO (toPy S n) l with
      | none => rw [e2] at h; cases h
      | some ps =>
        rw [e2] at h
        cases h
        unfold fromPy at q
        cases e3 : fromPys ps with
        | none => rw [e3] at q; cases q
        | some ds =>
          rw [e3] at q
          cases q
          rw [from_tos n l ps ds e2 e3]
theorem from_tos : ∀ (n : Nat) (ds : List D) (ps : List PyData) (es : List D), mapO (toPy S n) ds = some ps → fromPys ps = some es → ds = es
  | n, [], _, _, h, q => by cases h; cases q; rfl
  | n, d :: ds, ps, es, h, q => by
    unfold mapO at h
    cases e1 : toPy S n d with
    | none => rw [e1] at h; cases h
    | some p =>
      rw [e1] at h
      cases e2 : mapO (toPy S n) ds with
      | none => rw [e2] at h; cases h
      | some ps' =>
        rw [e2] at h
        cases h
        unfold fromPys at q
        cases e3 : fromPy p with
        | none => rw [e3] at q; cases q
        | some d' =>
          rw [e3] at q
          dsimp only at q
          cases e4 : fromPys ps' with
          | none => rw [e4] at q; cases q
          | some es' =>
            rw [e4] at q
            cases q
            rw [from_to n d p d' e1 e3, from_tos n ds ps' es' e2 e4]
end
theorem mapO_get {α β : Type} {f : α → Option β} : ∀ {l : List α} {ps : List β} {i : Nat} {p : β}, mapO f l = some ps → ps[i]? = some p → ∃ x, l[i]? = some x ∧ f x = some p
  | [], _, i, p, h, q => by cases h; simp at q
  | x :: l, _, i, p, h, q => by
    unfold mapO at h
    cases e : f x with
    | none => rw [e] at h; cases h
    | some y =>
      rw [e] at h
      cases e2 : mapO f l with
      | none => rw [e2] at h; cases h
      | some ys =>
        rw [e2] at h
        cases h
        cases i with
        | zero => simp at q; subst q; exact ⟨x, rfl, e⟩
        | succ i => exact (mapO_get e2 (by simpa using q)).imp fun _ z => by simpa using z
end
end EV
set_option Elab.async false
set_option linter.all false
set_option maxRecDepth 100000
set_option maxHeartbeats 4000000
/-! the dicts of the store -/
namespace EV
open PySem PySem.Spec PyProof.Rows L2
section
variable {K : PySem.W.Frag} {w : World} {μ : List Addr} {H : Hp} {S : Sto}
inductive RlOpt (K : PySem.W.Frag) (μ : List Addr) (H : Hp) : Option D → Option V → Prop
  | none : RlOpt K μ H none none
  | some {d : D} {v : V} : Rl K μ H d v → RlOpt K μ H (some d) (some v)
mutual
theorem rl_nk : ∀ {d : D} {v : V} {k : NestedKey}, Rl K μ H d v → keyD d = some k → NKv K H v k
  | _, _, _, .non, e => by unfold keyD at e; cases e; exact .non
  | _, _, _, .bl b, e => by unfold keyD at e; cases e; exact .bl b
  | _, _, _, .int i, e => by unfold keyD at e; cases e; exact .int i
  | _, _, _, .str s, e => by unfold keyD at e; cases e; exact .str s
  | _, _, _, .ref h, e => by unfold keyD at e; cases e
  | _, _, _, .fn h, e => by unfold keyD at e; cases e
  | _, _, _, .tpf h r, e => by unfold keyD at e; cases e
  | .tup l, _, _, .tup h r, e => by
    unfold keyD at e
    obtain ⟨ks, e1, rfl⟩ := Option.map_eq_some_iff.mp e
    exact .tup h.sqT (rl_nks r e1)
theorem rl_nks : ∀ {ds : List D} {vs : List V} {ks : List NestedKey}, RlA K μ H ds vs → keyDs ds = some ks → NKs K H vs ks
  | _, _, _, .nil, e => by unfold keyDs at e; cases e; exact .nil
  | d :: ds, _, _, .cons a t, e => by
    unfold keyDs at e
    cases e1 : keyD d with
    | none => rw [e1] at e; cases e
    | some k =>
      cases e2 : keyDs ds with
      | none => rw [e1, e2] at e; cases e
      | some ks =>
        rw [e1, e2] at e
        cases e
        exact .cons (rl_nk a e1) (rl_nks t e2)
end
theorem keys_ok : ∀ {kvs : List (D × D)} {es : Es}, RlN K μ H kvs es → KeysOk K H es
  | _, _, .nil => fun e he => by cases he
  | _, _, .cons h a b t => fun e he => by
    rcases List.mem_cons.mp he with rfl | he
    · exact ⟨rl_nk a h.1, h.2⟩
    · exact keys_ok t e he
/-! ### by numbers -/
def kvI (ks : List Int) (vs : List V) : List (Key × V) := (ks.zip vs).map fun p => (Sum.inl p.1, p.2)
theorem look_I (i : Int) : ∀ {ks : List Int} {ds : List D} {vs : List V}, ks.length = ds.length → RlA K μ H ds vs → RlOpt K μ H (lookI ks ds i) (valV (kvI ks vs) (.inl i))
  | [], [], _, _, .nil => .none
  | k :: ks, d :: ds, _, h, .cons (v := v) (vs := vs) a t => by
    have ih := look_I i (ks := ks) (ds := ds) (by simpa using h) t
    unfold lookI
    by_cases q : k = i
    · subst q
      simp only [decide_true, cond_true]
      have e1 : valV (kvI (k :: ks) (v :: vs)) (.inl k) = some v := by simp [valV, kvI]
      rw [e1]
      exact .some a
    · have e1 : valV (kvI (k :: ks) (v :: vs)) (.inl i) = valV (kvI ks vs) (.inl i) := by simp [valV, kvI, q]
      simp only [q, decide_false, cond_false]
      rw [e1]
      exact ih
  | [], _ :: _, _, h, _ => by cases h
  | _ :: _, [], _, h, _ => by cases h
theorem any_I (i : Int) : ∀ {ks : List Int} {ds : List D} {vs : List V}, ks.length = ds.length → RlA K μ H ds vs → ((kvI ks vs).any fun kv => decide (kv.1 = .inl i)) = (lookI ks ds i).isSome
  | [], [], _, _, .nil => rfl
  | k :: ks, d :: ds, _, h, .cons (v := v) (vs := vs) a t => by
    have ih := any_I i (ks := ks) (ds := ds) (by simpa using h) t
    unfold lookI
    by_cases q : k = i
    · subst q
      simp [kvI]
    · simp only [q, decide_false, cond_false]
      rw [← ih]
      simp [kvI, q]
  | [], _ :: _, _, h, _ => by cases h
  | _ :: _, [], _, h, _ => by cases h
theorem put_I (i : Int) {e : D} {z : V} (re : Rl K μ H e z) : ∀ {ks : List Int} {ds : List D} {vs : List V}, ks.length = ds.length → RlA K μ H ds vs →
    ∃ vs', RlA K μ H (putI ks ds i e) vs' ∧ (kvI ks vs).map (fun kv => if kv.1 = .inl i then (kv.1, z) else kv) = kvI ks vs' ∧ ks.length = (putI ks ds i e).length
  | [], [], _, _, .nil => ⟨[], .nil, rfl, rfl⟩
  | k :: ks, d :: ds, _, h, .cons (v := v) (vs := vs) a t => by
    obtain ⟨vs', h1, h2, h3⟩ := put_I i re (ks := ks) (ds := ds) (by simpa using h) t
    unfold putI
    by_cases q : k = i
    · subst q
      refine ⟨z :: vs', ?_, ?_, by simp [h3]⟩
      · simpa using RlA.cons re h1
      · have : kvI (k :: ks) (v :: vs) = (Sum.inl k, v) :: kvI ks vs := rfl
        rw [this, List.map_cons, h2]
        simp [kvI]
    · refine ⟨v :: vs', ?_, ?_, by simp [h3]⟩
      · simpa [q] using RlA.cons a h1
      · have : kvI (k :: ks) (v :: vs) = (Sum.inl k, v) :: kvI ks vs := rfl
        rw [this, List.map_cons, h2]
        simp [kvI, q]
  | [], _ :: _, _, h, _ => by cases h
  | _ :: _, [], _, h, _ => by cases h
theorem kvI_len {ks : List Int} {ds : List D} {vs : List V} (h : ks.length = ds.length) (r : RlA K μ H ds vs) : (kvI ks vs).length = ks.length := by
  unfold kvI
  rw [List.length_map, List.length_zip, ← r.length, ← h, Nat.min_self]
theorem kvI_keys : ∀ {ks : List Int} {ds : List D} {vs : List V}, ks.length = ds.length → RlA K μ H ds vs → (kvI ks vs).map (·.1) = ks.map Sum.inl
  | [], [], _, _, .nil => rfl
  | k :: ks, d :: ds, _, h, .cons (v := v) (vs := vs) a t => congrArg (Sum.inl k :: ·) (kvI_keys (ks := ks) (by simpa using h) t)
  | [], _ :: _, _, h, _ => by cases h
  | _ :: _, [], _, h, _ => by cases h
theorem kvI_vals : ∀ {ks : List Int} {ds : List D} {vs : List V}, ks.length = ds.length → RlA K μ H ds vs → (kvI ks vs).map (·.2) = vs
  | [], [], _, _, .nil => rfl
  | k :: ks, d :: ds, _, h, .cons (v := v) (vs := vs) a t => congrArg (v :: ·) (kvI_vals (ks := ks) (by simpa using h) t)
  | [], _ :: _, _, h, _ => by cases h
  | _ :: _, [], _, h, _ => by cases h
theorem store_I (i : Int) {e : D} {z : V} (re : Rl K μ H e z) {ks : List Int} {ds : List D} {vs : List V} {a : Addr} (h : ks.length = ds.length) (r : RlA K μ H ds vs) : ObR K w μ H a (storeI ks ds i e) (.dK (putK (kvI ks vs) (.inl i) z)) := by
  unfold storeI putK
  have an := any_I i h r
  cases c : (lookI ks ds i).isSome with
  | true =>
    rw [c] at an
    rw [if_pos an]
    obtain ⟨vs', h1, h2, h3⟩ := put_I i re h r
    rw [h2]
    exact .dki h3 h1
  | false =>
    rw [c] at an
    rw [if_neg (by rw [an]; decide)]
    have : kvI ks vs ++ [(Sum.inl i, z)] = kvI (ks ++ [i]) (vs ++ [z]) := by
      unfold kvI
      rw [List.zip_append (by rw [← r.length, h]), List.map_append]
      rfl
    rw [this]
    exact .dki (by simp [h]) (r.append (.cons re .nil))
theorem drop_I (i : Int) : ∀ {ks : List Int} {ds : List D} {vs : List V}, ks.length = ds.length → RlA K μ H ds vs → ∃ vs', RlA K μ H (dropI ks ds i).2 vs' ∧ dropK (kvI ks vs) (.inl i) = kvI (dropI ks ds i).1 vs' ∧ (dropI ks ds i).1.length = (dropI ks ds i).2.length
  | [], [], _, _, .nil => ⟨[], .nil, rfl, rfl⟩
  | k :: ks, d :: ds, _, h, .cons (v := v) (vs := vs) a t => by
    obtain ⟨vs', h1, h2, h3⟩ := drop_I i (ks := ks) (ds := ds) (by simpa using h) t
    have e0 : dropK (kvI (k :: ks) (v :: vs)) (.inl i) = (if k = i then dropK (kvI ks vs) (.inl i) else (Sum.inl k, v) :: dropK (kvI ks vs) (.inl i)) := by
      by_cases q : k = i <;> simp [dropK, kvI, q]
    unfold dropI
    by_cases q : k = i
    · subst q
      simp only [decide_true, cond_true]
      exact ⟨vs', h1, by rw [e0, if_pos rfl, h2], h3⟩
    · simp only [q, decide_false, cond_false]
      refine ⟨v :: vs', .cons a h1, ?_, by simp [h3]⟩
      rw [e0, if_neg q, h2]
      rfl
  | [], _ :: _, _, h, _ => by cases h
  | _ :: _, [], _, h, _ => by cases h
/-! ### by tuples -/
theorem look_N (k : NestedKey) : ∀ {kvs : List (D × D)} {es : Es}, RlN K μ H kvs es → RlOpt K μ H (lookN kvs k) (valN es k)
  | _, _, .nil => .none
  | _, _, .cons (nk := nk) (b := bb) (v := v) (es := es) h a b t => by
    have ih := look_N k t
    unfold lookN
    rw [h.1]
    by_cases q : nk = k
    · subst q
      simp only [decide_true, cond_true]
      have e1 : valN ((nk, bb, v) :: es) nk = some v := by simp [valN]
      rw [e1]
      exact .some b
    · simp only [q, decide_false, cond_false]
      have e1 : valN ((nk, bb, v) :: es) k = valN es k := by simp [valN, q]
      rw [e1]
      exact ih
theorem any_N (k : NestedKey) : ∀ {kvs : List (D × D)} {es : Es}, RlN K μ H kvs es → (es.any fun e => decide (e.1 = k)) = (lookN kvs k).isSome
  | _, _, .nil => rfl
  | _, _, .cons (nk := nk) (v := v) (es := es) h a b t => by
    have ih := any_N k t
    unfold lookN
    rw [h.1]
    by_cases q : nk = k
    · subst q
      simp
    · simp only [q, decide_false, cond_false]
      rw [← ih]
      simp [q]
theorem put_N (k : NestedKey) {e : D} {z : V} (re : Rl K μ H e z) : ∀ {kvs : List (D × D)} {es : Es}, RlN K μ H kvs es → RlN K μ H (putN' kvs k e) (es.map fun f => if f.1 = k then (f.1, f.2.1, z) else f)
  | _, _, .nil => .nil
  | _, _, .cons (nk := nk) (v := v) (es := es) h a b t => by
    have ih := put_N k re t
    unfold putN'
    rw [h.1]
    by_cases q : nk = k
    · subst q
      simpa using RlN.cons h a re ih
    · simpa [q] using RlN.cons h a b ih
theorem RlN.append : ∀ {kvs : List (D × D)} {es : Es} {kvs2 : List (D × D)} {es2 : Es}, RlN K μ H kvs es → RlN K μ H kvs2 es2 → RlN K μ H (kvs ++ kvs2) (es ++ es2)
  | _, _, _, _, .nil, s => s
  | _, _, _, _, .cons h a b t, s => .cons h a b (RlN.append t s)
theorem RlN.length : ∀ {kvs : List (D × D)} {es : Es}, RlN K μ H kvs es → kvs.length = es.length
  | _, _, .nil => rfl
  | _, _, .cons _ _ _ t => congrArg (· + 1) t.length
theorem store_N {k : NestedKey} {kd e : D} {b : Addr} {z : V} {a : Addr} (hk : keyD kd = some k ∧ k.depth ≤ 8) (rk : Rl K μ H kd (.ref b)) (re : Rl K μ H e z) {kvs : List (D × D)} {es : Es} (r : RlN K μ H kvs es) : ObR K w μ H a (storeN kvs kd k e) (dnO w a (putN es k b z)) := by
  unfold storeN putN
  have an := any_N k r
  cases c : (lookN kvs k).isSome with
  | true =>
    rw [c] at an
    rw [if_pos an]
    exact .dkn (put_N k re r)
  | false =>
    rw [c] at an
    rw [if_neg (by rw [an]; decide)]
    exact .dkn (r.append (.cons hk rk re .nil))
theorem tup_key {d : D} {k : NestedKey} {v : V} (h : tupKey d = some k) (r : Rl K μ H d v) : (keyD d = some k ∧ k.depth ≤ 8) ∧ ∃ b, v = .ref b ∧ NKv K H (.ref b) k := by
  unfold tupKey at h
  split at h
  · split at h
    · rename_i j ej
      cases c : decide (j.depth ≤ 8) with
      | false => rw [c] at h; cases h
      | true =>
        rw [c] at h
        cases h
        have dp := of_decide_eq_true c
        have n := rl_nk r ej
        cases r with
        | tup h1 h2 => exact ⟨⟨ej, dp⟩, _, rfl, n⟩
    · cases h
  · cases h
/-- what is found -/
theorem dlook_ok (g : Good K w μ S H) {n : Nat} {a : Addr} (p : μ[n]? = some a) {o : Ob} (eo : S.obj n = some o) {y : D} {u : V} {r : Option D} (e : dlook o y = some r) (ry : Rl K μ H y u) :
    ∃ ov, DGetA K w H a u ov ∧ RlOpt K μ H r ov := by
  obtain ⟨o', ho, h1, h2, h3⟩ := g.at_ n a p
  rw [eo] at h1
  cases h1
  unfold dlook at e
  split at e
  · rename_i ks ds i
    cases e
    cases ry
    cases h3 with
    | dki hl rr =>
      rename_i vs
      have q := look_I (K := K) (μ := μ) (H := H) i hl rr
      refine ⟨valV (kvI ks vs) (.inl i), .inl (.inl ⟨_, .inl i, .inl h2, rfl, rfl⟩), ?_⟩
      exact q
  · rename_i kvs y' hne
    cases h3 with
    | dkn rn =>
      rename_i es
      split at e
      · rename_i k ek
        cases e
        obtain ⟨⟨k1, k2⟩, b, rfl, n⟩ := tup_key ek ry
        refine ⟨valN es k, .inr ⟨es, k, b, h2, keys_ok rn, rfl, n, k2, rfl⟩, ?_⟩
        exact look_N k rn
      · cases e
  · cases e
theorem dlookG_ok (g : Good K w μ S H) {n : Nat} {a : Addr} (p : μ[n]? = some a) {o : Ob} (eo : S.obj n = some o) {y : D} {u : V} {r : Option D} (e : dlookG o y = some r) (ry : Rl K μ H y u) :
    ∃ ov, DGetB K w H a u ov ∧ RlOpt K μ H r ov := by
  unfold dlookG at e
  split at e
  · cases e
    cases ry
    obtain ⟨o', ho, h1, h2, h3⟩ := g.at_ n a p
    rw [eo] at h1
    cases h1
    cases h3 with
    | dki hl rr => exact ⟨none, .inr ⟨_, h2, rfl, rfl⟩, .none⟩
  · obtain ⟨ov, h1, h2⟩ := dlook_ok g p eo e ry
    exact ⟨ov, .inl h1, h2⟩
theorem dstore_ok (g : Good K w μ S H) {n : Nat} {a : Addr} (p : μ[n]? = some a) {o o' : Ob} (eo : S.obj n = some o) {y e : D} {u z : V} (es : dstore o y e = some o') (ry : Rl K μ H y u) (re : Rl K μ H e z) :
    ∃ ho, DPutA K w H a u z (upd H a ho) ∧ ObR K w μ H a o' ho := by
  obtain ⟨o1, ho, h1, h2, h3⟩ := g.at_ n a p
  rw [eo] at h1
  cases h1
  unfold dstore at es
  split at es
  · rename_i ks ds i
    cases ry
    cases c : smallB (ks.length + 1) with
    | false => rw [c] at es; cases es
    | true =>
      rw [c] at es
      cases es
      cases h3 with
      | dki hl rr =>
        rename_i vs
        refine ⟨_, .inl (.inl ⟨_, .inl i, h2, rfl, ?_, rfl⟩), store_I i re hl rr⟩
        have := kvI_len (K := K) (μ := μ) (H := H) hl rr
        unfold kvI at this
        rw [this]
        exact small_lt c
  · rename_i kvs
    cases h3 with
    | dkn rn =>
      rename_i es'
      split at es
      · rename_i k ek
        cases c : smallB (kvs.length + 1) with
        | false => rw [c] at es; cases es
        | true =>
          rw [c] at es
          cases es
          obtain ⟨hk, b, rfl, n⟩ := tup_key ek ry
          refine ⟨_, .inr ⟨es', k, b, h2, keys_ok rn, rfl, n, hk.2, ?_, rfl⟩, store_N hk ry re rn⟩
          rw [← rn.length]
          exact small_lt c
      · cases es
  · cases es
theorem dty_of {X : Cx} (g : Good X.K X.w μ S H) {n : Nat} {a : Addr} (p : μ[n]? = some a) (h : isDict (S.obj n) = true) : DTy X H a := by
  obtain ⟨o, ho, h1, h2, h3⟩ := g.at_ n a p
  rw [h1] at h
  cases h3 with
  | lst _ => cases h
  | dki _ _ => exact .inl (.inl ⟨_, .inl h2⟩)
  | dkn r => exact .inr ⟨_, h2, keys_ok r⟩
end
end EV
set_option Elab.async false
set_option linter.all false
set_option maxRecDepth 100000
set_option maxHeartbeats 4000000
/-! sets of tuples that may hold texts, None, tuples: nested keys -/
namespace EV
open PySem PySem.Spec PyProof.Rows L2
abbrev NL := List (Addr × NestedKey)
def n8 (h : Heap) (q : Addr × NestedKey) : Prop := NestedIs h q.2 (.ref q.1) ∧ q.2.depth ≤ 8
def nhash (w : World) (q : Addr × NestedKey) : Int := q.2.hash w
def nrow (w : World) (q : Addr × NestedKey) : Int × Value := (nhash w q, .ref q.1)
section
variable {P : Program} {w : World} {A : Around} {E : Value → Shared → Prop} {s : Shared}
theorem n8_stay {h h' : Heap} {q : Addr × NestedKey} (z : n8 h q) (up : ∀ b o vs n, h.get? b = some o → o.data = .seq vs n → h'.get? b = some o) : n8 h' q := ⟨NestedIs.at up _ _ z.1, z.2⟩
theorem n8_up {h h' : Heap} {q : Addr × NestedKey} (z : n8 h q) (up : ∀ b o, h.get? b = some o → h'.get? b = some o) : n8 h' q := n8_stay z fun b o _ _ e _ => up b o e
def CalmV (P : Program) (w : World) (m : Nat) (s : Shared) (v : Value) : Prop := ∀ (A : Around) (E : Value → Shared → Prop) (Q : Bool → Shared → Prop), Q false s → wpAny (model P w) A (ofAClassStatement m v) Q E s
def HashV (P : Program) (w : World) (m : Nat) (s : Shared) (v : Value) : Prop := ∀ (A : Around) (E : Value → Shared → Prop) (Q : Bool → Shared → Prop), (∀ b, Q b s) → wpAny (model P w) A (hashByValue m v) Q E s
theorem calm_tup {m z : Nat} {a : Addr} {o : Obj} {vs : Array Value} (e1 : s.heap.get? a = some o) (e2 : o.cls = .type "tuple") (e3 : o.data = .seq vs z) (all : ∀ v ∈ vs.toList, CalmV P w m s v) : CalmV P w (m + 1) s (.ref a) := fun A E Q q => by
  have ty : s.TypeIs (.ref a) "tuple" := ⟨o, e1, e2⟩
  unfold ofAClassStatement
  refine wpAny_bind (wpAny_typeOf ty ?_)
  dsimp only
  simp only [show (("tuple" : String) == "tuple") = true from by decide, if_true, Bool.not_true, Bool.false_eq_true, if_false]
  try refine wpAny_bind (wpAny_pure ?_)
  try simp only [Bool.not_true, Bool.false_eq_true, if_false]
  show wpAny (model P w) A (seqItems? (.ref a) >>= _) Q E s
  refine wpAny_bind (wpAny_seqItems e1 e3 ?_)
  dsimp only
  refine wpAny_bind ?_
  show wpAny (model P w) A (forIn vs _ _) _ E s
  rw [← Array.forIn_toList]
  refine wpAny_forIn_list _ (fun left r s1 => r.1 = none ∧ s1 = s ∧ ∀ v ∈ left, CalmV P w m s v) _ ?_ ?_ _ _ ⟨rfl, rfl, all⟩
  · rintro v left r s1 ⟨_, rfl, rem⟩
    refine wpAny_bind (rem v List.mem_cons_self A _ _ ?_)
    simp only [Bool.false_eq_true, if_false]
    exact wpAny_pure ⟨rfl, rfl, fun u hu => rem u (List.mem_cons_of_mem _ hu)⟩
  · rintro ⟨r1, r2⟩ s1 ⟨hr, rfl, _⟩
    simp only at hr
    subst hr
    exact wpAny_pure q
theorem hash_tup {m z : Nat} {a : Addr} {o : Obj} {vs : Array Value} (e1 : s.heap.get? a = some o) (e2 : o.cls = .type "tuple") (e3 : o.data = .seq vs z) (all : ∀ v ∈ vs.toList, HashV P w m s v) : HashV P w (m + 1) s (.ref a) := fun A E Q q => by
  have ty : s.TypeIs (.ref a) "tuple" := ⟨o, e1, e2⟩
  unfold hashByValue
  refine wpAny_bind (wpAny_specialOf ty F.slot_tuple_hash.lookup ?_)
  show wpAny (model P w) A (seqItems? (.ref a) >>= _) Q E s
  refine wpAny_bind (wpAny_seqItems e1 e3 ?_)
  refine wpAny_bind ?_
  show wpAny (model P w) A (forIn vs _ _) _ E s
  rw [← Array.forIn_toList]
  refine wpAny_forIn_list _ (fun left r s1 => (r.1 = none ∨ ∃ b, r.1 = some b) ∧ s1 = s ∧ ∀ v ∈ left, HashV P w m s v) _ ?_ ?_ _ _ ⟨.inl rfl, rfl, all⟩
  · rintro v left r s1 ⟨_, rfl, rem⟩
    refine wpAny_bind (rem v List.mem_cons_self A _ _ fun b => ?_)
    cases b with
    | true =>
      simp only [Bool.not_true, Bool.false_eq_true, if_false]
      exact wpAny_pure ⟨.inl rfl, rfl, fun u hu => rem u (List.mem_cons_of_mem _ hu)⟩
    | false =>
      simp only [Bool.not_false, if_true]
      exact wpAny_pure (wpAny_pure (q false))
  · rintro ⟨r1, r2⟩ s1 ⟨hr, rfl, _⟩
    simp only at hr
    rcases hr with rfl | ⟨b, rfl⟩
    · exact wpAny_pure (q _)
    · exact wpAny_pure (q _)
mutual
theorem calm_key : ∀ (k : NestedKey) (v : Value) (m : Nat) (s : Shared), NestedIs s.heap k v → k.depth ≤ m → CalmV P w m s v
  | .none, _, m, s, x, _ => by cases x; cases m <;> exact fun A E Q q => wpAny_pure q
  | .num i, _, m, s, x, _ => by cases x <;> cases m <;> exact fun A E Q q => wpAny_pure q
  | .text y, _, m, s, x, _ => by cases x; cases m <;> exact fun A E Q q => wpAny_pure q
  | .tup ks, _, m, s, x, dm => by
    cases x with
    | tup e1 e2 e3 e4 =>
      simp only [NestedKey.depth] at dm
      cases m with
      | zero => omega
      | succ m => exact calm_tup e1 e2 e3 (calm_keys ks _ m s e4 (by omega))
theorem calm_keys : ∀ (ks : List NestedKey) (vs : List Value) (m : Nat) (s : Shared), NestedAll s.heap ks vs → NestedKey.depthAll ks ≤ m → ∀ v ∈ vs, CalmV P w m s v
  | [], _, m, s, x, _, v, hv => by cases x; cases hv
  | k :: ks, _, m, s, x, dm, v, hv => by
    cases x with
    | cons x1 x2 =>
      simp only [NestedKey.depthAll] at dm
      rcases List.mem_cons.mp hv with e | hv
      · rw [e]; exact calm_key k _ m s x1 (by omega)
      · exact calm_keys ks _ m s x2 (by omega) v hv
end
mutual
theorem hash_key : ∀ (k : NestedKey) (v : Value) (m : Nat) (s : Shared), NestedIs s.heap k v → k.depth ≤ m → HashV P w m s v
  | .none, _, m, s, x, _ => by cases x; cases m <;> exact fun A E Q q => wpAny_pure (q _)
  | .num i, _, m, s, x, _ => by cases x <;> cases m <;> exact fun A E Q q => wpAny_pure (q _)
  | .text y, _, m, s, x, _ => by cases x; cases m <;> exact fun A E Q q => wpAny_pure (q _)
  | .tup ks, _, m, s, x, dm => by
    cases x with
    | tup e1 e2 e3 e4 =>
      simp only [NestedKey.depth] at dm
      cases m with
      | zero => omega
      | succ m => exact hash_tup e1 e2 e3 (hash_keys ks _ m s e4 (by omega))
theorem hash_keys : ∀ (ks : List NestedKey) (vs : List Value) (m : Nat) (s : Shared), NestedAll s.heap ks vs → NestedKey.depthAll ks ≤ m → ∀ v ∈ vs, HashV P w m s v
  | [], _, m, s, x, _, v, hv => by cases x; cases hv
  | k :: ks, _, m, s, x, dm, v, hv => by
    cases x with
    | cons x1 x2 =>
      simp only [NestedKey.depthAll] at dm
      rcases List.mem_cons.mp hv with e | hv
      · rw [e]; exact hash_key k _ m s x1 (by omega)
      · exact hash_keys ks _ m s x2 (by omega) v hv
end
/-- no search among such tuples shows the table -/
theorem unseen {x : Addr × NestedKey} (hx : n8 s.heap x) {ys : List Value} (hy : ∀ y ∈ ys, ∃ q, y = Value.ref q.1 ∧ n8 s.heap q) {Q : Bool → Shared → Prop} (h : Q false s) : wpAny (model P w) A (searchCouldBeSeen (.ref x.1) ys) Q E s := by
  unfold searchCouldBeSeen
  refine wpAny_bind ?_
  refine wpAny_forIn_list _ (fun left r s1 => r.1 = none ∧ s1 = s ∧ ∀ y ∈ left, ∃ q, y = Value.ref q.1 ∧ n8 s.heap q) _ ?_ ?_ _ _ ⟨rfl, rfl, hy⟩
  · rintro v left r s1 ⟨_, rfl, rem⟩
    obtain ⟨q, rfl, hq⟩ := rem v List.mem_cons_self
    have rem' := fun u hu => rem u (List.mem_cons_of_mem _ hu)
    dsimp only
    by_cases same : (x.1 == q.1 || (carriedByValue (.ref x.1) && carriedByValue (.ref q.1))) = true
    · exact wp_if_pos same (wpAny_pure ⟨rfl, rfl, rem'⟩)
    · refine wp_if_neg same ?_
      refine wpAny_bind (quiet_key x.2 _ 8 s1 hx.1 hx.2 A _ _ ?_)
      simp only [Bool.not_true, Bool.false_eq_true, if_false]
      refine wpAny_bind (quiet_key q.2 _ 8 s1 hq.1 hq.2 A _ _ ?_)
      simp only [Bool.not_true, Bool.false_eq_true, if_false]
      refine wpAny_bind (calm_key x.2 _ 8 s1 hx.1 hx.2 A _ _ ?_)
      simp only [Bool.false_eq_true, if_false]
      refine wpAny_bind (calm_key q.2 _ 8 s1 hq.1 hq.2 A _ _ ?_)
      simp only [Bool.false_eq_true, if_false]
      exact wpAny_pure ⟨rfl, rfl, rem'⟩
  · rintro ⟨r1, r2⟩ s1 ⟨hr, rfl, _⟩
    simp only at hr
    subst hr
    exact wpAny_pure h
/-- the set at a: its members in the table's order -/
structure NSt (w : World) (h : Heap) (a : Addr) (L : NL) (es : Array (Int × Value)) (ep : Nat) (t : SetTable) : Prop where
  ob : ∃ o, h.get? a = some o ∧ o.ExactSet ∧ o.data = .set es ep t
  rws : es.toList = L.map (nrow w)
  tab : TabOk t (L.map (nhash w))
  nd : (L.map (·.2)).Nodup
  keys : ∀ q ∈ L, n8 h q
  led : w.params.followText "set-order" = true ∨ t.led = true
  room : L.length * 5 < t.mask * 3
  few : L.length < 64
variable {a : Addr} {L : NL} {es : Array (Int × Value)} {ep : Nat} {t : SetTable}
theorem rows_len {w : World} {L : NL} {es : Array (Int × Value)} (e : es.toList = L.map (nrow w)) : es.size = L.length := by
  have z := congrArg List.length e
  rwa [Array.length_toList, List.length_map] at z
theorem NSt.len (R : NSt w s.heap a L es ep t) : es.size = L.length := rows_len R.rws
theorem NSt.fits (R : NSt w s.heap a L es ep t) : t.fits es.size = true := by
  have z1 := R.tab.sz
  rw [List.length_map] at z1
  have z2 := R.len
  have z3 := R.room
  unfold SetTable.fits SetTable.fill
  rw [R.tab.dm, Bool.and_eq_true, beq_iff_eq, decide_eq_true_eq]
  exact ⟨by omega, by show t.place.size + 0 ≤ t.mask; omega⟩
theorem row_at {w : World} {L : NL} {es : Array (Int × Value)} (e : es.toList = L.map (nrow w)) {i : Nat} {q : Addr × NestedKey} (h : L[i]? = some q) : es[i]? = some (nrow w q) := by
  rw [← Array.getElem?_toList, e, List.getElem?_map, h]
  rfl
theorem NSt.odd (R : NSt w s.heap a L es ep t) : ¬ t.gaveWay = true := by
  unfold SetTable.gaveWay
  rw [mask_odd R.tab.mok]
  decide
theorem same_mem (t : SetTable) : t.sameMemory t.moves t.mask = some true := by
  unfold SetTable.sameMemory
  exact if_pos (beq_self_eq_true _)
theorem probe_dry (m : Nat) : ∀ (n : Nat) (p : SetTable.Probe), p.dummy = none → (nth m p n).dummy = none
  | 0, _, h => h
  | n + 1, p, h => by
    refine probe_dry m n (adv m p) ?_
    unfold adv
    split <;> exact h
abbrev pst (t : SetTable) (w : World) (x : Addr × NestedKey) : SetTable.Probe := runAt t.mask (SetTable.bits (nhash w x) % (t.mask + 1)) (SetTable.bits (nhash w x))
/-- a search that adds, from step c of its way on -/
theorem seek (R : NSt w s.heap a L es ep t) {x : Addr × NestedKey} (hx : n8 s.heap x) (hu : A.units + 8 < cLine) {z : Nat} (zf : z < 10 * SetTable.turns t.mask)
    (ze : way t.mask (nhash w x) z ∉ t.place.toList) (zb : ∀ c, c < z → way t.mask (nhash w x) c ∈ t.place.toList) {Q : SetFound → Shared → Prop}
    (old : x.2 ∈ L.map (·.2) → Q (.there none) s) (fresh : x.2 ∉ L.map (·.2) → Q (.free (way t.mask (nhash w x) z) false) s) :
    ∀ (m c : Nat) (from_ : Option SetTable.Probe), from_.getD (t.probeStart (nhash w x)) = nth t.mask (pst t w x) c → c ≤ z → z - c < m →
      (∀ (i : Nat) q, L[i]? = some q → q.2 = x.2 → ∃ c', c ≤ c' ∧ c' < z ∧ t.place.toList[i]? = some (way t.mask (nhash w x) c')) →
      wpAny (model P w) A (setSearchFrom a (.ref x.1) (nhash w x) true m from_) Q E s
  | 0, _, _, _, _, lt, _ => absurd lt (Nat.not_lt_zero _)
  | m + 1, c, from_, st, cz, lt, mine => by
    obtain ⟨o, e1, e2, e3⟩ := R.ob
    have fit := R.fits
    rw [setSearchFrom_succ]
    refine wpAny_bind (wpAny_setState_of e1 e3 fit ?_)
    dsimp only
    refine wp_if_neg R.odd ?_
    try refine wpAny_bind (wpAny_pure ?_)
    have on : ∀ q, nth t.mask (nth t.mask (pst t w x) c) q = nth t.mask (pst t w x) (c + q) := fun q => (nth_add t.mask c _ q).symm
    have onj : ∀ q, (nth t.mask (nth t.mask (pst t w x) c) q).j = way t.mask (nhash w x) (c + q) := fun q => congrArg SetTable.Probe.j (on q)
    have ha : ∀ (i : Nat) q, L[i]? = some q → (es[i]?.map (·.1)).getD 0 = nhash w q := fun i q hq => by rw [row_at R.rws hq]; rfl
    have cz2 : c + (z - c) = z := by omega
    rcases go_spec t R.tab.ris R.tab.dm (fun i => (es[i]?.map (·.1)).getD 0) (nhash w x) (10 * SetTable.turns t.mask) (z - c) _ (probe_dry t.mask c _ rfl) (by omega)
        (fun q hq => by rw [onj]; exact zb (c + q) (by omega)) (by rw [onj, cz2]; exact ze) with ⟨d, i, hd, pi, _, none_, pr⟩ | ⟨none_, pr⟩
    · have pr2 : t.probe (fun i => (es[i]?.map (·.1)).getD 0) (nhash w x) (from_.getD (t.probeStart (nhash w x))) = some (.candidate (way t.mask (nhash w x) (c + d)) i (nth t.mask (pst t w x) (c + (d + 1)))) := by
        rw [st, ← onj, ← on]
        exact pr
      rw [pr2]
      dsimp only
      rw [onj] at pi
      have il : i < L.length := by
        have q1 := (List.getElem?_eq_some_iff.mp pi).1
        have q2 := R.tab.sz
        rw [List.length_map] at q2
        rw [Array.length_toList] at q1
        omega
      obtain ⟨q, eq⟩ : ∃ q, L[i]? = some q := ⟨_, List.getElem?_eq_getElem il⟩
      have qL : q ∈ L := List.mem_of_getElem? eq
      have qn := R.keys q qL
      have on_ : wpAny (model P w) A (searchRest a (.ref x.1) (nhash w x) true m es t (way t.mask (nhash w x) (c + d)) i (nth t.mask (pst t w x) (c + (d + 1)))) Q E s := by
        unfold searchRest
        rw [row_at R.rws eq]
        dsimp only [nrow]
        refine wpAny_bind (wpAny_holding ((nestedKind P w).eqBool hu qn hx ?_))
        refine wpAny_bind (wpAny_setState_of e1 e3 fit ?_)
        dsimp only
        by_cases kk : q.2 = x.2
        · exact wp_if_pos (by simp [kk]) (wpAny_pure (old (List.mem_map.mpr ⟨q, qL, kk⟩)))
        · refine wp_if_neg (by simp [kk]) ?_
          try refine wpAny_bind (wpAny_pure ?_)
          rw [same_mem]
          dsimp only
          have sl : t.slot (way t.mask (nhash w x) (c + d)) = .live i := slot_live R.tab.ris pi
          simp only [if_true, sl, row_at R.rws eq, nrow]
          refine wpAny_bind (wpAny_isSame_ref_self (wpAny_bind (wpAny_pure ?_)))
          simp only [if_true]
          refine wp_if_neg (by simp [kk]) ?_
          refine seek R hx hu zf ze zb old fresh m (c + (d + 1)) _ rfl (by omega) (by omega) fun i2 q2 f1 f2 => ?_
          obtain ⟨c', a1, a2, a3⟩ := mine i2 q2 f1 f2
          refine ⟨c', ?_, a2, a3⟩
          have eh : nhash w q2 = nhash w x := congrArg (NestedKey.hash w) f2
          rcases Nat.lt_trichotomy c' (c + d) with y | y | y
          · refine absurd ((ha i2 q2 f1).trans eh) (none_ (c' - c) i2 (by omega) ?_)
            rw [onj, show c + (c' - c) = c' by omega]
            exact a3
          · rw [y] at a3
            have s0 := slot_live R.tab.ris a3
            rw [sl] at s0
            injection s0 with s0
            rw [← s0, eq] at f1
            exact absurd ((congrArg Prod.snd (Option.some.inj f1)).trans f2) kk
          · omega
      by_cases led : t.led = true
      · refine wp_if_neg (by simp [led]) ?_
        try refine wpAny_bind (wpAny_pure ?_)
        exact on_
      · refine wp_if_pos (by simp [led]) ?_
        refine wpAny_bind (unseen hx (fun y hy => ?_) ?_)
        · obtain ⟨e, he, rfl⟩ := List.mem_map.mp hy
          have he2 : e ∈ es.toList := by
            have : e ∈ es ∧ e.1 = nhash w x := by simpa using he
            simpa using this.1
          rw [R.rws] at he2
          obtain ⟨q2, m2, rfl⟩ := List.mem_map.mp he2
          exact ⟨q2, rfl, R.keys q2 m2⟩
        · refine wp_if_neg (by decide) ?_
          try refine wpAny_bind (wpAny_pure ?_)
          exact on_
    · have pr2 : t.probe (fun i => (es[i]?.map (·.1)).getD 0) (nhash w x) (from_.getD (t.probeStart (nhash w x))) = some (.empty (way t.mask (nhash w x) z) none) := by
        have q := onj (z - c)
        rw [cz2] at q
        rw [st, ← q]
        exact pr
      rw [pr2]
      dsimp only
      refine wpAny_pure (fresh fun mem => ?_)
      obtain ⟨q0, m0, k0⟩ := List.mem_map.mp mem
      obtain ⟨i0, f0⟩ := List.getElem?_of_mem m0
      obtain ⟨c', a1, a2, a3⟩ := mine i0 q0 f0 k0
      refine absurd ((ha i0 q0 f0).trans (congrArg (NestedKey.hash w) k0)) (none_ (c' - c) i0 (by omega) ?_)
      rw [onj, show c + (c' - c) = c' by omega]
      exact a3
theorem seek_at (R : NSt w s.heap a L es ep t) {x : Addr × NestedKey} (hx : n8 s.heap x) (hu : A.units + 8 < cLine) {Q : SetFound → Shared → Prop} (old : x.2 ∈ L.map (·.2) → Q (.there none) s)
    (fresh : ∀ z, x.2 ∉ L.map (·.2) → way t.mask (nhash w x) z ∉ t.place.toList → (∀ c, c < z → way t.mask (nhash w x) c ∈ t.place.toList) → Q (.free (way t.mask (nhash w x) z) false) s) :
    wpAny (model P w) A (setSearch a (.ref x.1) (nhash w x) true) Q E s := by
  have rm := R.room
  obtain ⟨z, zf, ze, zb⟩ := R.tab.first (by rw [List.length_map]; omega) (nhash w x)
  have big : 10 * SetTable.turns t.mask ≤ 1420 := by
    unfold SetTable.turns
    rcases R.tab.mok with e | e | e <;> omega
  unfold setSearch
  refine seek R hx hu zf ze zb old (fun n => fresh z n ze zb) 100000 0 none rfl (Nat.zero_le _) (by omega) fun i q f k => ?_
  have hi : (L.map (nhash w))[i]? = some (nhash w x) := by
    rw [List.getElem?_map, f]
    exact congrArg some (congrArg (NestedKey.hash w) k)
  have il : i < t.place.toList.length := by
    have q1 := (List.getElem?_eq_some_iff.mp f).1
    have q2 := R.tab.sz
    rw [List.length_map] at q2
    rw [Array.length_toList]
    omega
  have pj := List.getElem?_eq_getElem il
  obtain ⟨c, cz, e⟩ := R.tab.before ze hi pj
  exact ⟨c, Nat.zero_le _, cz, by rw [pj, e]⟩
theorem n8_same {h h' : Heap} {q : Addr × NestedKey} {o : Obj} {es : Array (Int × Value)} {ep : Nat} {t : SetTable} (z : n8 h q) (e1 : h.get? a = some o) (e3 : o.data = .set es ep t) (sb : Heap.SameBut a h h') : n8 h' q :=
  n8_stay z fun b o2 vs n f1 f2 => (sb.2 b fun e => by
    subst e
    rw [e1] at f1
    cases f1
    rw [e3] at f2
    cases f2).trans f1
/-- the rows in another order -/
theorem rows_in {w : World} {L : NL} {es : Array (Int × Value)} {order : Array Nat} (e : es.toList = L.map (nrow w)) (pm : order.toList.Perm (List.range L.length)) :
    ∃ M : NL, (order.filterMap (es[·]?)).toList = M.map (nrow w) ∧ M.Perm L ∧ M.map (nhash w) = order.toList.map fun i => (es.map (·.1)).getD i 0 := by
  have all : ∀ l : List Nat, (∀ i ∈ l, i < L.length) → ∃ M : NL, l.filterMap (fun i => es[i]?) = M.map (nrow w) ∧ M = l.filterMap (fun i => L[i]?) ∧ M.map (nhash w) = l.map fun i => (es.map (·.1)).getD i 0 := by
    intro l
    induction l with
    | nil => exact fun _ => ⟨[], rfl, rfl, rfl⟩
    | cons i l ih =>
      intro hl
      obtain ⟨M, m1, m2, m3⟩ := ih fun j hj => hl j (List.mem_cons_of_mem _ hj)
      have fi := List.getElem?_eq_getElem (hl i List.mem_cons_self)
      have ei := row_at e fi
      refine ⟨L[i]'(hl i List.mem_cons_self) :: M, ?_, ?_, ?_⟩
      · rw [List.filterMap_cons_some ei, m1, List.map_cons]
      · rw [List.filterMap_cons_some fi, m2]
      · rw [List.map_cons, List.map_cons, m3]
        have q : (es.map (·.1))[i]? = some (nhash w (L[i]'(hl i List.mem_cons_self))) := by rw [Array.getElem?_map, ei]; rfl
        simp [Array.getD_eq_getD_getElem?, q]
  have whole : ∀ n, n ≤ L.length → (List.range n).filterMap (fun i => L[i]?) = L.take n := by
    intro n
    induction n with
    | zero => exact fun _ => rfl
    | succ n ih =>
      intro hn
      have f := List.getElem?_eq_getElem (l := L) (i := n) hn
      rw [List.range_succ, List.filterMap_append, ih (Nat.le_of_lt hn), List.take_succ, f, List.filterMap_cons_some f]
      rfl
  obtain ⟨M, m1, m2, m3⟩ := all order.toList fun i hi => List.mem_range.mp (pm.mem_iff.mp hi)
  refine ⟨M, by first | (rw [Array.toList_filterMap]; exact m1) | simpa using m1, ?_, m3⟩
  have p := pm.filterMap fun i => L[i]?
  rw [whole _ (Nat.le_refl _), List.take_length] at p
  rw [m2]
  exact p
theorem tab_same {t t' : SetTable} {hs : List Int} (T : TabOk t hs) (e1 : t'.place = t.place) (e2 : t'.dummies = t.dummies) (e3 : t'.mask = t.mask) : TabOk t' hs := by
  obtain ⟨a1, a2, a3, a4, a5, a6⟩ := T
  refine ⟨by rw [e1]; exact a1, by rw [e2]; exact a2, by rw [e1]; exact a3, by rw [e3]; exact a4, by rw [e1, e3]; exact a5, by rw [e1, e3]; exact a6⟩
/-- the table grows -/
theorem relay_n {o : Obj} (e1 : s.heap.get? a = some o) (e2 : o.ExactSet) (e3 : o.data = .set es ep t) (er : es.toList = L.map (nrow w)) (sz : t.place.size = es.size) (dm : t.dummies = #[]) (fl : es.size ≤ t.mask)
    (nd : (L.map (·.2)).Nodup) (ks : ∀ q ∈ L, n8 s.heap q) (ld : w.params.followText "set-order" = true ∨ t.led = true) (few : L.length < 64) {wanted M : Nat} (hw : SetTable.sizeAbove wanted - 1 = M) (hM : MaskOk M)
    (hw2 : SetTable.sizeAbove wanted ≤ 128) (rm : L.length * 5 < M * 3) {Q : Unit → Shared → Prop} (q : ∀ h' L' es' ep' t', Heap.SameBut a s.heap h' → NSt w h' a L' es' ep' t' → L'.Perm L → Q () { s with heap := h' }) :
    wpAny (model P w) A (setRelay a wanted) Q E s := by
  have el := rows_len er
  have fit : t.fits es.size = true := by
    unfold SetTable.fits SetTable.fill
    rw [dm, Bool.and_eq_true, beq_iff_eq, decide_eq_true_eq]
    exact ⟨sz, by show t.place.size + 0 ≤ t.mask; omega⟩
  obtain ⟨t', order, re, pm, T, em, eld, _, _⟩ := relaid_ok t (hs := es.map (·.1)) (wanted := wanted) hw hM (by rw [Array.size_map, el]; omega)
  rw [Array.size_map, el] at pm
  obtain ⟨N, r1, r2, r3⟩ := rows_in er pm
  rw [← r3] at T
  have sz2 : (order.filterMap (es[·]?)).size = es.size := by rw [rows_len r1, r2.length_eq, el]
  rw [setRelay_eq]
  refine wpAny_bind (wpAny_setState_of e1 e3 fit ?_)
  dsimp only
  refine wp_if_neg (by rw [sizeLine_eq]; omega) ?_
  try refine wpAny_bind (wpAny_pure ?_)
  rw [re]
  dsimp only
  refine wpAny_bind ?_
  refine wp_if_neg (by rw [sz2]; simp) ?_
  try refine wpAny_bind (wpAny_pure ?_)
  refine wpAny_pure ?_
  dsimp only
  refine wpAny_storeSet_of e1 e3 ?_ (by rw [sz2, el, sizeLine_eq]; omega)
  have sb : Heap.SameBut a s.heap (s.heap.update a (Obj.putSet (order.filterMap (es[·]?)) t')) := Heap.SameBut.update ..
  refine q _ N _ (ep + 1) t' sb ⟨⟨_, store_at e1 e3, ⟨e2.1, e2.2.1, e2.2.2⟩, rfl⟩, r1, T, (r2.map (·.2)).nodup_iff.mpr nd, fun x hx => n8_same (ks x (r2.mem_iff.mp hx)) e1 e3 sb, by rw [eld]; exact ld, ?_, by rw [r2.length_eq]; exact few⟩ r2
  rw [r2.length_eq, em]
  exact rm
/-- one more -/
theorem add_n (R : NSt w s.heap a L es ep t) {x : Addr × NestedKey} (hx : n8 s.heap x) (hu : A.units + 8 < cLine) (few : L.length + 1 < 64) {Q : Bool → Shared → Prop}
    (q : ∀ b h' L' es' ep' t', Heap.SameBut a s.heap h' → NSt w h' a L' es' ep' t' → (x.2 ∈ L.map (·.2) → L' = L) → (x.2 ∉ L.map (·.2) → L'.Perm (x :: L)) → Q b { s with heap := h' }) :
    wpAny (model P w) A (setAddHashed a (.ref x.1) (nhash w x)) Q E s := by
  obtain ⟨o, e1, e2, e3⟩ := R.ob
  have el := R.len
  have rm := R.room
  unfold setAddHashed
  refine wpAny_holding ?_
  rw [show (100000 : Nat) = 99999 + 1 from rfl, setAddHashedIn_succ]
  refine wpAny_bind (wpAny_setState_of e1 e3 R.fits ?_)
  dsimp only
  refine wp_if_neg (by simp [byScan, Value.scannable]) ?_
  try refine wpAny_bind (wpAny_pure ?_)
  refine wpAny_bind (seek_at R hx hu (fun mem => ?_) fun z mem ze zb => ?_)
  · dsimp only
    exact wpAny_pure (q false s.heap L es ep t (Heap.SameBut.refl a s.heap) R (fun _ => rfl) fun n => absurd mem n)
  · dsimp only
    refine wpAny_bind (wpAny_setState_of e1 e3 R.fits ?_)
    dsimp only
    obtain ⟨q1, q2, q3, q4, q5, _, _, _, q9⟩ := R.tab.put ze zb
    have rin : (SetTable.insertAt es (SetTable.below t.place (way t.mask (nhash w x) z)) (nrow w x)).toList = (L.take (SetTable.below t.place (way t.mask (nhash w x) z)) ++ x :: L.drop (SetTable.below t.place (way t.mask (nhash w x) z))).map (nrow w) := by
      rw [SetTable.toList_insertAt, List.map_append, List.map_cons, List.map_take, List.map_drop, R.rws]
    have hin : (L.take (SetTable.below t.place (way t.mask (nhash w x) z)) ++ x :: L.drop (SetTable.below t.place (way t.mask (nhash w x) z))).map (nhash w) = (L.map (nhash w)).take (SetTable.below t.place (way t.mask (nhash w x) z)) ++ nhash w x :: (L.map (nhash w)).drop (SetTable.below t.place (way t.mask (nhash w x) z)) := by
      rw [List.map_append, List.map_cons, List.map_take, List.map_drop]
    generalize ept : t.put (way t.mask (nhash w x) z) = pt at q1 q3 q4 q5 q9 ⊢
    obtain ⟨t1, p⟩ := pt
    dsimp only at q1 q3 q4 q5 q9 ⊢
    subst q1
    rw [← hin] at q3
    have pm := put_perm L (SetTable.below t.place (way t.mask (nhash w x) z)) x
    change wpAny (model P w) A _ _ _ s
    generalize SetTable.below t.place (way t.mask (nhash w x) z) = p at rin q3 pm ⊢
    have ll : (L.take p ++ x :: L.drop p).length = L.length + 1 := pm.length_eq
    have nd1 : ((L.take p ++ x :: L.drop p).map (·.2)).Nodup := by
      refine (pm.map (·.2)).nodup_iff.mpr ?_
      rw [List.map_cons]
      exact List.nodup_cons.mpr ⟨mem, R.nd⟩
    have z1 : (SetTable.insertAt es p (nrow w x)).size = L.length + 1 := (rows_len rin).trans ll
    have last : ∀ t2 : SetTable, t2.place = t1.place → t2.dummies = t1.dummies → t2.mask = t1.mask → t2.led = t1.led →
        wpAny (model P w) A (do
          storeSet a (SetTable.insertAt es p (nrow w x)) t2
          if !false && t2.tooFull then setRelay a (SetTable.grown (es.size + 1))
          return true) Q E s := fun t2 i1 i2 i3 i4 => by
      have T2 := tab_same q3 i1 i2 i3
      have ld : w.params.followText "set-order" = true ∨ t2.led = true := by rw [i4, q5]; exact R.led
      have m2 : t2.mask = t.mask := i3.trans q4
      have fl2 : t2.fill = L.length + 1 := by
        show t2.place.size + t2.dummies.size = _
        rw [i1, i2]
        rw [List.length_map] at q9
        exact q9
      generalize SetTable.insertAt es p (nrow w x) = es1 at rin z1 ⊢
      generalize L.take p ++ x :: L.drop p = L1 at rin pm ll nd1 T2
      refine wpAny_bind (wpAny_storeSet_of e1 e3 ?_ (by rw [z1, sizeLine_eq]; omega))
      have sb : Heap.SameBut a s.heap (s.heap.update a (Obj.putSet es1 t2)) := Heap.SameBut.update ..
      have f1 := store_at (es' := es1) (t' := t2) e1 e3
      generalize s.heap.update a (Obj.putSet es1 t2) = h1 at sb f1 ⊢
      have ks1 : ∀ q ∈ L1, n8 h1 q := fun q hq => by
        rcases List.mem_cons.mp (pm.mem_iff.mp hq) with e | hq
        · rw [e]; exact n8_same hx e1 e3 sb
        · exact n8_same (R.keys q hq) e1 e3 sb
      have ps : t2.place.size = es1.size := by
        have := T2.sz
        rw [List.length_map] at this
        omega
      by_cases full : t2.tooFull = true
      · have fb : (L.length + 1) * 5 ≥ t2.mask * 3 := by
          have h := full
          unfold SetTable.tooFull at h
          rwa [decide_eq_true_eq, fl2] at h
        have two : (t.mask = 7 ∧ L.length = 4) ∨ (t.mask = 31 ∧ L.length = 18) := by
          rcases R.tab.mok with e | e | e
          · exact .inl ⟨e, by rw [m2, e] at fb; rw [e] at rm; omega⟩
          · exact .inr ⟨e, by rw [m2, e] at fb; rw [e] at rm; omega⟩
          · exfalso; rw [m2, e] at fb; omega
        first
          | (refine wpAny_bind ?_; refine wp_if_pos (by simp [full]) ?_)
          | (refine wp_if_pos (by simp [full]) ?_; refine wpAny_bind ?_)
        rw [el]
        have fin : ∀ M, SetTable.sizeAbove (SetTable.grown (L.length + 1)) - 1 = M → MaskOk M → SetTable.sizeAbove (SetTable.grown (L.length + 1)) ≤ 128 → (L.length + 1) * 5 < M * 3 →
            wpAny (model P w) A (setRelay a (SetTable.grown (L.length + 1))) (fun _ s' => wpAny (model P w) A (pure true) Q E s') E { s with heap := h1 } := fun M b1 b2 b3 b4 =>
          relay_n (s := { s with heap := h1 }) f1 ⟨e2.1, e2.2.1, e2.2.2⟩ rfl rin ps T2.dm (by rw [z1, m2]; rcases two with ⟨e, e'⟩ | ⟨e, e'⟩ <;> omega) nd1 ks1 ld (by omega) b1 b2 b3 (by rw [ll]; exact b4)
            fun h2 L2 es2 ep2 t2 sb2 R2 pm2 => wpAny_pure (q true h2 L2 es2 ep2 t2 (sb.trans sb2) R2 (fun n => absurd n mem) fun _ => pm2.trans pm)
        rcases two with ⟨_, e'⟩ | ⟨_, e'⟩
        · exact fin 31 (by rw [e', size_20]) (.inr (.inl rfl)) (by rw [e', size_20]; decide) (by omega)
        · exact fin 127 (by rw [e', size_76]) (.inr (.inr rfl)) (by rw [e', size_76]; decide) (by omega)
      · have nf : (L.length + 1) * 5 < t2.mask * 3 := by
          have h := full
          unfold SetTable.tooFull at h
          rw [decide_eq_true_eq, fl2] at h
          omega
        first
          | refine wp_if_neg (by simp [full]) ?_
          | (refine wpAny_bind ?_; refine wp_if_neg (by simp [full]) ?_; refine wpAny_pure ?_)
        exact wpAny_pure (q true h1 L1 es1 (ep + 1) t2 sb ⟨⟨_, f1, ⟨e2.1, e2.2.1, e2.2.2⟩, rfl⟩, rin, T2, nd1, ks1, ld, by rw [ll]; exact nf, by omega⟩ (fun n => absurd n mem) fun _ => pm)
    by_cases pl : t1.plain = true
    · first
        | (refine wpAny_bind ?_; refine wp_if_pos pl ?_; refine hash_key x.2 _ 8 s hx.1 hx.2 A _ _ fun b => ?_)
        | (refine wp_if_pos pl (wpAny_bind (hash_key x.2 _ 8 s hx.1 hx.2 A _ _ fun b => ?_)))
      cases b with
      | true => simp only [if_true]; exact last t1 rfl rfl rfl rfl
      | false => simp only [Bool.false_eq_true, if_false]; exact last _ rfl rfl rfl rfl
    · first
        | (refine wpAny_bind ?_; refine wp_if_neg pl ?_; refine wpAny_pure ?_)
        | refine wp_if_neg pl (wpAny_bind (wpAny_pure ?_))
      simp only [if_true]
      exact last t1 rfl rfl rfl rfl
end
/-- what the set has of the first i items -/
structure Has (ks : NL) (i : Nat) (L : NL) : Prop where
  sub : ∀ q ∈ L, q ∈ ks.take i
  all : ∀ q ∈ ks.take i, q.2 ∈ L.map (·.2)
  len : L.length ≤ i
theorem Has.none_ (ks : NL) : Has ks 0 [] := ⟨fun _ h => (by cases h), fun _ h => (by simp at h), Nat.le_refl _⟩
theorem Has.step {ks L L' : NL} {i : Nat} {x : Addr × NestedKey} (g : Has ks i L) (h : ks[i]? = some x) (old : x.2 ∈ L.map (·.2) → L' = L) (new : x.2 ∉ L.map (·.2) → L'.Perm (x :: L)) : Has ks (i + 1) L' := by
  have tk : ks.take (i + 1) = ks.take i ++ [x] := by rw [List.take_succ, h]; rfl
  by_cases c : x.2 ∈ L.map (·.2)
  · rw [old c]
    refine ⟨fun q hq => ?_, fun q hq => ?_, Nat.le_succ_of_le g.len⟩
    · rw [tk]; exact List.mem_append_left _ (g.sub q hq)
    · rw [tk] at hq
      rcases List.mem_append.mp hq with z | z
      · exact g.all q z
      · rw [List.mem_singleton.mp z]; exact c
  · have pm := new c
    refine ⟨fun q hq => ?_, fun q hq => ?_, by rw [pm.length_eq]; exact Nat.succ_le_succ g.len⟩
    · rw [tk]
      rcases List.mem_cons.mp (pm.mem_iff.mp hq) with e | z
      · rw [e]; exact List.mem_append_right _ (List.mem_singleton.mpr rfl)
      · exact List.mem_append_left _ (g.sub q z)
    · rw [(pm.map (·.2)).mem_iff, List.map_cons]
      rw [tk] at hq
      rcases List.mem_append.mp hq with z | z
      · exact List.mem_cons_of_mem _ (g.all q z)
      · rw [List.mem_singleton.mp z]; exact List.mem_cons_self
section
variable {P : Program} {w : World} {A : Around} {E : Value → Shared → Prop} {s : Shared}
theorem NSt.keep {h h' : Heap} {a : Addr} {L : NL} {es : Array (Int × Value)} {ep : Nat} {t : SetTable} (R : NSt w h a L es ep t) (ha : ∀ o, h.get? a = some o → h'.get? a = some o) (hk : ∀ q ∈ L, n8 h' q) : NSt w h' a L es ep t := by
  obtain ⟨o, e1, r⟩ := R.ob
  exact ⟨⟨o, ha o e1, r⟩, R.rws, R.tab, R.nd, hk, R.led, R.room, R.few⟩
abbrev set0 (w : World) : Obj := { cls := .type "set", dict := none, data := .set #[] 0 (.fresh 0 0 (!w.params.followText "set-order")) }
theorem nst_new {h : Heap} {a : Addr} (e : h.get? a = some (set0 w)) : NSt w h a [] #[] 0 (.fresh 0 0 (!w.params.followText "set-order")) := by
  refine ⟨⟨_, e, ⟨rfl, rfl, rfl⟩, rfl⟩, rfl, ⟨List.Pairwise.nil, rfl, rfl, .inl rfl, fun x hx => (by cases hx), fun i h j hi => (by simp at hi)⟩, List.nodup_nil, fun q hq => (by cases hq), ?_, ?_, ?_⟩
  · show _ ∨ (!w.params.followText "set-order") = true
    cases w.params.followText "set-order"
    · exact .inr rfl
    · exact .inl rfl
  · show 0 * 5 < 7 * 3
    decide
  · show 0 < 64
    decide
theorem upd_loop {I : Addr} {fp wr : List Addr} {G : Array GenState → Array GenState → Prop} {n : Nat} {Pv : Nat → Value → Prop} {St : Nat → Shared → Prop} {R : Result → Shared → Prop}
    (W : WalksS P w A.in1 I fp wr G n Pv St) (S : Addr) (hSf : S ∉ fp) (ks : NL) (hn : n = ks.length) (few : ks.length < 64) (val : ∀ i v, Pv i v → ∃ q, ks[i]? = some q ∧ v = .ref q.1)
    (h0 : Heap) (hk : ∀ q ∈ ks, n8 h0 q) (hS0 : h0.get? S = none) (hw0 : ∀ b ∈ wr, h0.get? b = none) (hu : A.in1.units + 8 < cLine) :
    ∀ (m i : Nat) (s : Shared), n - i = m → i ≤ n → St i s → (∀ b o, h0.get? b = some o → s.heap.get? b = some o) → (∃ L es ep t, NSt w s.heap S L es ep t ∧ Has ks i L) →
      (∀ s' L es ep t, Moved (S :: wr) G s s' → NSt w s'.heap S L es ep t → Has ks n L → (∀ b o, h0.get? b = some o → s'.heap.get? b = some o) → R (.ok (.ret .none)) s') →
      codeAny (model P w) A (.builtin "set.update.loop" ⟨[.ref S, .ref I], []⟩) R s := by
  have hSw : S ∉ wr := fun h => hSf (W.sub _ h)
  have inS : ∀ b ∈ wr, b ∈ S :: wr := fun b hb => List.mem_cons_of_mem _ hb
  have up : ∀ {s s' : Shared}, Moved wr G s s' → (∀ b o, h0.get? b = some o → s.heap.get? b = some o) → ∀ b o, h0.get? b = some o → s'.heap.get? b = some o := fun mv k b o e =>
    mv.heap b o (fun hb => by rw [hw0 b hb] at e; cases e) (k b o e)
  intro m
  induction m with
  | zero =>
    intro i s hm hi st k ⟨L, es, ep, t, hS, g⟩ fin
    obtain rfl : i = n := by omega
    refine codeAny_builtin F.entry_set_update_loop ?_
    rw [Around.under_plainId F.plain_set_update_loop _]
    show wpAny _ A.in1 (pyNext (.ref I) >>= _) _ _ s
    refine wpAny_bind (W.done s _ _ st fun s' mv => ?_)
    show wpAny _ A.in1 (ret Value.none) _ _ s'
    have k' := up mv k
    exact wpAny_pure (fin s' L es ep t (mv.mono inS) (hS.keep (fun o e => mv.heap S o hSw e) fun q hq => n8_up (hk q (List.mem_of_mem_take (g.sub q hq))) k') g k')
  | succ m ih =>
    intro i s hm hi st k ⟨L, es, ep, t, hS, g⟩ fin
    have lt : i < n := by omega
    refine codeAny_builtin F.entry_set_update_loop ?_
    rw [Around.under_plainId F.plain_set_update_loop _]
    show wpAny _ A.in1 (pyNext (.ref I) >>= _) _ _ s
    refine wpAny_bind (W.item i s _ _ lt st fun v s' pv st' mv => ?_)
    obtain ⟨q, hq, rfl⟩ := val i v pv
    have k' := up mv k
    have hS' : NSt w s'.heap S L es ep t := hS.keep (fun o e => mv.heap S o hSw e) fun q hq => n8_up (hk q (List.mem_of_mem_take (g.sub q hq))) k'
    have hx : n8 s'.heap q := n8_up (hk q (List.mem_of_getElem? hq)) k'
    show wpAny _ A.in1 (holding [Value.ref q.1] (setAdd S (.ref q.1)) >>= _) _ _ s'
    refine wpAny_bind (wpAny_holding ?_)
    unfold setAdd
    refine wpAny_holding ?_
    refine wpAny_bind ((nestedKind P w).pyHash hu hx ?_)
    refine add_n (s := { s' with toks := s'.toks + q.2.draws }) hS' hx hu (by have := g.len; omega) fun b h' L' es' ep' t' sb hS2 c1 c2 => ?_
    have k2 : ∀ b o, h0.get? b = some o → h'.get? b = some o := fun b o e => (sb.2 b (fun z => by rw [z, hS0] at e; cases e)).trans (k' b o e)
    refine wpAny_pure ⟨plainId_quiet F.plain_set_update_loop _, ih (i + 1) _ (by omega) lt (W.frame _ s' _ _ st' (Nat.le_add_right _ _) fun b hb o e => ?_) k2 ⟨L', es', ep', t', hS2, g.step hq c1 c2⟩ fun s2 L2 es2 ep2 t2 mv2 hS2 g2 k3 => ?_⟩
    · rw [sb.2 b (fun h : b = S => hSf (by rw [← h]; exact hb))]; exact e
    · refine fin s2 L2 es2 ep2 t2 (Moved.trans W.gtrans ((mv.mono inS).then_heap (Nat.le_add_right _ _) fun b o hb e => ?_) mv2) hS2 g2 k3
      rw [sb.2 b (fun h : b = S => hb (by rw [h]; exact List.mem_cons_self))]; exact e
/-- set(l) -/
theorem set_listN {l : Addr} {items : Array Value} (ks : NL) {Q : Value → Shared → Prop} (hh : A.handled = none) (hl : s.heap.IsList l items) (hit : items.toList = ks.map fun q => Value.ref q.1) (hk : ∀ q ∈ ks, n8 s.heap q) (few : ks.length < 64) (hu : A.units + 12 < cLine)
    (h : ∀ (h' : Heap) (tk : Nat) L es ep t, NSt w h' s.heap.objs.size L es ep t → Has ks ks.length L → (∀ b o, s.heap.get? b = some o → h'.get? b = some o) → Q (.ref s.heap.objs.size) { s with heap := h', toks := tk }) :
    wpAny (model P w) A (call (.type "set") [.ref l]) Q E s := by
  have hsz : items.size = ks.length := by
    have q := congrArg List.length hit
    rwa [Array.length_toList, List.length_map] at q
  obtain ⟨ol, hol, hcl, nl, hdl⟩ := hl
  obtain ⟨ocls, odict, odata, oslots⟩ := ol
  dsimp only at hcl hdl
  subst hcl hdl
  have ll : l < s.heap.objs.size := Heap.lt_size hol
  have hS : (newS w s.heap).get? s.heap.objs.size = some (set0 w) := Heap.get?_push_size _ rfl
  have hL : (newS w s.heap).get? l = some { cls := .type "list", dict := odict, data := .seq items nl, slots := oslots } := Heap.get?_push_of_some _ hol
  have hLl : (newS w s.heap).IsList l items := ⟨_, hL, rfl, nl, rfl⟩
  have hT : Shared.TypeIs { s with heap := newS w s.heap } (.ref s.heap.objs.size) "set" := ⟨_, hS, rfl⟩
  have hz : (newS w s.heap).objs.size = s.heap.objs.size + 1 := Heap.size_push ..
  let post : Result → Shared → Prop := wants (fun r s₂ => r = .none ∧ ∃ h' tk L es ep t, s₂ = { s with heap := h', toks := tk } ∧ NSt w h' s.heap.objs.size L es ep t ∧ Has ks ks.length L ∧ (∀ b o, s.heap.get? b = some o → h'.get? b = some o)) E
  have init : wpAny (model P w) A.in1.in1 (Builtin.«set.__init__» ⟨[.ref s.heap.objs.size, .ref l], []⟩)
      (fun fin s' => match fin with | .done f => post (.ok f) s' | .again c' => c'.quiet = true ∧ codeAny (model P w) A.in1 c' post s') (fun e s' => post (.error e) s') { s with heap := newS w s.heap } := by
    have t1 := F.sub_list_set
    have t2 := F.sub_list_frozenset
    have t3 : (Value.type "list" == Value.type "dict") = false := by decide
    unfold Builtin.«set.__init__» noKeywords Builtin.Frozenset.updateFrom
    generalize hPI : pyIter = PI
    wp_walk
    subst hPI
    refine wpAny_pyIter_list hLl (wpAny_bind (wpAny_runValue ?_))
    have nI : l ≠ (newS w s.heap).objs.size := by
      rw [hz]
      exact Nat.ne_of_lt (Nat.lt_succ_of_lt ll)
    have nS : s.heap.objs.size ∉ [(newS w s.heap).objs.size, l] := by
      simp only [List.mem_cons, List.not_mem_nil, or_false, not_or]
      rw [hz]
      exact ⟨Nat.ne_of_lt (Nat.lt_succ_self _), Nat.ne_of_gt ll⟩
    have gone : ∀ b, s.heap.objs.size ≤ b → s.heap.get? b = none := fun b hb => by
      cases q : s.heap.get? b with
      | none => rfl
      | some o => exact absurd (Nat.lt_of_lt_of_le (Heap.lt_size q) hb) (Nat.lt_irrefl _)
    refine upd_loop ((Walks.list (show A.in1.in1.in1.handled = none by simp [hh]) _ l nI items).toS) s.heap.objs.size nS ks hsz few (fun i v hv => ?_) s.heap hk (gone _ (Nat.le_refl _)) (fun b hb => gone b (by rw [List.mem_singleton.mp hb, hz]; exact Nat.le_succ _)) (by show A.units + 1 + 1 + 1 + 8 < cLine; omega)
      (items.size - 0) 0 _ (by omega) (Nat.zero_le _) ⟨⟨_, Heap.get?_push_size _ rfl, rfl, rfl⟩, hLl.push _⟩ (fun b o e => Heap.get?_push_of_some _ (Heap.get?_push_of_some _ e)) ⟨[], #[], 0, _, nst_new (Heap.get?_push_of_some _ hS), .none_ ks⟩ fun s' L es ep t mv R g k => ?_
    · have q : items.toList[i]? = some v := by rw [Array.getElem?_toList]; exact hv
      rw [hit, List.getElem?_map] at q
      cases e : ks[i]? with
      | none => rw [e] at q; cases q
      | some p =>
        rw [e] at q
        exact ⟨p, rfl, (Option.some.inj q).symm⟩
    · obtain ⟨h', gg, dd, tk, oo⟩ := s'
      obtain rfl : gg = s.gens := mv.gens
      obtain rfl : dd = s.drawn := mv.drawn
      obtain rfl : oo = s.os := mv.os
      rw [hsz] at g
      exact wpAny_pure (show wpAny _ _ (ret Value.none) _ _ _ from wpAny_pure ⟨rfl, h', tk, L, es, ep, t, rfl, R, g, k⟩)
  obtain ⟨c, tl, hmro⟩ := F.called_set.mro
  have hmade := F.called_set.made
  have hsub := F.called_set.sub
  have h1 := F.called_set.notType
  have h2 := F.called_set.canCreate
  have hct := F.typeCall_set_1 (.ref l)
  have hli := F.called_set.init.lookup
  have hbi := F.called_set.init.bind (.ref s.heap.objs.size)
  refine wpAny_call (codeAny_of_tree (show wpAny _ _ (callAny (.type "set") _) _ _ _ from wpAny_pure ⟨Code.quiet_builtin _ (by decide +kernel), codeAny_builtin F.entry_type_call ?_⟩))
  rw [Around.under_plain (weight_type_call_type "set" [.ref l] []) rfl]
  repeat (any_goals (first | assumption | wp_step))
  refine codeAny_mono (code_set_led1 (.ref l) (E := E) (Q₁ := fun obj s₁ => obj = .ref s.heap.objs.size ∧ s₁ = { s with heap := newS w s.heap }) ⟨rfl, rfl⟩) fun r s₁ hr => ?_
  cases r with
  | error e => exact hr
  | ok fl =>
    cases fl with
    | ret obj =>
      obtain ⟨rfl, rfl⟩ := hr
      repeat (any_goals (first | assumption | wp_step))
      refine codeAny_mono (codeAny_call_builtin (R := post) F.called_set.init.plain F.entry_set_init (check_set_init_1 hT init)) fun r₂ s₂ hr₂ => ?_
      cases r₂ with
      | error e => exact hr₂
      | ok fl₂ =>
        cases fl₂ with
        | ret r =>
          obtain ⟨rfl, h', tk, L, es, ep, t, rfl, R, g, k⟩ := hr₂
          repeat (any_goals (first | assumption | wp_step))
          exact h _ _ _ _ _ _ R g k
        | _ => exact hr₂.elim
    | _ => exact hr.elim
end
end EV
set_option Elab.async false
set_option linter.all false
set_option maxRecDepth 100000
set_option maxHeartbeats 4000000
/-! sorted(set(l)), l a list of such tuples -/
namespace EV
open PySem PySem.Spec PyProof.Rows L2
section
variable {X : Cx} {pins : List (Addr × Obj)} {σ : L2.St} {μ : List Addr} {H : Hp} {s : Shared}
mutual
theorem rl_reads (I : Inv X pins σ H s) : ∀ {d : D} {v : V} {k : NestedKey} {u : Value}, Rl X.K μ H d v → keyB d = some k → RelV v u → Reads s.heap u k.data []
  | .non, _, _, _, r, e, q => by unfold keyB at e; cases e; cases r; cases q; exact .none
  | .bl b, _, _, _, r, e, q => by unfold keyB at e; cases e
  | .int i, _, _, _, r, e, q => by unfold keyB at e; cases e; cases r; obtain ⟨t, rfl⟩ := q; exact .int i t
  | .str x, _, _, _, r, e, q => by unfold keyB at e; cases e; cases r; obtain ⟨t, rfl⟩ := q; exact .str x t
  | .ref n, _, _, _, r, e, q => by unfold keyB at e; cases e
  | .fn x, _, _, _, r, e, q => by unfold keyB at e; cases e
  | .tup l, _, _, _, r, e, q => by
    unfold keyB at e
    cases e1 : keyBs l with
    | none => rw [e1] at e; cases e
    | some ks =>
      rw [e1] at e
      cases e
      cases r with
      | tup h rr =>
        cases q
        obtain ⟨its, rv, ⟨o, ho, hc, n, hd⟩, _⟩ := I.tuple h.sqT
        unfold NestedKey.data
        exact .tuple ho hc hd (by simpa using rls_reads I rr e1 rv)
theorem rls_reads (I : Inv X pins σ H s) : ∀ {l : List D} {vs : List V} {ks : List NestedKey} {us : List Value}, RlA X.K μ H l vs → keyBs l = some ks → Vals vs us → ReadsAll s.heap us (NestedKey.datas ks) []
  | [], _, _, _, r, e, q => by unfold keyBs at e; cases e; cases r; cases q; unfold NestedKey.datas; exact .nil
  | d :: l, _, _, _, r, e, q => by
    unfold keyBs at e
    cases e1 : keyB d with
    | none => rw [e1] at e; cases e
    | some k =>
      cases e2 : keyBs l with
      | none => rw [e1, e2] at e; cases e
      | some ks =>
        rw [e1, e2] at e
        cases e
        cases r with
        | cons r1 r2 =>
          cases q with
          | cons q1 q2 =>
            unfold NestedKey.datas
            exact .cons (rl_reads I r1 e1 q1) (rls_reads I r2 e2 q2)
end
end
/-! ## the rules -/
structure NS0 (w : World) (h : Heap) (a : Addr) (L : NL) : Prop where
  ex : ∃ (es : Array (Int × Value)) (ep : Nat) (t : SetTable), (∃ o, h.get? a = some o ∧ o.ExactSet ∧ o.data = .set es ep t) ∧ es.toList = L.map (nrow w) ∧ TabOk t (L.map (nhash w)) ∧ (L.map (·.2)).Nodup ∧ (w.params.followText "set-order" = true ∨ t.led = true) ∧ L.length * 5 < t.mask * 3 ∧ L.length < 64
def SetN (w : World) (a : Addr) (L : NL) : HO := .ext fun h => NS0 w h a L
theorem NSt.n0 {w : World} {h : Heap} {a : Addr} {L : NL} {es : Array (Int × Value)} {ep : Nat} {t : SetTable} (R : NSt w h a L es ep t) : NS0 w h a L := ⟨es, ep, t, R.ob, R.rws, R.tab, R.nd, R.led, R.room, R.few⟩
theorem NS0.full {w : World} {h : Heap} {a : Addr} {L : NL} (R : NS0 w h a L) (ht : ∀ q ∈ L, n8 h q) : ∃ es ep t, NSt w h a L es ep t := by
  obtain ⟨es, ep, t, h1, h2, h3, h4, h5, h6, h7⟩ := R.ex
  exact ⟨es, ep, t, h1, h2, h3, h4, ht, h5, h6, h7⟩
theorem setN_new {P : Program} {w : World} {H : Hp} {h : Heap} {a : Addr} {L : NL} (R : NS0 w h a L) : ObjOk P w H h a (SetN w a L) := by
  obtain ⟨es, ep, t, ⟨o, ho, r⟩, q⟩ := id R.ex
  refine ⟨R, ⟨o, ho⟩, fun h1 h2 p k => ?_⟩
  obtain ⟨es', ep', t', ⟨o', ho', r'⟩, q'⟩ := NS0.ex p
  exact ⟨es', ep', t', ⟨o', k o' ho', r'⟩, q'⟩
theorem refs_are : ∀ {ks : NL} {us : List Value}, Vals (ks.map fun q => V.ref q.1) us → us = ks.map fun q => Value.ref q.1
  | [], _, .nil => rfl
  | p :: ks, _, .cons r t => by
    cases r
    rw [refs_are t, List.map_cons]
theorem refs_vals : ∀ (ks : NL), Vals (ks.map fun q => V.ref q.1) (ks.map fun q => Value.ref q.1)
  | [] => .nil
  | p :: ks => .cons rfl (refs_vals ks)
def KB (K : PySem.W.Frag) (H : Hp) (q : Addr × NestedKey) : Prop := q.2.depth ≤ 8 ∧ ∃ d μ, Rl K μ H d (.ref q.1) ∧ keyB d = some q.2
section
variable {X : Cx}
theorem kb_n8 {pins : List (Addr × Obj)} {σ : L2.St} {H : Hp} {s : Shared} (I : Inv X pins σ H s) {q : Addr × NestedKey} (h : KB X.K H q) : n8 s.heap q := by
  obtain ⟨dp, d, μ, r, e⟩ := h
  exact ⟨nk_is I.kIn I.hok (rl_nk r (keyB_D e)) rfl, dp⟩
def rSetN (K : PySem.W.Frag) (w : World) : List V → Hp → VK → Prop := fun xs H Q => ∃ (l : Addr) (ks : NL), xs = [V.ref l] ∧ SqL K H l (ks.map fun q => V.ref q.1) ∧ (∀ q ∈ ks, KB K H q) ∧ ks.length < 64 ∧
  ∀ a L, H a = none → (∀ q ∈ L, q ∈ ks) → (∀ q ∈ ks, q.2 ∈ L.map (·.2)) → Q (.ref a) (upd H a (SetN w a L))
theorem cr_setN (hc : X.calm = true) (hu : X.A.units + 64 < cLine) : CallR X (.type "set") (rSetN X.K X.w) := by
  intro pins s σ H xs us Q I r h
  obtain ⟨l, ks, rfl, hl, hk, hf, q⟩ := h
  rw [Vals.ref1 r]
  obtain ⟨its, rv, pl, _⟩ := I.list hl
  refine set_listN (P := X.prog) (w := X.w) ks (I.ok.hd hc) pl.isList (by simpa using refs_are rv) (fun p hp => kb_n8 I (hk p hp)) hf (by omega) fun h' tk L es ep t R g k => ?_
  refine ⟨.ref s.heap.objs.size, upd H s.heap.objs.size (SetN X.w s.heap.objs.size L), I.laid (t' := tk) k (Nat.le_refl _) (setN_new R.n0), rfl, q _ L (I.hok.fresh (Nat.le_refl _)) (fun p hp => List.mem_of_mem_take (g.sub p hp)) fun p hp => g.all p (by rw [List.take_length]; exact hp)⟩
def rSortedN (K : PySem.W.Frag) (w : World) : List V → Hp → VK → Prop := fun vs H Q => ∃ (a : Addr) (L : NL), vs = [V.ref a] ∧ H a = some (SetN w a L) ∧ (∀ q ∈ L, KB K H q) ∧ PySem.W.AllAlike (L.map fun q => q.2.data) ∧ PySem.W.Sortable (L.map fun q => q.2.data) ∧ (∀ q ∈ L, q.2.data.depth ≤ 40) ∧
  ∀ (L' : NL) (p : Addr), L'.Perm L → (L'.map (·.2)).Nodup → L'.Pairwise (fun q r => PySem.W.dataLe false (fun z : Addr × NestedKey => z.2.data) q r = true) → H p = none → Q (.ref p) (upd H p (.lst (L'.map fun q => V.ref q.1)))
theorem each_refs {R : Value → Addr × NestedKey → Prop} : ∀ {L : NL}, (∀ q ∈ L, R (.ref q.1) q) → PySem.W.EachIs R (L.map fun q => Value.ref q.1) L
  | [], _ => .nil
  | q :: L, h => .cons (h q List.mem_cons_self) (each_refs fun r hr => h r (List.mem_cons_of_mem _ hr))
theorem refs_each : ∀ {out : List Value} {L : NL}, PySem.W.EachIs (fun v q => v = Value.ref q.1) out L → out = L.map fun q => Value.ref q.1
  | _, _, .nil => rfl
  | _, _, .cons h t => by rw [h, refs_each t, List.map_cons]
theorem cr_sortedN (hc : X.calm = true) (hu : X.A.units + 64 < cLine) : CallR X (.builtin "sorted") (rSortedN X.K X.w) := by
  intro pins s σ H vs us Q I r h
  obtain ⟨a, L, rfl, ha, hk, hal, hso, hdp, q⟩ := h
  have R0 : NS0 X.w s.heap a L := (I.hok a _ ha).1
  obtain ⟨es, ep, t, R⟩ := R0.full fun p hp => kb_n8 I (hk p hp)
  rw [Vals.ref1 r]
  obtain ⟨o, e1, e2, e3⟩ := R.ob
  have few := R.few
  have el := R.len
  refine Calls.call_function_entry kind_sorted plain_sorted entry_sorted (args_sorted1 _) ?_
  unfold Builtin.«sorted»
  refine wpAny_bind (m := checkCount "sorted" 1 1 _) (wpAny_pure ?_)
  refine wpAny_bind (collect_set (A := X.A.in1) (I.ok.hd hc) ⟨o, e1, e2.1, e3⟩ R.fits (by unfold scanBound; omega) R.tab.ris R.led fun s1 vs k1 hz g1 o1 pm => ?_)
  have ev : es.toList.map (·.2) = L.map fun q => Value.ref q.1 := by
    rw [R.rws, List.map_map]
    rfl
  rw [ev] at pm
  have inj : ∀ q ∈ L, ∀ r ∈ L, q.1 = r.1 → q = r := fun q hq r hr e => by
    have a1 := (R.keys q hq).1
    have a2 := (R.keys r hr).1
    rw [e] at a1
    exact Prod.ext e (NestedIs.inj _ _ _ a1 a2)
  have some_ : ∀ vs : List Value, (∀ v ∈ vs, ∃ q ∈ L, v = Value.ref q.1) → ∃ M : NL, vs = M.map (fun q => Value.ref q.1) ∧ ∀ q ∈ M, q ∈ L := by
    intro vs
    induction vs with
    | nil => exact fun _ => ⟨[], rfl, fun q hq => (by cases hq)⟩
    | cons v vs ih =>
      intro hv
      obtain ⟨q, hq, e⟩ := hv v List.mem_cons_self
      obtain ⟨M, m1, m2⟩ := ih fun u hu => hv u (List.mem_cons_of_mem _ hu)
      refine ⟨q :: M, by rw [List.map_cons, e, m1], fun r hr => ?_⟩
      rcases List.mem_cons.mp hr with z | z
      · rw [z]; exact hq
      · exact m2 r z
  obtain ⟨M, m1, m2⟩ := some_ vs fun v hv => by
    obtain ⟨q, hq, e⟩ := List.mem_map.mp (pm.mem_iff.mp hv)
    exact ⟨q, hq, e.symm⟩
  subst m1
  have pM : M.Perm L := by
    have nL : L.Nodup := List.Pairwise.of_map (·.2) (fun _ _ ne e => ne (congrArg _ e)) R.nd
    have nR : (L.map fun q => Value.ref q.1).Nodup := by
      refine List.pairwise_map.mpr (List.Pairwise.imp_of_mem (fun {q r} hq hr ne e => ?_) nL)
      injection e with e
      exact ne (inj q hq r hr e)
    have nM : M.Nodup := List.Pairwise.of_map (fun q : Addr × NestedKey => Value.ref q.1) (fun _ _ ne e => ne (congrArg (fun q : Addr × NestedKey => Value.ref q.1) e)) (pm.nodup_iff.mpr nR)
    refine (List.perm_ext_iff_of_nodup nM nL).mpr fun q => ⟨m2 q, fun hq => ?_⟩
    obtain ⟨r, hr, e⟩ := List.mem_map.mp (pm.mem_iff.mpr (List.mem_map.mpr ⟨q, hq, rfl⟩))
    injection e with e
    rw [← inj r (m2 r hr) q hq e]
    exact hr
  have lM : M.length < 64 := by rw [pM.length_eq]; exact few
  have lv : (M.map fun q => Value.ref q.1).length < 64 := by rw [List.length_map]; exact lM
  refine wpAny_bind (wpAny_newList ?_ (by rw [sizeLine_eq]; omega))
  have hoL : (s1.heap.push (seqObj "list" (M.map fun q => Value.ref q.1).toArray 0)).get? s1.heap.objs.size = some (seqObj "list" (M.map fun q => Value.ref q.1).toArray 0) := Heap.get?_push_size _ rfl
  have rd : ∀ q ∈ M, Reads (s1.heap.push (seqObj "list" (M.map fun q => Value.ref q.1).toArray 0)) (.ref q.1) q.2.data [] := fun q hq => by
    obtain ⟨_, d, μ, rl, ek⟩ := hk q (m2 q hq)
    exact PyProof.Rows.Reads.keeps (fun b u e => Heap.get?_push_of_some _ (k1 b u e)) (rl_reads I rl ek rfl)
  have hal' : PySem.W.AllAlike (M.map fun q => q.2.data) := fun d hd d' hd' => hal d ((pM.map _).mem_iff.mp hd) d' ((pM.map _).mem_iff.mp hd')
  have hso' : PySem.W.Sortable (M.map fun q => q.2.data) := by
    rcases hso with h | h
    · exact .inl fun d hd => h d ((pM.map _).mem_iff.mp hd)
    · exact .inr fun d hd => h d ((pM.map _).mem_iff.mp hd)
  refine wpAny_bind (wpAny_holding (PySem.W.list_sort_data (s := { s1 with heap := s1.heap.push (seqObj "list" (M.map fun q => Value.ref q.1).toArray 0) }) (R := fun v q => v = Value.ref q.1) (enc := fun q : Addr × NestedKey => q.2.data) hoL
    (each_refs fun q _ => rfl) (each_refs fun q hq => ⟨[], rd q hq, by simp⟩) hal' hso' (by rw [sizeLine_eq]; omega) (fun q hq => ?_) fun out ho eo => ?_))
  · have := hdp q (m2 q hq)
    show X.A.units + 1 + 1 + _ < cLine
    omega
  · have eout := refs_each eo
    obtain ⟨c, hcc⟩ := PyProof.Rows.sortedHeap_at (vs := M.map fun q => Value.ref q.1) (out := out.toArray) hoL
    have pS := List.mergeSort_perm M (PySem.W.dataLe false fun z : Addr × NestedKey => z.2.data)
    have pw : (M.mergeSort (PySem.W.dataLe false fun z : Addr × NestedKey => z.2.data)).Pairwise (fun a b => PySem.W.dataLe false (fun z : Addr × NestedKey => z.2.data) a b = true) := PySem.W.sort_pairwise (PySem.W.sortLe_total _ false _) M
    generalize M.mergeSort (PySem.W.dataLe false fun z : Addr × NestedKey => z.2.data) = N at eout pS pw
    have pN := pS.trans pM
    have hn : H s1.heap.objs.size = none := I.hok.fresh hz
    have up : ∀ b u, s.heap.get? b = some u → (PyProof.Rows.sortedHeap (s1.heap.push (seqObj "list" (M.map fun q => Value.ref q.1).toArray 0)) s1.heap.objs.size (M.map fun q => Value.ref q.1) out.toArray).get? b = some u := fun b u e => by
      have q := k1 b u e
      have lt := Heap.lt_size q
      rw [PyProof.Rows.sortedHeap_old (Nat.ne_of_lt lt) (by rw [PyProof.Rows.size_push']; exact Nat.lt_succ_of_lt lt)]
      exact Heap.get?_push_of_some _ q
    have hlen : (N.map fun q => V.ref q.1).length ≤ sizeLine := by rw [List.length_map, pN.length_eq, sizeLine_eq]; omega
    refine wpAny_pure ⟨_, rfl, ?_⟩
    have J : Inv X pins σ (upd H s1.heap.objs.size (.lst (N.map fun q => V.ref q.1))) { s with heap := PyProof.Rows.sortedHeap (s1.heap.push (seqObj "list" (M.map fun q => Value.ref q.1).toArray 0)) s1.heap.objs.size (M.map fun q => Value.ref q.1) out.toArray, gens := s1.gens, drawn := s1.drawn, toks := s1.toks } :=
      I.call (ch := []) (Un.laid up hz hn) (I.hok.laid up hz ⟨hlen, out, c, by rw [eout]; exact refs_vals N, by simpa using hcc⟩) (by rw [g1]; exact I.bare) (fun _ z => nomatch z)
    obtain ⟨h1', g1', d1', t1', o1'⟩ := s1
    dsimp only at o1
    subst o1
    exact ⟨.ref _, _, J, rfl, q N _ pN ((pN.map _).nodup_iff.mpr R.nd) pw hn⟩
end
end EV
set_option Elab.async false
set_option linter.all false
set_option maxRecDepth 100000
set_option maxHeartbeats 4000000
namespace EV
open PySem PySem.Spec PyProof.Rows L2

section
variable {K : PySem.W.Frag} {w : World} {μ : List Addr} {H : Hp} {S : Sto}
theorem Good.sq (g : Good K w μ S H) {n : Nat} {a : Addr} (h : μ[n]? = some a) {l : List D} (e : S.get n = some l) : ∃ xs, H a = some (.lst xs) ∧ RlA K μ H l xs := g.lst h e
theorem sqT_of {a : Addr} {xs : List V} (h : SqN K H a xs) : SqT K H a xs := h.sqT
theorem sqL_of {a : Addr} {xs : List V} (h : H a = some (.lst xs)) : SqL K H a xs := .inl (.inl h)
/-! ### data -/
theorem toPys_dp (g : Good K w μ S H) {n : Nat} (ih : ∀ d v p, Rl K μ H d v → toPy S n d = some p → Dp K H v p) : ∀ (ds : List D) (vs : List V) (ps : List PyData), RlA K μ H ds vs → mapO (toPy S n) ds = some ps → DpAll K H vs ps
  | _, _, _, .nil, e => by
    cases e
    exact .nil
  | d :: ds, _, _, .cons h t, e => by
    unfold mapO at e
    cases e1 : toPy S n d with
    | none => rw [e1] at e; cases e
    | some p =>
      rw [e1] at e
      cases e2 : mapO (toPy S n) ds with
      | none => rw [e2] at e; cases e
      | some ps =>
        rw [e2] at e
        cases e
        exact .cons (ih d _ p h e1) (toPys_dp g ih ds _ ps t e2)
theorem toPy_dp (g : Good K w μ S H) : ∀ (n : Nat) (d : D) (v : V) (p : PyData), Rl K μ H d v → toPy S n d = some p → Dp K H v p
  | 0, _, _, _, _, e => by cases e
  | n + 1, d, v, p, r, e => by
    unfold toPy at e
    cases r with
    | non => cases e; exact .non
    | bl b => cases e; exact .bl b
    | int i => cases e; exact .int i
    | str s => cases e; exact .str s
    | fn h => cases e
    | tpf h q => cases e
    | @ref k a h =>
      dsimp only at e
      cases e1 : S.get k with
      | none => rw [e1] at e; cases e
      | some l =>
        rw [e1] at e
        dsimp only at e
        cases e2 : mapO (toPy S n) l with
        | none => rw [e2] at e; cases e
        | some ps =>
          rw [e2] at e
          cases e
          obtain ⟨xs, h1, h2⟩ := g.sq h e1
          exact .lst (sqL_of h1) (toPys_dp g (toPy_dp g n) l xs ps h2 e2)
    | @tup a xs l h h2 =>
      dsimp only at e
      cases e2 : mapO (toPy S n) l with
      | none => rw [e2] at e; cases e
      | some ps =>
        rw [e2] at e
        cases e
        exact .tup (sqT_of h) (toPys_dp g (toPy_dp g n) l xs ps h2 e2)
theorem flat_rl {d : D} {v : V} (r : Rl K μ H d v) (h : flatD d = true) : flatV v = true := by
  cases r <;> first | rfl | cases h
theorem flat_all : ∀ {ds : List D} {vs : List V}, RlA K μ H ds vs → ds.all flatD = true → vs.all flatV = true
  | _, _, .nil, _ => rfl
  | _, _, .cons h t, e => by
    rw [List.all_cons, Bool.and_eq_true] at e ⊢
    exact ⟨flat_rl h e.1, flat_all t e.2⟩
theorem eqD_rl {d e : D} {v u : V} (r : Rl K μ H d v) (q : Rl K μ H e u) (h : flatD d = true) (h2 : flatD e = true) : eqV v u = eqD d e := by
  cases r <;> first | (cases h; done) | (cases q <;> first | rfl | (cases h2; done))
theorem any_eqD {x : D} {v : V} (r : Rl K μ H x v) (h : flatD x = true) : ∀ {ds : List D} {vs : List V}, RlA K μ H ds vs → ds.all flatD = true → inV v vs = ds.any fun z => eqD z x
  | _, _, .nil, _ => rfl
  | _, _, .cons a t, e => by
    rw [List.all_cons, Bool.and_eq_true] at e
    unfold inV
    rw [List.any_cons, List.any_cons, eqD_rl a r e.1 h]
    have := any_eqD r h t e.2
    unfold inV at this
    rw [this]
theorem bools_rl : ∀ {ds : List D} {vs : List V} {bs : List Bool}, RlA K μ H ds vs → bools ds = some bs → vs = bs.map V.bl
  | _, _, _, .nil, e => by cases e; rfl
  | d :: ds, _, _, .cons a t, e => by
    unfold bools mapO at e
    cases a with
    | bl b =>
      dsimp only at e
      cases e2 : bools ds with
      | none =>
        unfold bools at e2
        rw [e2] at e
        cases e
      | some bs =>
        have e3 := e2
        unfold bools at e3
        rw [e3] at e
        cases e
        rw [bools_rl t e2]
        rfl
    | _ => cases e
end
section
variable {X : Cx} {cls : Nat → Addr × Option Str} {E : XK} {μ : List Addr} {H : Hp} {S : Sto}
theorem opD_ok (g : Good X.K X.w μ S H) (op : Operator) {x y : D} {v u : V} {Q : VK} (rx : Rl X.K μ H x v) (ry : Rl X.K μ H y u) (h : RsP X.K X.w cls E μ H (opD op x y S) Q) : WOp X (binaryOp op) v u H Q := by
  unfold opD at h
  split at h
  · cases rx; cases ry
    exact ⟨_, op_add, _, _, rfl, rfl, h _ μ H Ext.refl g (.int _)⟩
  · cases rx; cases ry
    exact ⟨_, op_sub, _, _, rfl, rfl, h _ μ H Ext.refl g (.int _)⟩
  · cases rx; cases ry
    obtain ⟨c, h⟩ := cond_P h
    refine ⟨_, op_mul, _, _, rfl, rfl, ?_, h _ μ H Ext.refl g (.int _)⟩
    unfold cmulB at c
    simpa [CMul] using c
  · cases rx; cases ry
    obtain ⟨c, h⟩ := cond_P h
    refine ⟨_, op_fdivN, _, _, rfl, rfl, ?_, h _ μ H Ext.refl g (.int _)⟩
    simpa [CDivN] using c
  · cases rx; cases ry
    obtain ⟨c, h⟩ := cond_P h
    refine ⟨_, op_modN, _, _, rfl, rfl, ?_, h _ μ H Ext.refl g (.int _)⟩
    simpa using c
  · cases rx; cases ry
    obtain ⟨c, h⟩ := cond_P h
    refine ⟨_, op_pow, _, _, rfl, rfl, ?_, h _ μ H Ext.refl g (.int _)⟩
    simp only [Bool.and_eq_true, decide_eq_true_eq] at c
    exact ⟨c.1.1, c.1.2, c.2⟩
  · cases rx; cases ry
    obtain ⟨c, h⟩ := cond_P h
    refine ⟨_, op_shl, _, _, rfl, rfl, ?_, h _ μ H Ext.refl g (.int _)⟩
    simp only [Bool.and_eq_true, decide_eq_true_eq] at c
    exact ⟨c.1.1, c.1.2, c.2⟩
  · cases rx with
    | @tup a xs l h1 r1 =>
      cases ry with
      | @tup b ys m h2 r2 =>
        obtain ⟨c, h⟩ := cond_P h
        have hz := small_of c
        rw [r1.length, r2.length] at hz
        refine ⟨_, op_catN, a, b, xs, ys, rfl, rfl, sqT_of h1, sqT_of h2, hz, fun e => ?_, fun e e2 => ?_, fun e e2 p o hp od => ?_⟩
        · subst e
          refine h _ μ H Ext.refl g ?_
          cases r1
          exact .tup h2 r2
        · subst e2
          refine h _ μ H Ext.refl g ?_
          cases r2
          rw [List.append_nil]
          exact .tup h1 r1
        · exact h _ μ _ (ext_new hp) (good_new g hp) (.tup (sqN_up upd_same od) (RlA.ext (ext_new hp) g (r1.append r2)))
  · cases rx with
    | @ref n a h1 =>
      cases ry with
      | @ref m b h2 =>
        split at h
        · rename_i l k e1 e2
          obtain ⟨c, h⟩ := cond_P h
          obtain ⟨xs, p1, q1⟩ := g.sq h1 e1
          obtain ⟨ys, p2, q2⟩ := g.sq h2 e2
          have hz := small_of c
          rw [q1.length, q2.length] at hz
          refine ⟨_, op_cat, a, b, xs, ys, rfl, rfl, p1, p2, hz, fun p hp => ?_⟩
          exact h _ (μ ++ [p]) _ (ext_lst hp) (good_lst g hp (q1.append q2)) (.ref (at_last g))
        · exact h.elim
  · cases rx with
    | @tup a xs l h1 r1 =>
      cases ry
      obtain ⟨c, h⟩ := cond_P h
      simp only [Bool.and_eq_true, decide_eq_true_eq, Bool.not_eq_true'] at c
      obtain ⟨⟨⟨c1, c2⟩, c3⟩, c4⟩ := c
      refine ⟨_, op_repN, a, _, xs, rfl, rfl, sqT_of h1, fun e => ?_, c1, c2, ?_, fun p o hp od => ?_⟩
      · subst e
        cases r1
        cases c4
      · rw [← r1.length]
        exact Nat.le_of_ble_eq_true c3
      · exact h _ μ _ (ext_new hp) (good_new g hp) (.tup (sqN_up upd_same od) (RlA.ext (ext_new hp) g (r1.rep _)))
  · cases rx with
    | @ref n a h1 =>
      cases ry
      split at h
      · rename_i k l e1
        obtain ⟨c, h⟩ := cond_P h
        obtain ⟨xs, p1, q1⟩ := g.sq h1 e1
        simp only [Bool.and_eq_true, decide_eq_true_eq] at c
        have hz := small_of c.2
        rw [q1.length] at hz
        refine ⟨_, op_rep, a, _, xs, rfl, rfl, p1, by omega, by omega, hz, fun p hp => ?_⟩
        exact h _ (μ ++ [p]) _ (ext_lst hp) (good_lst g hp (q1.rep _)) (.ref (at_last g))
      · exact h.elim
  · exact h.elim
theorem inD_ok (g : Good X.K X.w μ S H) {x y : D} {v u : V} {b neg : Bool} {Q : VK} (rx : Rl X.K μ H x v) (ry : Rl X.K μ H y u) (e : inD S x y = some b) (q : Q (.bl (if neg then !b else b)) H) : rIn X.K neg v u H Q ∨ rInA X neg v u H Q := by
  unfold inD at e
  cases ry with
  | @tup a xs l h r =>
    dsimp only at e
    cases c : flatD x && l.all flatD with
    | false => rw [c] at e; cases e
    | true =>
      rw [c] at e
      rw [Bool.and_eq_true] at c
      cases e
      refine .inl ⟨a, xs, rfl, .inr (sqT_of h), flat_rl rx c.1, flat_all r c.2, ?_⟩
      rw [any_eqD rx c.1 r c.2]
      exact q
  | @ref n a h =>
    dsimp only at e
    split at e
    · rename_i l e1
      obtain ⟨xs, h1, r⟩ := g.sq h (get_of e1)
      cases c : flatD x && l.all flatD with
      | false => rw [c] at e; cases e
      | true =>
        rw [c] at e
        rw [Bool.and_eq_true] at c
        cases e
        refine .inl ⟨a, xs, rfl, .inl (sqL_of h1), flat_rl rx c.1, flat_all r c.2, ?_⟩
        rw [any_eqD rx c.1 r c.2]
        exact q
    · rename_i o _ e1
      split at e
      · rename_i r er
        cases e
        obtain ⟨ov, g1, g2⟩ := dlook_ok g h e1 er rx
        refine .inr ⟨a, ov, rfl, g1, ?_⟩
        cases g2 <;> exact q
      · cases e
    · cases e
  | _ => cases e
def rInT (K : PySem.W.Frag) (neg : Bool) : R2 := fun x y H Q => ∃ (d : PyData) (ds : List PyData), Dp K H x d ∧ (Dp K H y (.tuple ds) ∧ SeqAt.shaped (.tuple ds) = true ∨ Dp K H y (.list ds) ∧ SeqAt.shaped (.list ds) = true) ∧ SeqAt.shaped d = true ∧ d.depth ≤ 40 ∧ Q (.bl (if neg then !(ds.any fun z => PyData.eqv z d) else ds.any fun z => PyData.eqv z d)) H
theorem op_inT (hu : X.A.units + 64 < cLine) : OpR X (compareOp .In) (rInT X.K false) := by
  intro pins s σ H x y v u Q I rx ry h
  obtain ⟨d, ds, hd, he, sd, dp, q⟩ := h
  obtain ⟨as, r1⟩ := Dp.reads I d x v hd rx
  rcases he with ⟨he, se⟩ | ⟨he, se⟩
  · obtain ⟨bs, r2⟩ := Dp.reads I (.tuple ds) y u he ry
    exact SeqAt.in_tuple_reads r2 r1 (SeqAt.canLay_of_shaped se) (SeqAt.canLay_of_shaped sd) (by omega) ⟨.bl _, H, I, rfl, q⟩
  · obtain ⟨bs, r2⟩ := Dp.reads I (.list ds) y u he ry
    exact SeqAt.in_list_reads r2 r1 (SeqAt.canLay_of_shaped se) (SeqAt.canLay_of_shaped sd) (by omega) ⟨.bl _, H, I, rfl, q⟩
theorem op_notInT (hu : X.A.units + 64 < cLine) : OpR X (compareOp .NotIn) (rInT X.K true) := by
  intro pins s σ H x y v u Q I rx ry h
  obtain ⟨d, ds, hd, he, sd, dp, q⟩ := h
  obtain ⟨as, r1⟩ := Dp.reads I d x v hd rx
  rcases he with ⟨he, se⟩ | ⟨he, se⟩
  · obtain ⟨bs, r2⟩ := Dp.reads I (.tuple ds) y u he ry
    exact SeqAt.notIn_tuple_reads r2 r1 (SeqAt.canLay_of_shaped se) (SeqAt.canLay_of_shaped sd) (by omega) ⟨.bl _, H, I, rfl, q⟩
  · obtain ⟨bs, r2⟩ := Dp.reads I (.list ds) y u he ry
    exact SeqAt.notIn_list_reads r2 r1 (SeqAt.canLay_of_shaped se) (SeqAt.canLay_of_shaped sd) (by omega) ⟨.bl _, H, I, rfl, q⟩
theorem inT_ok (g : Good X.K X.w μ S H) {x y : D} {v u : V} {b neg : Bool} {Q : VK} (rx : Rl X.K μ H x v) (ry : Rl X.K μ H y u) (e : inT S x y = some b) (q : Q (.bl (if neg then !b else b)) H) : rInT X.K neg v u H Q := by
  unfold inT at e
  split at e
  · rename_i d ds e1 e2
    cases c : (SeqAt.shaped d && SeqAt.shaped (.tuple ds) && Nat.ble d.depth 40) with
    | false => rw [c] at e; cases e
    | true =>
      rw [c] at e
      simp only [Bool.and_eq_true] at c
      cases e
      exact ⟨d, ds, toPy_dp g 40 _ _ _ rx e1, .inl ⟨toPy_dp g 40 _ _ _ ry e2, c.1.2⟩, c.1.1, Nat.le_of_ble_eq_true c.2, q⟩
  · rename_i d ds e1 e2
    cases c : (SeqAt.shaped d && SeqAt.shaped (.list ds) && Nat.ble d.depth 40) with
    | false => rw [c] at e; cases e
    | true =>
      rw [c] at e
      simp only [Bool.and_eq_true] at c
      cases e
      exact ⟨d, ds, toPy_dp g 40 _ _ _ rx e1, .inr ⟨toPy_dp g 40 _ _ _ ry e2, c.1.2⟩, c.1.1, Nat.le_of_ble_eq_true c.2, q⟩
  · cases e
theorem cmpD_ok (g : Good X.K X.w μ S H) (hu : X.A.units + 64 < cLine) (op : CmpOp) {x y : D} {v u : V} {Q : VK} (rx : Rl X.K μ H x v) (ry : Rl X.K μ H y u) (h : RsP X.K X.w cls E μ H (cmpD op x y S) Q) : WOp X (compareOp op) v u H Q := by
  unfold cmpD at h
  cases op with
  | Eq =>
    dsimp only at h
    split at h
    · rename_i p q e1 e2
      obtain ⟨c, h⟩ := cond_P h
      rw [Bool.and_eq_true] at c
      exact ⟨_, op_eqD hu, p, q, toPy_dp g 40 _ _ _ rx e1, toPy_dp g 40 _ _ _ ry e2, c.1, c.2, h _ μ H Ext.refl g (.bl _)⟩
    · exact h.elim
  | NotEq =>
    dsimp only at h
    split at h
    · rename_i p q e1 e2
      obtain ⟨c, h⟩ := cond_P h
      rw [Bool.and_eq_true] at c
      exact ⟨_, op_neD hu, p, q, toPy_dp g 40 _ _ _ rx e1, toPy_dp g 40 _ _ _ ry e2, c.1, c.2, h _ μ H Ext.refl g (.bl _)⟩
    · exact h.elim
  | Lt =>
    dsimp only at h
    split at h
    · cases rx; cases ry
      exact ⟨_, op_lt, _, _, rfl, rfl, h _ μ H Ext.refl g (.bl _)⟩
    · exact h.elim
  | LtE =>
    dsimp only at h
    split at h
    · cases rx; cases ry
      exact ⟨_, op_le, _, _, rfl, rfl, h _ μ H Ext.refl g (.bl _)⟩
    · exact h.elim
  | Gt =>
    dsimp only at h
    split at h
    · cases rx; cases ry
      exact ⟨_, op_gt, _, _, rfl, rfl, h _ μ H Ext.refl g (.bl _)⟩
    · exact h.elim
  | GtE =>
    dsimp only at h
    split at h
    · cases rx; cases ry
      exact ⟨_, op_ge, _, _, rfl, rfl, h _ μ H Ext.refl g (.bl _)⟩
    · exact h.elim
  | Is =>
    dsimp only at h
    split at h
    · cases ry
      have q := h _ μ H Ext.refl g (.bl _)
      refine ⟨_, op_isN, rfl, ?_⟩
      cases rx <;> exact q
    · exact h.elim
  | IsNot =>
    dsimp only at h
    split at h
    · cases ry
      have q := h _ μ H Ext.refl g (.bl _)
      refine ⟨_, op_notN, rfl, ?_⟩
      cases rx <;> exact q
    · exact h.elim
  | In =>
    dsimp only at h
    split at h
    · rename_i b e
      rcases inD_ok (neg := false) g rx ry e (h _ μ H Ext.refl g (.bl _)) with z | z
      · exact ⟨_, op_in_seq, z⟩
      · exact ⟨_, op_inD hu, z⟩
    · split at h
      · rename_i b e
        exact ⟨_, op_inT hu, inT_ok (neg := false) g rx ry e (h _ μ H Ext.refl g (.bl _))⟩
      · exact h.elim
  | NotIn =>
    dsimp only at h
    split at h
    · rename_i b e
      rcases inD_ok (neg := true) g rx ry e (h _ μ H Ext.refl g (.bl _)) with z | z
      · exact ⟨_, op_notIn_seq, z⟩
      · exact ⟨_, op_notInD hu, z⟩
    · split at h
      · rename_i b e
        exact ⟨_, op_notInT hu, inT_ok (neg := true) g rx ry e (h _ μ H Ext.refl g (.bl _))⟩
      · exact h.elim
theorem atI_rl {K : PySem.W.Frag} {ds : List D} {vs : List V} (r : RlA K μ H ds vs) {i : Int} {d : D} (e : atI ds i = some d) : ∃ v, atI vs i = some v ∧ Rl K μ H d v := by
  unfold atI at e ⊢
  rw [r.length] at e
  cases h : ixN vs.length i with
  | none => rw [h] at e; cases e
  | some j =>
    rw [h] at e
    exact r.get e
theorem idxD_ok (g : Good X.K X.w μ S H) (hu : X.A.units + 64 < cLine) {x y : D} {v u : V} {Q : VK} (rx : Rl X.K μ H x v) (ry : Rl X.K μ H y u) (h : RsP X.K X.w cls E μ H (idxD x y S) Q) : WIx X v u H Q := by
  unfold idxD at h
  split at h
  · cases ry
    cases rx with
    | @tup a xs l p r =>
      split at h
      · rename_i d e
        obtain ⟨z, e2, rz⟩ := atI_rl r e
        exact ⟨_, ix_tup, a, xs, _, z, rfl, rfl, sqT_of p, e2, h _ μ H Ext.refl g rz⟩
      · exact h.elim
  · cases rx with
    | @ref n a p =>
      split at h
      · rename_i l e1
        obtain ⟨xs, h1, r⟩ := g.sq p (get_of e1)
        split at h
        · cases ry
          split at h
          · rename_i d e
            obtain ⟨z, e2, rz⟩ := atI_rl r e
            exact ⟨_, ix_list, a, xs, _, z, rfl, rfl, sqL_of h1, e2, h _ μ H Ext.refl g rz⟩
          · exact h.elim
        · exact h.elim
      · rename_i o _ e1
        split at h
        · rename_i d er
          obtain ⟨ov, g1, g2⟩ := dlook_ok g p e1 er ry
          cases g2 with
          | some rz => exact ⟨_, ix_dict hu, a, _, rfl, g1, h _ μ H Ext.refl g rz⟩
        · exact h.elim
      · exact h.elim
  · exact h.elim
theorem cut_rl {K : PySem.W.Frag} {ds : List D} {vs : List V} (r : RlA K μ H ds vs) (lo hi : Option Int) : RlA K μ H (cutD ds lo hi) (cutV vs lo hi) := by
  unfold cutD cutV
  rw [r.length]
  exact (r.drop _).take _
theorem slcD_ok (g : Good X.K X.w μ S H) {x : D} {v : V} {Q : VK} {lo hi : Option Int} (rx : Rl X.K μ H x v) (h : RsP X.K X.w cls E μ H (slcD x lo hi S) Q) : WSl X v lo hi H Q := by
  unfold slcD at h
  split at h
  · rename_i l
    cases rx with
    | @tup a xs _ p r =>
      refine ⟨_, sl_tupN, a, xs, rfl, sqT_of p, fun w => ?_, fun w q o hq od => ?_⟩
      · refine h _ μ H Ext.refl g ?_
        have e : cutD l lo hi = l := by
          unfold cutD
          rw [r.length, w.1, w.2, List.drop_zero, Nat.sub_zero, ← r.length, List.take_length]
        show Rl _ _ _ (.tup (cutD _ lo hi)) _
        rw [e]
        exact .tup p r
      · exact h _ μ _ (ext_new hq) (good_new g hq) (.tup (sqN_up upd_same od) (RlA.ext (ext_new hq) g (cut_rl r lo hi)))
  · cases rx with
    | @ref n a p =>
      split at h
      · rename_i l e1
        obtain ⟨xs, h1, r⟩ := g.sq p e1
        refine ⟨_, sl_list, a, xs, rfl, sqL_of h1, fun q hq => ?_⟩
        exact h _ (μ ++ [q]) _ (ext_lst hq) (good_lst g hq (cut_rl r lo hi)) (.ref (at_last g))
      · exact h.elim
  · exact h.elim
theorem tru_ok' {K : PySem.W.Frag} (g : Good K w μ S H) {x : D} {v : V} {b : Bool} (rx : Rl K μ H x v) (e : truD S x = some b) : TruV K v H b := by
  cases rx with
  | non => cases e; rfl
  | bl c => cases e; rfl
  | int i => cases e; rfl
  | str s => cases e
  | fn h => cases e
  | tpf h q => cases e
  | @ref n a p =>
    unfold truD at e
    dsimp only at e
    cases e1 : S.get n with
    | none => rw [e1] at e; cases e
    | some l =>
      rw [e1] at e
      cases e
      obtain ⟨xs, h1, r⟩ := g.sq p e1
      refine .inl ⟨xs, sqL_of h1, ?_⟩
      cases r <;> rfl
  | @tup a xs l p r =>
    cases e
    refine .inr (.inl ⟨xs, sqT_of p, ?_⟩)
    cases r <;> rfl
theorem vals1' {K : PySem.W.Frag} {x : D} {vs : List V} (r : RlA K μ H [x] vs) : ∃ v, vs = [v] ∧ Rl K μ H x v := by
  cases r with
  | cons a t => cases t; exact ⟨_, rfl, a⟩
theorem vals2' {K : PySem.W.Frag} {x y : D} {vs : List V} (r : RlA K μ H [x, y] vs) : ∃ v u, vs = [v, u] ∧ Rl K μ H x v ∧ Rl K μ H y u := by
  cases r with
  | cons a t =>
    obtain ⟨u, rfl, b⟩ := vals1' t
    exact ⟨_, _, rfl, a, b⟩
theorem rl_int {K : PySem.W.Frag} {i : Int} {v : V} (r : Rl K μ H (.int i) v) : v = .int i := by cases r; rfl
theorem rl_bl {K : PySem.W.Frag} {i : Bool} {v : V} (r : Rl K μ H (.bl i) v) : v = .bl i := by cases r; rfl
theorem rl_ref {K : PySem.W.Frag} {n : Nat} {v : V} (r : Rl K μ H (.ref n) v) : ∃ a, v = .ref a ∧ μ[n]? = some a := by cases r; exact ⟨_, rfl, by assumption⟩
theorem rl_tup {K : PySem.W.Frag} {l : List D} {v : V} (r : Rl K μ H (.tup l) v) : ∃ a xs, v = .ref a ∧ SqN K H a xs ∧ RlA K μ H l xs := by cases r; exact ⟨_, _, rfl, by assumption, by assumption⟩
def biV : BI → Value
  | .sum => .builtin "sum" | .max => .builtin "max" | .divmod => .builtin "divmod"
  | .len => .builtin "len" | .abs => .builtin "abs" | .int => .type "int" | .bool => .type "bool" | .all => .builtin "all" | .any => .builtin "any" | .tuple => .type "tuple" | .list => .type "list" | .gcd => .builtin "math.gcd" | .sorted => .builtin "sorted" | .min => .builtin "min" | .dict => .type "dict" | .perm => .builtin "math.perm" | .comb => .builtin "math.comb"
theorem lenOf_ok {K : PySem.W.Frag} (g : Good K w μ S H) {x : D} {v : V} {n : Nat} (rx : Rl K μ H x v) (e : lenOf S x = some n) : LenV K v H n := by
  cases rx with
  | non => cases e
  | bl c => cases e
  | int i => cases e
  | str s =>
    unfold lenOf at e
    dsimp only at e
    cases c : smallB s.length with
    | false => rw [c] at e; cases e
    | true => rw [c] at e; cases e; exact ⟨small_of c, rfl⟩
  | fn h => cases e
  | tpf h q => cases e
  | @ref m a p =>
    unfold lenOf at e
    dsimp only at e
    cases e1 : S.get m with
    | none => rw [e1] at e; cases e
    | some l =>
      rw [e1] at e
      cases e
      obtain ⟨xs, h1, r⟩ := g.sq p e1
      exact .inl ⟨xs, sqL_of h1, r.length⟩
  | @tup a xs l p r =>
    cases e
    exact .inr ⟨xs, sqT_of p, r.length⟩
def rSrt (K : PySem.W.Frag) : List V → Hp → VK → Prop := fun vs H Q => ∃ (a : Addr) (xs : List V) (l : List D) (ps : List PyData) (μ : List Addr) (S : Sto) (w : World), vs = [.ref a] ∧ H a = some (.lst xs) ∧ RlA K μ H l xs ∧ Good K w μ S H ∧ mapO (toPy S 40) l = some ps ∧
  (smallB l.length && alikeB ps && sortableB ps && shallow ps) = true ∧ ∀ p ys, H p = none → RlA K μ H ((isort leP (l.zip ps)).map (·.1)) ys → Q (.ref p) (upd H p (.lst ys))
theorem reads_each {K : PySem.W.Frag} {X : Cx} {pins : List (Addr × Obj)} {σ : L2.St} {s : Shared} (I : Inv X pins σ H s) (hK : X.K = K) (g : Good K w μ S H) : ∀ {l : List D} {xs : List V} {us : List Value} {ps : List PyData}, RlA K μ H l xs → Vals xs us → mapO (toPy S 40) l = some ps →
    PySem.W.EachIs (fun (v : Value) (b : D × PyData) => ∃ as, Reads s.heap v b.2 as) us (l.zip ps)
  | [], _, _, _, .nil, .nil, e => by
    rw [List.zip_nil_left]
    exact .nil
  | d :: l, _, _, ps, .cons a t, .cons b t', e => by
    unfold mapO at e
    cases e1 : toPy S 40 d with
    | none => rw [e1] at e; cases e
    | some p =>
      rw [e1] at e
      cases e2 : mapO (toPy S 40) l with
      | none => rw [e2] at e; cases e
      | some ps' =>
        rw [e2] at e
        cases e
        subst hK
        exact .cons (Dp.reads I p _ _ (toPy_dp g 40 d _ p a e1) b) (reads_each I rfl g t t' e2)
theorem cr_srt {X : Cx} (hu : X.A.units + 64 < cLine) : CallR X (.builtin "sorted") (rSrt X.K) := by
  intro pins s σ H vs us Q I r h
  obtain ⟨a, xs, l, ps, μ, S, wd, rfl, hs, rl, g, e, c, q⟩ := h
  simp only [Bool.and_eq_true] at c
  obtain ⟨⟨⟨c1, c2⟩, c3⟩, c4⟩ := c
  obtain ⟨its, rv, hl, _⟩ := I.list (.inl (.inl hs))
  rw [Vals.ref1 r]
  have hlen := mapO_len e
  have hz := zip_snd hlen
  have hzl : (l.zip ps).length = l.length := by rw [List.length_zip, hlen, Nat.min_self]
  refine PySem.W.sorted_data (enc := fun p : D × PyData => p.2) hl.isList (each_zip rl rv hlen) (reads_each I rfl g rl rv e) (by rw [hz]; exact alikeB_is c2) (by rw [hz]; exact sortableB_is c3) (by rw [hzl]; exact small_of c1) (fun b hb => ?_) fun out ho eo => ?_
  · have hb2 : b.2 ∈ ps := by rw [← hz]; exact List.mem_map.mpr ⟨b, hb, rfl⟩
    have := Nat.le_of_ble_eq_true (List.all_eq_true.mp c4 b.2 hb2)
    show X.A.units + 2 + b.2.depth < cLine
    omega
  · rw [← leP_is, ← isort_is leP_total] at eo
    obtain ⟨ys, v1, v2⟩ := each_back eo
    obtain ⟨ep, he'⟩ := PyProof.Rows.sortedAll_at s.heap its out.toArray
    have hys : ys.length ≤ sizeLine := by
      rw [v1.length, ho, hzl]
      exact small_of c1
    exact ⟨.ref _, upd H (s.heap.objs.size + 1) (.lst ys), I.laid (t' := s.toks) (fun _ _ => PyProof.Rows.sortedAll_old) (Nat.le_succ _) ⟨hys, out, ep, v1, by simpa using he'⟩, rfl, q _ ys (I.hok.fresh (Nat.le_succ _)) v2⟩
def rMinP (K : PySem.W.Frag) : List V → Hp → VK → Prop := fun vs H Q => ∃ (a : Addr) (xs : List V) (l : List D) (p : PyData) (ps : List PyData) (μ : List Addr) (S : Sto) (w : World) (d : D), vs = [.ref a] ∧ H a = some (.lst xs) ∧ RlA K μ H l xs ∧ Good K w μ S H ∧ mapO (toPy S 40) l = some (p :: ps) ∧
  (alikeB (p :: ps) && simple2 (p :: ps) && Nat.ble (PyData.depthAll (p :: ps)) 40 && (p :: ps).all SeqAt.shaped && SeqAt.shaped (PySem.W.minD p ps)) = true ∧ fromPy (PySem.W.minD p ps) = some d ∧ ∀ v, Rl K μ H d v → Q v H
theorem reads_all {K : PySem.W.Frag} {X : Cx} {pins : List (Addr × Obj)} {σ : L2.St} {s : Shared} (I : Inv X pins σ H s) (hK : X.K = K) (g : Good K w μ S H) {l : List D} {xs : List V} {us : List Value} {ps : List PyData} (r : RlA K μ H l xs) (v : Vals xs us) (e : mapO (toPy S 40) l = some ps) :
    ∃ as, ReadsAll s.heap us ps as := by
  subst hK
  exact Dp.readsAll I ps xs us (toPys_dp g (toPy_dp g 40) l xs ps r e) v
theorem cr_minP {X : Cx} (hc : X.calm = true) (hu : X.A.units + 64 < cLine) : CallR X (.builtin "min") (rMinP X.K) := by
  intro pins s σ H vs us Q I r h
  obtain ⟨a, xs, l, p, ps, μ, S, wd, d, rfl, hs, rl, g, e, c, ed, q⟩ := h
  simp only [Bool.and_eq_true] at c
  obtain ⟨⟨⟨⟨c1, c2⟩, c3⟩, c4⟩, c5⟩ := c
  obtain ⟨its, rv, hl, _⟩ := I.list (.inl (.inl hs))
  rw [Vals.ref1 r]
  obtain ⟨as, ra⟩ := reads_all I rfl g rl rv e
  refine PySem.W.min_list_data (vs := its.toArray) (I.ok.hd hc) hl.isList (by simpa using ra) ⟨alikeB_is c1, fun x hx => ?_⟩ ?_ fun i v h' tk bs hv rd hk => ?_
  · have := List.all_eq_true.mp c2 x hx
    intro z
    subst z
    cases this
  · have := Nat.le_of_ble_eq_true c3
    show X.A.units + 1 + _ < cLine
    omega
  · have hv' : its[i]? = some v := by simpa using hv
    obtain ⟨bs', rd0, hi, hm, _⟩ := PySem.W.readsAll_at ra i v hv'
    have rd1 : Reads h' v ((p :: ps).getD i .none) bs' := PyProof.Rows.Reads.keeps hk rd0
    have cl : ((p :: ps).getD i .none).canLay0 = true := SeqAt.canLay_of_shaped (List.all_eq_true.mp c4 _ hm)
    have e1 := SeqAt.readOf_eq cl rd1
    have e2 := SeqAt.readOf_eq (SeqAt.canLay_of_shaped c5) rd
    have e3 : (p :: ps).getD i .none = PySem.W.minD p ps := e1.symm.trans e2
    have e4 : (p :: ps)[i]? = some (PySem.W.minD p ps) := by
      rw [← e3, List.getD_eq_getElem?_getD, List.getElem?_eq_getElem hi]
      rfl
    obtain ⟨x, hx, tx⟩ := mapO_get e e4
    obtain ⟨y, hy, ry⟩ := rl.get hx
    have ex := from_to 40 x _ d tx ed
    subst ex
    obtain ⟨u, hu1, hu2⟩ := rv.get hy
    rw [hv'] at hu1
    cases hu1
    exact ⟨y, H, I.kept (t' := tk) hk, hu2, q y ry⟩
/-- min, max of a list, with default -/
def rMdf (X : Cx) (mx : Bool) : List V → List V → Hp → VK → Prop := fun vs zs H Q => ∃ (a : Addr) (xs : List V) (l : List D) (μ : List Addr) (S : Sto) (w : World) (zv : V), vs = [.ref a] ∧ zs = [zv] ∧ H a = some (.lst xs) ∧ RlA X.K μ H l xs ∧ Good X.K w μ S H ∧
  ((l = [] ∧ Q zv H) ∨ ∃ (p : PyData) (ps : List PyData) (best : PyData) (d : D), mapO (toPy S 40) l = some (p :: ps) ∧ best = (if mx = true then PySem.W.maxD p ps else PySem.W.minD p ps) ∧
    (alikeB (p :: ps) && simple2 (p :: ps) && Nat.ble (PyData.depthAll (p :: ps)) 40 && (p :: ps).all SeqAt.shaped && SeqAt.shaped best) = true ∧ fromPy best = some d ∧ ∀ v, Rl X.K μ H d v → Q v H)
theorem crk_mdf {X : Cx} {mx : Bool} {id : String} (hid : id = if mx = true then "max" else "min") (hc : X.calm = true) (hu : X.A.units + 64 < cLine) : CallRK X (.builtin id) ["default"] (rMdf X mx) := by
  intro pins s σ H vs zs us ws Q I r1 r2 h
  obtain ⟨a, xs, l, μ, S, wd, zv, rfl, rfl, hs, rl, g, h⟩ := h
  obtain ⟨its, rv, pl, _⟩ := I.list (.inl (.inl hs))
  rw [Vals.ref1 r1]
  cases r2 with
  | @cons _ zu _ _ rz rn =>
  cases rn
  have goal : ∀ {p : PyData} {ps : List PyData} {best : PyData} {d : D} (e : mapO (toPy S 40) l = some (p :: ps)) (c : (alikeB (p :: ps) && simple2 (p :: ps) && Nat.ble (PyData.depthAll (p :: ps)) 40 && (p :: ps).all SeqAt.shaped && SeqAt.shaped best) = true) (ed : fromPy best = some d) (q : ∀ v, Rl X.K μ H d v → Q v H) {as : List Addr} (ra : ReadsAll s.heap its (p :: ps) as)
      (i : Nat) (v : Value) (h' : Heap) (tk : Nat) (bs : List Addr), its.toArray[i]? = some v → Reads h' v best bs → (∀ b o, s.heap.get? b = some o → h'.get? b = some o) → EP X pins σ Q v { s with heap := h', toks := tk } := by
    intro p ps best d e c ed q as ra i v h' tk bs hv rd hk
    simp only [Bool.and_eq_true] at c
    obtain ⟨⟨⟨⟨c1, c2⟩, c3⟩, c4⟩, c5⟩ := c
    have hv' : its[i]? = some v := by simpa using hv
    obtain ⟨bs', rd0, hi, hm, _⟩ := PySem.W.readsAll_at ra i v hv'
    have rd1 : Reads h' v ((p :: ps).getD i .none) bs' := PyProof.Rows.Reads.keeps hk rd0
    have e3 : (p :: ps).getD i .none = best := (SeqAt.readOf_eq (SeqAt.canLay_of_shaped (List.all_eq_true.mp c4 _ hm)) rd1).symm.trans (SeqAt.readOf_eq (SeqAt.canLay_of_shaped c5) rd)
    have e4 : (p :: ps)[i]? = some best := by
      rw [← e3, List.getD_eq_getElem?_getD, List.getElem?_eq_getElem hi]
      rfl
    obtain ⟨x, hx, tx⟩ := mapO_get e e4
    obtain ⟨y, hy, ry⟩ := rl.get hx
    have ex := from_to 40 x _ d tx ed
    subst ex
    obtain ⟨u, hu1, hu2⟩ := rv.get hy
    rw [hv'] at hu1
    cases hu1
    exact ⟨y, H, I.kept (t' := tk) hk, hu2, q y ry⟩
  have fine : ∀ {p : PyData} {ps : List PyData} {best : PyData}, (alikeB (p :: ps) && simple2 (p :: ps) && Nat.ble (PyData.depthAll (p :: ps)) 40 && (p :: ps).all SeqAt.shaped && SeqAt.shaped best) = true → PySem.W.AlikeAll (p :: ps) ∧ X.A.units + 1 + PyData.depthAll (p :: ps) < cLine := by
    intro p ps best c
    simp only [Bool.and_eq_true] at c
    obtain ⟨⟨⟨⟨c1, c2⟩, c3⟩, c4⟩, c5⟩ := c
    refine ⟨⟨alikeB_is c1, fun x hx z => ?_⟩, ?_⟩
    · have := List.all_eq_true.mp c2 x hx
      subst z
      cases this
    · have := Nat.le_of_ble_eq_true c3
      omega
  have kw : (["default"] : List Str).zip [zu] = [(Str.ofString "default", zu)] := rfl
  rw [kw]
  rcases h with ⟨rfl, q⟩ | ⟨p, ps, best, d, e, eb, c, ed, q⟩
  · cases rl
    cases rv
    have fin : ∀ h' tk, (∀ b o, s.heap.get? b = some o → h'.get? b = some o) → EP X pins σ Q zu { s with heap := h', toks := tk } := fun h' tk hk => ⟨zv, H, I.kept (t' := tk) hk, rz, q⟩
    have al : PySem.W.AlikeAll [] := ⟨alikeB_is rfl, fun p hp => by cases hp⟩
    have un : X.A.units + 1 + PyData.depthAll [] < cLine := by
      show X.A.units + 1 + 0 < cLine
      omega
    cases mx with
    | true =>
      subst hid
      exact PySem.W.max_list_default (vs := #[]) (xs := []) (as := []) (I.ok.hd hc) pl.isList (by constructor) al un (fun _ h' tk hk => fin h' tk hk) fun y ys i v h' tk bs z => by cases z
    | false =>
      subst hid
      exact PySem.W.min_list_default (vs := #[]) (xs := []) (as := []) (I.ok.hd hc) pl.isList (by constructor) al un (fun _ h' tk hk => fin h' tk hk) fun y ys i v h' tk bs z => by cases z
  · obtain ⟨as, ra⟩ := reads_all I rfl g rl rv e
    obtain ⟨al, un⟩ := fine c
    cases mx with
    | true =>
      subst hid
      refine PySem.W.max_list_default (vs := its.toArray) (xs := p :: ps) (I.ok.hd hc) pl.isList (by simpa using ra) al un (fun z => by cases z) fun y ys i v h' tk bs z hv rd hk => ?_
      cases z
      subst eb
      exact goal e c ed q ra i v h' tk bs hv rd hk
    | false =>
      subst hid
      refine PySem.W.min_list_default (vs := its.toArray) (xs := p :: ps) (I.ok.hd hc) pl.isList (by simpa using ra) al un (fun z => by cases z) fun y ys i v h' tk bs z hv rd hk => ?_
      cases z
      subst eb
      exact goal e c ed q ra i v h' tk bs hv rd hk
theorem mdfD_ok (g : Good X.K X.w μ S H) {mx : Bool} {x z : D} {v u : V} {Q : VK} (rx : Rl X.K μ H x v) (rz : Rl X.K μ H z u) (h : RsP X.K X.w cls E μ H (mdfD mx x z S) Q) : rMdf X mx [v] [u] H Q := by
  unfold mdfD at h
  split at h
  · obtain ⟨a, rfl, p⟩ := rl_ref rx
    split at h
    · rename_i e1
      obtain ⟨xs, h1, rr⟩ := g.sq p e1
      exact ⟨a, xs, [], μ, S, X.w, u, rfl, rfl, h1, rr, g, .inl ⟨rfl, h u μ H Ext.refl g rz⟩⟩
    · rename_i l _ e1
      obtain ⟨xs, h1, rr⟩ := g.sq p e1
      split at h
      · rename_i pd ps e2
        split at h
        · obtain ⟨c, h⟩ := cond_P h
          split at h
          · rename_i d ed
            exact ⟨a, xs, l, μ, S, X.w, u, rfl, rfl, h1, rr, g, .inr ⟨pd, ps, _, d, e2, rfl, c, ed, fun v rv => h v μ H Ext.refl g rv⟩⟩
          · exact h.elim
        · obtain ⟨c, h⟩ := cond_P h
          split at h
          · rename_i d ed
            exact ⟨a, xs, l, μ, S, X.w, u, rfl, rfl, h1, rr, g, .inr ⟨pd, ps, _, d, e2, rfl, c, ed, fun v rv => h v μ H Ext.refl g rv⟩⟩
          · exact h.elim
      · exact h.elim
    · exact h.elim
  · exact h.elim
theorem ints_rl {K : PySem.W.Frag} : ∀ {ds : List D} {vs : List V} {is : List Int}, RlA K μ H ds vs → intsD ds = some is → vs = is.map V.int
  | _, _, _, .nil, e => by cases e; rfl
  | d :: ds, _, _, .cons a t, e => by
    unfold intsD mapO at e
    cases a with
    | int b =>
      dsimp only at e
      cases e2 : intsD ds with
      | none =>
        have e3 := e2
        unfold intsD at e3
        rw [e3] at e
        cases e
      | some is =>
        have e3 := e2
        unfold intsD at e3
        rw [e3] at e
        cases e
        rw [ints_rl t e2]
        rfl
    | _ => cases e
theorem rl_ints {K : PySem.W.Frag} : ∀ is : List Int, RlA K μ H (is.map D.int) (is.map V.int)
  | [] => .nil
  | i :: is => .cons (.int i) (rl_ints is)
theorem storeP_ok {K : PySem.W.Frag} {w : World} {μ : List Addr} {H : Hp} (i : Int) {e : D} {z : V} (re : Rl K μ H e z) {p : List Int × List D} {vs : List V} (h : p.1.length = p.2.length) (r : RlA K μ H p.2 vs) :
    ∃ vs', RlA K μ H (storeP p i e).2 vs' ∧ putK (kvI p.1 vs) (.inl i) z = kvI (storeP p i e).1 vs' ∧ (storeP p i e).1.length = (storeP p i e).2.length := by
  have o := store_I (w := w) (a := 0) i re h r
  have e0 : storeI p.1 p.2 i e = .dki (storeP p i e).1 (storeP p i e).2 := by
    unfold storeI storeP
    cases (lookI p.1 p.2 i).isSome <;> rfl
  rw [e0] at o
  generalize eh : HO.dK (putK (kvI p.1 vs) (.inl i) z) = ho at o
  cases o with
  | dki hl rr =>
    injection eh with eh
    exact ⟨_, rr, eh, hl⟩
theorem mergeP_ok {K : PySem.W.Frag} {w : World} {μ : List Addr} {H : Hp} : ∀ {ks : List Int} {ds : List D} {vs : List V} {p : List Int × List D} {us : List V}, ks.length = ds.length → RlA K μ H ds vs → p.1.length = p.2.length → RlA K μ H p.2 us →
    ∃ us', RlA K μ H (mergeP ks ds p).2 us' ∧ mergeK (kvI p.1 us) (kvI ks vs) = kvI (mergeP ks ds p).1 us' ∧ (mergeP ks ds p).1.length = (mergeP ks ds p).2.length
  | [], [], _, p, us, _, .nil, h, r => ⟨us, r, rfl, h⟩
  | k :: ks, d :: ds, _, p, us, hl, .cons (v := v) (vs := vs) a t, h, r => by
    obtain ⟨us1, h1, h2, h3⟩ := storeP_ok (w := w) k a h r
    obtain ⟨us2, g1, g2, g3⟩ := mergeP_ok (w := w) (p := storeP p k d) (ks := ks) (by simpa using hl) t h3 h1
    refine ⟨us2, g1, ?_, g3⟩
    rw [← h2] at g2
    exact g2
  | [], _ :: _, _, _, _, h, _, _, _ => by cases h
  | _ :: _, [], _, _, _, h, _, _, _ => by cases h
/-- pairs, told by their places -/
theorem pairD_ok {K : PySem.W.Frag} : ∀ {l : List D} {xs : List V} {ks : List Int} {ds : List D}, RlA K μ H l xs → pairD l = some (ks, ds) → ∃ (ps : List Addr) (vs : List V), xs = ps.map V.ref ∧ ks.length = ds.length ∧ RlA K μ H ds vs ∧ Paired (fun (p : Addr) (kv : Key × V) => SqT K H p [kV kv.1, kv.2]) ps (kvI ks vs)
  | [], _, _, _, .nil, e => by cases e; exact ⟨[], [], rfl, rfl, .nil, .nil⟩
  | d :: l, _, ks, ds, .cons a t, e => by
    unfold pairD at e
    split at e
    · rename_i h; cases h
    · rename_i k d0 r h
      cases h
      split at e
      · rename_i ks' ds' e1
        cases e
        obtain ⟨ps, vs, h1, h2, h3, h4⟩ := pairD_ok t e1
        cases a with
        | @tup p xs _ hp hx =>
          cases hx with
          | cons i hx =>
            cases i
            cases hx with
            | @cons _ _ v _ w hx =>
              cases hx
              exact ⟨p :: ps, v :: vs, by rw [h1]; rfl, by simp [h2], .cons w h3, .cons (SqN.sqT hp) h4⟩
      · cases e
    · cases e
theorem cr_perm {X : Cx} : CallR X (.builtin "math.perm") (fun xs H Q => ∃ a b : Int, xs = [.int a, .int b] ∧ (0 ≤ a ∧ 0 ≤ b ∧ a < 1000 ∧ b < 1000) ∧ Q (.int (PySem.W.mcPerm a b)) H) := by
  intro pins s σ H vs us Q I r h
  obtain ⟨a, b, rfl, c, q⟩ := h
  obtain ⟨t, u, rfl⟩ := Vals.int2 r
  exact PySem.W.mc_perm c.1 c.2.1 (by omega) (by omega) fun _ => ⟨.int _, H, I.tok _, ⟨_, rfl⟩, q⟩
theorem cr_comb {X : Cx} : CallR X (.builtin "math.comb") (fun xs H Q => ∃ a b : Int, xs = [.int a, .int b] ∧ (0 ≤ a ∧ 0 ≤ b ∧ a < 1000 ∧ b < 1000) ∧ Q (.int (PySem.W.mcComb a b)) H) := by
  intro pins s σ H vs us Q I r h
  obtain ⟨a, b, rfl, c, q⟩ := h
  obtain ⟨t, u, rfl⟩ := Vals.int2 r
  exact PySem.W.mc_comb c.1 c.2.1 (by omega) (.inl (by omega)) fun _ => ⟨.int _, H, I.tok _, ⟨_, rfl⟩, q⟩
theorem biD_ok (g : Good X.K X.w μ S H) (hc : X.calm = true) (hu : X.A.units + 64 < cLine) (b : BI) {ds : List D} {vs : List V} {Q : VK} (r : RlA X.K μ H ds vs) (h : RsP X.K X.w cls E μ H (biD b ds S) Q) : WCa X (biV b) vs H Q := by
  unfold biD at h
  split at h
  · obtain ⟨v, rfl, rv⟩ := vals1' r
    split at h
    · rename_i n e
      exact ⟨_, call_len, v, n, rfl, lenOf_ok g rv e, h _ μ H Ext.refl g (.int _)⟩
    · split at h
      · rename_i n _
        split at h
        · rename_i ks ds e
          obtain ⟨a, rfl, p⟩ := rl_ref rv
          obtain ⟨o, ho, h1, h2, h3⟩ := g.at_ n a p
          rw [e] at h1
          cases h1
          cases h3 with
          | dki hl rr =>
            refine ⟨_, call_lenD, a, _, rfl, h2, ?_⟩
            rw [List.length_map, List.length_zip, ← rr.length, ← hl, Nat.min_self]
            exact h _ μ H Ext.refl g (.int _)
        · exact h.elim
      · exact h.elim
  · obtain ⟨v, rfl, rv⟩ := vals1' r
    cases rv
    exact ⟨_, call_abs, _, rfl, h _ μ H Ext.refl g (.int _)⟩
  · obtain ⟨v, rfl, rv⟩ := vals1' r
    cases rv
    exact ⟨_, call_int1, .inl ⟨_, rfl, h _ μ H Ext.refl g (.int _)⟩⟩
  · obtain ⟨v, rfl, rv⟩ := vals1' r
    cases rv
    exact ⟨_, call_int1, .inr ⟨_, rfl, h _ μ H Ext.refl g (.int _)⟩⟩
  · obtain ⟨v, rfl, rv⟩ := vals1' r
    cases rv
    exact ⟨_, call_bool1, .inl ⟨_, rfl, h _ μ H Ext.refl g (.bl _)⟩⟩
  · obtain ⟨v, rfl, rv⟩ := vals1' r
    cases rv
    exact ⟨_, call_bool1, .inr ⟨_, rfl, h _ μ H Ext.refl g (.bl _)⟩⟩
  · obtain ⟨v, rfl, rv⟩ := vals1' r
    obtain ⟨a, rfl, p⟩ := rl_ref rv
    split at h
    · rename_i l e1
      obtain ⟨xs, h1, rr⟩ := g.sq p e1
      split at h
      · rename_i bs e2
        have e3 := bools_rl rr e2
        subst e3
        exact ⟨_, cr_all hc, a, bs, rfl, sqL_of h1, h _ μ H Ext.refl g (.bl _)⟩
      · exact h.elim
    · exact h.elim
  · obtain ⟨v, rfl, rv⟩ := vals1' r
    obtain ⟨a, rfl, p⟩ := rl_ref rv
    split at h
    · rename_i l e1
      obtain ⟨xs, h1, rr⟩ := g.sq p e1
      split at h
      · rename_i bs e2
        have e3 := bools_rl rr e2
        subst e3
        exact ⟨_, cr_any hc, a, bs, rfl, sqL_of h1, h _ μ H Ext.refl g (.bl _)⟩
      · exact h.elim
    · exact h.elim
  · obtain ⟨v, rfl, rv⟩ := vals1' r
    obtain ⟨a, xs, rfl, p, rr⟩ := rl_tup rv
    exact ⟨_, call_tupleN, a, xs, rfl, .inr ⟨sqT_of p, h _ μ H Ext.refl g (.tup p rr)⟩⟩
  · obtain ⟨v, rfl, rv⟩ := vals1' r
    obtain ⟨a, rfl, p⟩ := rl_ref rv
    split at h
    · rename_i l e1
      obtain ⟨xs, h1, rr⟩ := g.sq p e1
      exact ⟨_, call_tupleN, a, xs, rfl, .inl ⟨sqL_of h1, fun q o hq od => h _ μ _ (ext_new hq) (good_new g hq) (.tup (sqN_up upd_same od) (RlA.ext (ext_new hq) g rr))⟩⟩
    · exact h.elim
  · obtain ⟨v, rfl, rv⟩ := vals1' r
    obtain ⟨a, xs, rfl, p, rr⟩ := rl_tup rv
    exact ⟨_, call_list_of, a, xs, rfl, .inr (sqT_of p), fun q hq => h _ (μ ++ [q]) _ (ext_lst hq) (good_lst g hq rr) (.ref (at_last g))⟩
  · obtain ⟨v, rfl, rv⟩ := vals1' r
    obtain ⟨a, rfl, p⟩ := rl_ref rv
    split at h
    · rename_i l e1
      obtain ⟨xs, h1, rr⟩ := g.sq p e1
      exact ⟨_, call_list_of, a, xs, rfl, .inl (sqL_of h1), fun q hq => h _ (μ ++ [q]) _ (ext_lst hq) (good_lst g hq rr) (.ref (at_last g))⟩
    · exact h.elim
  · obtain ⟨v, rfl, rv⟩ := vals1' r
    obtain ⟨a, rfl, p⟩ := rl_ref rv
    split at h
    · rename_i l e1
      obtain ⟨xs, h1, rr⟩ := g.sq p e1
      split at h
      · rename_i ps e2
        obtain ⟨c, h⟩ := cond_P h
        exact ⟨_, cr_srt hu, a, xs, l, ps, μ, S, X.w, rfl, h1, rr, g, e2, c, fun q ys hq ry => h _ (μ ++ [q]) _ (ext_lst hq) (good_lst g hq ry) (.ref (at_last g))⟩
      · exact h.elim
    · split at h
      · rename_i ks ds eo
        obtain ⟨c, h⟩ := cond_P h
        rw [Bool.and_eq_true] at c
        have l64 : ks.length < 64 := Nat.le_of_ble_eq_true c.1
        have nd : ks.Nodup := of_decide_eq_true c.2
        obtain ⟨o', ho, f1, f2, f3⟩ := g.at_ _ _ p
        rw [eo] at f1
        cases f1
        cases f3 with
        | @dki _ _ vs hl rr =>
          refine ⟨_, call_sortedDI hc, a, kvI ks vs, ks, rfl, .inl f2, kvI_keys (K := X.K) (μ := μ) (H := H) hl rr, l64, fun ys q pm pw hq => ?_⟩
          have e1 : ys.Pairwise (· < ·) := (pw.and (pm.nodup_iff.mpr nd)).imp fun {x y} z => Int.lt_iff_le_and_ne.mpr z
          have e2 : ys = sortF id ks := sort_ints e1 fun k => pm.mem_iff
          rw [e2]
          exact h _ (μ ++ [q]) _ (ext_lst hq) (good_lst g hq (rl_ints _)) (.ref (at_last g))
      · exact h.elim
  · obtain ⟨v, rfl, rv⟩ := vals1' r
    obtain ⟨a, rfl, p⟩ := rl_ref rv
    split at h
    · rename_i l e1
      obtain ⟨xs, h1, rr⟩ := g.sq p e1
      split at h
      · rename_i pd ps e2
        obtain ⟨c, h⟩ := cond_P h
        split at h
        · rename_i d ed
          exact ⟨_, cr_minP hc hu, a, xs, l, pd, ps, μ, S, X.w, d, rfl, h1, rr, g, e2, c, ed, fun v rv => h v μ H Ext.refl g rv⟩
        · exact h.elim
      · exact h.elim
    · exact h.elim
  · obtain ⟨v, rfl, rv⟩ := vals1' r
    obtain ⟨a, rfl, p⟩ := rl_ref rv
    split at h
    · rename_i l e1
      obtain ⟨xs, h1, rr⟩ := g.sq p e1
      split at h
      · rename_i is e2
        have e3 := ints_rl rr e2
        subst e3
        exact ⟨_, cr_sum hc, a, is, rfl, sqL_of h1, h _ μ H Ext.refl g (.int _)⟩
      · exact h.elim
    · exact h.elim
  · obtain ⟨v, u, rfl, rv, ru⟩ := vals2' r
    cases rv
    cases ru
    exact ⟨_, call_max2 hc, _, _, rfl, h _ μ H Ext.refl g (.int _)⟩
  · obtain ⟨v, u, rfl, rv, ru⟩ := vals2' r
    cases rv
    cases ru
    obtain ⟨c, h⟩ := cond_P h
    simp only [Bool.and_eq_true, decide_eq_true_eq] at c
    refine ⟨_, call_divmodN, _, _, rfl, ⟨c.1, c.2⟩, fun p o hp od => ?_⟩
    exact h _ μ _ (ext_new hp) (good_new g hp) (.tup (sqN_up upd_same od) (.cons (.int _) (.cons (.int _) .nil)))
  · obtain ⟨v, rfl, rv⟩ := vals1' r
    unfold dictD at h
    split at h
    · rename_i l
      split at h
      · rename_i ks ds e1
        cases rv with
        | @tup a xs _ hq rr =>
          obtain ⟨ps, vs, h1, h2, h3, h4⟩ := pairD_ok rr e1
          subst h1
          refine ⟨_, call_dictT hc, a, ps, kvI ks vs, rfl, hq, h4, fun p hp => ?_⟩
          obtain ⟨us', m1, m2, m3⟩ := mergeP_ok (w := X.w) (p := ([], [])) (us := []) h2 h3 rfl .nil
          have m2 : mergeK [] (kvI ks vs) = kvI (mergeP ks ds ([], [])).1 us' := m2
          rw [m2]
          exact h _ (μ ++ [p]) _ (ext_obj hp) (good_obj g hp (.dki m3 m1)) (.ref (at_last g))
      · exact h.elim
    · exact h.elim
  · obtain ⟨v, u, rfl, rv, ru⟩ := vals2' r
    cases rv
    cases ru
    obtain ⟨c, h⟩ := cond_P h
    simp only [Bool.and_eq_true, decide_eq_true_eq] at c
    exact ⟨_, cr_perm, _, _, rfl, ⟨c.1.1.1, c.1.1.2, c.1.2, c.2⟩, h _ μ H Ext.refl g (.int _)⟩
  · obtain ⟨v, u, rfl, rv, ru⟩ := vals2' r
    cases rv
    cases ru
    obtain ⟨c, h⟩ := cond_P h
    simp only [Bool.and_eq_true, decide_eq_true_eq] at c
    exact ⟨_, cr_comb, _, _, rfl, ⟨c.1.1.1, c.1.1.2, c.1.2, c.2⟩, h _ μ H Ext.refl g (.int _)⟩
  · obtain ⟨v, u, rfl, rv, ru⟩ := vals2' r
    cases rv
    cases ru
    exact ⟨_, cr_gcd, _, _, rfl, h _ μ H Ext.refl g (.int _)⟩
  · exact h.elim
end
end EV
set_option Elab.async false
set_option linter.all false
set_option maxRecDepth 100000
set_option maxHeartbeats 4000000
namespace EV
open PySem PySem.Spec PyProof.Rows L2

/-! ## isinstance, methods -/
section
variable {X : Cx} {cls : Nat → Addr × Option Str} {E : XK} {w : World} {μ : List Addr} {H : Hp} {S : Sto}
theorem tyx_of {K : PySem.W.Frag} (g : Good K w μ S H) {x : D} {v : V} (r : Rl K μ H x v) (hn : tyN S x ≠ "") : TyX K H v (.type (tyN S x)) := by
  cases r with
  | non => exact .base .non
  | bl b => exact .base (.bl b)
  | int i => exact .base (.int i)
  | str s => exact .base (.str s)
  | fn h => exact absurd rfl hn
  | tpf h q => exact absurd rfl hn
  | @ref n a p =>
    obtain ⟨o, ho, h1, h2, h3⟩ := g.at_ n a p
    have e0 : tyN S (.ref n) = (match S.obj n with | some (.lst _) => "list" | _ => "") := rfl
    rw [e0, h1] at hn ⊢
    cases h3 with
    | lst _ => exact .base (.lst h2)
    | dki _ _ => exact absurd rfl hn
    | dkn _ => exact absurd rfl hn
  | tup h _ =>
    rcases h.sqT with (h | ⟨o, h⟩) | ⟨o, its, n, hk, hc, _⟩
    · exact .base (.tup h)
    · exact .fTuple h
    · exact .kTuple hk hc
theorem isiT_ne {t c : String} {b : Bool} (h : isiT t c = some b) : t ≠ "" := fun e => by
  subst e
  simp [isiT] at h
theorem isiAny_ne {t : String} : ∀ {cs : List String} {b : Bool}, isiAny t cs = some b → t ≠ ""
  | [], b, h => fun e => by
    subst e
    simp [isiAny] at h
  | c :: cs, b, h => fun e => by
    subst e
    simp [isiAny, isiT] at h
theorem isiT_is {t c : String} {b : Bool} (K : PySem.W.Frag) (ht : t ∈ ["NoneType", "bool", "int", "str", "list", "tuple"]) (h : isiT t c = some b) : PySem.W.kitOne K (.type t) (.type c) = some b := by
  refine kit_ty ?_
  have hc : c ∈ ["int", "bool", "str", "list", "tuple"] := by
    have hn : (t == "") = false := by
      simp only [List.mem_cons, List.not_mem_nil, or_false] at ht
      rcases ht with rfl | rfl | rfl | rfl | rfl | rfl <;> decide
    unfold isiT at h
    rw [hn] at h
    cases e : c == "int" with
    | true => simp at e; simp [e]
    | false =>
      rw [e] at h
      cases e2 : (c == "bool" || c == "str" || c == "list" || c == "tuple") with
      | false => rw [e2] at h; cases h
      | true =>
        simp at e2
        rcases e2 with ((e2 | e2) | e2) | e2 <;> simp [e2]
  have hall : ∀ t ∈ ["NoneType", "bool", "int", "str", "list", "tuple"], ∀ c ∈ ["int", "bool", "str", "list", "tuple"], kitB t c = isiT t c := by decide +kernel
  rw [hall t ht c hc]
  exact h
theorem tyN_mem {x : D} (h : tyN S x ≠ "") : tyN S x ∈ ["NoneType", "bool", "int", "str", "list", "tuple"] := by
  cases x with
  | ref n =>
    unfold tyN at h ⊢
    dsimp only at h ⊢
    split
    · simp
    · rename_i hh
      exfalso
      apply h
      split
      · rename_i l e
        exact absurd e (hh l)
      · rfl
  | fn y => exact absurd rfl h
  | tpf y => exact absurd rfl h
  | _ => simp [tyN]
theorem isiAny_is {t : String} (K : PySem.W.Frag) (ht : t ∈ ["NoneType", "bool", "int", "str", "list", "tuple"]) : ∀ {cs : List String} {b : Bool}, isiAny t cs = some b → PySem.W.kitAny K (.type t) (cs.map Value.type) = some b
  | [], b, h => by
    unfold isiAny at h
    cases c : (t == "") with
    | true => rw [c] at h; cases h
    | false =>
      rw [c] at h
      cases h
      exact kitAny_nil
  | c :: cs, b, h => by
    unfold isiAny at h
    split at h
    · rename_i e
      split at h
      · cases h
        exact kitAny_cons (r := true) (isiT_is K ht e) (fun z => nomatch z) fun _ => rfl
      · cases h
    · rename_i e
      exact kitAny_cons (isiT_is K ht e) (fun _ => isiAny_is K ht h) fun z => nomatch z
    · cases h
def mtV : Mt → String
  | .append => "list.append" | .pop => "list.pop" | .extend => "list.extend" | .index => "list.index" | .popAt => "list.pop"
def WMt (X : Cx) (id : String) : V → List V → Hp → VK → Prop := fun x xs H Q => ∃ r, MtR X id r ∧ r x xs H Q
theorem mt_w {X : Cx} {id : String} : MtR X id (WMt X id) := fun pins s σ H x xs v us Q I rx rxs h => by
  obtain ⟨_, hr, h⟩ := h
  exact hr pins s σ H x xs v us Q I rx rxs h
theorem RlA.eraseIdx {K : PySem.W.Frag} : ∀ {ds : List D} {vs : List V} (k : Nat), RlA K μ H ds vs → RlA K μ H (ds.eraseIdx k) (vs.eraseIdx k)
  | _, _, _, .nil => .nil
  | _, _, 0, .cons a t => t
  | _, _, k + 1, .cons a t => .cons a (RlA.eraseIdx k t)
theorem find_spec {α : Type} {p : α → Bool} : ∀ {l : List α} {j : Nat}, l.findIdx? p = some j → ∃ z, l[j]? = some z ∧ p z = true ∧ ∀ m z', m < j → l[m]? = some z' → p z' = false
  | [], j, h => by cases h
  | a :: l, j, h => by
    rw [List.findIdx?_cons] at h
    cases c : p a with
    | true =>
      rw [c] at h
      cases h
      exact ⟨a, rfl, c, fun m z' hm => absurd hm (Nat.not_lt_zero _)⟩
    | false =>
      rw [c] at h
      simp only [Bool.false_eq_true, if_false, cond_false] at h
      obtain ⟨j', h1, rfl⟩ := Option.map_eq_some_iff.mp h
      obtain ⟨z, z1, z2, z3⟩ := find_spec h1
      refine ⟨z, by simpa using z1, z2, fun m z' hm hz => ?_⟩
      cases m with
      | zero =>
        simp at hz
        subst hz
        exact c
      | succ m => exact z3 m z' (by omega) (by simpa using hz)
theorem methD_ok (g : Good X.K X.w μ S H) (m : Mt) {x : D} {v : V} {ds : List D} {vs : List V} {Q : VK} (rx : Rl X.K μ H x v) (r : RlA X.K μ H ds vs) (h : RsP X.K X.w cls E μ H (methD m x ds S) Q) :
    WMt X (mtV m) v vs H Q := by
  unfold methD at h
  split at h
  · obtain ⟨a, rfl, p⟩ := rl_ref rx
    obtain ⟨y, rfl, ry⟩ := vals1' r
    split at h
    · rename_i l e1
      obtain ⟨xs, h1, rr⟩ := g.sq p e1
      obtain ⟨c, h⟩ := cond_P h
      rw [rr.length] at c
      refine ⟨_, mt_append, a, xs, y, rfl, rfl, h1, small_lt c, ?_⟩
      exact h _ μ _ (ext_set p) (good_set g p (rr.append (.cons ry .nil))) .non
    · exact h.elim
  · obtain ⟨a, rfl, p⟩ := rl_ref rx
    cases r
    split at h
    · rename_i l e1
      obtain ⟨xs, h1, rr⟩ := g.sq p e1
      split at h
      · rename_i y e2
        rw [rr.length] at e2
        obtain ⟨z, e3, rz⟩ := rr.get e2
        refine ⟨_, mt_pop, a, xs, z, rfl, rfl, h1, e3, ?_⟩
        exact h _ μ _ (ext_set p) (good_set g p rr.dropLast) (Rl.ext (ext_set p) g rz)
      · exact h.elim
    · exact h.elim
  · obtain ⟨a, rfl, p⟩ := rl_ref rx
    obtain ⟨y, rfl, ry⟩ := vals1' r
    cases ry
    split at h
    · rename_i l e1
      obtain ⟨xs, h1, rr⟩ := g.sq p e1
      split at h
      · rename_i k ek
        obtain ⟨c, h⟩ := cond_P h
        simp only [Bool.and_eq_true, decide_eq_true_eq] at c
        split at h
        · rename_i y e2
          rw [rr.length] at ek
          obtain ⟨z, e3, rz⟩ := rr.get e2
          refine ⟨_, mt_popAt, a, xs, _, k, z, rfl, rfl, h1, c.1, c.2, ek, e3, ?_⟩
          exact h _ μ _ (ext_set p) (good_set g p (rr.eraseIdx k)) (Rl.ext (ext_set p) g rz)
        · exact h.elim
      · exact h.elim
    · exact h.elim
  · obtain ⟨a, rfl, p⟩ := rl_ref rx
    obtain ⟨y, rfl, ry⟩ := vals1' r
    obtain ⟨b, rfl, p2⟩ := rl_ref ry
    split at h
    · rename_i l k e1 e2
      obtain ⟨xs, h1, rr⟩ := g.sq p e1
      obtain ⟨ys, h2, rr2⟩ := g.sq p2 e2
      obtain ⟨c, h⟩ := cond_P h
      rw [rr.length, rr2.length] at c
      refine ⟨_, mt_extend, a, b, xs, ys, rfl, rfl, h1, h2, small_of c, ?_⟩
      exact h _ μ _ (ext_set p) (good_set g p (rr.append rr2)) .non
    · exact h.elim
  · obtain ⟨a, rfl, p⟩ := rl_ref rx
    obtain ⟨y, rfl, ry⟩ := vals1' r
    cases ry with
    | tup hT rT =>
    split at h
    · rename_i l e1
      obtain ⟨xs, h1, rr⟩ := g.sq p e1
      obtain ⟨c, h⟩ := cond_P h
      rw [rr.length, rT.length] at c
      refine ⟨_, mt_extendT, a, _, xs, _, rfl, rfl, h1, sqT_of hT, small_of c, ?_⟩
      exact h _ μ _ (ext_set p) (good_set g p (rr.append rT)) .non
    · exact h.elim
  · obtain ⟨a, rfl, p⟩ := rl_ref rx
    obtain ⟨y, rfl, ry⟩ := vals1' r
    split at h
    · rename_i l e1
      obtain ⟨xs, h1, rr⟩ := g.sq p e1
      obtain ⟨c, h⟩ := cond_P h
      rw [Bool.and_eq_true] at c
      split at h
      · rename_i j ej
        obtain ⟨z, z1, z2, z3⟩ := find_spec ej
        obtain ⟨u, u1, ru⟩ := rr.get z1
        have fl : ∀ {m : Nat} {d : D}, l[m]? = some d → flatD d = true := fun hm => List.all_eq_true.mp c.2 _ (List.mem_of_getElem? hm)
        refine ⟨_, mt_index, a, xs, y, j, u, rfl, rfl, sqL_of h1, flat_rl ry c.1, flat_all rr c.2, u1, by rw [eqD_rl ru ry (fl z1) c.1]; exact z2, fun m z' hm hz => ?_, h _ μ H Ext.refl g (.int _)⟩
        have hml : m < l.length := by
          have := (List.getElem?_eq_some_iff.mp hz).1
          rw [rr.length]
          exact this
        obtain ⟨u', u3, ru'⟩ := rr.get (List.getElem?_eq_getElem hml)
        rw [u3] at hz
        cases hz
        rw [eqD_rl ru' ry (fl (List.getElem?_eq_getElem hml)) c.1]
        exact z3 m _ hm (List.getElem?_eq_getElem hml)
      · exact h.elim
    · exact h.elim
  · exact h.elim
end

/-! ## iterators -/
theorem paired_at {α β : Type} {R : α → β → Prop} : ∀ {l : List α} {m : List β} {i : Nat} {a : α}, Paired R l m → l[i]? = some a → ∃ b, m[i]? = some b ∧ R a b
  | _, _, 0, _, .cons r _, e => by
    simp at e
    subst e
    exact ⟨_, rfl, r⟩
  | _, _, i + 1, _, .cons _ t, e => by
    obtain ⟨b, h1, h2⟩ := paired_at (i := i) t (by simpa using e)
    exact ⟨b, by simpa using h1, h2⟩
  | _, _, _, _, .nil, e => by simp at e
theorem rl_getD {K : PySem.W.Frag} {μ : List Addr} {H : Hp} : ∀ {l : List D} {xs : List V}, RlA K μ H l xs → ∀ i : Nat, Rl K μ H (l.getD i .non) (xs.getD i .non)
  | _, _, .nil, _ => by simpa using Rl.non
  | _, _, .cons a t, 0 => a
  | _, _, .cons a t, i + 1 => by simpa using rl_getD t i
theorem rl_picks {K : PySem.W.Frag} {μ : List Addr} {H : Hp} {l : List D} {xs : List V} (r : RlA K μ H l xs) : ∀ ix : List Nat, RlA K μ H (ix.map fun i => l.getD i .non) (pickV xs ix)
  | [] => .nil
  | i :: ix => .cons (rl_getD r i) (rl_picks r ix)
theorem rows_picks {K : PySem.W.Frag} {μ : List Addr} {H : Hp} {l : List D} {xs : List V} (r : RlA K μ H l xs) : ∀ R : List (List Nat), Paired (RlA K μ H) (R.map fun ix => ix.map fun i => l.getD i .non) (R.map (pickV xs))
  | [] => .nil
  | ix :: R => .cons (rl_picks r ix) (rows_picks r R)
inductive ItR (K : PySem.W.Frag) (μ : List Addr) (H : Hp) : Iv → It → Prop
  | lst {n : Nat} {a : Addr} : μ[n]? = some a → ItR K μ H (.lst n) (Itl K a)
  | tup {a : Addr} {xs : List V} {l : List D} : SqT K H a xs → RlA K μ H l xs → ItR K μ H (.tup l) (Itt K a)
  | rng (lo : Int) (n : Nat) : ItR K μ H (.rng lo n) (Itr lo n)
  | rngC (lo c : Int) (n : Nat) : ItR K μ H (.rngC lo c n) (Itc lo c n)
  | zipL {n m : Nat} {a b : Addr} : μ[n]? = some a → μ[m]? = some b → ItR K μ H (.zipL n m) (Itz K a b)
  | zipT {a b : Addr} {xs ys : List V} {l k : List D} : SqT K H a xs → SqT K H b ys → RlA K μ H l xs → RlA K μ H k ys → ItR K μ H (.zipT l k) (RZ.ItzT K a b)
  | enu {n : Nat} {a : Addr} : μ[n]? = some a → ItR K μ H (.enuL n) (Ite K a)
  | enuT {a : Addr} {xs : List V} {l : List D} : SqT K H a xs → RlA K μ H l xs → ItR K μ H (.enuT l) (IteT K a)
  | cmb {rows : List (List D)} {vr : List (List V)} : Paired (RlA K μ H) rows vr → ItR K μ H (.cmb rows) (ItC vr)
section
variable {K : PySem.W.Frag} {w : World} {μ μ' : List Addr} {H H' : Hp} {S S0 : Sto} {iv : Iv} {J : It}
theorem ItR.ext (r : ItR K μ H iv J) (x : Ext μ H μ' H') (g : Good K w μ S H) : ItR K μ' H' iv J := by
  cases r with
  | lst h => exact .lst (x.at_ h)
  | tup h q => exact .tup (x.sqT g h) (RlA.ext x g q)
  | rng lo n => exact .rng lo n
  | rngC lo c n => exact .rngC lo c n
  | zipL h h2 => exact .zipL (x.at_ h) (x.at_ h2)
  | zipT h h2 q q2 => exact .zipT (x.sqT g h) (x.sqT g h2) (RlA.ext x g q) (RlA.ext x g q2)
  | enu h => exact .enu (x.at_ h)
  | enuT h q => exact .enuT (x.sqT g h) (RlA.ext x g q)
  | cmb h => exact .cmb (L2.Paired.mapP h fun _ _ r => RlA.ext x g r)
theorem pair_new {K : PySem.W.Frag} (g : Good K w μ S H) {T : Addr} (hT : H T = none) {d e : D} {v u : V} (r : Rl K μ H d v) (q : Rl K μ H e u) :
    Ext μ H μ (upd H T (.tup [v, u])) ∧ Good K w μ S (upd H T (.tup [v, u])) ∧ Rl K μ (upd H T (.tup [v, u])) (.tpf [d, e]) (.ref T) :=
  ⟨ext_tup hT, good_tup g hT, .tpf (sqT_up upd_same) (RlA.ext (ext_tup hT) g (.cons r (.cons q .nil)))⟩
theorem ItR.step (r : ItR K μ H iv J) (g : Good K w μ S H) (i : Nat) :
    (ivNext i iv S = some none → J.stop i H) ∧
    ∀ d, ivNext i iv S = some (some d) → J.go i H ∧ ∀ x H', J.yld i H x H' → Ext μ H μ H' ∧ Good K w μ S H' ∧ Rl K μ H' d x := by
  cases r with
  | @lst n a h =>
    cases e1 : S.get n with
    | none =>
      unfold ivNext
      dsimp only
      rw [e1]
      exact ⟨fun e => (by cases e), fun d e => (by cases e)⟩
    | some l =>
    obtain ⟨xs, h1, rr⟩ := g.lst h e1
    unfold ivNext
    dsimp only
    rw [e1]
    refine ⟨fun e => ?_, fun d e => ?_⟩
    · have e2 : l[i]? = none := Option.some.inj e
      exact ⟨xs, sqL_of h1, by rw [← rr.length]; exact List.getElem?_eq_none_iff.mp e2⟩
    · have e2 : l[i]? = some d := Option.some.inj e
      obtain ⟨v, e3, rv⟩ := rr.get e2
      refine ⟨⟨xs, v, sqL_of h1, e3⟩, fun x H' y => ?_⟩
      obtain ⟨rfl, q⟩ := y
      have e4 := q xs (sqL_of h1)
      rw [e3] at e4
      cases e4
      exact ⟨Ext.refl, g, rv⟩
  | @tup a xs l h rr =>
    unfold ivNext
    dsimp only
    refine ⟨fun e => ?_, fun d e => ?_⟩
    · have e2 : l[i]? = none := Option.some.inj e
      exact ⟨xs, h, by rw [← rr.length]; exact List.getElem?_eq_none_iff.mp e2⟩
    · have e2 : l[i]? = some d := Option.some.inj e
      obtain ⟨v, e3, rv⟩ := rr.get e2
      refine ⟨⟨xs, v, h, e3⟩, fun x H' y => ?_⟩
      obtain ⟨rfl, q⟩ := y
      have e4 := q xs h
      rw [e3] at e4
      cases e4
      exact ⟨Ext.refl, g, rv⟩
  | rng lo n =>
    unfold ivNext
    dsimp only
    cases c : Nat.blt i n with
    | true =>
      refine ⟨fun e => (by cases e), fun d e => ?_⟩
      cases e
      refine ⟨show i < n from Nat.le_of_ble_eq_true c, fun x H' y => ?_⟩
      obtain ⟨rfl, rfl⟩ := y
      exact ⟨Ext.refl, g, .int _⟩
    | false =>
      refine ⟨fun _ => ?_, fun d e => (by cases e)⟩
      have : ¬ i < n := fun z => by
        have : Nat.blt i n = true := Nat.ble_eq_true_of_le z
        rw [c] at this
        cases this
      show n ≤ i
      omega
  | rngC lo cc n =>
    unfold ivNext
    dsimp only
    cases c : Nat.blt i n with
    | true =>
      refine ⟨fun e => (by cases e), fun d e => ?_⟩
      cases e
      refine ⟨show i < n from Nat.le_of_ble_eq_true c, fun x H' y => ?_⟩
      obtain ⟨rfl, rfl⟩ := y
      exact ⟨Ext.refl, g, .int _⟩
    | false =>
      refine ⟨fun _ => ?_, fun d e => (by cases e)⟩
      have : ¬ i < n := fun z => by
        have : Nat.blt i n = true := Nat.ble_eq_true_of_le z
        rw [c] at this
        cases this
      show n ≤ i
      omega
  | @zipL n m a b h h2 =>
    cases e1 : S.get n with
    | none =>
      unfold ivNext
      dsimp only
      rw [e1]
      exact ⟨fun e => (by cases e), fun d e => (by cases e)⟩
    | some l =>
    cases e2 : S.get m with
    | none =>
      unfold ivNext
      dsimp only
      rw [e1, e2]
      exact ⟨fun e => (by cases e), fun d e => (by cases e)⟩
    | some k =>
    obtain ⟨xs, h1, rr⟩ := g.lst h e1
    obtain ⟨ys, h3, rr2⟩ := g.lst h2 e2
    unfold ivNext
    dsimp only
    rw [e1, e2]
    dsimp only
    refine ⟨fun e => ?_, fun d e => ?_⟩
    · refine ⟨xs, ys, sqL_of h1, sqL_of h3, ?_⟩
      split at e
      · cases e
      · rename_i hn
        rw [← rr.length, ← rr2.length]
        by_cases c : l.length ≤ i
        · exact .inl c
        · by_cases c2 : k.length ≤ i
          · exact .inr c2
          · exact absurd (List.getElem?_eq_getElem (by omega : i < k.length)) (hn _ _ (List.getElem?_eq_getElem (by omega : i < l.length)))
    · split at e
      · rename_i p q ep eq
        cases e
        obtain ⟨v, e3, rv⟩ := rr.get ep
        obtain ⟨u, e4, ru⟩ := rr2.get eq
        refine ⟨⟨xs, ys, v, u, sqL_of h1, sqL_of h3, e3, e4⟩, fun x H' y => ?_⟩
        obtain ⟨T, x1, x2, rfl, nT, rfl, f1, f2⟩ := y
        have a1 := f1 xs (sqL_of h1)
        have a2 := f2 ys (sqL_of h3)
        rw [e3] at a1
        rw [e4] at a2
        cases a1
        cases a2
        exact pair_new g nT rv ru
      · cases e
  | @zipT a b xs ys l k h1 h3 rr rr2 =>
    unfold ivNext
    dsimp only
    refine ⟨fun e => ?_, fun d e => ?_⟩
    · refine ⟨xs, ys, h1, h3, ?_⟩
      split at e
      · cases e
      · rename_i hn
        rw [← rr.length, ← rr2.length]
        by_cases c : l.length ≤ i
        · exact .inl c
        · by_cases c2 : k.length ≤ i
          · exact .inr c2
          · exact absurd (List.getElem?_eq_getElem (by omega : i < k.length)) (hn _ _ (List.getElem?_eq_getElem (by omega : i < l.length)))
    · split at e
      · rename_i p q ep eq
        cases e
        obtain ⟨v, e3, rv⟩ := rr.get ep
        obtain ⟨u, e4, ru⟩ := rr2.get eq
        refine ⟨⟨xs, ys, v, u, h1, h3, e3, e4⟩, fun x H' y => ?_⟩
        obtain ⟨T, x1, x2, rfl, nT, rfl, f1, f2⟩ := y
        have a1 := f1 xs h1
        have a2 := f2 ys h3
        rw [e3] at a1
        rw [e4] at a2
        cases a1
        cases a2
        exact pair_new g nT rv ru
      · cases e
  | @cmb rows vr h =>
    unfold ivNext
    dsimp only
    refine ⟨fun e => ?_, fun d e => ?_⟩
    · split at e
      · cases e
      · rename_i hn
        show vr.length ≤ i
        rw [← h.length]
        exact List.getElem?_eq_none_iff.mp hn
    · split at e
      · rename_i row er
        cases e
        obtain ⟨ys, e3, rr⟩ := paired_at h er
        refine ⟨(List.getElem?_eq_some_iff.mp e3).1, fun x H' y => ?_⟩
        obtain ⟨T, row', o, rfl, nT, rfl, od, e4⟩ := y
        rw [e3] at e4
        cases e4
        exact ⟨ext_new nT, good_new g nT, .tup (sqN_up upd_same od) (RlA.ext (ext_new nT) g rr)⟩
      · cases e
  | @enu n a h =>
    cases e1 : S.get n with
    | none =>
      unfold ivNext
      dsimp only
      rw [e1]
      exact ⟨fun e => (by cases e), fun d e => (by cases e)⟩
    | some l =>
    obtain ⟨xs, h1, rr⟩ := g.lst h e1
    unfold ivNext
    dsimp only
    rw [e1]
    dsimp only
    refine ⟨fun e => ?_, fun d e => ?_⟩
    · split at e
      · cases e
      · rename_i e2
        exact ⟨xs, sqL_of h1, by rw [← rr.length]; exact List.getElem?_eq_none_iff.mp e2⟩
    · split at e
      · rename_i p ep
        cases e
        obtain ⟨v, e3, rv⟩ := rr.get ep
        refine ⟨⟨xs, v, sqL_of h1, e3⟩, fun x H' y => ?_⟩
        obtain ⟨T, x1, rfl, nT, rfl, f1⟩ := y
        have a1 := f1 xs (sqL_of h1)
        rw [e3] at a1
        cases a1
        exact pair_new g nT (.int _) rv
      · cases e
  | @enuT a xs l h1 rr =>
    unfold ivNext
    dsimp only
    refine ⟨fun e => ?_, fun d e => ?_⟩
    · split at e
      · cases e
      · rename_i e2
        exact ⟨xs, h1, by rw [← rr.length]; exact List.getElem?_eq_none_iff.mp e2⟩
    · split at e
      · rename_i p ep
        cases e
        obtain ⟨v, e3, rv⟩ := rr.get ep
        refine ⟨⟨xs, v, h1, e3⟩, fun x H' y => ?_⟩
        obtain ⟨T, x1, rfl, nT, rfl, f1⟩ := y
        have a1 := f1 xs h1
        rw [e3] at a1
        cases a1
        exact pair_new g nT (.int _) rv
      · cases e
end

/-! ## what a block forgets -/
theorem wipe_get (σ : List (Option V)) : ∀ (vs : List Nat) (j : Nat), (L2.wipe σ vs)[j]? = if j ∈ vs ∧ j < σ.length then some none else σ[j]?
  | [], j => by simp [L2.wipe]
  | v :: vs, j => by
    show ((L2.wipe σ vs).set v none)[j]? = _
    have hl := wipe_length σ vs
    by_cases h : v = j
    · subst h
      by_cases hv : v < σ.length
      · rw [List.getElem?_set_self (by rw [hl]; exact hv), if_pos ⟨List.mem_cons_self, hv⟩]
      · rw [List.getElem?_eq_none (by rw [List.length_set, hl]; omega), if_neg (fun z => hv z.2), List.getElem?_eq_none (by omega)]
    · rw [List.getElem?_set_ne h, wipe_get σ vs j]
      have e : (j ∈ v :: vs) ↔ j ∈ vs := by simp [Ne.symm h]
      simp only [e]
theorem wipe_set {σ : List (Option V)} {vs : List Nat} {i : Nat} {x : Option V} (h : i ∈ vs) : L2.wipe (σ.set i x) vs = L2.wipe σ vs := by
  apply List.ext_getElem?
  intro j
  rw [wipe_get, wipe_get, List.length_set]
  by_cases hj : j ∈ vs ∧ j < σ.length
  · rw [if_pos hj, if_pos hj]
  · rw [if_neg hj, if_neg hj]
    by_cases e : i = j
    · subst e
      have : ¬ i < σ.length := fun z => hj ⟨h, z⟩
      rw [List.getElem?_eq_none (by rw [List.length_set]; omega), List.getElem?_eq_none (by omega)]
    · rw [List.getElem?_set_ne e]
theorem wipe_wipe {σ : List (Option V)} {vs : List Nat} : L2.wipe (L2.wipe σ vs) vs = L2.wipe σ vs := by
  apply List.ext_getElem?
  intro j
  rw [wipe_get, wipe_length]
  by_cases hj : j ∈ vs ∧ j < σ.length
  · rw [if_pos hj, wipe_get, if_pos hj]
  · rw [if_neg hj]
theorem wipe_sub {σ : List (Option V)} {vs ws : List Nat} (h : ∀ i ∈ ws, i ∈ vs) : L2.wipe (L2.wipe σ ws) vs = L2.wipe σ vs := by
  apply List.ext_getElem?
  intro j
  rw [wipe_get, wipe_get, wipe_length, wipe_get]
  by_cases hj : j ∈ vs ∧ j < σ.length
  · rw [if_pos hj, if_pos hj]
  · rw [if_neg hj, if_neg hj, if_neg fun z => hj ⟨h j z.1, z.2⟩]

/-! ## targets -/
/-- only these names are set -/
def Sets (ok : List Nat → Bool) (σ σ' : List (Option V)) : Prop := ∀ vs, ok vs = true → L2.wipe σ' vs = L2.wipe σ vs
def t1In (vs : List Nat) : T1 → Bool
  | .nm i => vs.contains i
  | .tp is => is.all vs.contains
section
variable {X : Cx} {μ : List Addr} {H : Hp} {S : Sto}
theorem sameH_pg1 {fn : Str → Bool} (hN : X.N.Nodup) (hf : ∀ x, fn x = true → X.fn x = true) {e : Expr} {i : Nat} (h : isTg1 fn X.N X.env.scope e i = true) : PG X e (gName i) := by
  cases e with
  | Name x pos =>
    unfold isTg1 at h
    simp only [Bool.and_eq_true, Bool.or_eq_true, decide_eq_true_eq] at h
    obtain ⟨h1, h2⟩ := h
    rcases h2 with h2 | ⟨h2, h3⟩
    · exact pg_name hN h1 (.inl h2) (.inr h2)
    · exact pg_name hN h1 (.inr h2) (.inl (hf x h3))
  | _ => cases h
theorem tg1_nm {fn : Str → Bool} (hN : X.N.Nodup) (hf : ∀ x, fn x = true → X.fn x = true) {e : Expr} {i : Nat} (h : isTg1 fn X.N X.env.scope e i = true) {d : D} {v : V} {env : En} {σ : List (Option V)} (rv : Rl X.K μ H d v) (r : EnvR X.K μ H env σ)
    {Q : List (Option V) → Hp → Prop} (q : ∀ σ', EnvR X.K μ H (env.set i (some d)) σ' → Sets (fun vs => vs.contains i) σ σ' → Q σ' H) : WPG X e v σ H Q :=
  ⟨_, sameH_pg1 hN hf h, q _ (r.set i rv) fun vs hv => wipe_set (by simpa using hv)⟩
/-- names, one by one -/
theorem tgs_ok {fn : Str → Bool} (hN : X.N.Nodup) (hf : ∀ x, fn x = true → X.fn x = true) : ∀ {es : List Expr} {is : List Nat}, isTgs fn X.N X.env.scope es is = true → ∀ {ds : List D} {vs : List V} {env env' : En} {σ : List (Option V)}, RlA X.K μ H ds vs → EnvR X.K μ H env σ →
    setAll is ds env = some env' → ∀ {Q : List (Option V) → Hp → Prop}, (∀ σ', EnvR X.K μ H env' σ' → Sets (fun vs => is.all vs.contains) σ σ' → Q σ' H) → vs.length = es.length ∧ WPGs X es vs σ H Q
  | [], [], _, _, _, env, env', σ, .nil, r, e, Q, q => by
    cases e
    exact ⟨rfl, _, pgs_nil, rfl, q σ r fun _ _ => rfl⟩
  | e1 :: es, i :: is, h, d :: ds, _, env, env', σ, .cons (v := v) (vs := vs) a t, r, e, Q, q => by
    unfold isTgs at h
    rw [Bool.and_eq_true] at h
    have hs : (assignEach (e1 :: es) X.env).map (·.2) = assign e1 X.env :: (assignEach es X.env).map (·.2) := by
      cases e1 <;> first | rfl | (have := h.1; unfold isTg1 at this; cases this)
    have ind : ∀ σ1, EnvR X.K μ H (env.set i (some d)) σ1 → Sets (fun vs => vs.contains i) σ σ1 → vs.length = es.length ∧ WPGs X es vs σ1 H Q := fun σ1 r1 s1 =>
      tgs_ok hN hf h.2 t r1 (show setAll is ds (env.set i (some d)) = some env' from e) fun σ2 r2 s2 => q σ2 r2 fun vs hv => by
        simp only [List.all_cons, Bool.and_eq_true] at hv
        rw [s2 vs hv.2, s1 vs hv.1]
    refine ⟨?_, _, pgs_cons pg_w pgs_w hs, v, vs, rfl, tg1_nm hN hf h.1 a r fun σ1 r1 s1 => (ind σ1 r1 s1).2⟩
    have := (ind (σ.set i (some v)) (r.set i a) fun vs hv => wipe_set (by simpa using hv)).1
    simp [this]
  | [], _ :: _, h, _, _, _, _, _, _, _, _, _, _ => by cases h
  | _ :: _, [], h, _, _, _, _, _, _, _, _, _, _ => by cases h
  | _ :: _, _ :: _, _, [], _, _, _, _, .nil, _, e, _, _ => by cases e
  | [], [], _, _ :: _, _, _, _, _, _, _, e, _, _ => by cases e
theorem tgs_len {fn : Str → Bool} {N : List Str} {sc : Scope} {env : Env} : ∀ {es : List Expr} {is : List Nat}, isTgs fn N sc es is = true → (assignEach es env).length = es.length ∧ (assignEach es env).findIdx? (·.1) = none
  | [], [], _ => ⟨rfl, rfl⟩
  | e :: es, i :: is, h => by
    unfold isTgs at h
    rw [Bool.and_eq_true] at h
    obtain ⟨h1, h2⟩ := tgs_len (env := env) h.2
    cases e with
    | Name x pos =>
      refine ⟨by simp [assignEach, h1], ?_⟩
      simp only [assignEach, List.findIdx?_cons, h2]
      rfl
    | _ => have := h.1; unfold isTg1 at this; cases this
  | [], _ :: _, h => by cases h
  | _ :: _, [], h => by cases h
/-- a pair taken apart -/
theorem wpg_tup (hc : X.calm = true) (g : Good X.K X.w μ S H) {es : List Expr} {k : Nat} {pos : Pos} (l1 : (assignEach es X.env).length = es.length) (l2 : (assignEach es X.env).findIdx? (·.1) = none) {d : D} {v : V} (rv : Rl X.K μ H d v) {σ : List (Option V)} {Q : List (Option V) → Hp → Prop}
    {ok : List D → Prop} (hd : ∃ l, (d = .tup l ∨ d = .tpf l ∨ ∃ n, d = .ref n ∧ S.get n = some l) ∧ ∀ xs, RlA X.K μ H l xs → xs.length = es.length ∧ WPGs X es xs σ H Q) : WPG X (.Tuple es k pos) v σ H Q := by
  obtain ⟨l, hd, q⟩ := hd
  rcases hd with rfl | rfl | ⟨n, rfl, e0⟩
  · obtain ⟨a, xs, rfl, p, rr⟩ := rl_tup rv
    exact ⟨_, pg_tup hc pgs_w l1 l2, a, xs, rfl, sqT_of p, (q xs rr).1, (q xs rr).2⟩
  · cases rv with
    | tpf p rr => exact ⟨_, pg_tup hc pgs_w l1 l2, _, _, rfl, p, (q _ rr).1, (q _ rr).2⟩
  · obtain ⟨a, rfl, p⟩ := rl_ref rv
    obtain ⟨xs, h1, rr⟩ := g.sq p e0
    exact ⟨_, pg_lst hc pgs_w l1 l2, a, xs, rfl, sqL_of h1, (q xs rr).1, (q xs rr).2⟩
theorem tp_ok {fn : Str → Bool} (hc : X.calm = true) (hN : X.N.Nodup) (hf : ∀ x, fn x = true → X.fn x = true) {es : List Expr} {k : Nat} {pos : Pos} {is : List Nat} (h : isTgs fn X.N X.env.scope es is = true) (g : Good X.K X.w μ S H) {d : D} {v : V} {env env' : En} {σ : List (Option V)}
    (rv : Rl X.K μ H d v) (r : EnvR X.K μ H env σ) (ea : asgT (.tp is) d env S = some env') {Q : List (Option V) → Hp → Prop} (q : ∀ σ', EnvR X.K μ H env' σ' → Sets (fun vs => is.all vs.contains) σ σ' → Q σ' H) : WPG X (.Tuple es k pos) v σ H Q := by
  obtain ⟨l1, l2⟩ := tgs_len (env := X.env) h
  refine wpg_tup (ok := fun _ => True) hc g l1 l2 rv ?_
  clear rv
  unfold asgT at ea
  dsimp only at ea
  split at ea
  · rename_i l
    exact ⟨l, .inl rfl, fun xs rr => tgs_ok hN hf h rr r ea q⟩
  · rename_i l
    exact ⟨l, .inr (.inl rfl), fun xs rr => tgs_ok hN hf h rr r ea q⟩
  · rename_i n
    split at ea
    · rename_i l e0
      exact ⟨l, .inr (.inr ⟨n, rfl, e0⟩), fun xs rr => tgs_ok hN hf h rr r ea q⟩
    · cases ea
  · cases ea
theorem t1_ok {fn : Str → Bool} (hc : X.calm = true) (hN : X.N.Nodup) (hf : ∀ x, fn x = true → X.fn x = true) {e : Expr} {t : T1} (h : isT1 fn X.N X.env.scope e t = true) (g : Good X.K X.w μ S H) {d : D} {v : V} {env env' : En} {σ : List (Option V)}
    (rv : Rl X.K μ H d v) (r : EnvR X.K μ H env σ) (ea : asg1 t d env S = some env') {Q : List (Option V) → Hp → Prop} (q : ∀ σ', EnvR X.K μ H env' σ' → Sets (fun vs => t1In vs t) σ σ' → Q σ' H) : WPG X e v σ H Q := by
  cases t with
  | nm i =>
    cases ea
    exact tg1_nm hN hf h rv r q
  | tp is =>
    cases e with
    | Tuple es k pos => exact tp_ok hc hN hf h g rv r ea q
    | _ => cases h
theorem isT1_each {fn : Str → Bool} {e : Expr} {es : List Expr} {t : T1} (h : isT1 fn X.N X.env.scope e t = true) : (assignEach (e :: es) X.env).map (·.2) = assign e X.env :: (assignEach es X.env).map (·.2) ∧
    (assignEach (e :: es) X.env).length = (assignEach es X.env).length + 1 ∧ ((assignEach es X.env).findIdx? (·.1) = none → (assignEach (e :: es) X.env).findIdx? (·.1) = none) := by
  cases t with
  | nm i =>
    cases e with
    | Name x pos =>
      refine ⟨rfl, rfl, fun h2 => ?_⟩
      simp only [assignEach, List.findIdx?_cons, h2]
      rfl
    | _ => cases h
  | tp is =>
    cases e with
    | Tuple es k pos =>
      refine ⟨rfl, rfl, fun h2 => ?_⟩
      simp only [assignEach, List.findIdx?_cons, h2]
      rfl
    | _ => cases h
theorem tn_len {fn : Str → Bool} : ∀ {es : List Expr} {ts : List T1}, isTn fn X.N X.env.scope es ts = true → (assignEach es X.env).length = es.length ∧ (assignEach es X.env).findIdx? (·.1) = none
  | [], [], _ => ⟨rfl, rfl⟩
  | e :: es, t :: ts, h => by
    unfold isTn at h
    rw [Bool.and_eq_true] at h
    obtain ⟨h1, h2⟩ := tn_len h.2
    obtain ⟨_, a2, a3⟩ := isT1_each (es := es) h.1
    exact ⟨by rw [a2, h1]; rfl, a3 h2⟩
  | [], _ :: _, h => by cases h
  | _ :: _, [], h => by cases h
theorem tn_ok {fn : Str → Bool} (hc : X.calm = true) (hN : X.N.Nodup) (hf : ∀ x, fn x = true → X.fn x = true) (g : Good X.K X.w μ S H) : ∀ {es : List Expr} {ts : List T1}, isTn fn X.N X.env.scope es ts = true → ∀ {ds : List D} {vs : List V} {env env' : En} {σ : List (Option V)}, RlA X.K μ H ds vs → EnvR X.K μ H env σ →
    asgN ts ds env S = some env' → ∀ {Q : List (Option V) → Hp → Prop}, (∀ σ', EnvR X.K μ H env' σ' → Sets (fun vs => ts.all (t1In vs)) σ σ' → Q σ' H) → WPGs X es vs σ H Q
  | [], [], _, _, _, env, env', σ, .nil, r, e, Q, q => by
    cases e
    exact ⟨_, pgs_nil, rfl, q σ r fun _ _ => rfl⟩
  | e1 :: es, t1 :: ts, h, d :: ds, _, env, env', σ, .cons (v := v) (vs := vs) a t, r, e, Q, q => by
    unfold isTn at h
    rw [Bool.and_eq_true] at h
    have hs := (isT1_each (es := es) h.1).1
    unfold asgN at e
    split at e
    · rename_i e2 ee
      refine ⟨_, pgs_cons pg_w pgs_w hs, v, vs, rfl, t1_ok hc hN hf h.1 g a r ee fun σ1 r1 s1 => ?_⟩
      exact tn_ok hc hN hf g h.2 t r1 e fun σ2 r2 s2 => q σ2 r2 fun vs hv => by
        simp only [List.all_cons, Bool.and_eq_true] at hv
        rw [s2 vs hv.2, s1 vs hv.1]
    · cases e
  | [], _ :: _, h, _, _, _, _, _, _, _, _, _, _ => by cases h
  | _ :: _, [], h, _, _, _, _, _, _, _, _, _, _ => by cases h
  | _ :: _, _ :: _, _, [], _, _, _, _, .nil, _, e, _, _ => by cases e
  | [], [], _, _ :: _, _, _, _, _, _, _, e, _, _ => by cases e
theorem asgN_len {S : Sto} : ∀ {ts : List T1} {ds : List D} {env env' : En}, asgN ts ds env S = some env' → ts.length = ds.length
  | [], [], _, _, _ => rfl
  | t :: ts, d :: ds, env, env', e => by
    unfold asgN at e
    split at e
    · exact congrArg (· + 1) (asgN_len e)
    · cases e
  | [], _ :: _, _, _, e => by cases e
  | _ :: _, [], _, _, e => by cases e
theorem isTn_len {fn : Str → Bool} {N : List Str} {sc : Scope} : ∀ {es : List Expr} {ts : List T1}, isTn fn N sc es ts = true → es.length = ts.length
  | [], [], _ => rfl
  | e :: es, t :: ts, h => by
    unfold isTn at h
    rw [Bool.and_eq_true] at h
    exact congrArg (· + 1) (isTn_len h.2)
  | [], _ :: _, h => by cases h
  | _ :: _, [], h => by cases h
/-- a target takes a value -/
theorem tg_ok {fn : Str → Bool} (hc : X.calm = true) (hN : X.N.Nodup) (hf : ∀ x, fn x = true → X.fn x = true) {e : Expr} {tg : Tg} (h : isTg fn X.N X.env.scope e tg = true) (g : Good X.K X.w μ S H) {d : D} {v : V} {env env' : En} {σ : List (Option V)}
    (rv : Rl X.K μ H d v) (r : EnvR X.K μ H env σ) (ea : asgT tg d env S = some env') {Q : List (Option V) → Hp → Prop} (q : ∀ σ', EnvR X.K μ H env' σ' → Sets (fun vs => tgIn vs tg) σ σ' → Q σ' H) : WPG X e v σ H Q := by
  cases tg with
  | nm i =>
    cases ea
    exact tg1_nm hN hf h rv r q
  | tp is =>
    cases e with
    | Tuple es k pos => exact tp_ok hc hN hf h g rv r ea q
    | _ => cases h
  | nt ts =>
    cases e with
    | Tuple es k pos =>
      have h : isTn fn X.N X.env.scope es ts = true := h
      obtain ⟨l1, l2⟩ := tn_len h
      have q' : ∀ σ', EnvR X.K μ H env' σ' → Sets (fun vs => ts.all (t1In vs)) σ σ' → Q σ' H := fun σ' r' s' => q σ' r' fun vs hv => s' vs (by
        have e0 : (fun t => t1In vs t) = (fun | .nm i => vs.contains i | .tp is => is.all vs.contains) := by
          funext t
          cases t <;> rfl
        show ts.all (fun t => t1In vs t) = true
        rw [e0]
        exact hv)
      refine wpg_tup (ok := fun _ => True) hc g l1 l2 rv ?_
      clear rv
      unfold asgT at ea
      dsimp only at ea
      split at ea
      · rename_i l
        exact ⟨l, .inl rfl, fun xs rr => ⟨by rw [← rr.length, ← asgN_len ea, isTn_len h], tn_ok hc hN hf g h rr r ea q'⟩⟩
      · rename_i l
        exact ⟨l, .inr (.inl rfl), fun xs rr => ⟨by rw [← rr.length, ← asgN_len ea, isTn_len h], tn_ok hc hN hf g h rr r ea q'⟩⟩
      · rename_i n
        split at ea
        · rename_i l e0
          exact ⟨l, .inr (.inr ⟨n, rfl, e0⟩), fun xs rr => ⟨by rw [← rr.length, ← asgN_len ea, isTn_len h], tn_ok hc hN hf g h rr r ea q'⟩⟩
        · cases ea
      · cases ea
    | _ => cases h
end
end EV
set_option Elab.async false
set_option linter.all false
set_option maxRecDepth 100000
set_option maxHeartbeats 4000000
namespace EV
open PySem PySem.Spec PyProof.Rows L2

/-! ## small facts of syntax -/
theorem star_cons {e : Expr} {es : List Expr} {env : Env} (h : isStar e = false) : starEach (e :: es) env = (false, eval e env) :: starEach es env := by
  cases e <;> first | rfl | cases h
theorem star_any {es : List Expr} {env : Env} {pos : Pos} (h : noStar es = true) : (backTo pos (starEach es env)).any (·.1) = false := by
  induction es with
  | nil => rfl
  | cons e es ih =>
    unfold noStar at h
    rw [List.all_cons, Bool.and_eq_true] at h
    have h1 : isStar e = false := by simpa using h.1
    rw [star_cons h1]
    show ((false, _) :: backTo pos (starEach es env)).any (·.1) = false
    rw [List.any_cons]
    have := ih h.2
    simpa using this
theorem gl_of {X : Cx} {x : Str} (h : okGl X.env.scope x = true) : Gl X x := show X.env.scope.names.lookup x = some .globalImplicit from of_decide_eq_true h
theorem noStar_cons {e : Expr} {es : List Expr} (h : noStar (e :: es) = true) : isStar e = false ∧ noStar es = true := by
  unfold noStar at h
  rw [List.all_cons, Bool.and_eq_true] at h
  exact ⟨by simpa using h.1, h.2⟩
def plainT : Expr → Bool
  | .UnaryOp .Not .. => false | .BoolOp .. => false | .IfExp .. => false | .Compare .. => false | _ => true
theorem plainT_is {e : Expr} {env : Env} (h : plainT e = true) : ∀ whole, isTrue e env whole = (do let v ← whole; standAt e.pos; holding [v] (truthy v)) := by
  intro whole
  cases e with
  | UnaryOp op x pos => cases op <;> first | rfl | cases h
  | _ => first | rfl | cases h
def plainC : C → Bool
  | .not .. => false | .and .. => false | .or .. => false | .ite .. => false | .cmp .. => false | .chain .. => false | .chain3 .. => false | _ => true
theorem plain_of {T : Tb} {n : Nat} {N : List Str} {sc : Scope} {e : Expr} {c : C} (h : isE T n N sc e c = true) (hc : plainC c = true) : plainT e = true := by
  cases n with
  | zero => cases h
  | succ n =>
    unfold isE at h
    cases c <;> first | (cases hc; done) | (dsimp only at h; split at h <;> first | rfl | (cases h; done)) | (cases h; done)
theorem isE_nostar {T : Tb} {n : Nat} {N : List Str} {sc : Scope} {e : Expr} {c : C} (h : isE T n N sc e c = true) : isStar e = false := by
  cases n with
  | zero => cases h
  | succ n =>
    unfold isE at h
    cases c <;> first | (dsimp only at h; split at h <;> first | rfl | (cases h; done)) | (cases h; done)
theorem base_is {o : Expr} {name : Str} {env : Env} (h : plainBase o = true) : attributeBase o name env (eval o env) = eval o env := by
  cases o with
  | Call f as ks p => cases as with
    | nil => cases h
    | cons a as => cases f <;> rfl
  | _ => first | rfl | cases h
theorem kw_names {kws : List Keyword} {env : Env} {pos : Pos} : (backToKw pos (keywordEach kws env)).map (·.1) = kws.map (·.arg) := by
  induction kws with
  | nil => rfl
  | cons k kws ih =>
    obtain ⟨a, v, p⟩ := k
    show a :: (backToKw pos (keywordEach kws env)).map (·.1) = a :: kws.map (·.arg)
    rw [ih]
theorem all_some {α : Type} {β : Type} {l : List (Option α × β)} {ks : List α} (h : l.map (·.1) = ks.map some) : l.all (·.1.isSome) = true ∧ l.filterMap (·.1) = ks ∧ l.any (·.1.isNone) = false := by
  induction l generalizing ks with
  | nil =>
    cases ks with
    | nil => exact ⟨rfl, rfl, rfl⟩
    | cons _ _ => cases h
  | cons a l ih =>
    cases ks with
    | nil => cases h
    | cons k ks =>
      simp only [List.map_cons, List.cons.injEq] at h
      obtain ⟨h1, h2, h3⟩ := ih h.2
      obtain ⟨a1, a2⟩ := a
      dsimp only at h
      rw [h.1]
      exact ⟨by simpa using h1, by simpa using h2, by simpa using h3⟩

section
variable {T : Tb} {cl : Nat → List D → Sto → Rs} {cls : Nat → Addr × Option Str}
theorem ctx_blk {X : Cx} {E : XK} (hc : Ctx T cl cls E X) {scope : Scope} (hk : scope.kind = .function) (s : Shared) (H : Hp) (C : Addr) (c : List (Str × Addr)) (fp : List Addr) :
    Ctx T cl cls E0 (X.blk s H scope (compEnvC scope c C X.env) fp) where
  calm := hc.calm
  nd := hc.nd
  kind := hk
  un := hc.un
  pass := passL
  fns := hc.fns
  gcd := hc.gcd
  consts := hc.consts
  tcs := hc.tcs
  comb := hc.comb
  prm := hc.prm
  mg0 := hc.mg0

def RsO (K : PySem.W.Frag) (w : World) (cls : Nat → Addr × Option Str) (E : XK) (μ : List Addr) (H : Hp) (r : Rs) (Q : Option Int → Hp → Prop) : Prop := match r with
  | .ok .non S' => ∀ μ' H', Ext μ H μ' H' → Good K w μ' S' H' → Q none H'
  | .ok (.int i) S' => ∀ μ' H', Ext μ H μ' H' → Good K w μ' S' H' → Q (some i) H'
  | .exc c as S' => ExP K w cls E μ H c as S'
  | _ => False
variable (T cl cls)
structure AllE (m : Nat) : Prop where
  e : ∀ {X : Cx} {E : XK}, Ctx T cl cls E X → ∀ {n : Nat} {e : Expr} {c : C}, isE T n X.N X.env.scope e c = true → ∀ {env : En} {S : Sto} {μ : List Addr} {σ : L2.St} {H : Hp} {Q : VK},
    Good X.K X.w μ S H → EnvR X.K μ H env σ → RsP X.K X.w cls E μ H (run T cl m env S (.e c)) Q → WPE X e σ H Q
  es : ∀ {X : Cx} {E : XK}, Ctx T cl cls E X → ∀ {n : Nat} {es : List Expr} {cs : List C}, isEs T n X.N X.env.scope es cs = true → ∀ {env : En} {S : Sto} {μ : List Addr} {σ : L2.St} {H : Hp} {Q : List V → Hp → Prop},
    Good X.K X.w μ S H → EnvR X.K μ H env σ → RsA X.K X.w cls E μ H (run T cl m env S (.es cs)) Q → WPA X es σ H Q
  ks : ∀ {X : Cx} {E : XK}, Ctx T cl cls E X → ∀ {n : Nat} {kws : List Keyword} {cs : List C}, isEs T n X.N X.env.scope (kws.map (·.value)) cs = true → noStar (kws.map (·.value)) = true → ∀ {env : En} {S : Sto} {μ : List Addr} {σ : L2.St} {H : Hp} {Q : List V → Hp → Prop},
    Good X.K X.w μ S H → EnvR X.K μ H env σ → RsA X.K X.w cls E μ H (run T cl m env S (.es cs)) Q → WPK X kws σ H Q
  t : ∀ {X : Cx} {E : XK}, Ctx T cl cls E X → ∀ {n : Nat} {e : Expr} {c : C}, isE T n X.N X.env.scope e c = true → ∀ {env : En} {S : Sto} {μ : List Addr} {σ : L2.St} {H : Hp} {Q : Bool → Hp → Prop},
    Good X.K X.w μ S H → EnvR X.K μ H env σ → RsT X.K X.w cls E μ H (run T cl m env S (.t c)) Q → WPT X e σ H Q
  ands : ∀ {X : Cx} {E : XK}, Ctx T cl cls E X → ∀ {n : Nat} {es : List Expr} {cs : List C}, isEs T n X.N X.env.scope es cs = true → noStar es = true → ∀ {env : En} {S : Sto} {μ : List Addr} {σ : L2.St} {H : Hp} {Q : Bool → Hp → Prop},
    Good X.K X.w μ S H → EnvR X.K μ H env σ → RsT X.K X.w cls E μ H (run T cl m env S (.ands cs)) Q → ∀ pos, WPW X (.BoolOp .And es pos) σ H Q
  ors : ∀ {X : Cx} {E : XK}, Ctx T cl cls E X → ∀ {n : Nat} {es : List Expr} {cs : List C}, isEs T n X.N X.env.scope es cs = true → noStar es = true → ∀ {env : En} {S : Sto} {μ : List Addr} {σ : L2.St} {H : Hp} {Q : Bool → Hp → Prop},
    Good X.K X.w μ S H → EnvR X.K μ H env σ → RsT X.K X.w cls E μ H (run T cl m env S (.ors cs)) Q → ∀ pos, WPW X (.BoolOp .Or es pos) σ H Q
  andv : ∀ {X : Cx} {E : XK}, Ctx T cl cls E X → ∀ {n : Nat} {es : List Expr} {cs : List C}, isEs T n X.N X.env.scope es cs = true → noStar es = true → ∀ {env : En} {S : Sto} {μ : List Addr} {σ : L2.St} {H : Hp} {Q : VK},
    Good X.K X.w μ S H → EnvR X.K μ H env σ → RsP X.K X.w cls E μ H (run T cl m env S (.andv cs)) Q → ∀ pos, WPE X (.BoolOp .And es pos) σ H Q
  orv : ∀ {X : Cx} {E : XK}, Ctx T cl cls E X → ∀ {n : Nat} {es : List Expr} {cs : List C}, isEs T n X.N X.env.scope es cs = true → noStar es = true → ∀ {env : En} {S : Sto} {μ : List Addr} {σ : L2.St} {H : Hp} {Q : VK},
    Good X.K X.w μ S H → EnvR X.K μ H env σ → RsP X.K X.w cls E μ H (run T cl m env S (.orv cs)) Q → ∀ pos, WPE X (.BoolOp .Or es pos) σ H Q
  op : ∀ {X : Cx} {E : XK}, Ctx T cl cls E X → ∀ {n : Nat} {e : Option Expr} {c : Option C}, isO T n X.N X.env.scope e c = true → ∀ {env : En} {S : Sto} {μ : List Addr} {σ : L2.St} {H : Hp} {Q : Option Int → Hp → Prop},
    Good X.K X.w μ S H → EnvR X.K μ H env σ → RsO X.K X.w cls E μ H (run T cl m env S (.op c)) Q → WPO X e σ H Q
variable {T cl cls}
/-! ## lists of expressions -/
/-- the head of a list -/
theorem es_inv {n : Nat} {N : List Str} {sc : Scope} {es : List Expr} {cs : List C} (h : isEs T n N sc es cs = true) :
    (es = [] ∧ cs = []) ∨ ∃ k e es' c cs', es = e :: es' ∧ cs = c :: cs' ∧ isA T k N sc e c = true ∧ isEs T k N sc es' cs' = true := by
  cases n with
  | zero => cases h
  | succ n =>
    unfold isEs at h
    split at h
    · exact .inl ⟨rfl, rfl⟩
    · rename_i e es' c cs'
      rw [Bool.and_eq_true] at h
      exact .inr ⟨n, e, es', c, cs', rfl, rfl, h.1, h.2⟩
    · cases h
theorem a_inv {n : Nat} {N : List Str} {sc : Scope} {e : Expr} {c : C} (h : isA T n N sc e c = true) :
    (∃ k x p d, e = .Starred x p ∧ c = .star d ∧ isE T k N sc x d = true) ∨ (isStar e = false ∧ (∀ d, c ≠ .star d) ∧ ∃ k, isE T k N sc e c = true) := by
  cases n with
  | zero => cases h
  | succ n =>
    unfold isA at h
    split at h
    · rename_i d
      split at h
      · rename_i x p
        exact .inl ⟨n, x, p, d, rfl, rfl, h⟩
      · cases h
    · rename_i hn
      rw [Bool.and_eq_true] at h
      exact .inr ⟨by simpa using h.1, fun d e => hn d e, n, h.2⟩
theorem run_cons {m : Nat} {env : En} {S : Sto} {c : C} {cs : List C} (hn : ∀ d, c ≠ .star d) :
    run T cl (m + 1) env S (.es (c :: cs)) = (run T cl m env S (.e c)).b1 fun x S => (run T cl m env S (.es cs)).bs fun ds S => .oks (x :: ds) S := by
  cases c <;> first | rfl | exact absurd rfl (hn _)
theorem allE_es {m : Nat} (ih : AllE T cl cls m) : ∀ {X : Cx} {E : XK}, Ctx T cl cls E X → ∀ {n : Nat} {es : List Expr} {cs : List C}, isEs T n X.N X.env.scope es cs = true → ∀ {env : En} {S : Sto} {μ : List Addr} {σ : L2.St} {H : Hp} {Q : List V → Hp → Prop},
    Good X.K X.w μ S H → EnvR X.K μ H env σ → RsA X.K X.w cls E μ H (run T cl (m + 1) env S (.es cs)) Q → WPA X es σ H Q := by
  intro X E hc n es cs hi env S μ σ H Q g r h
  rcases es_inv hi with ⟨rfl, rfl⟩ | ⟨k, e, es', c, cs', rfl, rfl, ha, hs⟩
  · exact ⟨_, pa_nil, h [] μ H Ext.refl g .nil⟩
  · rcases a_inv ha with ⟨k2, x, p, d, rfl, rfl, he⟩ | ⟨hns, hn, k2, he⟩
    · refine ⟨_, StX.pa_star pe_w pa_w (by rfl), ?_⟩
      have h : RsA X.K X.w cls E μ H ((run T cl m env S (.e d)).b1 fun x S => (match x with
        | .tup l => (run T cl m env S (.es cs')).bs fun ds S => .oks (l ++ ds) S
        | .ref n => (match S.get n with
          | some l => (run T cl m env S (.es cs')).bs fun ds S => .oks (l ++ ds) S
          | none => .bad)
        | _ => .bad)) Q := h
      refine ih.e hc he g r (RsP.mono (b1_A h) ?_)
      rintro v H1 ⟨d1, S1, μ1, x1, g1, r1, h1⟩
      cases r1 with
      | @tup a xs l p1 q1 =>
        refine ⟨a, xs, rfl, .inl (sqT_of p1), ?_⟩
        refine ih.es hc hs g1 (r.ext x1 g) (RsA.mono (bs_A h1) ?_)
        rintro vs H2 ⟨ds, S2, μ2, x2, g2, r2, h2⟩
        exact h2 _ μ2 H2 Ext.refl g2 ((RlA.ext x2 g1 q1).append r2)
      | @ref nn a p1 =>
        dsimp only at h1
        cases e0 : S1.get nn with
        | none => rw [e0] at h1; exact h1.elim
        | some l =>
        rw [e0] at h1
        obtain ⟨xs, h3, q1⟩ := g1.lst p1 e0
        refine ⟨a, xs, rfl, .inr (sqL_of h3), ?_⟩
        refine ih.es hc hs g1 (r.ext x1 g) (RsA.mono (bs_A h1) ?_)
        rintro vs H2 ⟨ds, S2, μ2, x2, g2, r2, h2⟩
        exact h2 _ μ2 H2 Ext.refl g2 ((RlA.ext x2 g1 q1).append r2)
      | _ => exact h1.elim
    · refine ⟨_, pa_cons pe_w pa_w (star_cons hns), ?_⟩
      rw [run_cons hn] at h
      refine ih.e hc he g r (RsP.mono (b1_A h) ?_)
      rintro v H1 ⟨d1, S1, μ1, x1, g1, r1, h1⟩
      refine ih.es hc hs g1 (r.ext x1 g) (RsA.mono (bs_A h1) ?_)
      rintro vs H2 ⟨ds, S2, μ2, x2, g2, r2, h2⟩
      exact h2 _ μ2 H2 Ext.refl g2 (.cons (Rl.ext x2 g1 r1) r2)
theorem allE_ks {m : Nat} (ih : AllE T cl cls m) : ∀ {X : Cx} {E : XK}, Ctx T cl cls E X → ∀ {n : Nat} {kws : List Keyword} {cs : List C}, isEs T n X.N X.env.scope (kws.map (·.value)) cs = true → noStar (kws.map (·.value)) = true →
    ∀ {env : En} {S : Sto} {μ : List Addr} {σ : L2.St} {H : Hp} {Q : List V → Hp → Prop},
    Good X.K X.w μ S H → EnvR X.K μ H env σ → RsA X.K X.w cls E μ H (run T cl (m + 1) env S (.es cs)) Q → WPK X kws σ H Q := by
  intro X E hc n kws cs hi hns env S μ σ H Q g r h
  cases kws with
  | nil =>
    rcases es_inv hi with ⟨_, rfl⟩ | ⟨k, e, es', c, cs', e0, _⟩
    · exact ⟨_, pk_nil, h [] μ H Ext.refl g .nil⟩
    · cases e0
  | cons kw kws =>
    rcases es_inv hi with ⟨e0, _⟩ | ⟨k, e, es', c, cs', e0, rfl, ha, hs⟩
    · cases e0
    · obtain ⟨nm, v, kp⟩ := kw
      rw [List.map_cons] at e0 hns
      cases e0
      obtain ⟨hns1, hns2⟩ := noStar_cons hns
      rcases a_inv ha with ⟨k2, x, p, d, e1, rfl, he⟩ | ⟨hns, hn, k2, he⟩
      · dsimp only at e1
        rw [e1] at hns1
        cases hns1
      · refine ⟨_, pk_cons pe_w pk_w, ?_⟩
        rw [run_cons hn] at h
        refine ih.e hc he g r (RsP.mono (b1_A h) ?_)
        rintro v H1 ⟨d1, S1, μ1, x1, g1, r1, h1⟩
        refine ih.ks hc hs hns2 g1 (r.ext x1 g) (RsA.mono (bs_A h1) ?_)
        rintro vs H2 ⟨ds, S2, μ2, x2, g2, r2, h2⟩
        exact h2 _ μ2 H2 Ext.refl g2 (.cons (Rl.ext x2 g1 r1) r2)
theorem allE_op {m : Nat} (ih : AllE T cl cls m) : ∀ {X : Cx} {E : XK}, Ctx T cl cls E X → ∀ {n : Nat} {e : Option Expr} {c : Option C}, isO T n X.N X.env.scope e c = true → ∀ {env : En} {S : Sto} {μ : List Addr} {σ : L2.St} {H : Hp} {Q : Option Int → Hp → Prop},
    Good X.K X.w μ S H → EnvR X.K μ H env σ → RsO X.K X.w cls E μ H (run T cl (m + 1) env S (.op c)) Q → WPO X e σ H Q := by
  intro X E hc n e c hi env S μ σ H Q g r h
  cases n with
  | zero => cases hi
  | succ n =>
    unfold isO at hi
    split at hi
    · exact ⟨_, po_none, h μ H Ext.refl g⟩
    · rename_i e c
      refine ⟨_, po_some pe_w, ?_⟩
      have h : RsO X.K X.w cls E μ H ((run T cl m env S (.e c)).b1 fun x S => (match x with | .int i => .ok (.int i) S | _ => .bad)) Q := h
      refine ih.e hc hi g r ?_
      cases hr : run T cl m env S (.e c) with
      | ok d S1 =>
        rw [hr] at h
        intro v μ1 H1 x1 g1 r1
        cases r1 with
        | int i => exact ⟨i, rfl, h μ1 H1 x1 g1⟩
        | _ => exact h.elim
      | exc c as S1 => rw [hr] at h; exact h
      | _ => rw [hr] at h; exact h.elim
    · cases hi

/-! ## and, or -/
theorem ands_inv {n : Nat} {N : List Str} {sc : Scope} {es : List Expr} {cs : List C} (h : isEs T n N sc es cs = true) (hs : noStar es = true) :
    (es = [] ∧ cs = []) ∨ ∃ k e es' c cs', es = e :: es' ∧ cs = c :: cs' ∧ (∃ k, isE T k N sc e c = true) ∧ isEs T k N sc es' cs' = true ∧ noStar es' = true := by
  rcases es_inv h with h | ⟨k, e, es', c, cs', rfl, rfl, ha, hs2⟩
  · exact .inl h
  · obtain ⟨h1, h2⟩ := noStar_cons hs
    rcases a_inv ha with ⟨k2, x, p, d, rfl, rfl, he⟩ | ⟨_, _, k2, he⟩
    · cases h1
    · exact .inr ⟨k, e, es', c, cs', rfl, rfl, ⟨k2, he⟩, hs2, h2⟩
end
end EV
set_option Elab.async false
set_option linter.all false
set_option maxRecDepth 100000
set_option maxHeartbeats 4000000
namespace EV
open PySem PySem.Spec PyProof.Rows L2
section
variable {T : Tb} {cl : Nat → List D → Sto → Rs} {cls : Nat → Addr × Option Str}
theorem bad_of {α : Type} {f : D → Sto → α} {d : D} {S : Sto} (h : ∀ b, d ≠ .bl b) (f1 f2 : Sto → α) (z : α) : (match d with | .bl true => f1 S | .bl false => f2 S | _ => z) = z := by
  cases d with
  | bl b => exact absurd rfl (h b)
  | _ => rfl
theorem allE_ands {m : Nat} (ih : AllE T cl cls m) : ∀ {X : Cx} {E : XK}, Ctx T cl cls E X → ∀ {n : Nat} {es : List Expr} {cs : List C}, isEs T n X.N X.env.scope es cs = true → noStar es = true → ∀ {env : En} {S : Sto} {μ : List Addr} {σ : L2.St} {H : Hp} {Q : Bool → Hp → Prop},
    Good X.K X.w μ S H → EnvR X.K μ H env σ → RsT X.K X.w cls E μ H (run T cl (m + 1) env S (.ands cs)) Q → ∀ pos, WPW X (.BoolOp .And es pos) σ H Q := by
  intro X E hc n es cs hi hns env S μ σ H Q g r h pos
  rcases ands_inv hi hns with ⟨_, rfl⟩ | ⟨k, e, es', c, cs', rfl, rfl, ⟨k2, he⟩, hs2, hns2⟩
  · exact h.elim
  · rcases ands_inv hs2 hns2 with ⟨rfl, rfl⟩ | ⟨k', e', es2, c', cs2, rfl, rfl, _, _, _⟩
    · have h : RsT X.K X.w cls E μ H (run T cl m env S (.t c)) Q := h
      exact ⟨_, pw_and1 pt_w, ih.t hc he g r h⟩
    · refine ⟨_, pw_and pt_w pw_w, ?_⟩
      have h : RsT X.K X.w cls E μ H ((run T cl m env S (.t c)).b1 fun x S => (match x with | .bl true => run T cl m env S (.ands (c' :: cs2)) | .bl false => .ok (.bl false) S | _ => .bad)) Q := h
      refine ih.t hc he g r (RsT.mono (t1_T h fun d S hn => by cases d with | bl b => exact absurd rfl (hn b) | _ => rfl) ?_)
      rintro b H1 ⟨S1, μ1, x1, g1, h1⟩
      cases b with
      | true => exact iteT (ih.ands hc hs2 hns2 g1 (r.ext x1 g) h1 pos)
      | false => exact iteF (h1 μ1 H1 Ext.refl g1)
theorem allE_ors {m : Nat} (ih : AllE T cl cls m) : ∀ {X : Cx} {E : XK}, Ctx T cl cls E X → ∀ {n : Nat} {es : List Expr} {cs : List C}, isEs T n X.N X.env.scope es cs = true → noStar es = true → ∀ {env : En} {S : Sto} {μ : List Addr} {σ : L2.St} {H : Hp} {Q : Bool → Hp → Prop},
    Good X.K X.w μ S H → EnvR X.K μ H env σ → RsT X.K X.w cls E μ H (run T cl (m + 1) env S (.ors cs)) Q → ∀ pos, WPW X (.BoolOp .Or es pos) σ H Q := by
  intro X E hc n es cs hi hns env S μ σ H Q g r h pos
  rcases ands_inv hi hns with ⟨_, rfl⟩ | ⟨k, e, es', c, cs', rfl, rfl, ⟨k2, he⟩, hs2, hns2⟩
  · exact h.elim
  · rcases ands_inv hs2 hns2 with ⟨rfl, rfl⟩ | ⟨k', e', es2, c', cs2, rfl, rfl, _, _, _⟩
    · have h : RsT X.K X.w cls E μ H (run T cl m env S (.t c)) Q := h
      exact ⟨_, pw_or1 pt_w, ih.t hc he g r h⟩
    · refine ⟨_, pw_or pt_w pw_w, ?_⟩
      have h : RsT X.K X.w cls E μ H ((run T cl m env S (.t c)).b1 fun x S => (match x with | .bl false => run T cl m env S (.ors (c' :: cs2)) | .bl true => .ok (.bl true) S | _ => .bad)) Q := h
      refine ih.t hc he g r (RsT.mono (t1_T h fun d S hn => by cases d with | bl b => exact absurd rfl (hn b) | _ => rfl) ?_)
      rintro b H1 ⟨S1, μ1, x1, g1, h1⟩
      cases b with
      | false => exact iteF (ih.ors hc hs2 hns2 g1 (r.ext x1 g) h1 pos)
      | true => exact iteT (h1 μ1 H1 Ext.refl g1)
theorem allE_andv {m : Nat} (ih : AllE T cl cls m) : ∀ {X : Cx} {E : XK}, Ctx T cl cls E X → ∀ {n : Nat} {es : List Expr} {cs : List C}, isEs T n X.N X.env.scope es cs = true → noStar es = true → ∀ {env : En} {S : Sto} {μ : List Addr} {σ : L2.St} {H : Hp} {Q : VK},
    Good X.K X.w μ S H → EnvR X.K μ H env σ → RsP X.K X.w cls E μ H (run T cl (m + 1) env S (.andv cs)) Q → ∀ pos, WPE X (.BoolOp .And es pos) σ H Q := by
  intro X E hc n es cs hi hns env S μ σ H Q g r h pos
  rcases ands_inv hi hns with ⟨_, rfl⟩ | ⟨k, e, es', c, cs', rfl, rfl, ⟨k2, he⟩, hs2, hns2⟩
  · exact h.elim
  · rcases ands_inv hs2 hns2 with ⟨rfl, rfl⟩ | ⟨k', e', es2, c', cs2, rfl, rfl, _, _, _⟩
    · have h : RsP X.K X.w cls E μ H (run T cl m env S (.e c)) Q := h
      exact ⟨_, pe_one pe_w, ih.e hc he g r h⟩
    · refine ⟨_, pe_and pe_w pe_w, ?_⟩
      have h : RsP X.K X.w cls E μ H ((run T cl m env S (.e c)).b1 fun x S => (match x with | .bl true => run T cl m env S (.andv (c' :: cs2)) | .bl false => .ok (.bl false) S | _ => .bad)) Q := h
      refine ih.e hc he g r (RsP.mono (b1_P h) ?_)
      rintro v H1 ⟨d, S1, μ1, x1, g1, r1, h1⟩
      cases r1 with
      | bl b =>
        refine ⟨b, rfl, ?_⟩
        cases b with
        | true => exact iteT (ih.andv hc hs2 hns2 g1 (r.ext x1 g) h1 pos)
        | false => exact iteF (h1 _ μ1 H1 Ext.refl g1 (.bl _))
      | _ => exact h1.elim
theorem allE_orv {m : Nat} (ih : AllE T cl cls m) : ∀ {X : Cx} {E : XK}, Ctx T cl cls E X → ∀ {n : Nat} {es : List Expr} {cs : List C}, isEs T n X.N X.env.scope es cs = true → noStar es = true → ∀ {env : En} {S : Sto} {μ : List Addr} {σ : L2.St} {H : Hp} {Q : VK},
    Good X.K X.w μ S H → EnvR X.K μ H env σ → RsP X.K X.w cls E μ H (run T cl (m + 1) env S (.orv cs)) Q → ∀ pos, WPE X (.BoolOp .Or es pos) σ H Q := by
  intro X E hc n es cs hi hns env S μ σ H Q g r h pos
  rcases ands_inv hi hns with ⟨_, rfl⟩ | ⟨k, e, es', c, cs', rfl, rfl, ⟨k2, he⟩, hs2, hns2⟩
  · exact h.elim
  · rcases ands_inv hs2 hns2 with ⟨rfl, rfl⟩ | ⟨k', e', es2, c', cs2, rfl, rfl, _, _, _⟩
    · have h : RsP X.K X.w cls E μ H (run T cl m env S (.e c)) Q := h
      exact ⟨_, pe_one pe_w, ih.e hc he g r h⟩
    · refine ⟨_, pe_or pe_w pe_w, ?_⟩
      have h : RsP X.K X.w cls E μ H ((run T cl m env S (.e c)).b1 fun x S => (match x with | .bl false => run T cl m env S (.orv (c' :: cs2)) | .bl true => .ok (.bl true) S | _ => .bad)) Q := h
      refine ih.e hc he g r (RsP.mono (b1_P h) ?_)
      rintro v H1 ⟨d, S1, μ1, x1, g1, r1, h1⟩
      cases r1 with
      | bl b =>
        refine ⟨b, rfl, ?_⟩
        cases b with
        | false => exact iteF (ih.orv hc hs2 hns2 g1 (r.ext x1 g) h1 pos)
        | true => exact iteT (h1 _ μ1 H1 Ext.refl g1 (.bl _))
      | _ => exact h1.elim

/-! ## comparisons, in both places -/
theorem cmp_read {M : Nat} (ih : ∀ m, m < M → AllE T cl cls m) {X : Cx} {E : XK} (hc : Ctx T cl cls E X) {k1 k2 : Nat} {l r0 : Expr} {a b : C} {op : CmpOp} (h1 : isE T k1 X.N X.env.scope l a = true) (h2 : isE T k2 X.N X.env.scope r0 b = true)
    {env : En} {S : Sto} {μ : List Addr} {σ : L2.St} {H : Hp} {Q : VK} (g : Good X.K X.w μ S H) (r : EnvR X.K μ H env σ) (h : RsP X.K X.w cls E μ H (run T cl M env S (.e (.cmp op a b))) Q) :
    tOp (WOp X (compareOp op)) (WPE X l) (WPE X r0) σ H Q := by
  cases M with
  | zero => exact h.elim
  | succ m =>
    have h : RsP X.K X.w cls E μ H ((run T cl m env S (.e a)).b1 fun x S => (run T cl m env S (.e b)).b1 fun y S => cmpD op x y S) Q := h
    have i := ih m (Nat.lt_succ_self m)
    refine i.e hc h1 g r (RsP.mono (b1_P h) ?_)
    rintro v H1 ⟨d, S1, μ1, x1, g1, r1, q1⟩
    refine i.e hc h2 g1 (r.ext x1 g) (RsP.mono (b1_P q1) ?_)
    rintro u H2 ⟨d2, S2, μ2, x2, g2, r2, q2⟩
    exact cmpD_ok g2 hc.un op (Rl.ext x2 g1 r1) r2 q2
theorem chain_read {M : Nat} (ih : ∀ m, m < M → AllE T cl cls m) {X : Cx} {E : XK} (hc : Ctx T cl cls E X) {k1 k2 k3 : Nat} {l y z : Expr} {a b c : C} {op op' : CmpOp} (h1 : isE T k1 X.N X.env.scope l a = true) (h2 : isE T k2 X.N X.env.scope y b = true) (h3 : isE T k3 X.N X.env.scope z c = true)
    {env : En} {S : Sto} {μ : List Addr} {σ : L2.St} {H : Hp} {Q : VK} (g : Good X.K X.w μ S H) (r : EnvR X.K μ H env σ) (h : RsP X.K X.w cls E μ H (run T cl M env S (.e (.chain a op b op' c))) Q) :
    tChain (WOp X (compareOp op)) (WOp X (compareOp op')) (WPE X l) (WPE X y) (WPE X z) σ H Q := by
  cases M with
  | zero => exact h.elim
  | succ m =>
    have h : RsP X.K X.w cls E μ H ((run T cl m env S (.e a)).b1 fun x S => (run T cl m env S (.e b)).b1 fun y S => (cmpD op x y S).b1 fun z S => (match z with
        | .bl true => (run T cl m env S (.e c)).b1 fun u S => cmpD op' y u S
        | .bl false => .ok (.bl false) S
        | _ => .bad)) Q := h
    have i := ih m (Nat.lt_succ_self m)
    refine i.e hc h1 g r (RsP.mono (b1_P h) ?_)
    rintro v H1 ⟨d, S1, μ1, x1, g1, r1, q1⟩
    refine i.e hc h2 g1 (r.ext x1 g) (RsP.mono (b1_P q1) ?_)
    rintro u H2 ⟨d2, S2, μ2, x2, g2, r2, q2⟩
    refine cmpD_ok g2 hc.un op (Rl.ext x2 g1 r1) r2 (RsP.mono (b1_P q2) ?_)
    rintro w H3 ⟨d3, S3, μ3, x3, g3, r3, q3⟩
    cases r3 with
    | bl b =>
      refine ⟨b, rfl, ?_⟩
      cases b with
      | false => exact iteF (q3 _ μ3 H3 Ext.refl g3 (.bl _))
      | true =>
        refine iteT ?_
        refine i.e hc h3 g3 (((r.ext x1 g).ext x2 g1).ext x3 g2) (RsP.mono (b1_P q3) ?_)
        rintro w4 H4 ⟨d4, S4, μ4, x4, g4, r4, q4⟩
        exact cmpD_ok g4 hc.un op' (Rl.ext x4 g3 (Rl.ext x3 g2 r2)) r4 q4
    | _ => exact q3.elim
theorem chain3_read {M : Nat} (ih : ∀ m, m < M → AllE T cl cls m) {X : Cx} {E : XK} (hc : Ctx T cl cls E X) {k1 k2 k3 k4 : Nat} {l y z u : Expr} {a b c d : C} {op op' op'' : CmpOp} (h1 : isE T k1 X.N X.env.scope l a = true) (h2 : isE T k2 X.N X.env.scope y b = true) (h3 : isE T k3 X.N X.env.scope z c = true) (h4 : isE T k4 X.N X.env.scope u d = true)
    {env : En} {S : Sto} {μ : List Addr} {σ : L2.St} {H : Hp} {Q : VK} (g : Good X.K X.w μ S H) (r : EnvR X.K μ H env σ) (h : RsP X.K X.w cls E μ H (run T cl M env S (.e (.chain3 a op b op' c op'' d))) Q) :
    tChain3 (WOp X (compareOp op)) (WOp X (compareOp op')) (WOp X (compareOp op'')) (WPE X l) (WPE X y) (WPE X z) (WPE X u) σ H Q := by
  cases M with
  | zero => exact h.elim
  | succ m =>
    have h : RsP X.K X.w cls E μ H ((run T cl m env S (.e a)).b1 fun x S => (run T cl m env S (.e b)).b1 fun y S => (cmpD op x y S).b1 fun z S => (match z with
        | .bl true => (run T cl m env S (.e c)).b1 fun u S => (cmpD op' y u S).b1 fun z S => (match z with
          | .bl true => (run T cl m env S (.e d)).b1 fun w S => cmpD op'' u w S
          | .bl false => .ok (.bl false) S
          | _ => .bad)
        | .bl false => .ok (.bl false) S
        | _ => .bad)) Q := h
    have i := ih m (Nat.lt_succ_self m)
    refine i.e hc h1 g r (RsP.mono (b1_P h) ?_)
    rintro v H1 ⟨d, S1, μ1, x1, g1, r1, q1⟩
    refine i.e hc h2 g1 (r.ext x1 g) (RsP.mono (b1_P q1) ?_)
    rintro u H2 ⟨d2, S2, μ2, x2, g2, r2, q2⟩
    refine cmpD_ok g2 hc.un op (Rl.ext x2 g1 r1) r2 (RsP.mono (b1_P q2) ?_)
    rintro w H3 ⟨d3, S3, μ3, x3, g3, r3, q3⟩
    cases r3 with
    | bl b =>
      refine ⟨b, rfl, ?_⟩
      cases b with
      | false => exact iteF (q3 _ μ3 H3 Ext.refl g3 (.bl _))
      | true =>
        refine iteT ?_
        have re3 := ((r.ext x1 g).ext x2 g1).ext x3 g2
        refine i.e hc h3 g3 re3 (RsP.mono (b1_P q3) ?_)
        rintro w4 H4 ⟨d4, S4, μ4, x4, g4, r4, q4⟩
        refine cmpD_ok g4 hc.un op' (Rl.ext x4 g3 (Rl.ext x3 g2 r2)) r4 (RsP.mono (b1_P q4) ?_)
        rintro w5 H5 ⟨d5, S5, μ5, x5, g5, r5, q5⟩
        cases r5 with
        | bl b =>
          refine ⟨b, rfl, ?_⟩
          cases b with
          | false => exact iteF (q5 _ μ5 H5 Ext.refl g5 (.bl _))
          | true =>
            refine iteT ?_
            refine i.e hc h4 g5 ((re3.ext x4 g3).ext x5 g4) (RsP.mono (b1_P q5) ?_)
            rintro w6 H6 ⟨d6, S6, μ6, x6, g6, r6, q6⟩
            exact cmpD_ok g6 hc.un op'' (Rl.ext x6 g5 (Rl.ext x5 g4 r4)) r6 q6
        | _ => exact q5.elim
    | _ => exact q3.elim
/-- a bool at the end -/
theorem bool_end {K : PySem.W.Frag} {w : World} {E : XK} {μ : List Addr} {H : Hp} {r : Rs} {Q : Bool → Hp → Prop} (h : RsT K w cls E μ H (r.b1 fun x S => (match x with | .bl b => .ok (.bl b) S | _ => .bad)) Q) : RsP K w cls E μ H r fun x H' => ∃ k, x = .bl k ∧ Q k H' := by
  refine RsP.mono (b1_T h) ?_
  rintro v H1 ⟨d, S1, μ1, x1, g1, r1, q1⟩
  cases r1 with
  | bl b => exact ⟨b, rfl, q1 μ1 H1 Ext.refl g1⟩
  | _ => exact q1.elim
theorem allE_t {M : Nat} (ih : ∀ m, m < M + 1 → AllE T cl cls m) : ∀ {X : Cx} {E : XK}, Ctx T cl cls E X → ∀ {n : Nat} {e : Expr} {c : C}, isE T n X.N X.env.scope e c = true → ∀ {env : En} {S : Sto} {μ : List Addr} {σ : L2.St} {H : Hp} {Q : Bool → Hp → Prop},
    Good X.K X.w μ S H → EnvR X.K μ H env σ → RsT X.K X.w cls E μ H (run T cl (M + 1) env S (.t c)) Q → WPT X e σ H Q := by
  intro X E hc n e c hi env S μ σ H Q g r h
  have i := ih M (Nat.lt_succ_self M)
  have generic : plainC c = true → RsT X.K X.w cls E μ H ((run T cl M env S (.e c)).b1 fun x S => (match truD S x with | some b => .ok (.bl b) S | none => .bad)) Q → WPT X e σ H Q := fun hp h => by
    refine ⟨_, pt_truth pe_w (plainT_is (plain_of hi hp)), ?_⟩
    refine i.e hc hi g r (RsP.mono (b1_T h) ?_)
    rintro v H1 ⟨d, S1, μ1, x1, g1, r1, q1⟩
    split at q1
    · rename_i b eb
      exact ⟨b, tru_ok' g1 r1 eb, q1 μ1 H1 Ext.refl g1⟩
    · exact q1.elim
  cases c with
  | not a =>
    cases n with
    | zero => cases hi
    | succ n =>
      unfold isE at hi
      dsimp only at hi
      split at hi
      · have h : RsT X.K X.w cls E μ H ((run T cl M env S (.t a)).b1 fun x S => (match x with | .bl b => .ok (.bl (!b)) S | _ => .bad)) Q := h
        refine ⟨_, pt_not pt_w, ?_⟩
        refine i.t hc hi g r (RsT.mono (t1_T h fun d S hn => by cases d with | bl b => exact absurd rfl (hn b) | _ => rfl) ?_)
        rintro b H1 ⟨S1, μ1, x1, g1, h1⟩
        exact h1 μ1 H1 Ext.refl g1
      · cases hi
  | and cs =>
    cases n with
    | zero => cases hi
    | succ n =>
      unfold isE at hi
      dsimp only at hi
      split at hi
      · rw [Bool.and_eq_true] at hi
        exact ⟨_, pw_w.pt, i.ands hc hi.2 hi.1 g r h _⟩
      · cases hi
  | or cs =>
    cases n with
    | zero => cases hi
    | succ n =>
      unfold isE at hi
      dsimp only at hi
      split at hi
      · rw [Bool.and_eq_true] at hi
        exact ⟨_, pw_w.pt, i.ors hc hi.2 hi.1 g r h _⟩
      · cases hi
  | ite t a b => exact h.elim
  | cmp op a b =>
    cases n with
    | zero => cases hi
    | succ n =>
      unfold isE at hi
      dsimp only at hi
      split at hi
      · simp only [Bool.and_eq_true, decide_eq_true_eq, Bool.not_eq_true'] at hi
        obtain ⟨⟨⟨rfl, hm⟩, h1⟩, h2⟩ := hi
        refine ⟨_, pt_cmpR op_w pe_w pe_w hm, ?_⟩
        exact cmp_read (fun m hm => ih m (by omega)) hc h1 h2 g r (bool_end h)
      · cases hi
  | chain a op b op' c =>
    cases n with
    | zero => cases hi
    | succ n =>
      unfold isE at hi
      dsimp only at hi
      split at hi
      · simp only [Bool.and_eq_true, decide_eq_true_eq, Bool.not_eq_true'] at hi
        obtain ⟨⟨⟨⟨⟨rfl, rfl⟩, hm⟩, h1⟩, h2⟩, h3⟩ := hi
        refine ⟨_, pt_chain op_w op_w pe_w pe_w pe_w hm, ?_⟩
        exact chain_read (fun m hm => ih m (by omega)) hc h1 h2 h3 g r (bool_end h)
      · cases hi
  | chain3 a op b op' c op'' d =>
    cases n with
    | zero => cases hi
    | succ n =>
      unfold isE at hi
      dsimp only at hi
      split at hi
      · simp only [Bool.and_eq_true, decide_eq_true_eq, Bool.not_eq_true'] at hi
        obtain ⟨⟨⟨⟨⟨⟨⟨rfl, rfl⟩, rfl⟩, hm⟩, h1⟩, h2⟩, h3⟩, h4⟩ := hi
        refine ⟨_, pt_chain3 op_w op_w op_w pe_w pe_w pe_w pe_w hm, ?_⟩
        exact chain3_read (fun m hm => ih m (by omega)) hc h1 h2 h3 h4 g r (bool_end h)
      · cases hi
  | _ => exact generic rfl h

/-! ## iterators -/
theorem run_es1 {m : Nat} {env : En} {S S1 : Sto} {c : C} {ds : List D} (hn : ∀ d, c ≠ .star d) (h : run T cl m env S (.es [c]) = .oks ds S1) : ∃ m' d, m = m' + 1 ∧ run T cl m' env S (.e c) = .ok d S1 ∧ ds = [d] := by
  cases m with
  | zero => cases h
  | succ m =>
    rw [run_cons hn] at h
    cases e : run T cl m env S (.e c) with
    | ok d S2 =>
      rw [e] at h
      cases m with
      | zero => cases e
      | succ m =>
        cases h
        exact ⟨m + 1, d, rfl, e, rfl⟩
    | _ => rw [e] at h; cases h
theorem run_es1x {m : Nat} {env : En} {S S1 : Sto} {c : C} {k : Nat} {as : List D} (hn : ∀ d, c ≠ .star d) (h : run T cl m env S (.es [c]) = .exc k as S1) : ∃ m', m = m' + 1 ∧ run T cl m' env S (.e c) = .exc k as S1 := by
  cases m with
  | zero => cases h
  | succ m =>
    rw [run_cons hn] at h
    cases e : run T cl m env S (.e c) with
    | ok d S2 =>
      rw [e] at h
      cases m with
      | zero => cases e
      | succ m => cases h
    | exc k2 as2 S2 => rw [e] at h; cases h; exact ⟨m, rfl, e⟩
    | _ => rw [e] at h; cases h
theorem set_folded {e : Expr} {env : Env} (h : isSet e = false) : ∀ x, foldedSetIterable e env x = pure x := by
  intro x
  cases e <;> first | rfl | cases h
theorem it_notSet {n : Nat} {N : List Str} {sc : Scope} {t e : Expr} {it : ItK} {ops : List C} (h : isIt T n N sc t e it ops = true) : isSet e = false := by
  cases n with
  | zero => cases h
  | succ n =>
    unfold isIt at h
    cases it with
    | seq =>
      simp only [Bool.and_eq_true] at h
      simpa using h.1
    | comb =>
      dsimp only at h
      rw [Bool.and_eq_true] at h
      obtain ⟨_, h⟩ := h
      split at h
      · rfl
      · cases h
    | _ =>
      dsimp only at h
      split at h
      · rfl
      · cases h
theorem star1 {a : Expr} {env : Env} (h : noStar [a] = true) : starEach [a] env = [(false, eval a env)] := by
  rw [star_cons (noStar_cons h).1]
  rfl
theorem star2 {a b : Expr} {env : Env} (h : noStar [a, b] = true) : starEach [a, b] env = [(false, eval a env), (false, eval b env)] := by
  rw [star_cons (noStar_cons h).1, star1 (noStar_cons h).2]
def tRgA (ta : TA) : L2.St → Hp → (Int → Int → Hp → Prop) → Prop := fun σ H Q => ta σ H fun vs H1 => ∃ n, vs = [.int n] ∧ Q 0 n H1
theorem prg_A {X : Cx} {a : Expr} {ta : TA} {p pos : Pos} (hg : Gl X "range") (hm : X.mg "range" = none) (ha : PA X [a] ta) (hs : starEach [a] X.env = [(false, eval a X.env)]) : PRg X (.Call (.Name "range" p) [a] [] pos) (tRgA ta) := by
  intro pins s σ H Q I h
  refine Call_ (ld_blt I hg hm boot_range (PyProof.Rows.callWith_type1 (thn (ha.run pos pins s σ H _ I h) fun us s1 ⟨vs, H1, I1, r1, q1⟩ => ?_) hs rfl))
  obtain ⟨n, e, q⟩ := q1
  subst e
  cases r1 with
  | cons r rr =>
    cases rr
    obtain ⟨t, rfl⟩ := r
    exact call_range_1 ⟨_, 0, n, _, _, _, H1, rfl, IsRange.new _ _ _ _ _ _ _, I1.kept fun b u e => Heap.get?_push_of_some _ e, q⟩
theorem it_ok {m : Nat} (ih : ∀ k, k ≤ m → AllE T cl cls k) {X : Cx} {E : XK} (hc : Ctx T cl cls E X) {n : Nat} {t e : Expr} {it : ItK} {ops : List C} (hi : isIt T n X.N X.env.scope t e it ops = true)
    {env : En} {S : Sto} {μ : List Addr} {σ : L2.St} {H : Hp} {R : It → Hp → Prop} (g : Good X.K X.w μ S H) (r : EnvR X.K μ H env σ)
    (q : (∃ ds S1 iv, run T cl m env S (.es ops) = .oks ds S1 ∧ ivOf it ds S1 = some iv ∧ ∀ μ1 H1 J, Ext μ H μ1 H1 → Good X.K X.w μ1 S1 H1 → ItR X.K μ1 H1 iv J → R J H1) ∨
      ∃ c as S1, run T cl m env S (.es ops) = .exc c as S1 ∧ ExP X.K X.w cls E μ H c as S1) : WPI X t e σ H R := by
  have ihm := ih m (Nat.le_refl m)
  have hA : ∀ {k : Nat} {es : List Expr} {Q : List V → Hp → Prop}, isEs T k X.N X.env.scope es ops = true →
      (∀ ds iv S1, ivOf it ds S1 = some iv → ∀ vs μ1 H1, Ext μ H μ1 H1 → Good X.K X.w μ1 S1 H1 → RlA X.K μ1 H1 ds vs → (∀ J, ItR X.K μ1 H1 iv J → R J H1) → Q vs H1) → WPA X es σ H Q := fun {k es Q} hk hq => by
    refine ihm.es hc hk g r ?_
    rcases q with ⟨ds, S1, iv, e1, e2, q⟩ | ⟨c, as, S1, e1, q⟩
    · rw [e1]
      exact fun vs μ1 H1 x1 g1 r1 => hq ds iv S1 e2 vs μ1 H1 x1 g1 r1 fun J hJ => q μ1 H1 J x1 g1 hJ
    · rw [e1]
      exact q
  cases n with
  | zero => cases hi
  | succ n =>
    unfold isIt at hi
    cases it with
    | seq =>
      simp only [Bool.and_eq_true] at hi
      obtain ⟨_, hi⟩ := hi
      split at hi
      · rename_i c
        have hn : ∀ d, c ≠ .star d := fun d e0 => by
          subst e0
          cases n with
          | zero => cases hi
          | succ n => unfold isE at hi; cases hi
        rcases q with ⟨ds, S1, iv, e1, e2, q⟩ | ⟨c, as, S1, e1, q⟩
        · obtain ⟨m', d, rfl, e3, rfl⟩ := run_es1 hn e1
          cases d with
          | ref k =>
            have e2 : cond (S1.get k).isSome (some (Iv.lst k)) none = some iv := e2
            cases e0 : S1.get k with
            | none => rw [e0] at e2; cases e2
            | some l =>
            rw [e0] at e2
            cases e2
            refine ⟨_, pi_list pe_w, ?_⟩
            refine (ih m' (by omega)).e hc hi g r ?_
            rw [e3]
            intro v μ1 H1 x1 g1 r1
            obtain ⟨a, rfl, p⟩ := rl_ref r1
            obtain ⟨xs, h1, _⟩ := g1.lst p e0
            exact ⟨a, rfl, ⟨xs, sqL_of h1⟩, q μ1 H1 _ x1 g1 (.lst p)⟩
          | tup l =>
            cases e2
            refine ⟨_, pi_tup pe_w, ?_⟩
            refine (ih m' (by omega)).e hc hi g r ?_
            rw [e3]
            intro v μ1 H1 x1 g1 r1
            obtain ⟨a, xs, rfl, p, rr⟩ := rl_tup r1
            exact ⟨a, rfl, ⟨xs, sqT_of p⟩, q μ1 H1 _ x1 g1 (.tup (sqT_of p) rr)⟩
          | _ => cases e2
        · obtain ⟨m', rfl, e3⟩ := run_es1x hn e1
          refine ⟨_, pi_list pe_w, ?_⟩
          refine (ih m' (by omega)).e hc hi g r ?_
          rw [e3]
          exact q
      · cases hi
    | rng1 =>
      dsimp only at hi
      split at hi
      · simp only [Bool.and_eq_true, decide_eq_true_eq] at hi
        obtain ⟨⟨⟨rfl, hg⟩, hns⟩, hes⟩ := hi
        refine ⟨_, pi_range1 (gl_of hg) (hc.mg0 _ (by simp)) pa_w (star1 hns), ?_⟩
        refine hA hes fun ds iv S1 e2 vs μ1 H1 x1 g1 r1 q => ?_
        unfold ivOf at e2
        dsimp only at e2
        split at e2
        · rename_i j
          obtain ⟨v, rfl, rv⟩ := vals1' r1
          cases rv
          cases c : (decide (-(2 ^ 62) ≤ j) && decide (j < 2 ^ 62)) with
          | false => rw [c] at e2; cases e2
          | true =>
            rw [c] at e2
            cases e2
            simp only [Bool.and_eq_true, decide_eq_true_eq] at c
            exact ⟨j, rfl, c.1, c.2, q _ (.rng 0 _)⟩
        · cases e2
      · cases hi
    | rng2 =>
      dsimp only at hi
      split at hi
      · simp only [Bool.and_eq_true, decide_eq_true_eq] at hi
        obtain ⟨⟨⟨rfl, hg⟩, hns⟩, hes⟩ := hi
        refine ⟨_, pi_range2 (gl_of hg) (hc.mg0 _ (by simp)) pa_w (star2 hns) (star1 (noStar_cons hns).2), ?_⟩
        refine hA hes fun ds iv S1 e2 vs μ1 H1 x1 g1 r1 q => ?_
        unfold ivOf at e2
        dsimp only at e2
        split at e2
        · rename_i i j
          obtain ⟨v, u, rfl, rv, ru⟩ := vals2' r1
          cases rv
          cases ru
          cases c : (decide (-(2 ^ 62) ≤ i) && decide (i < 2 ^ 62) && decide (-(2 ^ 62) ≤ j) && decide (j < 2 ^ 62)) with
          | false => rw [c] at e2; cases e2
          | true =>
            rw [c] at e2
            cases e2
            simp only [Bool.and_eq_true, decide_eq_true_eq] at c
            exact ⟨i, j, rfl, ⟨c.1.1.1, c.1.1.2, c.1.2, c.2⟩, q _ (.rng i _)⟩
        · cases e2
      · cases hi
    | zip =>
      dsimp only at hi
      split at hi
      · simp only [Bool.and_eq_true, decide_eq_true_eq] at hi
        obtain ⟨⟨⟨rfl, hg⟩, hns⟩, hes⟩ := hi
        refine ⟨_, RZ.pi_zipA (gl_of hg) (hc.mg0 _ (by simp)) pa_w (star_cons (noStar_cons hns).1) (star_any (noStar_cons hns).2), ?_⟩
        refine hA hes fun ds iv S1 e2 vs μ1 H1 x1 g1 r1 q => ?_
        unfold ivOf at e2
        dsimp only at e2
        split at e2
        · obtain ⟨v, u, rfl, rv, ru⟩ := vals2' r1
          obtain ⟨a, rfl, p⟩ := rl_ref rv
          obtain ⟨b, rfl, p2⟩ := rl_ref ru
          rename_i n m
          cases e0 : S1.get n with
          | none => rw [e0] at e2; cases e2
          | some l =>
          cases e3 : S1.get m with
          | none => rw [e0, e3] at e2; cases e2
          | some k =>
          rw [e0, e3] at e2
          obtain ⟨xs, h1, _⟩ := g1.lst p e0
          obtain ⟨ys, h2, _⟩ := g1.lst p2 e3
          cases e2
          exact ⟨a, b, xs, ys, rfl, .inl ⟨sqL_of h1, sqL_of h2, q _ (.zipL p p2)⟩⟩
        · obtain ⟨v, u, rfl, rv, ru⟩ := vals2' r1
          obtain ⟨a, xs, rfl, p, rr⟩ := rl_tup rv
          obtain ⟨b, ys, rfl, p2, rr2⟩ := rl_tup ru
          cases e2
          exact ⟨a, b, xs, ys, rfl, .inr ⟨sqT_of p, sqT_of p2, q _ (.zipT (sqT_of p) (sqT_of p2) rr rr2)⟩⟩
        · cases e2
      · cases hi
    | revR =>
      dsimp only at hi
      split at hi
      · simp only [Bool.and_eq_true, decide_eq_true_eq] at hi
        obtain ⟨⟨⟨⟨⟨rfl, hg⟩, rfl⟩, hg2⟩, hns⟩, hes⟩ := hi
        refine ⟨_, pi_revR (gl_of hg) (hc.mg0 _ (by simp)) (prg_A (gl_of hg2) (hc.mg0 _ (by simp)) pa_w (star1 hns)), ?_⟩
        refine hA hes fun ds iv S1 e2 vs μ1 H1 x1 g1 r1 q => ?_
        unfold ivOf at e2
        dsimp only at e2
        split at e2
        · rename_i j
          obtain ⟨v, rfl, rv⟩ := vals1' r1
          cases rv
          cases c : (decide (-(2 ^ 62) ≤ j) && decide (j < 2 ^ 62)) with
          | false => rw [c] at e2; cases e2
          | true =>
            rw [c] at e2
            cases e2
            simp only [Bool.and_eq_true, decide_eq_true_eq] at c
            exact ⟨j, rfl, by decide, by decide, c.1, c.2, q _ (.rngC _ _ _)⟩
        · cases e2
      · cases hi
    | comb =>
      dsimp only at hi
      rw [Bool.and_eq_true] at hi
      obtain ⟨hcb, hi⟩ := hi
      split at hi
      · simp only [Bool.and_eq_true, decide_eq_true_eq] at hi
        obtain ⟨⟨⟨rfl, hg⟩, hns⟩, hes⟩ := hi
        refine ⟨_, pi_cmb (gl_of hg) (hc.comb hcb) pa_w (star_cons (noStar_cons hns).1) (star_any (noStar_cons hns).2), ?_⟩
        refine hA hes fun ds iv S1 e2 vs μ1 H1 x1 g1 r1 q => ?_
        unfold ivOf at e2
        dsimp only at e2
        split at e2
        · rename_i n r
          obtain ⟨v, u, rfl, rv, ru⟩ := vals2' r1
          obtain ⟨a, rfl, p⟩ := rl_ref rv
          cases ru
          split at e2
          · rename_i l e0
            obtain ⟨xs, h1, rr⟩ := g1.lst p e0
            cases c : (decide (0 ≤ r) && decide (r ≤ (l.length : Int)) && Nat.ble l.length 60) with
            | false => rw [c] at e2; cases e2
            | true =>
            rw [c] at e2
            simp only [cond_true] at e2
            split at e2
            · rename_i R e1
              cases c2 : (R.all fun m => Nat.ble m.length 1000) with
              | false => rw [c2] at e2; cases e2
              | true =>
              rw [c2] at e2
              cases e2
              simp only [Bool.and_eq_true, decide_eq_true_eq] at c
              have c3 := Nat.le_of_ble_eq_true c.2
              have el := rr.length
              refine ⟨a, xs, r.toNat, R, ?_, sqL_of h1, by omega, by omega, by rw [← el]; exact e1, fun m hm => Nat.le_of_ble_eq_true (List.all_eq_true.mp c2 m hm), q _ (.cmb (rows_picks rr R))⟩
              rw [Int.toNat_of_nonneg c.1.1]
            · cases e2
          · cases e2
        · cases e2
      · cases hi
    | rng3 =>
      dsimp only at hi
      split at hi
      · simp only [Bool.and_eq_true, decide_eq_true_eq] at hi
        obtain ⟨⟨⟨rfl, hg⟩, hns⟩, hes⟩ := hi
        refine ⟨_, pi_range3 (gl_of hg) (hc.mg0 _ (by simp)) pa_w (star_cons (noStar_cons hns).1) (star_any (noStar_cons hns).2), ?_⟩
        refine hA hes fun ds iv S1 e2 vs μ1 H1 x1 g1 r1 q => ?_
        unfold ivOf at e2
        dsimp only at e2
        split at e2
        · rename_i i j k
          cases r1 with
          | cons a t =>
            obtain ⟨v, u, rfl, rv, ru⟩ := vals2' t
            cases a
            cases rv
            cases ru
            cases c : (decide (k = -1) && decide (-(2 ^ 60) ≤ i) && decide (i < 2 ^ 60) && decide (-(2 ^ 60) ≤ j) && decide (j < 2 ^ 60)) with
            | false => rw [c] at e2; cases e2
            | true =>
              rw [c] at e2
              cases e2
              simp only [Bool.and_eq_true, decide_eq_true_eq] at c
              obtain ⟨⟨⟨⟨rfl, c1⟩, c2⟩, c3⟩, c4⟩ := c
              exact ⟨i, j, -1, _, rfl, RgC.neg (by omega) (by omega) (by omega) (by omega), q _ (.rngC i (-1) _)⟩
        · cases e2
      · cases hi
    | enu =>
      dsimp only at hi
      split at hi
      · simp only [Bool.and_eq_true, decide_eq_true_eq] at hi
        obtain ⟨⟨⟨rfl, hg⟩, hns⟩, hes⟩ := hi
        refine ⟨_, pi_enumA (gl_of hg) (hc.mg0 _ (by simp)) pa_w (star1 hns), ?_⟩
        refine hA hes fun ds iv S1 e2 vs μ1 H1 x1 g1 r1 q => ?_
        unfold ivOf at e2
        dsimp only at e2
        split at e2
        · rename_i n
          obtain ⟨v, rfl, rv⟩ := vals1' r1
          obtain ⟨a, rfl, p⟩ := rl_ref rv
          cases e0 : S1.get n with
          | none => rw [e0] at e2; cases e2
          | some l =>
          rw [e0] at e2
          obtain ⟨xs, h1, _⟩ := g1.lst p e0
          cases e2
          exact ⟨a, rfl, .inl ⟨xs, sqL_of h1, q _ (.enu p)⟩⟩
        · obtain ⟨v, rfl, rv⟩ := vals1' r1
          obtain ⟨a, xs, rfl, p, rr⟩ := rl_tup rv
          cases e2
          exact ⟨a, rfl, .inr ⟨xs, sqT_of p, q _ (.enuT (sqT_of p) rr)⟩⟩
        · cases e2
      · cases hi
end
end EV
set_option Elab.async false
set_option linter.all false
set_option maxRecDepth 100000
set_option maxHeartbeats 4000000
namespace EV
open PySem PySem.Spec PyProof.Rows L2
section
variable {T : Tb} {cl : Nat → List D → Sto → Rs} {cls : Nat → Addr × Option Str}
theorem own_slots (N : List Str) : ∀ vs : List Nat, (ownOf N vs).map (·.2) = vs
  | [] => rfl
  | v :: vs => congrArg (v :: ·) (own_slots N vs)
def blkG (X : Cx) (scope : Scope) (t : Expr) : TG := fun v σ H Q => ∀ (s : Shared) (H0 : Hp) (C : Addr) (c : List (Str × Addr)) (fp : List Addr), WPG (X.blk s H0 scope (compEnvC scope c C X.env) fp) t v σ H Q
def blkT (X : Cx) (scope : Scope) (fs : List Expr) : TT := fun σ H Q => ∀ (s : Shared) (H0 : Hp) (C : Addr) (c : List (Str × Addr)) (fp : List Addr), WPTs (X.blk s H0 scope (compEnvC scope c C X.env) fp) fs σ H Q
def blkE (X : Cx) (scope : Scope) (el : Expr) : TE := fun σ H Q => ∀ (s : Shared) (H0 : Hp) (C : Addr) (c : List (Str × Addr)) (fp : List Addr), WPE (X.blk s H0 scope (compEnvC scope c C X.env) fp) el σ H Q
def blkI (X : Cx) (scope : Scope) (t iter : Expr) : TI := fun σ H R => ∀ (s : Shared) (H0 : Hp) (C : Addr) (c : List (Str × Addr)) (fp : List Addr), WPI (X.blk s H0 scope (compEnvC scope c C X.env) fp) t iter σ H R
theorem pg_blk {X : Cx} {scope : Scope} {t : Expr} (s : Shared) (H0 : Hp) (C : Addr) (c : List (Str × Addr)) (fp : List Addr) : PG (X.blk s H0 scope (compEnvC scope c C X.env) fp) t (blkG X scope t) :=
  ⟨fun pins s1 σ1 H1 v u Q1 I r1 q => pg_w.run pins s1 σ1 H1 v u Q1 I r1 (q s H0 C c fp)⟩
theorem pt_blk {X : Cx} {scope : Scope} {fs : List Expr} (s : Shared) (H0 : Hp) (C : Addr) (c : List (Str × Addr)) (fp : List Addr) : PTs (X.blk s H0 scope (compEnvC scope c C X.env) fp) fs (blkT X scope fs) :=
  ⟨fun pins s1 σ1 H1 Q1 I q => pts_w.run pins s1 σ1 H1 Q1 I (q s H0 C c fp)⟩
theorem pe_blk {X : Cx} {scope : Scope} {el : Expr} (s : Shared) (H0 : Hp) (C : Addr) (c : List (Str × Addr)) (fp : List Addr) : PE (X.blk s H0 scope (compEnvC scope c C X.env) fp) el (blkE X scope el) :=
  ⟨fun pins s1 σ1 H1 Q1 I q => pe_w.run pins s1 σ1 H1 Q1 I (q s H0 C c fp)⟩
theorem pi_blk {X : Cx} {scope : Scope} {t iter : Expr} (s : Shared) (H0 : Hp) (C : Addr) (c : List (Str × Addr)) (fp : List Addr) : PI (X.blk s H0 scope (compEnvC scope c C X.env) fp) t iter (blkI X scope t iter) :=
  ⟨fun pins s1 σ1 H1 R1 I q => pi_w.run pins s1 σ1 H1 R1 I (q s H0 C c fp)⟩
def ifsR (T : Tb) (cl : Nat → List D → Sto → Rs) (k : Nat) (e1 : En) (S : Sto) (ifs : List C) : Rs := match ifs with
  | [] => .ok (.bl true) S
  | [c] => run T cl k e1 S (.t c)
  | _ => .bad
/-- the tests of a clause -/
theorem tests_ok {k : Nat} (ihk : AllE T cl cls k) {X : Cx} {scope : Scope} {fs : List Expr} {ifs : List C} {k2 : Nat} (ctx : ∀ (s : Shared) (H0 : Hp) (C : Addr) (c : List (Str × Addr)) (fp : List Addr), Ctx T cl cls E0 (X.blk s H0 scope (compEnvC scope c C X.env) fp))
    (hfs : isEs T k2 X.N (relS scope X.env.scope) fs ifs = true) (hns : noStar fs = true) {e1 : En} {Sk S0 : Sto} {μ : List Addr} {σ1 : L2.St} {H' : Hp} {b : Bool} (g : Good X.K X.w μ Sk H') (re : EnvR X.K μ H' e1 σ1)
    (hr : ifsR T cl k e1 Sk ifs = Rs.ok (.bl b) S0) {R : Bool → Hp → Prop} (cont : ∀ μ3 H3, Ext μ H' μ3 H3 → Good X.K X.w μ3 S0 H3 → R b H3) : blkT X scope fs σ1 H' R := by
  intro s2 H02 C2 c2 fp2
  rcases ands_inv hfs hns with ⟨rfl, rfl⟩ | ⟨kk, f0, fs', c0, ifs', rfl, rfl, ⟨kk2, hf0⟩, hfs', hns'⟩
  · cases hr
    exact ⟨_, pts_nil, cont μ H' Ext.refl g⟩
  · rcases ands_inv hfs' hns' with ⟨rfl, rfl⟩ | ⟨_, _, _, _, _, rfl, rfl, _, _, _⟩
    · refine ⟨_, pts_one pt_w, ?_⟩
      refine ihk.t (ctx s2 H02 C2 c2 fp2) (n := kk2) (c := c0) hf0 g re ?_
      have hr : run T cl k e1 Sk (.t c0) = Rs.ok (.bl b) S0 := hr
      rw [hr]
      exact fun μ3 H3 x3 g3 => cont μ3 H3 x3 g3
    · cases hr
/-- the turns of a clause whose items go to the list at L -/
def LcTurn (X : Cx) (scope : Scope) (t : Expr) (fs : List Expr) (el : Expr) (vs : List Nat) (σ : L2.St) (J : It) (L : Addr) (F : Hp → Prop) (W : Nat → Nat → Hp → Prop) : Prop := ∀ i m H, W i m H →
  (J.stop i H ∧ F H) ∨ (J.go i H ∧ ∃ Nx : Hp → Prop, (∀ H', Nx H' → ∃ m', m' < m ∧ W (i + 1) m' H') ∧ ∀ x H', J.yld i H x H' → blkG X scope t x (L2.wipe σ vs) H' fun σ2 H2 => L2.wipe σ2 vs = L2.wipe σ vs ∧ blkT X scope fs σ2 H2 fun b H3 =>
    if b = true then blkE X scope el σ2 H3 fun y H4 => ∃ acc, H4 L = some (.lst acc) ∧ acc.length < sizeLine ∧ Nx (upd H4 L (.lst (acc ++ [y]))) else Nx H3)
theorem lc_loop {M : Nat} (ih : ∀ m, m ≤ M → AllE T cl cls m) {X : Cx} {k2 k3 : Nat} {vs : List Nat} {tg : Tg} {ifs : List C} {elt : C} {el t : Expr} {fs : List Expr} {scope : Scope} {iv : Iv} {J : It} {n : Nat} {L : Addr} {dF : D} {SF S0 : Sto} {F : Hp → Prop}
    (hcalm : X.calm = true) (hnd : X.N.Nodup) (ctx : ∀ (s : Shared) (H0 : Hp) (C : Addr) (c : List (Str × Addr)) (fp : List Addr), Ctx T cl cls E0 (X.blk s H0 scope (compEnvC scope c C X.env) fp))
    (ht : isTg (fun x => scope.names.lookup x == some .cell) X.N (relS scope X.env.scope) t tg = true) (hin : tgIn vs tg = true)
    (hfs : isEs T k2 X.N (relS scope X.env.scope) fs ifs = true) (hns : noStar fs = true) (hel : isE T k3 X.N (relS scope X.env.scope) el elt = true)
    {env : En} {μ : List Addr} {σ : L2.St} {H : Hp} (g : Good X.K X.w μ S0 H) (r : EnvR X.K μ H env σ) (hJ : ItR X.K μ H iv J) (aL : μ[n]? = some L)
    (h : run T cl M (wipeE env vs) S0 (.lc 0 iv n vs tg ifs elt) = .ok dF SF) (fin : ∀ μ' H', Ext μ H μ' H' → Good X.K X.w μ' SF H' → dF = .ref n → F H') :
    ∃ W : Nat → Nat → Hp → Prop, (∃ m, W 0 m H) ∧ LcTurn X scope t fs el vs σ J L F W := by
  have rL : EnvR X.K μ H (wipeE env vs) (L2.wipe σ vs) := r.wipe vs
  refine ⟨fun i k Hk => ∃ μk Sk, Ext μ H μk Hk ∧ Good X.K X.w μk Sk Hk ∧ run T cl k (wipeE env vs) Sk (.lc i iv n vs tg ifs elt) = .ok dF SF ∧ k ≤ M,
    ⟨M, _, _, Ext.refl, g, h, Nat.le_refl _⟩, ?_⟩
  rintro i k Hk ⟨μk, Sk, xk, gk, hk, hkM⟩
  have rk := rL.ext xk g
  have Jk := hJ.ext xk g
  have ak := xk.at_ aL
  obtain ⟨st1, st2⟩ := Jk.step gk i
  cases k with
  | zero => cases hk
  | succ k =>
    have hk : (match ivNext i iv Sk with
      | none => .bad
      | some none => .ok (.ref n) Sk
      | some (some d) => (match asgT tg d (wipeE env vs) Sk with
        | none => .bad
        | some e1 => (match ifsR T cl k e1 Sk ifs with
          | .ok (.bl false) S => run T cl k (wipeE env vs) S (.lc (i + 1) iv n vs tg ifs elt)
          | .ok (.bl true) S => (match run T cl k e1 S (.e elt) with
            | .ok y S => (match S.get n with
              | some acc => cond (smallB (acc.length + 1)) (run T cl k (wipeE env vs) (S.set n (acc ++ [y])) (.lc (i + 1) iv n vs tg ifs elt)) .bad
              | none => .bad)
            | _ => .bad)
          | _ => .bad))) = Rs.ok dF SF := hk
    cases hn : ivNext i iv Sk with
    | none => rw [hn] at hk; cases hk
    | some o =>
      rw [hn] at hk
      cases o with
      | none =>
        cases hk
        exact .inl ⟨st1 hn, fin μk Hk xk gk rfl⟩
      | some d =>
        dsimp only at hk
        obtain ⟨go, yl⟩ := st2 d hn
        cases he : asgT tg d (wipeE env vs) Sk with
        | none => rw [he] at hk; cases hk
        | some e1 =>
          rw [he] at hk
          dsimp only at hk
          refine .inr ⟨go, fun H' => ∃ μ' S', Ext μ H μ' H' ∧ Good X.K X.w μ' S' H' ∧ run T cl k (wipeE env vs) S' (.lc (i + 1) iv n vs tg ifs elt) = .ok dF SF ∧ k ≤ M,
            fun H' w => ⟨k, Nat.lt_succ_self k, w⟩, fun x H' y => ?_⟩
          obtain ⟨xy, gy, rx⟩ := yl x H' y
          have ry := rk.ext xy gk
          intro s H0 C c fp
          refine tg_ok (X := X.blk s H0 scope (compEnvC scope c C X.env) fp) hcalm hnd (fn := fun x => scope.names.lookup x == some .cell) (fun x hx => hx) ht gy rx ry he fun σ1 re1 hs1 => ?_
          refine ⟨(hs1 vs hin).trans wipe_wipe, ?_⟩
          have xk' := xk.trans xy
          cases hb : ifsR T cl k e1 Sk ifs with
          | ok b0 S3 =>
            cases b0 with
            | bl b =>
              rw [hb] at hk
              refine tests_ok (ih k (by omega)) ctx hfs hns gy re1 hb fun μ3 H3 x3 g3 => ?_
              cases b with
              | false => exact iteF ⟨μ3, S3, xk'.trans x3, g3, hk, by omega⟩
              | true =>
                refine iteT ?_
                dsimp only at hk
                intro s4 H04 C4 c4 fp4
                cases hy : run T cl k e1 S3 (.e elt) with
                | ok y S4 =>
                  rw [hy] at hk
                  dsimp only at hk
                  refine (ih k (by omega)).e (ctx s4 H04 C4 c4 fp4) (n := k3) (c := elt) hel g3 (re1.ext x3 gy) ?_
                  rw [hy]
                  intro v μ4 H4 x4 g4 rv
                  have a4 := x4.at_ (x3.at_ (xy.at_ ak))
                  cases e5 : S4.get n with
                  | none => rw [e5] at hk; cases hk
                  | some l =>
                    rw [e5] at hk
                    obtain ⟨ys, h5, r5⟩ := g4.lst a4 e5
                    dsimp only at hk
                    cases cs : smallB (l.length + 1) with
                    | false => rw [cs] at hk; cases hk
                    | true =>
                      rw [cs] at hk
                      refine ⟨ys, h5, by rw [r5.length] at cs; exact small_lt cs, μ4, S4.set n (l ++ [y]), ?_, good_set g4 a4 (r5.append (.cons rv .nil)), hk, by omega⟩
                      exact (xk'.trans x3).trans (x4.trans (ext_set a4))
                | _ => rw [hy] at hk; cases hk
            | _ => rw [hb] at hk; cases hk
          | _ => rw [hb] at hk; cases hk
theorem comp_read {M : Nat} (ih : ∀ m, m ≤ M → AllE T cl cls m) {X : Cx} {E : XK} (hc : Ctx T cl cls E X) {k1 k2 k3 : Nat} {vs : List Nat} {tg : Tg} {it : ItK} {ops ifs : List C} {elt : C} {el t iter : Expr} {fs : List Expr} {scope : Scope} {pos : Pos}
    (hb : blkC X.N X.env.scope scope (ownOf X.N vs) = true) (ht : isTg (fun x => scope.names.lookup x == some .cell) X.N (relS scope X.env.scope) t tg = true) (hin : tgIn vs tg = true)
    (hi : isIt T k1 X.N X.env.scope t iter it ops = true) (hfs : isEs T k2 X.N (relS scope X.env.scope) fs ifs = true) (hns : noStar fs = true) (hel : isE T k3 X.N (relS scope X.env.scope) el elt = true)
    {env : En} {S : Sto} {μ : List Addr} {σ : L2.St} {H : Hp} {Q : VK} (g : Good X.K X.w μ S H) (r : EnvR X.K μ H env σ)
    (h : RsP X.K X.w cls E μ H (run T cl (M + 1) env S (.e (.comp vs tg it ops ifs elt))) Q) : tLc (WPI X t iter) (blkG X scope t) (blkT X scope fs) (blkE X scope el) vs σ H Q := by
  have hbo := blkOk_by hb
  have ctx : ∀ (s : Shared) (H0 : Hp) (C : Addr) (c : List (Str × Addr)) (fp : List Addr), Ctx T cl cls E0 (X.blk s H0 scope (compEnvC scope c C X.env) fp) := fun s H0 C c fp => ctx_blk hc hbo.kind s H0 C c fp
  have h : RsP X.K X.w cls E μ H ((run T cl M env S (.es ops)).bs fun ds S => (match ivOf it ds S with
        | some iv => (match run T cl M (wipeE env vs) (S.new []) (.lc 0 iv S.nx vs tg ifs elt) with
          | .ok d S => .ok d S
          | _ => .bad)
        | none => .bad)) Q := h
  refine it_ok (fun k hk => ih k hk) hc hi g r ?_
  cases hr : run T cl M env S (.es ops) with
  | oks ds S1 =>
    rw [hr] at h
    have h : RsP X.K X.w cls E μ H (match ivOf it ds S1 with
        | some iv => (match run T cl M (wipeE env vs) (S1.new []) (.lc 0 iv S1.nx vs tg ifs elt) with
          | .ok d S => .ok d S
          | _ => .bad)
        | none => .bad) Q := h
    cases hv : ivOf it ds S1 with
    | none => rw [hv] at h; exact h.elim
    | some iv =>
      rw [hv] at h
      dsimp only at h
      cases hl : run T cl M (wipeE env vs) (S1.new []) (.lc 0 iv S1.nx vs tg ifs elt) with
      | ok dF SF =>
        rw [hl] at h
        have h : Post X.K X.w μ H dF SF Q := h
        refine .inl ⟨ds, S1, iv, rfl, hv, fun μ1 H1 J x1 g1 hJ => ?_⟩
        intro L hL
        have gL : Good X.K X.w (μ1 ++ [L]) (S1.new []) (upd H1 L (.lst [])) := good_lst g1 hL .nil
        have xL : Ext μ1 H1 (μ1 ++ [L]) (upd H1 L (.lst [])) := ext_lst hL
        have aL : (μ1 ++ [L])[S1.nx]? = some L := at_last g1
        refine lc_loop ih hc.calm hc.nd ctx ht hin hfs hns hel gL ((r.ext x1 g).ext xL g1) (hJ.ext xL g1) aL hl fun μ' H' x' g' ed => ?_
        subst ed
        exact h _ μ' H' (x1.trans (xL.trans x')) g' (.ref (x'.at_ aL))
      | _ => rw [hl] at h; exact h.elim
  | exc c as S1 =>
    rw [hr] at h
    exact .inr ⟨c, as, S1, rfl, h⟩
  | _ => rw [hr] at h; exact h.elim
theorem comp_ok {M : Nat} (ih : ∀ m, m ≤ M → AllE T cl cls m) {X : Cx} {E : XK} (hc : Ctx T cl cls E X) {k1 k2 k3 : Nat} {vs : List Nat} {tg : Tg} {it : ItK} {ops ifs : List C} {elt : C} {el t iter : Expr} {fs : List Expr} {scope : Scope} {pos : Pos}
    (hb : blkC X.N X.env.scope scope (ownOf X.N vs) = true) (ht : isTg (fun x => scope.names.lookup x == some .cell) X.N (relS scope X.env.scope) t tg = true) (hin : tgIn vs tg = true)
    (hi : isIt T k1 X.N X.env.scope t iter it ops = true) (hfs : isEs T k2 X.N (relS scope X.env.scope) fs ifs = true) (hns : noStar fs = true) (hel : isE T k3 X.N (relS scope X.env.scope) el elt = true)
    {env : En} {S : Sto} {μ : List Addr} {σ : L2.St} {H : Hp} {Q : VK} (g : Good X.K X.w μ S H) (r : EnvR X.K μ H env σ)
    (h : RsP X.K X.w cls E μ H (run T cl (M + 1) env S (.e (.comp vs tg it ops ifs elt))) Q) : WPE X (.ListComp el [⟨t, iter, fs, 0⟩] scope pos) σ H Q := by
  have base : PE X (.ListComp el [⟨t, iter, fs, 0⟩] scope pos) (tLc (WPI X t iter) (blkG X scope t) (blkT X scope fs) (blkE X scope el) ((ownOf X.N vs).map (·.2))) :=
    pe_lc hc.calm hc.nd pi_w (blkOk_by hb) pg_blk pt_blk pe_blk (set_folded (it_notSet hi))
  rw [own_slots] at base
  exact ⟨_, base, comp_read (pos := pos) ih hc hb ht hin hi hfs hns hel g r h⟩
end
end EV
set_option Elab.async false
set_option linter.all false
set_option maxRecDepth 100000
set_option maxHeartbeats 4000000
namespace EV
open PySem PySem.Spec PyProof.Rows L2
section
variable {T : Tb} {cl : Nat → List D → Sto → Rs} {cls : Nat → Addr × Option Str}
theorem comp2_read {M : Nat} (ih : ∀ m, m ≤ M → AllE T cl cls m) {X : Cx} {E : XK} (hc : Ctx T cl cls E X) {k1 k2 k3 k4 k5 : Nat} {vs vs1 : List Nat} {tg tg1 : Tg} {it it1 : ItK} {ops ifs ops1 ifs1 : List C} {elt : C} {el t iter t1 iter1 : Expr} {fs fs1 : List Expr} {scope : Scope}
    (hb : blkC X.N X.env.scope scope (ownOf X.N vs) = true) (ht : isTg (fun x => scope.names.lookup x == some .cell) X.N (relS scope X.env.scope) t tg = true) (hin : tgIn vs tg = true)
    (hi : isIt T k1 X.N X.env.scope t iter it ops = true) (hfs : isEs T k2 X.N (relS scope X.env.scope) fs ifs = true) (hns : noStar fs = true)
    (ht1 : isTg (fun x => scope.names.lookup x == some .cell) X.N (relS scope X.env.scope) t1 tg1 = true) (hin1 : tgIn vs1 tg1 = true)
    (hi1 : isIt T k4 X.N (relS scope X.env.scope) t1 iter1 it1 ops1 = true) (hfs1 : isEs T k5 X.N (relS scope X.env.scope) fs1 ifs1 = true) (hns1 : noStar fs1 = true)
    (hel : isE T k3 X.N (relS scope X.env.scope) el elt = true)
    {env : En} {S : Sto} {μ : List Addr} {σ : L2.St} {H : Hp} {Q : VK} (g : Good X.K X.w μ S H) (r : EnvR X.K μ H env σ)
    (h : RsP X.K X.w cls E μ H (run T cl (M + 1) env S (.e (.comp2 vs tg it ops ifs vs1 tg1 it1 ops1 ifs1 elt))) Q) : tLc2 (WPI X t iter) (blkG X scope t) (blkT X scope fs) (blkI X scope t1 iter1) (blkG X scope t1) (blkT X scope fs1) (blkE X scope el) vs vs1 σ H Q := by
  have hbo := blkOk_by hb
  have ctx : ∀ (s : Shared) (H0 : Hp) (C : Addr) (c : List (Str × Addr)) (fp : List Addr), Ctx T cl cls E0 (X.blk s H0 scope (compEnvC scope c C X.env) fp) := fun s H0 C c fp => ctx_blk hc hbo.kind s H0 C c fp
  have h : RsP X.K X.w cls E μ H ((run T cl M env S (.es ops)).bs fun ds S => (match ivOf it ds S with
        | some iv => (match run T cl M (wipeE env vs) (S.new []) (.lc2 0 iv S.nx vs tg ifs vs1 tg1 it1 ops1 ifs1 elt) with
          | .ok d S => .ok d S
          | _ => .bad)
        | none => .bad)) Q := h
  refine it_ok (fun k hk => ih k hk) hc hi g r ?_
  cases hr : run T cl M env S (.es ops) with
  | oks ds S1 =>
    rw [hr] at h
    have h : RsP X.K X.w cls E μ H (match ivOf it ds S1 with
        | some iv => (match run T cl M (wipeE env vs) (S1.new []) (.lc2 0 iv S1.nx vs tg ifs vs1 tg1 it1 ops1 ifs1 elt) with
          | .ok d S => .ok d S
          | _ => .bad)
        | none => .bad) Q := h
    cases hv : ivOf it ds S1 with
    | none => rw [hv] at h; exact h.elim
    | some iv =>
      rw [hv] at h
      dsimp only at h
      cases hl : run T cl M (wipeE env vs) (S1.new []) (.lc2 0 iv S1.nx vs tg ifs vs1 tg1 it1 ops1 ifs1 elt) with
      | ok dF SF =>
        rw [hl] at h
        have h : Post X.K X.w μ H dF SF Q := h
        refine .inl ⟨ds, S1, iv, rfl, hv, fun μ1 H1 J x1 g1 hJ => ?_⟩
        intro L hL
        have gL : Good X.K X.w (μ1 ++ [L]) (S1.new []) (upd H1 L (.lst [])) := good_lst g1 hL .nil
        have xL : Ext μ1 H1 (μ1 ++ [L]) (upd H1 L (.lst [])) := ext_lst hL
        have aL : (μ1 ++ [L])[S1.nx]? = some L := at_last g1
        have rL : EnvR X.K (μ1 ++ [L]) (upd H1 L (.lst [])) (wipeE env vs) (L2.wipe σ vs) := ((r.ext x1 g).ext xL g1).wipe vs
        refine ⟨fun i k Hk => ∃ μk Sk, Ext (μ1 ++ [L]) (upd H1 L (.lst [])) μk Hk ∧ Good X.K X.w μk Sk Hk ∧ run T cl k (wipeE env vs) Sk (.lc2 i iv S1.nx vs tg ifs vs1 tg1 it1 ops1 ifs1 elt) = .ok dF SF ∧ k ≤ M,
          ⟨M, _, _, Ext.refl, gL, hl, Nat.le_refl _⟩, ?_⟩
        rintro i k Hk ⟨μk, Sk, xk, gk, hk, hkM⟩
        have rk := rL.ext xk gL
        have Jk := (hJ.ext xL g1).ext xk gL
        have ak := xk.at_ aL
        obtain ⟨st1, st2⟩ := Jk.step gk i
        cases k with
        | zero => cases hk
        | succ k =>
          have hk : (match ivNext i iv Sk with
            | none => .bad
            | some none => .ok (.ref S1.nx) Sk
            | some (some d) => (match asgT tg d (wipeE env vs) Sk with
              | none => .bad
              | some e1 => (match ifsR T cl k e1 Sk ifs with
                | .ok (.bl false) S => run T cl k (wipeE env vs) S (.lc2 (i + 1) iv S1.nx vs tg ifs vs1 tg1 it1 ops1 ifs1 elt)
                | .ok (.bl true) S => (match run T cl k e1 S (.es ops1) with
                  | .oks ds S => (match ivOf it1 ds S with
                    | some iv1 => (match run T cl k (wipeE e1 vs1) S (.lc 0 iv1 S1.nx vs1 tg1 ifs1 elt) with
                      | .ok _ S => run T cl k (wipeE env vs) S (.lc2 (i + 1) iv S1.nx vs tg ifs vs1 tg1 it1 ops1 ifs1 elt)
                      | _ => .bad)
                    | none => .bad)
                  | _ => .bad)
                | _ => .bad))) = Rs.ok dF SF := hk
          cases hn : ivNext i iv Sk with
          | none => rw [hn] at hk; cases hk
          | some o =>
            rw [hn] at hk
            cases o with
            | none =>
              cases hk
              exact .inl ⟨st1 hn, h _ μk Hk (x1.trans (xL.trans xk)) gk (.ref ak)⟩
            | some d =>
              dsimp only at hk
              obtain ⟨go, yl⟩ := st2 d hn
              cases he : asgT tg d (wipeE env vs) Sk with
              | none => rw [he] at hk; cases hk
              | some e1 =>
                rw [he] at hk
                dsimp only at hk
                refine .inr ⟨go, fun H' => ∃ μ' S', Ext (μ1 ++ [L]) (upd H1 L (.lst [])) μ' H' ∧ Good X.K X.w μ' S' H' ∧ run T cl k (wipeE env vs) S' (.lc2 (i + 1) iv S1.nx vs tg ifs vs1 tg1 it1 ops1 ifs1 elt) = .ok dF SF ∧ k ≤ M,
                  fun H' w => ⟨k, Nat.lt_succ_self k, w⟩, fun x H' y => ?_⟩
                obtain ⟨xy, gy, rx⟩ := yl x H' y
                have ry := rk.ext xy gk
                intro s H0 C c fp
                refine tg_ok (X := X.blk s H0 scope (compEnvC scope c C X.env) fp) hc.calm hc.nd (fn := fun x => scope.names.lookup x == some .cell) (fun x hx => hx) ht gy rx ry he fun σ1 re1 hs1 => ?_
                refine ⟨(hs1 vs hin).trans wipe_wipe, ?_⟩
                have xk' := xk.trans xy
                cases hbb : ifsR T cl k e1 Sk ifs with
                | ok b0 S3 =>
                  cases b0 with
                  | bl b =>
                    rw [hbb] at hk
                    refine tests_ok (ih k (by omega)) ctx hfs hns gy re1 hbb fun μ3 H3 x3 g3 => ?_
                    cases b with
                    | false => exact iteF ⟨μ3, S3, xk'.trans x3, g3, hk, by omega⟩
                    | true =>
                      refine iteT ?_
                      dsimp only at hk
                      intro s4 H04 C4 c4 fp4
                      have re3 := re1.ext x3 gy
                      cases hy : run T cl k e1 S3 (.es ops1) with
                      | oks ds4 S4 =>
                        rw [hy] at hk
                        dsimp only at hk
                        cases hv4 : ivOf it1 ds4 S4 with
                        | none => rw [hv4] at hk; cases hk
                        | some iv1 =>
                          rw [hv4] at hk
                          dsimp only at hk
                          cases hl4 : run T cl k (wipeE e1 vs1) S4 (.lc 0 iv1 S1.nx vs1 tg1 ifs1 elt) with
                          | ok dI SI =>
                            rw [hl4] at hk
                            dsimp only at hk
                            refine it_ok (X := X.blk s4 H04 scope (compEnvC scope c4 C4 X.env) fp4) (fun m hm => ih m (by omega)) (ctx s4 H04 C4 c4 fp4) hi1 g3 re3 (.inl ⟨ds4, S4, iv1, hy, hv4, fun μ4 H4 J1 x4 g4 hJ1 => ?_⟩)
                            have a4 := x4.at_ (x3.at_ (xy.at_ ak))
                            refine lc_loop (fun m hm => ih m (by omega)) hc.calm hc.nd ctx ht1 hin1 hfs1 hns1 hel g4 (re3.ext x4 g3) hJ1 a4 hl4 fun μ5 H5 x5 g5 _ => ?_
                            exact ⟨μ5, SI, ((xk'.trans x3).trans x4).trans x5, g5, hk, by omega⟩
                          | _ => rw [hl4] at hk; cases hk
                      | _ => rw [hy] at hk; cases hk
                  | _ => rw [hbb] at hk; cases hk
                | _ => rw [hbb] at hk; cases hk
      | _ => rw [hl] at h; exact h.elim
  | exc c as S1 =>
    rw [hr] at h
    exact .inr ⟨c, as, S1, rfl, h⟩
  | _ => rw [hr] at h; exact h.elim
theorem comp2_ok {M : Nat} (ih : ∀ m, m ≤ M → AllE T cl cls m) {X : Cx} {E : XK} (hc : Ctx T cl cls E X) {k1 k2 k3 k4 k5 : Nat} {vs vs1 : List Nat} {tg tg1 : Tg} {it it1 : ItK} {ops ifs ops1 ifs1 : List C} {elt : C} {el t iter t1 iter1 : Expr} {fs fs1 : List Expr} {scope : Scope} {pos : Pos}
    (hb : blkC X.N X.env.scope scope (ownOf X.N vs) = true) (ht : isTg (fun x => scope.names.lookup x == some .cell) X.N (relS scope X.env.scope) t tg = true) (hin : tgIn vs tg = true)
    (hi : isIt T k1 X.N X.env.scope t iter it ops = true) (hfs : isEs T k2 X.N (relS scope X.env.scope) fs ifs = true) (hns : noStar fs = true) (hsub : (vs1.all fun i => vs.contains i) = true)
    (ht1 : isTg (fun x => scope.names.lookup x == some .cell) X.N (relS scope X.env.scope) t1 tg1 = true) (hin1 : tgIn vs1 tg1 = true)
    (hi1 : isIt T k4 X.N (relS scope X.env.scope) t1 iter1 it1 ops1 = true) (hfs1 : isEs T k5 X.N (relS scope X.env.scope) fs1 ifs1 = true) (hns1 : noStar fs1 = true)
    (hel : isE T k3 X.N (relS scope X.env.scope) el elt = true)
    {env : En} {S : Sto} {μ : List Addr} {σ : L2.St} {H : Hp} {Q : VK} (g : Good X.K X.w μ S H) (r : EnvR X.K μ H env σ)
    (h : RsP X.K X.w cls E μ H (run T cl (M + 1) env S (.e (.comp2 vs tg it ops ifs vs1 tg1 it1 ops1 ifs1 elt))) Q) : WPE X (.ListComp el [⟨t, iter, fs, 0⟩, ⟨t1, iter1, fs1, 0⟩] scope pos) σ H Q := by
  have hv : ∀ i ∈ vs1, i ∈ (ownOf X.N vs).map (·.2) := by
    rw [own_slots]
    intro i hi
    simpa using List.all_eq_true.mp hsub i hi
  have base : PE X (.ListComp el [⟨t, iter, fs, 0⟩, ⟨t1, iter1, fs1, 0⟩] scope pos) (tLc2 (WPI X t iter) (blkG X scope t) (blkT X scope fs) (blkI X scope t1 iter1) (blkG X scope t1) (blkT X scope fs1) (blkE X scope el) ((ownOf X.N vs).map (·.2)) vs1) :=
    pe_lc2 hc.calm hc.nd pi_w (blkOk_by hb) hv pg_blk pt_blk pi_blk pg_blk pt_blk pe_blk (set_folded (it_notSet hi)) fun env => set_folded (it_notSet hi1)
  rw [own_slots] at base
  exact ⟨_, base, comp2_read ih hc hb ht hin hi hfs hns ht1 hin1 hi1 hfs1 hns1 hel g r h⟩
/-! ## dicts -/
theorem dcomp_read {M : Nat} (ih : ∀ m, m ≤ M → AllE T cl cls m) {X : Cx} {E : XK} (hc : Ctx T cl cls E X) {k1 k2 k3 k4 : Nat} {vs : List Nat} {tg : Tg} {it : ItK} {ops ifs : List C} {ck cv : C} {ek ev t iter : Expr} {fs : List Expr} {scope : Scope}
    (hb : blkC X.N X.env.scope scope (ownOf X.N vs) = true) (ht : isTg (fun x => scope.names.lookup x == some .cell) X.N (relS scope X.env.scope) t tg = true) (hin : tgIn vs tg = true)
    (hi : isIt T k1 X.N X.env.scope t iter it ops = true) (hfs : isEs T k2 X.N (relS scope X.env.scope) fs ifs = true) (hns : noStar fs = true) (hek : isE T k3 X.N (relS scope X.env.scope) ek ck = true) (hev : isE T k4 X.N (relS scope X.env.scope) ev cv = true)
    {env : En} {S : Sto} {μ : List Addr} {σ : L2.St} {H : Hp} {Q : VK} (g : Good X.K X.w μ S H) (r : EnvR X.K μ H env σ)
    (h : RsP X.K X.w cls E μ H (run T cl (M + 1) env S (.e (.dcomp vs tg it ops ifs ck cv))) Q) : tDc (WPI X t iter) (blkG X scope t) (blkT X scope fs) (blkE X scope ek) (blkE X scope ev) vs σ H Q := by
  have hbo := blkOk_by hb
  have ctx : ∀ (s : Shared) (H0 : Hp) (C : Addr) (c : List (Str × Addr)) (fp : List Addr), Ctx T cl cls E0 (X.blk s H0 scope (compEnvC scope c C X.env) fp) := fun s H0 C c fp => ctx_blk hc hbo.kind s H0 C c fp
  have h : RsP X.K X.w cls E μ H ((run T cl M env S (.es ops)).bs fun ds S => (match ivOf it ds S with
        | some iv => (match run T cl M (wipeE env vs) (S.newO (.dki [] [])) (.dc 0 iv S.nx vs tg ifs ck cv) with
          | .ok d S => .ok d S
          | _ => .bad)
        | none => .bad)) Q := h
  refine it_ok (fun k hk => ih k hk) hc hi g r ?_
  cases hr : run T cl M env S (.es ops) with
  | oks ds S1 =>
    rw [hr] at h
    have h : RsP X.K X.w cls E μ H (match ivOf it ds S1 with
        | some iv => (match run T cl M (wipeE env vs) (S1.newO (.dki [] [])) (.dc 0 iv S1.nx vs tg ifs ck cv) with
          | .ok d S => .ok d S
          | _ => .bad)
        | none => .bad) Q := h
    cases hv : ivOf it ds S1 with
    | none => rw [hv] at h; exact h.elim
    | some iv =>
      rw [hv] at h
      dsimp only at h
      cases hl : run T cl M (wipeE env vs) (S1.newO (.dki [] [])) (.dc 0 iv S1.nx vs tg ifs ck cv) with
      | ok dF SF =>
        rw [hl] at h
        have h : Post X.K X.w μ H dF SF Q := h
        refine .inl ⟨ds, S1, iv, rfl, hv, fun μ1 H1 J x1 g1 hJ => ?_⟩
        intro L hL
        have gL : Good X.K X.w (μ1 ++ [L]) (S1.newO (.dki [] [])) (upd H1 L (.dK [])) := good_obj g1 hL (.dki (ks := []) (ds := []) (vs := []) rfl .nil)
        have xL : Ext μ1 H1 (μ1 ++ [L]) (upd H1 L (.dK [])) := ext_obj hL
        have aL : (μ1 ++ [L])[S1.nx]? = some L := at_last g1
        have rL : EnvR X.K (μ1 ++ [L]) (upd H1 L (.dK [])) (wipeE env vs) (L2.wipe σ vs) := ((r.ext x1 g).ext xL g1).wipe vs
        refine ⟨fun i k Hk => ∃ μk Sk, Ext (μ1 ++ [L]) (upd H1 L (.dK [])) μk Hk ∧ Good X.K X.w μk Sk Hk ∧ run T cl k (wipeE env vs) Sk (.dc i iv S1.nx vs tg ifs ck cv) = .ok dF SF ∧ k ≤ M,
          ⟨M, _, _, Ext.refl, gL, hl, Nat.le_refl _⟩, ?_⟩
        rintro i k Hk ⟨μk, Sk, xk, gk, hk, hkM⟩
        have rk := rL.ext xk gL
        have Jk := (hJ.ext xL g1).ext xk gL
        have ak := xk.at_ aL
        obtain ⟨st1, st2⟩ := Jk.step gk i
        cases k with
        | zero => cases hk
        | succ k =>
          have hk : (match ivNext i iv Sk with
            | none => .bad
            | some none => .ok (.ref S1.nx) Sk
            | some (some d) => (match asgT tg d (wipeE env vs) Sk with
              | none => .bad
              | some e1 => (match ifsR T cl k e1 Sk ifs with
                | .ok (.bl false) S => run T cl k (wipeE env vs) S (.dc (i + 1) iv S1.nx vs tg ifs ck cv)
                | .ok (.bl true) S => (match run T cl k e1 S (.e ck) with
                  | .ok (.int j) S => (match run T cl k e1 S (.e cv) with
                    | .ok y S => (match S.obj S1.nx with
                      | some (.dki ks ds) => cond (smallB (ks.length + 1)) (run T cl k (wipeE env vs) (S.setO S1.nx (storeI ks ds j y)) (.dc (i + 1) iv S1.nx vs tg ifs ck cv)) .bad
                      | _ => .bad)
                    | _ => .bad)
                  | _ => .bad)
                | _ => .bad))) = Rs.ok dF SF := hk
          cases hn : ivNext i iv Sk with
          | none => rw [hn] at hk; cases hk
          | some o =>
            rw [hn] at hk
            cases o with
            | none =>
              cases hk
              exact .inl ⟨st1 hn, h _ μk Hk (x1.trans (xL.trans xk)) gk (.ref ak)⟩
            | some d =>
              dsimp only at hk
              obtain ⟨go, yl⟩ := st2 d hn
              cases he : asgT tg d (wipeE env vs) Sk with
              | none => rw [he] at hk; cases hk
              | some e1 =>
                rw [he] at hk
                dsimp only at hk
                refine .inr ⟨go, fun H' => ∃ μ' S', Ext (μ1 ++ [L]) (upd H1 L (.dK [])) μ' H' ∧ Good X.K X.w μ' S' H' ∧ run T cl k (wipeE env vs) S' (.dc (i + 1) iv S1.nx vs tg ifs ck cv) = .ok dF SF ∧ k ≤ M,
                  fun H' w => ⟨k, Nat.lt_succ_self k, w⟩, fun x H' y => ?_⟩
                obtain ⟨xy, gy, rx⟩ := yl x H' y
                have ry := rk.ext xy gk
                intro s H0 C c fp
                refine tg_ok (X := X.blk s H0 scope (compEnvC scope c C X.env) fp) hc.calm hc.nd (fn := fun x => scope.names.lookup x == some .cell) (fun x hx => hx) ht gy rx ry he fun σ1 re1 hs1 => ?_
                refine ⟨(hs1 vs hin).trans wipe_wipe, ?_⟩
                have xk' := xk.trans xy
                cases hbb : ifsR T cl k e1 Sk ifs with
                | ok b0 S3 =>
                  cases b0 with
                  | bl b =>
                    rw [hbb] at hk
                    refine tests_ok (ih k (by omega)) ctx hfs hns gy re1 hbb fun μ3 H3 x3 g3 => ?_
                    cases b with
                    | false => exact iteF ⟨μ3, S3, xk'.trans x3, g3, hk, by omega⟩
                    | true =>
                      refine iteT ?_
                      dsimp only at hk
                      intro s4 H04 C4 c4 fp4
                      have re3 := re1.ext x3 gy
                      cases hy : run T cl k e1 S3 (.e ck) with
                      | ok y4 S4 =>
                        rw [hy] at hk
                        cases y4 with
                        | int j =>
                          dsimp only at hk
                          refine (ih k (by omega)).e (ctx s4 H04 C4 c4 fp4) (n := k3) (c := ck) hek g3 re3 ?_
                          rw [hy]
                          intro v μ4 H4 x4 g4 rv s5 H05 C5 c5 fp5
                          cases rv
                          cases hz : run T cl k e1 S4 (.e cv) with
                          | ok y5 S5 =>
                            rw [hz] at hk
                            dsimp only at hk
                            refine (ih k (by omega)).e (ctx s5 H05 C5 c5 fp5) (n := k4) (c := cv) hev g4 (re3.ext x4 g3) ?_
                            rw [hz]
                            intro z μ5 H5 x5 g5 rz
                            have a5 := x5.at_ (x4.at_ (x3.at_ (xy.at_ ak)))
                            obtain ⟨o5, ho5, f1, f2, f3⟩ := g5.at_ _ _ a5
                            rw [f1] at hk
                            cases f3 with
                            | dki hl5 rr5 =>
                              rename_i ks5 ds5 vs5
                              dsimp only at hk
                              cases cs : smallB (ks5.length + 1) with
                              | false => rw [cs] at hk; cases hk
                              | true =>
                                rw [cs] at hk
                                refine ⟨kvI ks5 vs5, .inl j, rfl, f2, ?_, μ5, S5.setO S1.nx (storeI ks5 ds5 j y5), ?_, good_setO g5 a5 (store_I j rz hl5 rr5), hk, by omega⟩
                                · rw [kvI_len (K := X.K) (μ := μ5) (H := H5) hl5 rr5]
                                  exact small_lt cs
                                · exact (((xk'.trans x3).trans x4).trans x5).trans (ext_setO a5)
                            | _ => cases hk
                          | _ => rw [hz] at hk; cases hk
                        | _ => cases hk
                      | _ => rw [hy] at hk; cases hk
                  | _ => rw [hbb] at hk; cases hk
                | _ => rw [hbb] at hk; cases hk
      | _ => rw [hl] at h; exact h.elim
  | exc c as S1 =>
    rw [hr] at h
    exact .inr ⟨c, as, S1, rfl, h⟩
  | _ => rw [hr] at h; exact h.elim
theorem dcomp_ok {M : Nat} (ih : ∀ m, m ≤ M → AllE T cl cls m) {X : Cx} {E : XK} (hc : Ctx T cl cls E X) {k1 k2 k3 k4 : Nat} {vs : List Nat} {tg : Tg} {it : ItK} {ops ifs : List C} {ck cv : C} {ek ev t iter : Expr} {fs : List Expr} {scope : Scope} {pos : Pos}
    (hb : blkC X.N X.env.scope scope (ownOf X.N vs) = true) (ht : isTg (fun x => scope.names.lookup x == some .cell) X.N (relS scope X.env.scope) t tg = true) (hin : tgIn vs tg = true)
    (hi : isIt T k1 X.N X.env.scope t iter it ops = true) (hfs : isEs T k2 X.N (relS scope X.env.scope) fs ifs = true) (hns : noStar fs = true) (hek : isE T k3 X.N (relS scope X.env.scope) ek ck = true) (hev : isE T k4 X.N (relS scope X.env.scope) ev cv = true)
    {env : En} {S : Sto} {μ : List Addr} {σ : L2.St} {H : Hp} {Q : VK} (g : Good X.K X.w μ S H) (r : EnvR X.K μ H env σ)
    (h : RsP X.K X.w cls E μ H (run T cl (M + 1) env S (.e (.dcomp vs tg it ops ifs ck cv))) Q) : WPE X (.DictComp ek ev [⟨t, iter, fs, 0⟩] scope pos) σ H Q := by
  have base : PE X (.DictComp ek ev [⟨t, iter, fs, 0⟩] scope pos) (tDc (WPI X t iter) (blkG X scope t) (blkT X scope fs) (blkE X scope ek) (blkE X scope ev) ((ownOf X.N vs).map (·.2))) :=
    pe_dc hc.calm hc.nd pi_w (blkOk_by hb) pg_blk pt_blk pe_blk pe_blk (set_folded (it_notSet hi))
  rw [own_slots] at base
  exact ⟨_, base, dcomp_read ih hc hb ht hin hi hfs hns hek hev g r h⟩
end
end EV
set_option Elab.async false
set_option linter.all false
set_option maxRecDepth 100000
set_option maxHeartbeats 4000000
namespace EV
open PySem PySem.Spec PyProof.Rows L2
section
variable {X : Cx} {cls : Nat → Addr × Option Str} {E : XK} {w : World} {μ : List Addr} {H : Hp} {S : Sto}
theorem keys_at {K : PySem.W.Frag} : ∀ {ds : List D} {vs : List V} {ks : List NestedKey}, RlA K μ H ds vs → mapO keyB ds = some ks → (∀ k ∈ ks, tupleB k.data = true ∧ k.depth ≤ 8) →
    ∃ L : NL, vs = L.map (fun q => V.ref q.1) ∧ (∀ q ∈ L, KB K H q ∧ Rl K μ H (unkey q.2) (.ref q.1)) ∧ L.map (·.2) = ks
  | _, _, _, .nil, e, _ => by cases e; exact ⟨[], rfl, (fun p hp => by cases hp), rfl⟩
  | d :: ds, _, kk, .cons a t, e, hb => by
    unfold mapO at e
    cases e1 : keyB d with
    | none => rw [e1] at e; cases e
    | some k =>
      cases e2 : mapO keyB ds with
      | none => rw [e1, e2] at e; cases e
      | some ks =>
        rw [e1, e2] at e
        cases e
        obtain ⟨L, h1, h2, h3⟩ := keys_at t e2 fun q hq => hb q (List.mem_cons_of_mem _ hq)
        have hk := hb k List.mem_cons_self
        have eu := keyB_un e1
        cases a with
        | @tup b xs l p rr =>
          refine ⟨(b, k) :: L, by rw [h1]; rfl, fun q hq => ?_, by rw [← h3]; rfl⟩
          rcases List.mem_cons.mp hq with e | hq
          · rw [e]
            exact ⟨⟨hk.2, _, μ, .tup p rr, e1⟩, by rw [eu]; exact .tup p rr⟩
          · exact h2 q hq
        | non => unfold keyB at e1; cases e1; cases hk.1
        | int i => unfold keyB at e1; cases e1; cases hk.1
        | str x => unfold keyB at e1; cases e1; cases hk.1
        | bl b => unfold keyB at e1; cases e1
        | ref h => unfold keyB at e1; cases e1
        | fn h => unfold keyB at e1; cases e1
        | tpf h1 h2 => unfold keyB at e1; cases e1
theorem rl_unkeys {K : PySem.W.Frag} : ∀ {L : NL}, (∀ q ∈ L, Rl K μ H (unkey q.2) (.ref q.1)) → RlA K μ H ((L.map (·.2)).map unkey) (L.map fun q => V.ref q.1)
  | [], _ => .nil
  | p :: L, h => .cons (h p List.mem_cons_self) (rl_unkeys fun q hq => h q (List.mem_cons_of_mem _ hq))
theorem kb_ext {w : World} {μ' : List Addr} {H' : Hp} {K : PySem.W.Frag} (x : Ext μ H μ' H') (g : Good K w μ S H) {q : Addr × NestedKey} {ν : List Addr} (h : KB K H q ∧ Rl K μ H (unkey q.2) (.ref q.1)) (ek : keyB (unkey q.2) = some q.2) : KB K H' q ∧ Rl K μ' H' (unkey q.2) (.ref q.1) :=
  ⟨⟨h.1.1, unkey q.2, μ', Rl.ext x g h.2, ek⟩, Rl.ext x g h.2⟩
theorem sset_ok (g : Good X.K X.w μ S H) (hc : X.calm = true) (hu : X.A.units + 64 < cLine) {x : D} {v : V} {Q : VK} (rx : Rl X.K μ H x v) (h : RsP X.K X.w cls E μ H (ssetD x S) Q) :
    WCa X (.type "set") [v] H fun u H1 => WCa X (.builtin "sorted") [u] H1 Q := by
  unfold ssetD at h
  split at h
  · obtain ⟨a, xs, rfl, p, rr⟩ := rl_tup rx
    split at h
    · rename_i is e2
      have e3 := ints_rl rr e2
      subst e3
      obtain ⟨c, h⟩ := cond_P h
      have l64 : is.length < 64 := Nat.le_of_ble_eq_true c
      refine ⟨_, cr_setTI hc, a, is, rfl, sqT_of p, l64, fun b n hb hn => ?_⟩
      refine ⟨_, cr_sortedSet hc, b, fun j => decide (j ∈ is), n, rfl, upd_same, by omega, fun ms q m1 m2 m3 hq => ?_⟩
      have e4 : ms = sortF id is := sorted_setLI (wd := X.w) (fun k => rfl) m1 m2
      subst e4
      have g2 := good_new (ho := SetO X.w b (fun j => decide (j ∈ is)) n) g hb
      exact h _ (μ ++ [q]) _ ((ext_new hb).trans (ext_lst hq)) (good_lst g2 hq (rl_ints _)) (.ref (at_last g2))
    · exact h.elim
  · obtain ⟨a, rfl, p⟩ := rl_ref rx
    split at h
    · rename_i l e1
      obtain ⟨xs, h1, rr⟩ := g.sq p e1
      split at h
      · rename_i is e2
        have e3 := ints_rl rr e2
        subst e3
        obtain ⟨c, h⟩ := cond_P h
        have l64 : is.length < 64 := Nat.le_of_ble_eq_true c
        refine ⟨_, cr_setLI hc, a, is, rfl, sqL_of h1, l64, fun b n hb hn => ?_⟩
        refine ⟨_, cr_sortedSet hc, b, fun j => decide (j ∈ is), n, rfl, upd_same, by omega, fun ms q m1 m2 m3 hq => ?_⟩
        have e4 : ms = sortF id is := sorted_setLI (wd := X.w) (fun k => rfl) m1 m2
        subst e4
        have g2 := good_new (ho := SetO X.w b (fun j => decide (j ∈ is)) n) g hb
        exact h _ (μ ++ [q]) _ ((ext_new hb).trans (ext_lst hq)) (good_lst g2 hq (rl_ints _)) (.ref (at_last g2))
      · split at h
        · rename_i ks e2
          obtain ⟨c, h⟩ := cond_P h
          unfold ksB at c
          simp only [Bool.and_eq_true] at c
          obtain ⟨⟨⟨c1, c2⟩, c3⟩, c4⟩ := c
          have hb : ∀ k ∈ ks, k.depth ≤ 8 ∧ k.data.depth ≤ 40 ∧ tupleB k.data = true := fun k hk => by
            have := List.all_eq_true.mp c2 k hk
            simp only [Bool.and_eq_true] at this
            exact ⟨Nat.le_of_ble_eq_true this.1.1, Nat.le_of_ble_eq_true this.1.2, this.2⟩
          obtain ⟨L0, z1, z2, z3⟩ := keys_at rr e2 fun k hk => ⟨(hb k hk).2.2, (hb k hk).1⟩
          subst z1
          have l64 : L0.length < 64 := by
            have := congrArg List.length z3
            rw [List.length_map] at this
            have := Nat.le_of_ble_eq_true c1
            omega
          have kk : ∀ q ∈ L0, keyB (unkey q.2) = some q.2 := fun q hq => by
            obtain ⟨⟨_, d, ν, _, e⟩, _⟩ := z2 q hq
            rw [keyB_un e]
            exact e
          have in0 : ∀ {q : Addr × NestedKey}, q ∈ L0 → q.2 ∈ ks := fun hq => by
            rw [← z3]
            exact List.mem_map_of_mem hq
          refine ⟨_, cr_setN hc hu, a, L0, rfl, sqL_of h1, fun q hq => (z2 q hq).1, l64, fun b L hb2 i1 i2 => ?_⟩
          have keep : ∀ q ∈ L, KB X.K (upd H b (SetN X.w b L)) q ∧ Rl X.K μ (upd H b (SetN X.w b L)) (unkey q.2) (.ref q.1) := fun q hq => kb_ext (ν := μ) (ext_new hb2) g (z2 q (i1 q hq)) (kk q (i1 q hq))
          have dat : ∀ q ∈ L, q.2.data ∈ ks.map NestedKey.data := fun q hq => List.mem_map_of_mem (in0 (i1 q hq))
          refine ⟨_, cr_sortedN hc hu, b, L, rfl, upd_same, fun q hq => (keep q hq).1, fun d hd d' hd' => ?_, .inl fun d hd => ?_, fun q hq => (hb _ (in0 (i1 q hq))).2.1, fun L' p pm nd pw hp => ?_⟩
          · obtain ⟨q, hq, rfl⟩ := List.mem_map.mp hd
            obtain ⟨q', hq', rfl⟩ := List.mem_map.mp hd'
            exact List.all_eq_true.mp (List.all_eq_true.mp c3 _ (dat q hq)) _ (dat q' hq')
          · obtain ⟨q, hq, rfl⟩ := List.mem_map.mp hd
            have := (hb _ (in0 (i1 q hq))).2.2
            cases e : q.2.data with
            | tuple l =>
              cases l with
              | nil => rw [e] at this; cases this
              | cons x r => exact ⟨x, r, rfl⟩
            | _ => rw [e] at this; cases this
          have st := strictN_pw c4
          have e5 : L'.map (·.2) = sortN ks := by
            refine strict_one (st.imp fun h => h.2) ?_ (st.imp fun h => h.1) nd fun x => ?_
            · rw [List.pairwise_map]
              refine pw.imp fun {q r} h => ?_
              rw [PySem.W.dataLe_eq] at h
              simp only [cond_false] at h
              show PySem.W.dataLt r.2.data q.2.data = false
              simpa using h
            · rw [sortN_mem]
              constructor
              · intro hx
                obtain ⟨q, hq, rfl⟩ := List.mem_map.mp hx
                exact in0 (i1 q (pm.mem_iff.mp hq))
              · intro hx
                rw [← z3] at hx
                obtain ⟨q, hq, rfl⟩ := List.mem_map.mp hx
                exact (pm.map (·.2)).mem_iff.mpr (i2 q hq)
          rw [← e5] at h
          have g2 := good_new (ho := SetN X.w b L) g hb2
          exact h _ (μ ++ [p]) _ ((ext_new hb2).trans (ext_lst hp)) (good_lst g2 hp (rl_unkeys fun q hq => (keep q (pm.mem_iff.mp hq)).2)) (.ref (at_last g2))
        · exact h.elim
    · exact h.elim
  · exact h.elim
end
end EV
set_option Elab.async false
set_option linter.all false
set_option maxRecDepth 100000
set_option maxHeartbeats 4000000
namespace EV
open PySem PySem.Spec PyProof.Rows L2
section
variable {T : Tb} {cl : Nat → List D → Sto → Rs} {cls : Nat → Addr × Option Str}
theorem VsOf.length {K : PySem.W.Frag} {ds : List D} {vs : List V} (h : VsOf K ds vs) : ds.length = vs.length := (h [] (fun _ => none)).length
theorem run_nil {m : Nat} {env : En} {S : Sto} : run T cl m env S (.es []) = .bad ∨ run T cl m env S (.es []) = .oks [] S := by
  cases m with
  | zero => exact .inl rfl
  | succ m => exact .inr rfl
/-! ## a def that is a value -/
theorem can_call {X : Cx} {E : XK} (hc : Ctx T cl cls E X) {j : Nat} {f : FnE} (hf : T.fs[j]? = some f) {a : Addr} (hn : PySem.W.nsIn X.K mainGlobals f.name = some (some (.ref a))) {n : Nat} (hl : n = f.ps.length) : CanCall X E a n (spR X.K X.w cls cl f.ps.length j) := by
  obtain ⟨kk, adr, fd, F, hr, hm, hns, hk, hb, _⟩ := (hc.fns j f hf).ex
  rw [hns] at hn
  cases hn
  obtain ⟨dvs, dss, v1, v2, bi⟩ := hb f.ps.length (Nat.le_refl _) (by omega)
  have e0 : dvs = [] := by
    have := v1.length
    rw [List.length_drop] at this
    exact List.length_eq_zero_iff.mp (by omega)
  subst e0
  exact ⟨L2.CX X.prog X.w, kk, fd, f.ps, [], dss, _, F, hr, hk, bi, v2, hc.pass, fun vs H Q _ h => by rw [List.append_nil]; exact h⟩
theorem callee_eval {fe : Expr} (h : calleeOk fe = true) {es : List Expr} {pos : Pos} {env : Env} : eval (.Call fe es [] pos) env = (do callWith pos (← eval fe env) [] (backTo pos (starEach es env)) (backToKw pos (keywordEach [] env))) := by
  cases fe <;> first | rfl | (cases h; done)
theorem callV_ok {M : Nat} (ih : AllE T cl cls M) {X : Cx} {E : XK} (hc : Ctx T cl cls E X) {k : Nat} {fe : Expr} {es : List Expr} {f : C} {args : List C} {pos : Pos} (hok : calleeOk fe = true) (hns : noStar es = true) (hf : isE T k X.N X.env.scope fe f = true) (hes : isEs T k X.N X.env.scope es args = true)
    {env : En} {S : Sto} {μ : List Addr} {σ : L2.St} {H : Hp} {Q : VK} (g : Good X.K X.w μ S H) (r : EnvR X.K μ H env σ) (h : RsP X.K X.w cls E μ H (run T cl (M + 1) env S (.e (.callV f args))) Q) : WPE X (.Call fe es [] pos) σ H Q := by
  have h : RsP X.K X.w cls E μ H ((run T cl M env S (.e f)).b1 fun x S => (match x with
        | .fn y => (match T.fs.findIdx? (fun f => decide (f.name = y)) with
          | some j => (match T.fs[j]? with
            | some e => cond (decide (e.name = y) && Nat.beq args.length e.ps.length) ((run T cl M env S (.es args)).bs fun ds S => cond (Nat.beq ds.length e.ps.length) (cl j ds S) .bad) .bad
            | none => .bad)
          | none => .bad)
        | _ => .bad)) Q := h
  have rd : WPE X fe σ H fun x H1 => ∃ (adr : Addr) (sp : Sp), x = .ref adr ∧ CanCall X E adr args.length sp ∧ WPA X es σ H1 fun vs H2 => vs.length = args.length ∧ sp vs H2 Q E := by
    refine ih.e hc hf g r (RsP.mono (b1_P h) ?_)
    rintro v H1 ⟨d, S1, μ1, x1, g1, r1, q1⟩
    cases r1 with
    | @fn y a hn =>
      dsimp only at q1
      split at q1
      · rename_i j ej
        split at q1
        · rename_i e he
          obtain ⟨c, q1⟩ := cond_P q1
          simp only [Bool.and_eq_true, decide_eq_true_eq] at c
          obtain ⟨c1, c2⟩ := c
          have c2 := Nat.eq_of_beq_eq_true c2
          rw [← c1] at hn
          refine ⟨a, _, rfl, can_call hc he hn c2, ?_⟩
          refine ih.es hc hes g1 (r.ext x1 g) (RsA.mono (bs_P q1) ?_)
          rintro vs H2 ⟨ds, S2, μ2, x2, g2, r2, q2⟩
          obtain ⟨c3, q2⟩ := cond_P q2
          have c3 := Nat.eq_of_beq_eq_true c3
          have lv : vs.length = e.ps.length := by rw [← r2.length, c3]
          exact ⟨lv.trans c2.symm, lv, μ2, S2, ds, g2, r2, q2⟩
        · exact q1.elim
      · exact q1.elim
    | _ => exact q1.elim
  cases es with
  | nil =>
    rcases es_inv hes with ⟨_, rfl⟩ | ⟨_, _, _, _, _, e0, _⟩
    · refine ⟨_, pe_callA0 (E := E) pe_w (callee_eval hok), ?_⟩
      refine ih.e hc hf g r (RsP.mono (b1_P h) ?_)
      rintro v H1 ⟨d, S1, μ1, x1, g1, r1, q1⟩
      cases r1 with
      | @fn y a hn =>
        dsimp only at q1
        split at q1
        · rename_i j ej
          split at q1
          · rename_i e he
            obtain ⟨c, q1⟩ := cond_P q1
            simp only [Bool.and_eq_true, decide_eq_true_eq] at c
            obtain ⟨c1, c2⟩ := c
            have c2 := Nat.eq_of_beq_eq_true c2
            rw [← c1] at hn
            refine ⟨a, _, rfl, can_call hc he hn c2, rfl, c2, μ1, S1, [], g1, .nil, ?_⟩
            rcases run_nil (T := T) (cl := cl) (m := M) (env := env) (S := S1) with e2 | e2
            · rw [e2] at q1; exact q1.elim
            · rw [e2] at q1
              exact (cond_P q1).2
          · exact q1.elim
        · exact q1.elim
      | _ => exact q1.elim
    · cases e0
  | cons e1 es =>
    obtain ⟨n1, n2⟩ := noStar_cons hns
    exact ⟨_, pe_callA pe_w pa_w (callee_eval hok) (star_cons n1) (star_any n2), rd⟩
/-! ## a dict told -/
def trsOf (X : Cx) : List (Option Expr) → List Expr → List (TE × TE)
  | some k :: ks, v :: vs => (WPE X k, WPE X v) :: trsOf X ks vs
  | _, _ => []
theorem pps_w {X : Cx} {pos : Pos} : ∀ {ks : List (Option Expr)} {vs : List Expr}, ks.all (·.isSome) = true → ks.length = vs.length → PPs X pos ks vs (trsOf X ks vs)
  | [], [], _, _ => pps_nil
  | some k :: ks, v :: vs, h, l => pps_cons pe_w pe_w (pps_w (by simpa using h) (by simpa using l))
  | none :: ks, _ :: _, h, _ => by simp at h
  | [], _ :: _, _, l => by cases l
  | _ :: _, [], _, l => by cases l
def weaveV : List (V × V) → List V
  | [] => []
  | p :: r => p.1 :: p.2 :: weaveV r
theorem pairs_read {X : Cx} {E : XK} (hc : Ctx T cl cls E X) {env : En} {σ : L2.St} : ∀ {ks : List (Option Expr)} {vs : List Expr} {cs : List C} {m n : Nat} {S : Sto} {μ : List Addr} {H : Hp} {P : List (V × V) → Hp → Prop}, (∀ k, k ≤ m → AllE T cl cls k) → ks.all (·.isSome) = true → ks.length = vs.length → noStar (weave ks vs) = true → isEs T n X.N X.env.scope (weave ks vs) cs = true →
    Good X.K X.w μ S H → EnvR X.K μ H env σ → RsA X.K X.w cls E μ H (run T cl m env S (.es cs)) (fun us H' => ∀ ps, weaveV ps = us → P ps H') → tPairs (trsOf X ks vs) σ H P
  | [], [], cs, m, n, S, μ, H, P, _, _, _, _, hes, g, r, h => by
    rcases es_inv hes with ⟨_, rfl⟩ | ⟨_, _, _, _, _, e0, _⟩
    · rcases run_nil (T := T) (cl := cl) (m := m) (env := env) (S := S) with e | e
      · rw [e] at h; exact h.elim
      · rw [e] at h
        exact h [] μ H Ext.refl g .nil [] rfl
    · cases e0
  | some k :: ks, v :: vs, cs, m, n, S, μ, H, P, ih, ha, hl, hns, hes, g, r, h => by
    rcases ands_inv hes hns with ⟨e0, _⟩ | ⟨n1, _, _, c1, cs1, e0, rfl, ⟨k1, h1⟩, hes1, hns1⟩
    · cases e0
    · cases e0
      rcases ands_inv hes1 hns1 with ⟨e0, _⟩ | ⟨n2, _, _, c2, cs2, e0, rfl, ⟨k2, h2⟩, hes2, hns2⟩
      · cases e0
      · cases e0
        have ns1 : ∀ d, c1 ≠ .star d := fun d e => by
          subst e
          cases k1 with
          | zero => cases h1
          | succ _ => unfold isE at h1; cases h1
        have ns2 : ∀ d, c2 ≠ .star d := fun d e => by
          subst e
          cases k2 with
          | zero => cases h2
          | succ _ => unfold isE at h2; cases h2
        cases m with
        | zero => exact h.elim
        | succ m =>
          rw [run_cons ns1] at h
          refine (ih m (by omega)).e hc h1 g r (RsP.mono (b1_A h) ?_)
          rintro x H1 ⟨d1, S1, μ1, x1, g1, r1, q1⟩
          cases m with
          | zero => exact q1.elim
          | succ m =>
            rw [run_cons ns2] at q1
            have q1 := bs_A q1
            refine (ih m (by omega)).e hc h2 g1 (r.ext x1 g) (RsP.mono (b1_A q1) ?_)
            rintro y H2 ⟨d2, S2, μ2, x2, g2, r2, q2⟩
            have q2 := bs_A q2
            refine pairs_read hc (fun k hk => ih k (by omega)) (by simpa using ha) (by simpa using hl) hns2 hes2 g2 ((r.ext x1 g).ext x2 g1) (RsA.mono q2 ?_)
            rintro us H3 ⟨ds, S3, μ3, x3, g3, r3, q3⟩ ps hps
            obtain ⟨ds', S4, μ4, x4, g4, r4, q4⟩ := q3 (y :: us) μ3 H3 Ext.refl g3 (.cons (Rl.ext x3 g2 r2) r3)
            refine q4 (x :: y :: us) μ4 H3 Ext.refl g4 (.cons (Rl.ext x4 g1 r1) r4) ((x, y) :: ps) ?_
            show x :: y :: weaveV ps = _
            rw [hps]
  | none :: ks, _ :: _, _, _, _, _, _, _, _, _, h, _, _, _, _, _, _ => by simp at h
  | [], _ :: _, _, _, _, _, _, _, _, _, _, l, _, _, _, _, _ => by cases l
  | _ :: _, [], _, _, _, _, _, _, _, _, _, l, _, _, _, _, _ => by cases l
theorem weave_of {K : PySem.W.Frag} {μ : List Addr} {H : Hp} : ∀ {ds : List D} {us : List V} {ks : List Int} {es : List D}, RlA K μ H ds us → pairI ds = some (ks, es) → ∃ vs, us = weaveV ((kvI ks vs).map fun kv => (kV kv.1, kv.2)) ∧ RlA K μ H es vs ∧ ks.length = es.length
  | [], _, _, _, .nil, e => by cases e; exact ⟨[], rfl, .nil, rfl⟩
  | d :: d2 :: ds, _, ks, es, .cons a (.cons b t), e => by
    unfold pairI at e
    cases a with
    | int i =>
      dsimp only at e
      cases e1 : pairI ds with
      | none => rw [e1] at e; cases e
      | some p =>
        rw [e1] at e
        cases e
        obtain ⟨vs, h1, h2, h3⟩ := weave_of t e1
        exact ⟨_ :: vs, by rw [h1]; rfl, .cons b h2, by simp [h3]⟩
    | _ => cases e
  | [d], _, _, _, .cons a .nil, e => by
    unfold pairI at e
    cases a <;> cases e
theorem ddisp_ok {M : Nat} (ih : ∀ k, k ≤ M → AllE T cl cls k) {X : Cx} {E : XK} (hc : Ctx T cl cls E X) {k : Nat} {keys : List (Option Expr)} {values : List Expr} {cs : List C} {pos : Pos} (hall : keys.all (·.isSome) = true) (hl : keys.length = values.length) (h0 : keys ≠ []) (h15 : keys.length ≤ 15) (hns : noStar (weave keys values) = true)
    (hes : isEs T k X.N X.env.scope (weave keys values) cs = true) {env : En} {S : Sto} {μ : List Addr} {σ : L2.St} {H : Hp} {Q : VK} (g : Good X.K X.w μ S H) (r : EnvR X.K μ H env σ) (h : RsP X.K X.w cls E μ H (run T cl (M + 1) env S (.e (.ddisp cs))) Q) : WPE X (.Dict keys values pos) σ H Q := by
  have h : RsP X.K X.w cls E μ H ((run T cl M env (S.newO (.dki [] [])) (.es cs)).bs fun ds S1 => (match S1.obj S.nx with
        | some (.dki [] []) => (match pairI ds with | some (ks, es) => cond (Nat.ble ks.length 15) (.ok (.ref S.nx) (S1.setO S.nx (mergeI ks es))) .bad | none => .bad)
        | _ => .bad)) Q := h
  refine ⟨_, pe_disp (pps_w hall hl) hall hl h0 h15, fun p hp => ?_⟩
  have gp : Good X.K X.w (μ ++ [p]) (S.newO (.dki [] [])) (upd H p (.dK [])) := good_obj g hp (.dki (ks := []) (ds := []) (vs := []) rfl .nil)
  have xp : Ext μ H (μ ++ [p]) (upd H p (.dK [])) := ext_obj hp
  refine pairs_read hc ih hall hl hns hes gp (r.ext xp g) (RsA.mono (bs_P (h.ext xp)) ?_)
  rintro us H1 ⟨ds, S1, μ1, x1, g1, r1, q1⟩ ps hps
  have a1 : μ1[S.nx]? = some p := x1.at_ (at_last g)
  split at q1
  · rename_i e1
    split at q1
    · rename_i ks es e2
      obtain ⟨c, q1⟩ := cond_P q1
      have c := Nat.le_of_ble_eq_true c
      obtain ⟨o, ho, f1, f2, f3⟩ := g1.at_ _ _ a1
      rw [e1] at f1
      cases f1
      cases f3 with
      | dki hl0 rr0 =>
        cases rr0
        obtain ⟨vs, w1, w2, w3⟩ := weave_of r1 e2
        have inj : ∀ {l m : List (V × V)}, weaveV l = weaveV m → l = m := fun {l m} => by
          induction l generalizing m with
          | nil => cases m with
            | nil => exact fun _ => rfl
            | cons _ _ => exact fun z => by cases z
          | cons a l ih => cases m with
            | nil => exact fun z => by cases z
            | cons b m =>
              intro z
              obtain ⟨a1, a2⟩ := a
              obtain ⟨b1, b2⟩ := b
              have z : a1 :: a2 :: weaveV l = b1 :: b2 :: weaveV m := z
              injection z with z1 z
              injection z with z2 z3
              rw [z1, z2, ih z3]
        refine ⟨f2, kvI ks vs, inj (hps.trans w1), ?_, ?_⟩
        · rw [kvI_len (K := X.K) (μ := μ1) (H := H1) w3 w2]
          exact c
        · obtain ⟨us', m1, m2, m3⟩ := mergeP_ok (w := X.w) (p := ([], [])) (us := []) w3 w2 rfl .nil
          have m2 : mergeK [] (kvI ks vs) = kvI (mergeP ks es ([], [])).1 us' := m2
          rw [m2]
          exact q1 _ μ1 _ (ext_setO a1) (good_setO g1 a1 (.dki m3 m1)) (.ref a1)
    · exact q1.elim
  · exact q1.elim
end
end EV
set_option Elab.async false
set_option linter.all false
set_option maxRecDepth 100000
set_option maxHeartbeats 4000000
namespace EV
open PySem PySem.Spec PyProof.Rows L2
section
variable {K : PySem.W.Frag} {w : World} {μ : List Addr} {H H' : Hp} {S : Sto}
theorem rlA_of_get : ∀ {ds : List D} {vs : List V}, ds.length = vs.length → (∀ (j : Nat) d v, ds[j]? = some d → vs[j]? = some v → Rl K μ H d v) → RlA K μ H ds vs
  | [], [], _, _ => .nil
  | d :: ds, v :: vs, hl, h => .cons (h 0 d v rfl rfl) (rlA_of_get (by simpa using hl) fun j d v a b => h (j + 1) d v (by simpa using a) (by simpa using b))
  | [], _ :: _, hl, _ => by simp at hl
  | _ :: _, [], hl, _ => by simp at hl
theorem paired_get {α β : Type} {R : α → β → Prop} : ∀ {l : List α} {m : List β} {i : Nat} {a : α} {b : β}, Paired R l m → l[i]? = some a → m[i]? = some b → R a b
  | _, _, 0, _, _, .cons r _, e, f => by
    simp at e f
    subst e f
    exact r
  | _, _, i + 1, _, _, .cons _ t, e, f => paired_get (i := i) t (by simpa using e) (by simpa using f)
theorem NewL.ext {q : Addr} {Ts : List Addr} {rows : List (List V)} (N : NewL H H' q Ts rows) : Ext μ H (μ ++ [q]) H' :=
  ⟨⟨[q], rfl, by simpa using N.qn⟩, fun a o h _ => by
    rw [N.oth a (fun e => by rw [e, N.qn] at h; cases h) (fun hm => by rw [N.new a hm] at h; cases h)]
    exact h, fun a h => by
    by_cases e : a = q
    · rw [e]; exact N.qn
    · by_cases hm : a ∈ Ts
      · exact N.new a hm
      · rw [← N.oth a e hm]; exact h⟩
theorem NewL.good {q : Addr} {Ts : List Addr} {rows : List (List V)} {dr : List (List D)} (N : NewL H H' q Ts rows) (g : Good K w μ S H) (r : Paired (RlA K μ H) dr rows) : Good K w (μ ++ [q]) (S.new (dr.map D.tup)) H' := by
  have x : Ext μ H (μ ++ [q]) H' := N.ext
  have hnp : q ∉ μ := fun hm => by
    obtain ⟨_, _, e, _⟩ := g.mem hm
    rw [N.qn] at e
    cases e
  refine ⟨by rw [List.length_append, g.len]; rfl, ?_, fun n a h => ?_⟩
  · rw [List.nodup_append]
    refine ⟨g.nd, by simp, fun a ha b hb => ?_⟩
    simp at hb
    subst hb
    exact fun e => hnp (e ▸ ha)
  · by_cases hn : n < μ.length
    · rw [List.getElem?_append_left hn] at h
      obtain ⟨o', ho', h1, h2, h3⟩ := g.at_ n a h
      refine ⟨o', ho', ?_, ?_, ObR.ext x g h3⟩
      · show (S.newO _).obj n = _
        rw [get_new_ne (by rw [← g.len]; omega)]
        exact h1
      · rw [N.oth a (fun e => by rw [e, N.qn] at h2; cases h2) (fun hm => by rw [N.new a hm] at h2; cases h2)]
        exact h2
    · have hl := (List.getElem?_eq_some_iff.mp h).1
      rw [List.length_append] at hl
      have e : n = μ.length := by simp at hl; omega
      subst e
      rw [List.getElem?_append_right (Nat.le_refl _), Nat.sub_self] at h
      cases h
      refine ⟨.lst (dr.map D.tup), .lst (Ts.map V.ref), ?_, N.lst, .lst ?_⟩
      · rw [g.len]
        exact get_new_same
      · refine rlA_of_get (by rw [List.length_map, List.length_map, N.len, r.length]) fun j d v hd hv => ?_
        rw [List.getElem?_map] at hd hv
        cases eT : Ts[j]? with
        | none => rw [eT] at hv; cases hv
        | some T =>
          cases eR : dr[j]? with
          | none => rw [eR] at hd; cases hd
          | some row =>
            rw [eT] at hv
            rw [eR] at hd
            cases hv
            cases hd
            obtain ⟨us, hus, rr⟩ := paired_at r eR
            obtain ⟨o, e1, e2⟩ := N.row j T us eT hus
            exact .tup (sqN_up e1 e2) (RlA.ext x g rr)
theorem zip_rows : ∀ {l k : List D} {xs ys : List V}, RlA K μ H l xs → RlA K μ H k ys → Paired (RlA K μ H) ((l.zip k).map fun p => [p.1, p.2]) (zipV xs ys)
  | _, _, _, _, .nil, _ => by unfold zipV; simpa using Paired.nil
  | _, _, _, _, .cons a t, .nil => by unfold zipV; simpa using Paired.nil
  | _, _, _, _, .cons a t, .cons b u => .cons (.cons a (.cons b .nil)) (zip_rows t u)
theorem prm_rows {l : List D} {xs : List V} (r : RlA K μ H l xs) (k : Nat) : ∀ R : List (List Nat × List Nat), Paired (RlA K μ H) (R.map fun m => (m.1.take k).map fun i => l.getD i .non) (R.map (rowV xs k))
  | [] => .nil
  | m :: R => .cons (rl_picks r _) (prm_rows r k R)
end
end EV
set_option Elab.async false
set_option linter.all false
set_option maxRecDepth 100000
set_option maxHeartbeats 4000000
namespace EV
open PySem PySem.Spec PyProof.Rows L2
/-- f(k = v, ..), keywords alone -/
theorem pe_callN0 {X : Cx} {CX : CXT} {k : Nat} {f : Addr} {fd : FuncData} {ps ks : List Str} {sp : Sp} {E : XK} {x : Str} {p pos : Pos} {kws : List Keyword} {tk : TA} {g : List Value → List Value → List Value} {gV : List V → List V → List V}
    (F : FnOk X.prog X.w X.K X.mg X.base CX k f fd ps sp) (hr : Room k X.A) (hg : Gl X x) (hm : X.mg x = some (.ref f)) (hk : PySem.W.keepIn X.K (.ref f) = true) (hb : KBn X.K fd ps 0 ks g gV) (hx : Passes CX X E)
    (hkw : PK X kws tk) (hall : (backToKw pos (keywordEach kws X.env)).all (·.1.isSome) = true) (hks : (backToKw pos (keywordEach kws X.env)).filterMap (·.1) = ks)
    (hdb : (x == ("__debug__" : Str)) = false)
    (hpl : ((backTo pos (starEach [] X.env)).any (·.1) || (backToKw pos (keywordEach kws X.env)).any (·.1.isNone)) = false) :
    PE X (.Call (.Name x p) [] kws pos) (tCallN 0 ks.length sp gV E tNil tk) := by
  refine ⟨fun pins s σ H Q I h => ?_⟩
  refine wpAny_Call_Name_kw (ld_glob I hg hm ?_ hdb)
  refine PySem.W.callWith_KW0 (h₀ := X.base) I.ok.mod.kin hk hall ?_ hpl
  refine thn (hkw.run pos pins s σ H _ I h) fun ws s2 ⟨zs, H2, I2, rz, l1, l2, q2⟩ => ⟨I2.kIn, ?_⟩
  rw [hks]
  exact run_fnN (us := []) (vs := []) F hr hb hx I2 .nil rz l1 l2 q2
theorem pa_names {X : Cx} (hm : ∀ x ∈ (["len", "abs", "int", "bool", "all", "any", "tuple", "list", "range", "zip", "enumerate", "isinstance", "str", "sorted", "min", "sum", "max", "divmod", "set", "dict", "reversed"] : List Str), X.mg x = none) :
    ∀ {es : List Expr} {ts : List String}, isNames X.env.scope es ts = true → PA X es (fun _ H Q => Q (ts.map V.ty) H)
  | [], [], _ => ⟨fun pos pins s σ H Q I h => pa_nil.run pos pins s σ H Q I h⟩
  | e :: es, t :: ts, h => by
    unfold isNames at h
    split at h
    · rename_i e1 _
      cases e1
    · rename_i x pos es' t' ts' e1 e2
      cases e1
      cases e2
      simp only [Bool.and_eq_true, decide_eq_true_eq, bne_iff_ne, ne_eq, Bool.not_eq_true'] at h
      obtain ⟨⟨⟨⟨⟨h1, h2⟩, h3⟩, h4⟩, h5⟩, h6⟩ := h
      have hx : X.mg x = none := hm x (by
        simp only [List.mem_cons, List.not_mem_nil, or_false] at h1 ⊢
        rcases h1 with h1 | h1 | h1 | h1 | h1 <;> simp [h1])
      have p1 : PE X (.Name x pos) (tC (.ty t)) := pe_bltn (gl_of h2) hx h5 rfl h3 h4
      have p2 := pa_cons p1 (pa_names hm h6) (by rfl)
      exact ⟨fun pos pins s σ H Q I h => p2.run pos pins s σ H Q I h⟩
    · cases h
  | [], _ :: _, h => by cases h
  | _ :: _, [], h => by
    unfold isNames at h
    split at h <;> first | (cases h; done) | contradiction
theorem clsv_all : ∀ ts : List String, Paired ClsV (ts.map V.ty) (ts.map Value.type)
  | [] => .nil
  | t :: ts => .cons (.ty t) (clsv_all ts)
section
variable {T : Tb} {cl : Nat → List D → Sto → Rs} {cls : Nat → Addr × Option Str}
theorem plain_ix {s : Expr} (h : isSlice s = false) : PlainIx s := by
  intro o i
  cases s <;> first | rfl | cases h
theorem fill_len {f : FnE} {ds full : List D} (h : fillD f ds = some full) : ds.length ≤ f.ps.length ∧ f.ps.length ≤ ds.length + f.dfl.length ∧ full = ds ++ f.dfl.drop (ds.length + f.dfl.length - f.ps.length) := by
  unfold fillD at h
  cases c : (Nat.ble ds.length f.ps.length && Nat.ble f.ps.length (ds.length + f.dfl.length)) with
  | false => rw [c] at h; cases h
  | true =>
    rw [c] at h
    rw [Bool.and_eq_true] at c
    cases h
    exact ⟨Nat.le_of_ble_eq_true c.1, Nat.le_of_ble_eq_true c.2, rfl⟩
theorem perm_rl {K : PySem.W.Frag} {μ : List Addr} {H : Hp} {zs : List D} {ws : List V} (r : RlA K μ H zs ws) : ∀ perm : List Nat, RlA K μ H (perm.map fun i => zs.getD i .non) (perm.map fun i => ws.getD i .non)
  | [] => .nil
  | i :: perm => by
    refine .cons ?_ (perm_rl r perm)
    show Rl K μ H (zs.getD i .non) (ws.getD i .non)
    rw [List.getD_eq_getElem?_getD, List.getD_eq_getElem?_getD]
    cases h : zs[i]? with
    | none => rw [r.none_of h]; exact .non
    | some d =>
      obtain ⟨v, h1, h2⟩ := r.get h
      rw [h1]
      exact h2
theorem sp_of {X : Cx} {E : XK} {f : FnE} {j : Nat} {μ : List Addr} {H : Hp} {S : Sto} {Q : VK} {ds dd full : List D} {vs dvs : List V} (g : Good X.K X.w μ S H) (r : RlA X.K μ H ds vs) (hv : VsOf X.K dd dvs) (hl : (ds ++ dd).length = f.ps.length) (h : RsP X.K X.w cls E μ H (cl j (ds ++ dd) S) Q) :
    spR X.K X.w cls cl f.ps.length j (vs ++ dvs) H Q E := by
  refine ⟨?_, μ, S, ds ++ dd, g, r.append (hv μ H), h⟩
  rw [← hl, List.length_append, List.length_append, r.length, hv.length]
theorem call_ok {M : Nat} (ih : AllE T cl cls M) {X : Cx} {E : XK} (hc : Ctx T cl cls E X) {k j : Nat} {x : Str} {f : FnE} {es : List Expr} {args : List C} {p pos : Pos} (hf : T.fs[j]? = some f) (hx : f.name = x) (hg : okGl X.env.scope x = true) (hd : (x == ("__debug__" : Str)) = false)
    (hns : noStar es = true) (hes : isEs T k X.N X.env.scope es args = true) {env : En} {S : Sto} {μ : List Addr} {σ : L2.St} {H : Hp} {Q : VK} (g : Good X.K X.w μ S H) (r : EnvR X.K μ H env σ)
    (h : RsP X.K X.w cls E μ H (run T cl (M + 1) env S (.e (.call j args))) Q) : WPE X (.Call (.Name x p) es [] pos) σ H Q := by
  have h : RsP X.K X.w cls E μ H ((run T cl M env S (.es args)).bs fun ds S => (match T.fs[j]? with
        | some e => (match fillD e ds with | some full => cl j full S | none => .bad)
        | none => .bad)) Q := h
  rw [hf] at h
  dsimp only at h
  obtain ⟨kk, adr, fd, F, hr, hm, _, hk, hb, _⟩ := (hc.fns j f hf).ex
  rw [hx] at hm
  cases hr0 : run T cl M env S (.es args) with
  | oks ds S1 =>
    rw [hr0] at h
    have h : RsP X.K X.w cls E μ H (match fillD f ds with | some full => cl j full S1 | none => .bad) Q := h
    cases hfi : fillD f ds with
    | none => rw [hfi] at h; exact h.elim
    | some full =>
      rw [hfi] at h
      obtain ⟨l1, l2, rfl⟩ := fill_len hfi
      obtain ⟨dvs, dss, v1, v2, bi⟩ := hb ds.length l1 l2
      have hl : (ds ++ f.dfl.drop (ds.length + f.dfl.length - f.ps.length)).length = f.ps.length := by
        rw [List.length_append, List.length_drop]
        omega
      cases es with
      | nil =>
        rcases es_inv hes with ⟨_, rfl⟩ | ⟨_, _, _, _, _, e0, _⟩
        · rcases run_nil (T := T) (cl := cl) (m := M) (env := env) (S := S) with e | e
          · rw [e] at hr0; cases hr0
          · rw [e] at hr0
            cases hr0
            exact ⟨_, pe_call0 (p := p) (pos := pos) F hr (gl_of hg) hm hk bi v2 hc.pass hd, sp_of (f := f) (vs := []) (full := []) g .nil v1 hl h⟩
        · cases e0
      | cons e1 es =>
        obtain ⟨h1, h2⟩ := noStar_cons hns
        refine ⟨_, pe_call (p := p) F hr (gl_of hg) hm hk bi v2 hc.pass pa_w hd (star_cons h1) (star_any h2), ?_⟩
        refine ih.es hc hes g r ?_
        rw [hr0]
        intro vs μ1 H1 x1 g1 r1
        exact sp_of (f := f) (full := []) g1 r1 v1 hl (h.ext x1)
  | exc c as S1 =>
    rw [hr0] at h
    cases es with
    | nil =>
      rcases es_inv hes with ⟨_, rfl⟩ | ⟨_, _, _, _, _, e0, _⟩
      · rcases run_nil (T := T) (cl := cl) (m := M) (env := env) (S := S) with e | e
        · rw [e] at hr0; cases hr0
        · rw [e] at hr0; cases hr0
      · cases e0
    | cons e1 es =>
      obtain ⟨dvs, dss, v1, v2, bi⟩ := hb f.ps.length (Nat.le_refl _) (by omega)
      obtain ⟨h1, h2⟩ := noStar_cons hns
      refine ⟨_, pe_call (p := p) F hr (gl_of hg) hm hk bi v2 hc.pass pa_w hd (star_cons h1) (star_any h2), ?_⟩
      refine ih.es hc hes g r ?_
      rw [hr0]
      exact h
  | _ => rw [hr0] at h; exact h.elim
theorem callK_ok {M : Nat} (ih : AllE T cl cls M) {X : Cx} {E : XK} (hc : Ctx T cl cls E X) {k k' j : Nat} {x : Str} {f : FnE} {es : List Expr} {args : List C} {kwl : List Keyword} {ks : List Str} {kws : List C} {perm : List Nat} {p pos : Pos} (hf : T.fs[j]? = some f) (hx : f.name = x) (hg : okGl X.env.scope x = true) (hd : (x == ("__debug__" : Str)) = false)
    (hsh : (es.length, ks, perm) ∈ f.shapes) (hln : es.length + perm.length = f.ps.length) (hla : args.length = es.length)
    (hns : noStar es = true) (hes : isEs T k X.N X.env.scope es args = true) (hkn : kwl.map (·.arg) = ks.map some) (hks : isEs T k' X.N X.env.scope (kwl.map (·.value)) kws = true) (hns2 : noStar (kwl.map (·.value)) = true)
    {env : En} {S : Sto} {μ : List Addr} {σ : L2.St} {H : Hp} {Q : VK} (g : Good X.K X.w μ S H) (r : EnvR X.K μ H env σ)
    (h : RsP X.K X.w cls E μ H (run T cl (M + 1) env S (.e (.callK j args ks kws perm))) Q) : WPE X (.Call (.Name x p) es kwl pos) σ H Q := by
  have h : RsP X.K X.w cls E μ H ((run T cl M env S (.es args)).bs fun ds S => (run T cl M env S (.es kws)).bs fun zs S => (match T.fs[j]? with
        | some e => cond (Nat.beq ds.length args.length && Nat.beq zs.length ks.length) (cl j (ds ++ perm.map fun i => zs.getD i .non) S) .bad
        | none => .bad)) Q := h
  rw [hf] at h
  dsimp only at h
  obtain ⟨kk, adr, fd, F, hr, hm, _, hk, _, hb⟩ := (hc.fns j f hf).ex
  rw [hx] at hm
  have hkw : (backToKw pos (keywordEach kwl X.env)).map (·.1) = ks.map some := kw_names.trans hkn
  obtain ⟨a1, a2, a3⟩ := all_some hkw
  have hB := hb _ hsh
  dsimp only at hB
  -- behind all arguments
  have fin : ∀ {ds zs : List D} {vs ws : List V} {μ2 : List Addr} {S2 : Sto} {H2 : Hp}, Good X.K X.w μ2 S2 H2 → RlA X.K μ2 H2 ds vs → RlA X.K μ2 H2 zs ws →
      RsP X.K X.w cls E μ2 H2 (cond (Nat.beq ds.length args.length && Nat.beq zs.length ks.length) (cl j (ds ++ perm.map fun i => zs.getD i .non) S2) .bad) Q →
      vs.length = es.length ∧ ws.length = ks.length ∧ spR X.K X.w cls cl f.ps.length j (gP V.non perm vs ws) H2 Q E := by
    intro ds zs vs ws μ2 S2 H2 g2 r2 q2 h2
    obtain ⟨c, h2⟩ := cond_P h2
    rw [Bool.and_eq_true] at c
    have ld : ds.length = args.length := Nat.eq_of_beq_eq_true c.1
    have lz : zs.length = ks.length := Nat.eq_of_beq_eq_true c.2
    have rr : RlA X.K μ2 H2 (ds ++ perm.map fun i => zs.getD i .non) (gP V.non perm vs ws) := r2.append (perm_rl q2 perm)
    refine ⟨r2.length.symm.trans (ld.trans hla), q2.length.symm.trans lz, ?_, μ2, S2, _, g2, rr, h2⟩
    rw [← rr.length, List.length_append, List.length_map, ld, hla, hln]
  have kwR : ∀ {μ1 : List Addr} {S1 : Sto} {H1 : Hp} {ds : List D} {vs : List V}, Good X.K X.w μ1 S1 H1 → EnvR X.K μ1 H1 env σ → RlA X.K μ1 H1 ds vs →
      RsP X.K X.w cls E μ1 H1 ((run T cl M env S1 (.es kws)).bs fun zs S => cond (Nat.beq ds.length args.length && Nat.beq zs.length ks.length) (cl j (ds ++ perm.map fun i => zs.getD i .non) S) .bad) Q →
      WPK X kwl σ H1 fun zs H2 => vs.length = es.length ∧ zs.length = ks.length ∧ spR X.K X.w cls cl f.ps.length j (gP V.non perm vs zs) H2 Q E := by
    intro μ1 S1 H1 ds vs g1 re1 r1 h1
    refine ih.ks hc hks hns2 g1 re1 (RsA.mono (bs_P h1) ?_)
    rintro ws H2 ⟨zs, S2, μ2, x2, g2, r2, h2⟩
    exact fin g2 (RlA.ext x2 g1 r1) r2 h2
  cases es with
  | nil =>
    rcases es_inv hes with ⟨_, rfl⟩ | ⟨_, _, _, _, _, e0, _⟩
    · refine ⟨_, pe_callN0 (p := p) F hr (gl_of hg) hm hk hB hc.pass pk_w a1 a2 hd (by rw [a3]; rfl), ?_⟩
      rcases run_nil (T := T) (cl := cl) (m := M) (env := env) (S := S) with e | e
      · rw [e] at h; exact h.elim
      · rw [e] at h
        exact kwR (vs := []) g r .nil h
    · cases e0
  | cons e1 es =>
    obtain ⟨h1, h2⟩ := noStar_cons hns
    refine ⟨_, pe_callN (p := p) F hr (gl_of hg) hm hk hB hc.pass pa_w pk_w a1 a2 hd (star_cons h1) (by rw [star_any hns, a3]; rfl), ?_⟩
    refine ih.es hc hes g r (RsA.mono (bs_P h) ?_)
    rintro vs H1 ⟨ds, S1, μ1, x1, g1, r1, q1⟩
    exact kwR g1 (r.ext x1 g) r1 q1
theorem op_shape {m : Nat} {env : En} {S S1 : Sto} {c : Option C} {d : D} (h : run T cl m env S (.op c) = .ok d S1) : d = .non ∨ ∃ i, d = .int i := by
  cases m with
  | zero => cases h
  | succ m =>
    cases c with
    | none => cases h; exact .inl rfl
    | some c =>
      have h : ((run T cl m env S (.e c)).b1 fun x S => (match x with | .int i => .ok (.int i) S | _ => .bad)) = Rs.ok d S1 := h
      cases hr : run T cl m env S (.e c) with
      | ok d2 S2 =>
        rw [hr] at h
        cases d2 <;> first | (cases h; exact .inr ⟨_, rfl⟩) | cases h
      | _ => rw [hr] at h; cases h
theorem rl_rgAux {K : PySem.W.Frag} {μ : List Addr} {H : Hp} : ∀ l : List Nat, RlA K μ H (l.map fun i => D.int (i : Nat)) (l.map fun i => V.int (0 + (i : Nat)))
  | [] => .nil
  | i :: l => by
    refine .cons ?_ (rl_rgAux l)
    show Rl K μ H (.int ((i : Nat) : Int)) (.int (0 + ((i : Nat) : Int)))
    rw [Int.zero_add]
    exact .int _
theorem rl_rg {K : PySem.W.Frag} {μ : List Addr} {H : Hp} (m : Int) : RlA K μ H (rngD m) (rgV 0 m) := by
  unfold rngD rgV
  rw [Int.sub_zero]
  exact rl_rgAux _
/-- all expressions -/
theorem allE_e {M : Nat} (ih : ∀ m, m ≤ M → AllE T cl cls m) : ∀ {X : Cx} {E : XK}, Ctx T cl cls E X → ∀ {n : Nat} {e : Expr} {c : C}, isE T n X.N X.env.scope e c = true → ∀ {env : En} {S : Sto} {μ : List Addr} {σ : L2.St} {H : Hp} {Q : VK},
    Good X.K X.w μ S H → EnvR X.K μ H env σ → RsP X.K X.w cls E μ H (run T cl (M + 1) env S (.e c)) Q → WPE X e σ H Q := by
  intro X E hc n e c hi env S μ σ H Q g r h
  have i := ih M (Nat.le_refl M)
  cases n with
  | zero => cases hi
  | succ n =>
    unfold isE at hi
    cases c with
    | var j =>
      dsimp only at hi
      split at hi
      · unfold okVar at hi
        simp only [Bool.and_eq_true, decide_eq_true_eq, Bool.not_eq_true'] at hi
        obtain ⟨⟨⟨h1, h2⟩, h3⟩, h4⟩ := hi
        rename_i x pos
        have hv : Vis X.env.scope x := by
          unfold visB at h2
          split at h2
          · exact .inl (by assumption)
          · exact .inr (.inl (by assumption))
          · exact .inr (.inr (by assumption))
          · cases h2
        refine ⟨_, pe_var h1 hv h3 h4, ?_⟩
        have h : RsP X.K X.w cls E μ H (match env[j]? with | some (some d) => .ok d S | _ => .bad) Q := h
        split at h
        · rename_i d e0
          obtain ⟨v, e1, rv⟩ := r.at_ j d e0
          exact ⟨v, e1, h v μ H Ext.refl g rv⟩
        · exact h.elim
      · cases hi
    | kc d =>
      dsimp only at hi
      split at hi
      · rename_i k kk pos
        have h : Post X.K X.w μ H d S Q := h
        unfold isK at hi
        split at hi
        · exact ⟨_, pe_non, h _ μ H Ext.refl g .non⟩
        · have e0 := eq_of_beq hi
          subst e0
          exact ⟨_, pe_bl, h _ μ H Ext.refl g (.bl _)⟩
        · have e0 := of_decide_eq_true hi
          subst e0
          exact ⟨_, pe_int, h _ μ H Ext.refl g (.int _)⟩
        · have e0 := of_decide_eq_true hi
          subst e0
          exact ⟨_, pe_str, h _ μ H Ext.refl g (.str _)⟩
        · cases hi
      · cases hi
    | glob y v =>
      dsimp only at hi
      split at hi
      · simp only [Bool.and_eq_true, decide_eq_true_eq, Bool.not_eq_true'] at hi
        obtain ⟨⟨⟨rfl, h1⟩, h2⟩, h3⟩ := hi
        obtain ⟨t, ht⟩ := hc.consts _ h1
        have h : Post X.K X.w μ H (.int v) S Q := h
        exact ⟨_, pe_glob (v := .int v) (gl_of h2) ht ⟨t, rfl⟩ h3, h _ μ H Ext.refl g (.int _)⟩
      · cases hi
    | globT i =>
      dsimp only at hi
      split at hi
      · rename_i x pos
        simp only [Bool.and_eq_true, Bool.not_eq_true'] at hi
        obtain ⟨⟨h1, h2⟩, h3⟩ := hi
        have h : RsP X.K X.w cls E μ H (match T.tcs[i]? with | some p => .ok (.tup (p.2.map .int)) S | none => .bad) Q := h
        split at h1
        · rename_i p e0
          rw [e0] at h
          have e1 : p.1 = x := of_decide_eq_true h1
          obtain ⟨a, m1, m2⟩ := hc.tcs p (List.mem_of_getElem? e0)
          rw [e1] at m1
          exact ⟨_, pe_glob (v := .ref a) (gl_of h2) m1 rfl h3, h _ μ H Ext.refl g (.tup (.inr m2) (rl_ints _))⟩
        · cases h1
      · cases hi
    | tup cs =>
      dsimp only at hi
      split at hi
      · refine ⟨_, pe_tupN pa_w, ?_⟩
        have h : RsP X.K X.w cls E μ H ((run T cl M env S (.es cs)).bs fun ds S => cond (smallB ds.length) (.ok (.tup ds) S) .bad) Q := h
        refine i.es hc hi g r (RsA.mono (bs_P h) ?_)
        rintro vs H1 ⟨ds, S1, μ1, x1, g1, r1, q1⟩
        obtain ⟨c, q1⟩ := cond_P q1
        refine ⟨by rw [← r1.length]; exact small_of c, fun p o hp od => ?_⟩
        exact q1 _ μ1 _ (ext_new hp) (good_new g1 hp) (.tup (sqN_up upd_same od) (RlA.ext (ext_new hp) g1 r1))
      · cases hi
    | lst cs =>
      dsimp only at hi
      split at hi
      · refine ⟨_, pe_lst pa_w, ?_⟩
        have h : RsP X.K X.w cls E μ H ((run T cl M env S (.es cs)).bs fun ds S => cond (smallB ds.length) (.ok (.ref S.nx) (S.new ds)) .bad) Q := h
        refine i.es hc hi g r (RsA.mono (bs_P h) ?_)
        rintro vs H1 ⟨ds, S1, μ1, x1, g1, r1, q1⟩
        obtain ⟨c, q1⟩ := cond_P q1
        refine ⟨by rw [← r1.length]; exact small_of c, fun p hp => ?_⟩
        exact q1 _ (μ1 ++ [p]) _ (ext_lst hp) (good_lst g1 hp r1) (.ref (at_last g1))
      · cases hi
    | star c => cases hi
    | bin op a b =>
      dsimp only at hi
      split at hi
      · simp only [Bool.and_eq_true, decide_eq_true_eq] at hi
        obtain ⟨⟨rfl, h1⟩, h2⟩ := hi
        refine ⟨_, pe_op op_w pe_w pe_w, ?_⟩
        have h : RsP X.K X.w cls E μ H ((run T cl M env S (.e a)).b1 fun x S => (run T cl M env S (.e b)).b1 fun y S => opD op x y S) Q := h
        refine i.e hc h1 g r (RsP.mono (b1_P h) ?_)
        rintro v H1 ⟨d, S1, μ1, x1, g1, r1, q1⟩
        refine i.e hc h2 g1 (r.ext x1 g) (RsP.mono (b1_P q1) ?_)
        rintro u H2 ⟨d2, S2, μ2, x2, g2, r2, q2⟩
        exact opD_ok g2 op (Rl.ext x2 g1 r1) r2 q2
      · cases hi
    | neg a =>
      dsimp only at hi
      split at hi
      · refine ⟨_, pe_un un_neg pe_w, ?_⟩
        have h : RsP X.K X.w cls E μ H ((run T cl M env S (.e a)).b1 fun x S => (match x with | .int i => .ok (.int (-i)) S | _ => .bad)) Q := h
        refine i.e hc hi g r (RsP.mono (b1_P h) ?_)
        rintro v H1 ⟨d, S1, μ1, x1, g1, r1, q1⟩
        cases r1 with
        | int j => exact ⟨j, rfl, q1 _ μ1 H1 Ext.refl g1 (.int _)⟩
        | _ => exact q1.elim
      · cases hi
    | not a =>
      dsimp only at hi
      split at hi
      · refine ⟨_, pe_not pe_w, ?_⟩
        have h : RsP X.K X.w cls E μ H ((run T cl M env S (.e a)).b1 fun x S => (match x with | .bl b => .ok (.bl (!b)) S | _ => .bad)) Q := h
        refine i.e hc hi g r (RsP.mono (b1_P h) ?_)
        rintro v H1 ⟨d, S1, μ1, x1, g1, r1, q1⟩
        cases r1 with
        | bl j => exact ⟨j, rfl, q1 _ μ1 H1 Ext.refl g1 (.bl _)⟩
        | _ => exact q1.elim
      · cases hi
    | and cs =>
      dsimp only at hi
      split at hi
      · rw [Bool.and_eq_true] at hi
        exact i.andv hc hi.2 hi.1 g r h _
      · cases hi
    | or cs =>
      dsimp only at hi
      split at hi
      · rw [Bool.and_eq_true] at hi
        exact i.orv hc hi.2 hi.1 g r h _
      · cases hi
    | ite t a b =>
      dsimp only at hi
      split at hi
      · simp only [Bool.and_eq_true] at hi
        obtain ⟨⟨h1, h2⟩, h3⟩ := hi
        refine ⟨_, pe_ifExp pt_w pe_w pe_w, ?_⟩
        have h : RsP X.K X.w cls E μ H ((run T cl M env S (.t t)).b1 fun x S => (match x with | .bl true => run T cl M env S (.e a) | .bl false => run T cl M env S (.e b) | _ => .bad)) Q := h
        refine i.t hc h1 g r (RsT.mono (t1_P h fun d S hn => by cases d with | bl b => exact absurd rfl (hn b) | _ => rfl) ?_)
        rintro v H1 ⟨S1, μ1, x1, g1, q1⟩
        cases v with
        | true => exact iteT (i.e hc h2 g1 (r.ext x1 g) q1)
        | false => exact iteF (i.e hc h3 g1 (r.ext x1 g) q1)
      · cases hi
    | cmp op a b =>
      dsimp only at hi
      split at hi
      · simp only [Bool.and_eq_true, decide_eq_true_eq, Bool.not_eq_true'] at hi
        obtain ⟨⟨⟨rfl, hm⟩, h1⟩, h2⟩ := hi
        exact ⟨_, pe_cmpR op_w pe_w pe_w hm, cmp_read (fun m hm => ih m (by omega)) hc h1 h2 g r h⟩
      · cases hi
    | chain a op b op' c =>
      dsimp only at hi
      split at hi
      · simp only [Bool.and_eq_true, decide_eq_true_eq, Bool.not_eq_true'] at hi
        obtain ⟨⟨⟨⟨⟨rfl, rfl⟩, hm⟩, h1⟩, h2⟩, h3⟩ := hi
        exact ⟨_, pe_chain op_w op_w pe_w pe_w pe_w hm, chain_read (fun m hm => ih m (by omega)) hc h1 h2 h3 g r h⟩
      · cases hi
    | idx a j =>
      dsimp only at hi
      split at hi
      · simp only [Bool.and_eq_true, Bool.not_eq_true'] at hi
        obtain ⟨⟨hs, h1⟩, h2⟩ := hi
        refine ⟨_, pe_ix ix_w pe_w pe_w (plain_ix hs), ?_⟩
        have h : RsP X.K X.w cls E μ H ((run T cl M env S (.e a)).b1 fun x S => (run T cl M env S (.e j)).b1 fun y S => idxD x y S) Q := h
        refine i.e hc h1 g r (RsP.mono (b1_P h) ?_)
        rintro v H1 ⟨d, S1, μ1, x1, g1, r1, q1⟩
        refine i.e hc h2 g1 (r.ext x1 g) (RsP.mono (b1_P q1) ?_)
        rintro u H2 ⟨d2, S2, μ2, x2, g2, r2, q2⟩
        exact idxD_ok g2 hc.un (Rl.ext x2 g1 r1) r2 q2
      · cases hi
    | slc a lo hi' =>
      dsimp only at hi
      split at hi
      · simp only [Bool.and_eq_true] at hi
        obtain ⟨⟨h1, h2⟩, h3⟩ := hi
        refine ⟨_, pe_slice sl_w pe_w po_w po_w, ?_⟩
        have h : RsP X.K X.w cls E μ H ((run T cl M env S (.e a)).b1 fun x S => (run T cl M env S (.op lo)).b1 fun l S => (run T cl M env S (.op hi')).b1 fun u S => (match l, u with
          | .non, .non => slcD x none none S
          | .int i, .non => slcD x (some i) none S
          | .non, .int j => slcD x none (some j) S
          | .int i, .int j => slcD x (some i) (some j) S
          | _, _ => .bad)) Q := h
        refine i.e hc h1 g r (RsP.mono (b1_P h) ?_)
        rintro v H1 ⟨d, S1, μ1, x1, g1, r1, q1⟩
        refine i.op hc h2 g1 (r.ext x1 g) ?_
        -- the lower bound
        have part : ∀ {lo : Option C} {S1 : Sto} {μ1 : List Addr} {H1 : Hp} {f : D → Sto → Rs} {R : Option Int → Hp → Prop}, RsP X.K X.w cls E μ1 H1 ((run T cl M env S1 (.op lo)).b1 f) Q →
            (∀ (o : Option Int) (l : D) (S2 : Sto) (μ2 : List Addr) (H2 : Hp), ((o = none ∧ l = .non) ∨ ∃ i, o = some i ∧ l = .int i) → Ext μ1 H1 μ2 H2 → Good X.K X.w μ2 S2 H2 → RsP X.K X.w cls E μ2 H2 (f l S2) Q → R o H2) →
            RsO X.K X.w cls E μ1 H1 (run T cl M env S1 (.op lo)) R := by
          intro lo S1 μ1 H1 f R q k1
          cases hr : run T cl M env S1 (.op lo) with
          | ok d S =>
            rw [hr] at q
            have q : RsP X.K X.w cls E μ1 H1 (f d S) Q := q
            cases d with
            | non => exact fun μ2 H2 x2 g2 => k1 none .non S μ2 H2 (.inl ⟨rfl, rfl⟩) x2 g2 (q.ext x2)
            | int j => exact fun μ2 H2 x2 g2 => k1 (some j) (.int j) S μ2 H2 (.inr ⟨j, rfl, rfl⟩) x2 g2 (q.ext x2)
            | _ => rcases op_shape hr with z | ⟨_, z⟩ <;> cases z
          | exc c as S => rw [hr] at q; exact q
          | _ => rw [hr] at q; exact q.elim
        refine part q1 fun o l S2 μ2 H2 ol x2 g2 q2 => ?_
        refine i.op hc h3 g2 ((r.ext x1 g).ext x2 g1) ?_
        refine part q2 fun o' u S3 μ3 H3 ou x3 g3 q3 => ?_
        have rd := Rl.ext x3 g2 (Rl.ext x2 g1 r1)
        rcases ol with ⟨rfl, rfl⟩ | ⟨i0, rfl, rfl⟩ <;> rcases ou with ⟨rfl, rfl⟩ | ⟨j0, rfl, rfl⟩ <;> exact slcD_ok g3 rd q3
      · cases hi
    | call j args =>
      dsimp only at hi
      split at hi
      · simp only [Bool.and_eq_true, Bool.not_eq_true'] at hi
        obtain ⟨⟨⟨⟨h1, h2⟩, h3⟩, h4⟩, h5⟩ := hi
        split at h1
        · rename_i f hf
          exact call_ok i hc hf (of_decide_eq_true h1) h2 h3 h4 h5 g r h
        · cases h1
      · cases hi
    | callK j args ks kws perm =>
      dsimp only at hi
      split at hi
      · simp only [Bool.and_eq_true, Bool.not_eq_true', decide_eq_true_eq] at hi
        obtain ⟨⟨⟨⟨⟨⟨⟨h1, h2⟩, h3⟩, h4⟩, h5⟩, h6⟩, h7⟩, h8⟩ := hi
        split at h1
        · rename_i f hf
          simp only [Bool.and_eq_true, decide_eq_true_eq] at h1
          exact callK_ok i hc hf h1.1.1.1 h2 h3 h1.1.1.2 h1.1.2 h1.2 h4 h5 h6 h7 h8 g r h
        · cases h1
      · cases hi
    | bi b args =>
      dsimp only at hi
      split at hi
      · rename_i x p es pos
        simp only [Bool.and_eq_true, decide_eq_true_eq, Bool.not_eq_true'] at hi
        obtain ⟨⟨⟨⟨⟨rfl, hgcd⟩, h2⟩, h3⟩, h4⟩, h5⟩ := hi
        have h : RsP X.K X.w cls E μ H ((run T cl M env S (.es args)).bs fun ds S => biD b ds S) Q := h
        have rd : WPA X es σ H fun vs H1 => WCa X (biV b) vs H1 Q := by
          refine i.es hc h5 g r (RsA.mono (bs_P h) ?_)
          rintro vs H1 ⟨ds, S1, μ1, x1, g1, r1, q1⟩
          exact biD_ok g1 hc.calm hc.un b r1 q1
        cases es with
        | nil => cases h4
        | cons e1 es =>
          obtain ⟨n1, n2⟩ := noStar_cons h3
          cases b with
          | len => exact ⟨_, pe_callB ca_w (gl_of h2) (hc.mg0 _ (by simp [biName])) boot_len pa_w (by decide) (by decide) (star_cons n1) (star_any n2), rd⟩
          | abs => exact ⟨_, pe_callB ca_w (gl_of h2) (hc.mg0 _ (by simp [biName])) (by decide +kernel) pa_w (by decide) (by decide) (star_cons n1) (star_any n2), rd⟩
          | all => exact ⟨_, pe_callB ca_w (gl_of h2) (hc.mg0 _ (by simp [biName])) (by decide +kernel) pa_w (by decide) (by decide) (star_cons n1) (star_any n2), rd⟩
          | any => exact ⟨_, pe_callB ca_w (gl_of h2) (hc.mg0 _ (by simp [biName])) (by decide +kernel) pa_w (by decide) (by decide) (star_cons n1) (star_any n2), rd⟩
          | int => exact ⟨_, pe_callTy ca_w (gl_of h2) (hc.mg0 _ (by simp [biName])) (by decide +kernel) pa_w (by decide) (by decide) (star_cons n1) (star_any n2), rd⟩
          | bool => exact ⟨_, pe_callTy ca_w (gl_of h2) (hc.mg0 _ (by simp [biName])) (by decide +kernel) pa_w (by decide) (by decide) (star_cons n1) (star_any n2), rd⟩
          | tuple => exact ⟨_, pe_callTy ca_w (gl_of h2) (hc.mg0 _ (by simp [biName])) (by decide +kernel) pa_w (by decide) (by decide) (star_cons n1) (star_any n2), rd⟩
          | list => exact ⟨_, pe_callTy ca_w (gl_of h2) (hc.mg0 _ (by simp [biName])) (by decide +kernel) pa_w (by decide) (by decide) (star_cons n1) (star_any n2), rd⟩
          | sorted => exact ⟨_, pe_callB ca_w (gl_of h2) (hc.mg0 _ (by simp [biName])) (by decide +kernel) pa_w (by decide) (by decide) (star_cons n1) (star_any n2), rd⟩
          | dict => exact ⟨_, pe_callTy ca_w (gl_of h2) (hc.mg0 _ (by simp [biName])) (by decide +kernel) pa_w (by decide) (by decide) (star_cons n1) (star_any n2), rd⟩
          | min => exact ⟨_, pe_callB ca_w (gl_of h2) (hc.mg0 _ (by simp [biName])) (by decide +kernel) pa_w (by decide) (by decide) (star_cons n1) (star_any n2), rd⟩
          | sum => exact ⟨_, pe_callB ca_w (gl_of h2) (hc.mg0 _ (by simp [biName])) (by decide +kernel) pa_w (by decide) (by decide) (star_cons n1) (star_any n2), rd⟩
          | max => exact ⟨_, pe_callB ca_w (gl_of h2) (hc.mg0 _ (by simp [biName])) (by decide +kernel) pa_w (by decide) (by decide) (star_cons n1) (star_any n2), rd⟩
          | divmod => exact ⟨_, pe_callB ca_w (gl_of h2) (hc.mg0 _ (by simp [biName])) (by decide +kernel) pa_w (by decide) (by decide) (star_cons n1) (star_any n2), rd⟩
          | perm =>
            have hm : X.mg "perm" = some (.builtin "math.perm") := hc.gcd ("perm", "math.perm") (of_decide_eq_true hgcd)
            exact ⟨_, pe_callBfun ca_w (gl_of h2) hm pa_w (by decide) (star_cons n1) (star_any n2), rd⟩
          | comb =>
            have hm : X.mg "comb" = some (.builtin "math.comb") := hc.gcd ("comb", "math.comb") (of_decide_eq_true hgcd)
            exact ⟨_, pe_callBfun ca_w (gl_of h2) hm pa_w (by decide) (star_cons n1) (star_any n2), rd⟩
          | gcd =>
            have hm : X.mg "gcd" = some (.builtin "math.gcd") := hc.gcd ("gcd", "math.gcd") (of_decide_eq_true hgcd)
            exact ⟨_, pe_callBfun ca_w (gl_of h2) hm pa_w (by decide) (star_cons n1) (star_any n2), rd⟩
      · cases hi
    | isi a ts =>
      dsimp only at hi
      split at hi
      · simp only [Bool.and_eq_true, decide_eq_true_eq, Bool.not_eq_true'] at hi
        obtain ⟨⟨⟨⟨⟨rfl, h2⟩, h3⟩, h4⟩, h5⟩, h6⟩ := hi
        have h : RsP X.K X.w cls E μ H ((run T cl M env S (.e a)).b1 fun x S => (match isiAny (tyN S x) ts with | some b => .ok (.bl b) S | none => .bad)) Q := h
        refine ⟨_, pe_callB call_isiT (gl_of h2) (hc.mg0 _ (by simp)) (by decide +kernel) (pa_cons pe_w (pa_cons (pe_tup (pa_names hc.mg0 h5)) pa_nil (by rfl)) (star_cons h3)) (by decide) (by decide) (star_cons h3) (by rfl), ?_⟩
        refine i.e hc h4 g r (RsP.mono (b1_P h) ?_)
        rintro v H1 ⟨d, S1, μ1, x1, g1, r1, q1⟩
        split at q1
        · rename_i b eb
          refine ⟨by rw [List.length_map]; exact Nat.le_trans (Nat.le_of_lt h6) (by decide), fun p hp => ?_⟩
          refine ⟨v, p, ts.map V.ty, .type (tyN S1 d), ts.map Value.type, b, rfl, upd_same, clsv_all ts, tyx_of (good_tup g1 hp) (Rl.ext (ext_tup hp) g1 r1) (isiAny_ne eb), isiAny_is _ (tyN_mem (isiAny_ne eb)) eb, ?_⟩
          exact q1 _ μ1 _ (ext_tup hp) (good_tup g1 hp) (.bl _)
        · exact q1.elim
      · cases hi
    | isi1 a t =>
      dsimp only at hi
      split at hi
      · rename_i x px y z pos
        simp only [Bool.and_eq_true, decide_eq_true_eq, Bool.not_eq_true'] at hi
        obtain ⟨⟨⟨⟨rfl, h2⟩, h3⟩, h4⟩, h5⟩ := hi
        have h : RsP X.K X.w cls E μ H ((run T cl M env S (.e a)).b1 fun x S => (match isiT (tyN S x) t with | some b => .ok (.bl b) S | none => .bad)) Q := h
        refine ⟨_, pe_callB call_isi (gl_of h2) (hc.mg0 _ (by simp)) (by decide +kernel) (pa_cons pe_w (pa_names hc.mg0 h5) (star_cons h3)) (by decide) (by decide) (star_cons h3) ?_, ?_⟩
        · cases z <;> first | rfl | (simp [isNames] at h5; done)
        refine i.e hc h4 g r (RsP.mono (b1_P h) ?_)
        rintro v H1 ⟨d, S1, μ1, x1, g1, r1, q1⟩
        split at q1
        · rename_i b eb
          exact ⟨v, .ty t, .type (tyN S1 d), .type t, b, rfl, .ty t, tyx_of g1 r1 (isiT_ne eb), isiT_is _ (tyN_mem (isiT_ne eb)) eb, q1 _ μ1 H1 Ext.refl g1 (.bl _)⟩
        · exact q1.elim
      · cases hi
    | meth m o args =>
      dsimp only at hi
      split at hi
      · rename_i ob name apos es cpos
        simp only [Bool.and_eq_true, decide_eq_true_eq] at hi
        obtain ⟨⟨⟨⟨⟨⟨rfl, h1⟩, h2⟩, h3⟩, h4⟩, h5⟩, h6⟩ := hi
        have h : RsP X.K X.w cls E μ H ((run T cl M env S (.e o)).b1 fun x S => (match x with
          | .ref n => (match S.get n with
            | some _ => (run T cl M env S (.es args)).bs fun ds S => methD m (.ref n) ds S
            | none => .bad)
          | _ => .bad)) Q := h
        have rd : WPE X ob σ H fun x H1 => tyV X.K "list" x H1 ∧ WPA X es σ H1 fun xs H2 => WMt X (mtV m) x xs H2 Q := by
          refine i.e hc h5 g r (RsP.mono (b1_P h) ?_)
          rintro v H1 ⟨d, S1, μ1, x1, g1, r1, q1⟩
          cases r1 with
          | @ref nn a p =>
            dsimp only at q1
            cases e0 : S1.get nn with
            | none => rw [e0] at q1; exact q1.elim
            | some l =>
            rw [e0] at q1
            obtain ⟨xs, h7, _⟩ := g1.lst p e0
            refine ⟨.inl ⟨rfl, xs, sqL_of h7⟩, ?_⟩
            refine i.es hc h6 g1 (r.ext x1 g) (RsA.mono (bs_P q1) ?_)
            rintro vs H2 ⟨ds, S2, μ2, x2, g2, r2, q2⟩
            exact methD_ok g2 m (.ref (x2.at_ p)) r2 q2
          | _ => exact q1.elim
        have one : ∀ {id : String} {nm : Str}, Slot "list" nm id → typeOf (.builtin id) = pure (.type "method_descriptor") → mtV m = id → mtName m = nm → es.length = 1 → WPE X (.Call (.Attribute ob (mtName m) apos) es [] cpos) σ H Q := by
          intro id nm sl ty em en el
          subst en em
          match es, el with
          | [e1], _ =>
            obtain ⟨n1, n2⟩ := noStar_cons h3
            refine ⟨_, pe_bm PySem.F.plainAttrs_list sl ty mt_w pe_w pa_w (base_is h2) ?_ h1 (star_cons n1) (star_any n2), rd⟩
            rw [star_cons n1]
            rfl
        cases m with
        | append => exact one PySem.F.slot_list_append PySem.F.type_list_append rfl rfl h4
        | extend => exact one PySem.F.slot_list_extend PySem.F.type_list_extend rfl rfl h4
        | index => exact one PySem.F.slot_list_index PySem.F.type_list_index rfl rfl h4
        | popAt => exact one PySem.F.slot_list_pop PySem.F.type_list_pop rfl rfl h4
        | pop =>
          match es, h4 with
          | [], _ =>
            refine ⟨_, pe_bm0 PySem.F.plainAttrs_list PySem.F.slot_list_pop PySem.F.type_list_pop mt_w pe_w (base_is h2) h1, ?_⟩
            refine i.e hc h5 g r (RsP.mono (b1_P h) ?_)
            rintro v H1 ⟨d, S1, μ1, x1, g1, r1, q1⟩
            cases r1 with
            | @ref nn a p =>
              dsimp only at q1
              cases e0 : S1.get nn with
              | none => rw [e0] at q1; exact q1.elim
              | some l =>
              rw [e0] at q1
              obtain ⟨xs, h7, _⟩ := g1.lst p e0
              refine ⟨.inl ⟨rfl, xs, sqL_of h7⟩, ?_⟩
              rcases es_inv h6 with ⟨_, rfl⟩ | ⟨_, _, _, _, _, e0, _⟩
              · rcases run_nil (T := T) (cl := cl) (m := M) (env := env) (S := S1) with e | e
                · rw [e] at q1; exact q1.elim
                · rw [e] at q1
                  exact methD_ok g1 .pop (.ref p) .nil q1
              · cases e0
            | _ => exact q1.elim
      · cases hi
    | comp2 vs tg it ops ifs vs1 tg1 it1 ops1 ifs1 elt =>
      dsimp only at hi
      split at hi
      · simp only [Bool.and_eq_true] at hi
        obtain ⟨⟨⟨⟨⟨⟨⟨⟨⟨⟨⟨⟨h1, h2⟩, h3⟩, h4⟩, h5⟩, h6⟩, h7⟩, h8⟩, h9⟩, h10⟩, h11⟩, h12⟩, h13⟩ := hi
        exact comp2_ok ih hc h1 h2 h3 h4 h5 h6 h7 h8 h9 h10 h11 h12 h13 g r h
      · cases hi
    | dcomp vs tg it ops ifs ck cv =>
      dsimp only at hi
      split at hi
      · simp only [Bool.and_eq_true] at hi
        obtain ⟨⟨⟨⟨⟨⟨⟨h1, h2⟩, h3⟩, h4⟩, h5⟩, h6⟩, h7⟩, h8⟩ := hi
        exact dcomp_ok ih hc h1 h2 h3 h4 h5 h6 h7 h8 g r h
      · cases hi
    | glf j =>
      dsimp only at hi
      split at hi
      · simp only [Bool.and_eq_true, Bool.not_eq_true'] at hi
        obtain ⟨⟨h1, h2⟩, h3⟩ := hi
        split at h1
        · rename_i x pos f hf
          have h1 := of_decide_eq_true h1
          subst h1
          obtain ⟨kk, adr, fd, F, hr, hm, hns, hk, hb, _⟩ := (hc.fns j f hf).ex
          have h : RsP X.K X.w cls E μ H (match T.fs[j]? with | some e => .ok (.fn e.name) S | none => .bad) Q := h
          rw [hf] at h
          exact ⟨_, pe_glob (v := .ref adr) (gl_of h2) hm rfl h3, h _ μ H Ext.refl g (.fn hns)⟩
        · cases h1
      · cases hi
    | callV f args =>
      dsimp only at hi
      split at hi
      · simp only [Bool.and_eq_true] at hi
        obtain ⟨⟨⟨h1, h2⟩, h3⟩, h4⟩ := hi
        exact callV_ok i hc h1 h2 h3 h4 g r h
      · cases hi
    | chain3 a op b op' c op'' d =>
      dsimp only at hi
      split at hi
      · simp only [Bool.and_eq_true, decide_eq_true_eq, Bool.not_eq_true'] at hi
        obtain ⟨⟨⟨⟨⟨⟨⟨rfl, rfl⟩, rfl⟩, hm⟩, h1⟩, h2⟩, h3⟩, h4⟩ := hi
        exact ⟨_, pe_chain3 op_w op_w op_w pe_w pe_w pe_w pe_w hm, chain3_read (fun m hm => ih m (by omega)) hc h1 h2 h3 h4 g r h⟩
      · cases hi
    | revs a =>
      dsimp only at hi
      split at hi
      · refine ⟨_, pe_revN pe_w, ?_⟩
        have h : RsP X.K X.w cls E μ H ((run T cl M env S (.e a)).b1 fun x S => (match x with
          | .ref n => (match S.get n with | some l => .ok (.ref S.nx) (S.new l.reverse) | none => .bad)
          | .tup l => .ok (.tup l.reverse) S
          | _ => .bad)) Q := h
        refine i.e hc hi g r (RsP.mono (b1_P h) ?_)
        rintro v H1 ⟨d, S1, μ1, x1, g1, r1, q1⟩
        cases r1 with
        | @ref nn a p =>
          dsimp only at q1
          cases e0 : S1.get nn with
          | none => rw [e0] at q1; exact q1.elim
          | some l =>
          rw [e0] at q1
          obtain ⟨xs, h7, rr⟩ := g1.lst p e0
          exact ⟨a, xs, rfl, .inl ⟨sqL_of h7, fun q hq => q1 _ (μ1 ++ [q]) _ (ext_lst hq) (good_lst g1 hq rr.reverse) (.ref (at_last g1))⟩⟩
        | @tup a xs l h7 rr =>
          exact ⟨a, xs, rfl, .inr ⟨sqT_of h7, fun q o hq od => q1 _ μ1 _ (ext_new hq) (good_new g1 hq) (.tup (sqN_up upd_same od) (RlA.ext (ext_new hq) g1 rr.reverse))⟩⟩
        | _ => exact q1.elim
      · cases hi
    | dnewI =>
      dsimp only at hi
      split at hi
      · exact ⟨_, pe_dnewK, fun p hp => h _ (μ ++ [p]) _ (ext_obj hp) (good_obj g hp (.dki (ks := []) (ds := []) (vs := []) rfl .nil)) (.ref (at_last g))⟩
      · cases hi
    | dnewN =>
      dsimp only at hi
      split at hi
      · exact ⟨_, pe_newN, fun p hp => h _ (μ ++ [p]) _ (ext_obj hp) (good_obj g hp (.dkn .nil)) (.ref (at_last g))⟩
      · cases hi
    | ddisp kvs =>
      dsimp only at hi
      split at hi
      · rename_i keys values pos
        simp only [Bool.and_eq_true, decide_eq_true_eq, Bool.not_eq_true'] at hi
        obtain ⟨⟨⟨⟨⟨h1, h2⟩, h3⟩, h4⟩, h5⟩, h6⟩ := hi
        exact ddisp_ok ih hc h1 h2 (fun z => by rw [z] at h3; cases h3) h4 h5 h6 g r h
      · cases hi
    | dget o k x =>
      dsimp only at hi
      split at hi
      · rename_i ob name apos e1 e2 cpos
        simp only [Bool.and_eq_true, decide_eq_true_eq] at hi
        obtain ⟨⟨⟨⟨⟨⟨rfl, h1⟩, h2⟩, h3⟩, h4⟩, h5⟩, h6⟩ := hi
        obtain ⟨n1, n2⟩ := noStar_cons h3
        obtain ⟨n3, _⟩ := noStar_cons n2
        have se : starEach [e1, e2] X.env = [(false, eval e1 X.env), (false, eval e2 X.env)] := star2 h3
        refine ⟨_, pe_getA hc.un pe_w pe_w pe_w ⟨base_is h2, by rw [se]; rfl, h1, by rw [se]; rfl⟩, ?_⟩
        have h : RsP X.K X.w cls E μ H ((run T cl M env S (.e o)).b1 fun a S => (match a with
          | .ref n => cond (isDict (S.obj n)) ((run T cl M env S (.e k)).b1 fun y S => (run T cl M env S (.e x)).b1 fun z S => (match S.obj n with
            | some ob => (match dlookG ob y with | some r => .ok (r.getD z) S | none => .bad)
            | none => .bad)) .bad
          | _ => .bad)) Q := h
        refine i.e hc h4 g r (RsP.mono (b1_P h) ?_)
        rintro v H1 ⟨d, S1, μ1, x1, g1, r1, q1⟩
        cases r1 with
        | @ref nn a p =>
          obtain ⟨c, q1⟩ := cond_P q1
          refine ⟨a, rfl, dty_of g1 p c, ?_⟩
          have re1 := r.ext x1 g
          refine i.e hc h5 g1 re1 (RsP.mono (b1_P q1) ?_)
          rintro y H2 ⟨d2, S2, μ2, x2, g2, r2, q2⟩
          refine i.e hc h6 g2 (re1.ext x2 g1) (RsP.mono (b1_P q2) ?_)
          rintro z H3 ⟨d3, S3, μ3, x3, g3, r3, q3⟩
          have p3 := x3.at_ (x2.at_ p)
          split at q3
          · rename_i ob eo
            split at q3
            · rename_i rr er
              obtain ⟨ov, o1, o2⟩ := dlookG_ok g3 p3 eo er (Rl.ext x3 g2 r2)
              refine ⟨ov, o1, ?_⟩
              cases o2 with
              | none => exact q3 _ μ3 H3 Ext.refl g3 r3
              | some rv => exact q3 _ μ3 H3 Ext.refl g3 rv
            · exact q3.elim
          · exact q3.elim
        | _ => exact q1.elim
      · cases hi
    | dvals o =>
      dsimp only at hi
      split at hi
      · rename_i x px ob name apos mpos pos
        simp only [Bool.and_eq_true, decide_eq_true_eq] at hi
        obtain ⟨⟨⟨⟨⟨rfl, h2⟩, rfl⟩, h3⟩, h4⟩, h5⟩ := hi
        refine ⟨_, pe_listVals hc.calm (gl_of h2) (hc.mg0 _ (by simp)) pe_w (base_is h4) h3, ?_⟩
        have h : RsP X.K X.w cls E μ H ((run T cl M env S (.e o)).b1 fun a S => (match a with
          | .ref n => (match S.obj n with | some (.dki _ ds) => .ok (.ref S.nx) (S.new ds) | _ => .bad)
          | _ => .bad)) Q := h
        refine i.e hc h5 g r (RsP.mono (b1_P h) ?_)
        rintro v H1 ⟨d, S1, μ1, x1, g1, r1, q1⟩
        cases r1 with
        | @ref nn a p =>
          obtain ⟨ob', ho, f1, f2, f3⟩ := g1.at_ _ _ p
          dsimp only at q1
          rw [f1] at q1
          cases f3 with
          | @dki ks ds vs hl rr =>
            have ev : (kvI ks vs).map (·.2) = vs := kvI_vals (K := X.K) (μ := μ1) (H := H1) hl rr
            refine ⟨a, _, rfl, f2, fun q hq => ?_⟩
            have ev' : ((ks.zip vs).map fun p => ((Sum.inl p.1, p.2) : Key × V)).map (·.2) = vs := ev
            rw [ev']
            exact q1 _ (μ1 ++ [q]) _ (ext_lst hq) (good_lst g1 hq rr) (.ref (at_last g1))
          | _ => exact q1.elim
        | _ => exact q1.elim
      · cases hi
    | mdf mx a z =>
      dsimp only at hi
      split at hi
      · rename_i x px e1 kw e2 kp pos
        simp only [Bool.and_eq_true, decide_eq_true_eq] at hi
        obtain ⟨⟨⟨⟨⟨⟨rfl, h2⟩, rfl⟩, h3⟩, h4⟩, h5⟩, h6⟩ := hi
        have h : RsP X.K X.w cls E μ H ((run T cl M env S (.e a)).b1 fun x S => (run T cl M env S (.e z)).b1 fun z S => mdfD mx x z S) Q := h
        have rd : WPE X e1 σ H fun x H1 => WPE X e2 σ H1 fun u H2 => rMdf X mx [x] [u] H2 Q := by
          refine i.e hc h4 g r (RsP.mono (b1_P h) ?_)
          rintro v H1 ⟨d, S1, μ1, x1, g1, r1, q1⟩
          refine i.e hc h5 g1 (r.ext x1 g) (RsP.mono (b1_P q1) ?_)
          rintro u H2 ⟨d2, S2, μ2, x2, g2, r2, q2⟩
          exact mdfD_ok g2 (Rl.ext x2 g1 r1) r2 q2
        have se : starEach [e1] X.env = [(false, eval e1 X.env)] := star1 h3
        cases mx with
        | true => exact ⟨_, pe_callBK (crk_mdf (id := "max") (mx := true) rfl hc.calm hc.un) (gl_of h2) (hc.mg0 _ (by simp)) (by decide +kernel) (pa_cons pe_w pa_nil se) (pk_cons pe_w pk_nil) (by decide) (by decide) (by rw [se]; rfl) (by rw [se]; rfl) (by rfl) (by rfl) (by rfl), rd⟩
        | false => exact ⟨_, pe_callBK (crk_mdf (id := "min") (mx := false) rfl hc.calm hc.un) (gl_of h2) (hc.mg0 _ (by simp)) (by decide +kernel) (pa_cons pe_w pa_nil se) (pk_cons pe_w pk_nil) (by decide) (by decide) (by rw [se]; rfl) (by rw [se]; rfl) (by rfl) (by rfl) (by rfl), rd⟩
      · cases hi
    | sset a =>
      dsimp only at hi
      split at hi
      · rename_i x px y py e1 qpos pos
        simp only [Bool.and_eq_true, decide_eq_true_eq] at hi
        obtain ⟨⟨⟨⟨⟨rfl, h2⟩, rfl⟩, h3⟩, h4⟩, h5⟩ := hi
        have h : RsP X.K X.w cls E μ H ((run T cl M env S (.e a)).b1 fun x S => ssetD x S) Q := h
        have se : starEach [e1] X.env = [(false, eval e1 X.env)] := star1 h4
        have inner : PE X (.Call (.Name "set" py) [e1] [] qpos) _ := pe_callTy (r := WCa X (.type "set")) ca_w (gl_of h3) (hc.mg0 _ (by simp)) (by decide +kernel) (pa_cons pe_w pa_nil se) (by decide) (by decide) se (by rfl)
        refine ⟨_, pe_callB (r := WCa X (.builtin "sorted")) ca_w (gl_of h2) (hc.mg0 _ (by simp)) (by decide +kernel) (pa_cons inner pa_nil (by rfl)) (by decide) (by decide) (by rfl) (by rfl), ?_⟩
        refine i.e hc h5 g r (RsP.mono (b1_P h) ?_)
        rintro v H1 ⟨d, S1, μ1, x1, g1, r1, q1⟩
        exact sset_ok g1 hc.calm hc.un r1 q1
      · cases hi
    | rngT a =>
      dsimp only at hi
      split at hi
      · rename_i x px y py e1 qpos pos
        simp only [Bool.and_eq_true, decide_eq_true_eq] at hi
        obtain ⟨⟨⟨⟨⟨rfl, h2⟩, rfl⟩, h3⟩, h4⟩, h5⟩ := hi
        have se : starEach [e1] X.env = (false, eval e1 X.env) :: starEach [] X.env := star1 h4
        refine ⟨_, pe_tupRgN hc.calm (gl_of h2) (hc.mg0 _ (by simp)) (prg_1 (gl_of h3) (hc.mg0 _ (by simp)) pe_w se) (by rfl), ?_⟩
        have h : RsP X.K X.w cls E μ H ((run T cl M env S (.e a)).b1 fun x S => (match x with | .int n => cond (decide (-1000000 ≤ n) && decide (n ≤ 100000)) (.ok (.tup (rngD n)) S) .bad | _ => .bad)) Q := h
        refine i.e hc h5 g r (RsP.mono (b1_P h) ?_)
        rintro v H1 ⟨d, S1, μ1, x1, g1, r1, q1⟩
        cases r1 with
        | int m =>
          obtain ⟨c, q1⟩ := cond_P q1
          simp only [Bool.and_eq_true, decide_eq_true_eq] at c
          exact ⟨m, rfl, ⟨by omega, by omega, by omega, by omega, by omega⟩, fun q o hq od => q1 _ μ1 _ (ext_new hq) (good_new g1 hq) (.tup (sqN_up upd_same od) (rl_rg m))⟩
        | _ => exact q1.elim
      · cases hi
    | rngL a =>
      dsimp only at hi
      split at hi
      · rename_i x px y py e1 qpos pos
        simp only [Bool.and_eq_true, decide_eq_true_eq] at hi
        obtain ⟨⟨⟨⟨⟨rfl, h2⟩, rfl⟩, h3⟩, h4⟩, h5⟩ := hi
        have se : starEach [e1] X.env = (false, eval e1 X.env) :: starEach [] X.env := star1 h4
        refine ⟨_, pe_listRg hc.calm (gl_of h2) (hc.mg0 _ (by simp)) (prg_1 (gl_of h3) (hc.mg0 _ (by simp)) pe_w se) (by rfl), ?_⟩
        have h : RsP X.K X.w cls E μ H ((run T cl M env S (.e a)).b1 fun x S => (match x with | .int n => cond (decide (-1000000 ≤ n) && decide (n ≤ 100000)) (.ok (.ref S.nx) (S.new (rngD n))) .bad | _ => .bad)) Q := h
        refine i.e hc h5 g r (RsP.mono (b1_P h) ?_)
        rintro v H1 ⟨d, S1, μ1, x1, g1, r1, q1⟩
        cases r1 with
        | int m =>
          obtain ⟨c, q1⟩ := cond_P q1
          simp only [Bool.and_eq_true, decide_eq_true_eq] at c
          exact ⟨m, rfl, ⟨by omega, by omega, by omega, by omega, by omega⟩, fun q hq => q1 _ (μ1 ++ [q]) _ (ext_lst hq) (good_lst g1 hq (rl_rg m)) (.ref (at_last g1))⟩
        | _ => exact q1.elim
      · cases hi
    | comp vs tg it ops ifs elt =>
      dsimp only at hi
      split at hi
      · simp only [Bool.and_eq_true] at hi
        obtain ⟨⟨⟨⟨⟨⟨h1, h2⟩, h3⟩, h4⟩, h5⟩, h6⟩, h7⟩ := hi
        exact comp_ok ih hc h1 h2 h3 h4 h5 h6 h7 g r h
      · cases hi
    | lprm a f =>
      dsimp only at hi
      split at hi
      · rename_i x px y py z pz e1 rpos e2 qpos pos
        simp only [Bool.and_eq_true, decide_eq_true_eq] at hi
        obtain ⟨⟨⟨⟨⟨⟨⟨⟨⟨⟨hp, rfl⟩, h2⟩, rfl⟩, h3⟩, rfl⟩, h4⟩, h5⟩, h6⟩, h7⟩, h8⟩ := hi
        refine ⟨_, pe_listPrm hc.calm (gl_of h2) (hc.mg0 _ (by simp)) (gl_of h4) (hc.mg0 _ (by simp)) (gl_of h3) (hc.prm hp) pe_w pe_w (by rfl) (star1 h5) (by rfl) (star1 h6) (by rw [star1 h6]; rfl), ?_⟩
        have h : RsP X.K X.w cls E μ H ((run T cl M env S (.e a)).b1 fun x S => (match x with | .int n => (run T cl M env S (.e f)).b1 fun y S => lprmD (.int n) y S | _ => .bad)) Q := h
        refine i.e hc h7 g r (RsP.mono (b1_P h) ?_)
        rintro v H1 ⟨d, S1, μ1, x1, g1, r1, q1⟩
        cases r1 with
        | int m =>
          have q1' := b1_P q1
          refine ⟨m, rfl, i.e hc h8 g1 (r.ext x1 g) (RsP.mono q1' ?_)⟩
          rintro u H2 ⟨d2, S2, μ2, x2, g2, r2, q2⟩
          cases r2 with
          | int k =>
            unfold lprmD at q2
            obtain ⟨c, q2⟩ := cond_P q2
            simp only [Bool.and_eq_true, decide_eq_true_eq] at c
            split at q2
            · rename_i R eR
              obtain ⟨c2, q2⟩ := cond_P q2
              rw [Bool.and_eq_true, List.all_eq_true] at c2
              have ek : (k.toNat : Int) = k := Int.toNat_of_nonneg c.1.1
              refine ⟨k.toNat, R, by rw [ek], ⟨by omega, by omega, by omega, by omega, by omega⟩, by omega, by omega, by rw [Int.sub_zero]; exact eR, fun w hw => ?_, small_lt c2.1, fun H' q Ts N => ?_⟩
              · have := c2.2 w hw
                rw [Bool.and_eq_true] at this
                rw [Int.sub_zero]
                exact ⟨Nat.eq_of_beq_eq_true this.1, Nat.le_of_ble_eq_true this.2⟩
              · have e0 : (R.map fun m' => D.tup ((m'.1.take k.toNat).map fun i => (rngD m).getD i .non)) = (R.map fun m' => (m'.1.take k.toNat).map fun i => (rngD m).getD i .non).map D.tup := by rw [List.map_map]; rfl
                rw [e0] at q2
                exact q2 _ (μ2 ++ [q]) _ N.ext (N.good g2 (prm_rows (rl_rg m) _ R)) (.ref (at_last g2))
            · exact q2.elim
          | _ => exact q2.elim
        | _ => exact q1.elim
      · cases hi
    | tidx o x =>
      dsimp only at hi
      split at hi
      · rename_i ob name apos e1 cpos
        simp only [Bool.and_eq_true, decide_eq_true_eq] at hi
        obtain ⟨⟨⟨⟨⟨rfl, h1⟩, h2⟩, h3⟩, h5⟩, h6⟩ := hi
        have h : RsP X.K X.w cls E μ H ((run T cl M env S (.e o)).b1 fun a S => (match a with
          | .tup l => (run T cl M env S (.e x)).b1 fun y S => cond (flatD y && l.all flatD) (match l.findIdx? (fun z => eqD z y) with | some j => .ok (.int (j : Nat)) S | none => .bad) .bad
          | _ => .bad)) Q := h
        obtain ⟨n1, n2⟩ := noStar_cons h3
        refine ⟨_, pe_bmN PySem.F.slot_tuple_index PySem.F.type_tuple_index mt_tindex pe_w (pa_cons pe_w pa_nil (star_cons n1)) (base_is h2) (by rw [star_cons n1]; rfl) h1 (star_cons n1) (star_any n2), ?_⟩
        refine i.e hc h5 g r (RsP.mono (b1_P h) ?_)
        rintro v H1 ⟨d, S1, μ1, x1, g1, r1, q1⟩
        cases r1 with
        | @tup a xs l p rr =>
          refine ⟨⟨a, xs, rfl, p⟩, i.e hc h6 g1 (r.ext x1 g) (RsP.mono (b1_P q1) ?_)⟩
          rintro u H2 ⟨d2, S2, μ2, x2, g2, r2, q2⟩
          obtain ⟨c, q2⟩ := cond_P q2
          rw [Bool.and_eq_true] at c
          have rr2 := RlA.ext x2 g1 rr
          split at q2
          · rename_i j ej
            obtain ⟨z, z1, z2, z3⟩ := find_spec ej
            obtain ⟨w, u1, ru⟩ := rr2.get z1
            have fl : ∀ {m : Nat} {d : D}, l[m]? = some d → flatD d = true := fun hm => List.all_eq_true.mp c.2 _ (List.mem_of_getElem? hm)
            refine ⟨a, xs, u, j, w, rfl, rfl, sqT_of (x2.sqN g1 p), flat_rl r2 c.1, flat_all rr2 c.2, u1, by rw [eqD_rl ru r2 (fl z1) c.1]; exact z2, fun m z' hm hz => ?_, q2 _ μ2 H2 Ext.refl g2 (.int _)⟩
            have hml : m < l.length := by
              have := (List.getElem?_eq_some_iff.mp hz).1
              rw [rr.length]
              exact this
            obtain ⟨u', u3, ru'⟩ := rr2.get (List.getElem?_eq_getElem hml)
            rw [u3] at hz
            cases hz
            rw [eqD_rl ru' r2 (fl (List.getElem?_eq_getElem hml)) c.1]
            exact z3 m _ hm (List.getElem?_eq_getElem hml)
          · exact q2.elim
        | _ => exact q1.elim
      · cases hi
    | lzip cs =>
      dsimp only at hi
      split at hi
      · rename_i x px y py e1 e2 qpos pos
        simp only [Bool.and_eq_true, decide_eq_true_eq] at hi
        obtain ⟨⟨⟨⟨⟨rfl, h2⟩, rfl⟩, h3⟩, h4⟩, h5⟩ := hi
        refine ⟨_, pe_listZip hc.calm (gl_of h2) (hc.mg0 _ (by simp)) (gl_of h3) (hc.mg0 _ (by simp)) pa_w (by rfl) (star_cons (noStar_cons h4).1) (star_any (noStar_cons h4).2), ?_⟩
        have h : RsP X.K X.w cls E μ H ((run T cl M env S (.es cs)).bs fun ds S => lzipD ds S) Q := h
        refine i.es hc h5 g r (RsA.mono (bs_P h) ?_)
        rintro vs H1 ⟨ds, S1, μ1, x1, g1, r1, q1⟩
        unfold lzipD at q1
        split at q1
        · rename_i n m
          split at q1
          · rename_i l k el ek
            obtain ⟨c, q1⟩ := cond_P q1
            cases r1 with
            | cons ra rr =>
              cases rr with
              | cons rb rr =>
                cases rr
                cases ra with
                | ref pa =>
                  cases rb with
                  | ref pb =>
                    obtain ⟨xs, hx, rx⟩ := g1.lst pa el
                    obtain ⟨ys, hy, ry⟩ := g1.lst pb ek
                    refine ⟨_, _, xs, ys, rfl, sqL_of hx, sqL_of hy, by rw [← rx.length]; exact small_lt c, fun H' q Ts N => ?_⟩
                    have e0 : ((l.zip k).map fun p => D.tup [p.1, p.2]) = ((l.zip k).map fun p => [p.1, p.2]).map D.tup := by rw [List.map_map]; rfl
                    rw [e0] at q1
                    exact q1 _ (μ1 ++ [q]) _ N.ext (N.good g1 (zip_rows rx ry)) (.ref (at_last g1))
          · exact q1.elim
        · exact q1.elim
      · cases hi
theorem allE : ∀ m, AllE T cl cls m := by
  intro m
  induction m using Nat.strongRecOn with
  | ind m ih =>
    cases m with
    | zero =>
      constructor
      · intro X E _ n e c _ env S μ σ H Q _ _ h
        exact h.elim
      · intro X E _ n e c _ env S μ σ H Q _ _ h
        exact h.elim
      · intro X E _ n e c _ _ env S μ σ H Q _ _ h
        exact h.elim
      · intro X E _ n e c _ env S μ σ H Q _ _ h
        exact h.elim
      · intro X E _ n e c _ _ env S μ σ H Q _ _ h
        exact h.elim
      · intro X E _ n e c _ _ env S μ σ H Q _ _ h
        exact h.elim
      · intro X E _ n e c _ _ env S μ σ H Q _ _ h
        exact h.elim
      · intro X E _ n e c _ _ env S μ σ H Q _ _ h
        exact h.elim
      · intro X E _ n e c _ env S μ σ H Q _ _ h
        exact h.elim
    | succ m =>
      have i := ih m (Nat.lt_succ_self m)
      exact ⟨allE_e fun k hk => ih k (by omega), allE_es i, allE_ks i, allE_t ih, allE_ands i, allE_ors i, allE_andv i, allE_orv i, allE_op i⟩
end
end EV
set_option Elab.async false
set_option linter.all false
set_option maxRecDepth 100000
set_option maxHeartbeats 4000000
namespace EV
open PySem PySem.Spec PyProof.Rows L2
/-! ## try with several clauses, each with a name -/
def wGen (K : PySem.W.Frag) (Wout : WX) (D : Ends) : List (Value × Nat × (Addr → Value → Option Addr → TS)) → WX
  | [] => Wout
  | (c, i, ts) :: r => fun cls d σ H => ∃ b, PySem.W.exmOne K cls c = some b ∧
      (b = true → ∀ a, H a = none → ts a cls d { nx := fun σ' H' => D.nx (σ'.set i none) H', rt := D.rt, bk := fun σ' H' => D.bk (σ'.set i none) H', ct := fun σ' H' => D.ct (σ'.set i none) H' } (σ.set i (some (.ref a))) H) ∧ (b = false → wGen K Wout D r cls d σ H)
inductive HdsN (X : Cx) : List ExceptHandler → List (Value × Nat × (Addr → Value → Option Addr → TS)) → Prop
  | nil : HdsN X [] []
  | cons {x n : Str} {c : Value} {i : Nat} {ts : Addr → Value → Option Addr → TS} {b₀ : Stmt} {suite : List Stmt} {np pos' : Pos} {hds : List ExceptHandler} {l : List (Value × Nat × (Addr → Value → Option Addr → TS))} (hc : Names X x c) (hi : X.N[i]? = some n) (hln : X.env.kindOf n = some .local)
      (hsu : ∀ (a : Addr) (oe : Obj) (cls : Value) (d : Option Addr) (pn : List (Addr × Obj)), Zc cls d oe → (∃ vs, oe.data = .fields vs) → PSs (X.suite a ((a, oe) :: pn)) (b₀ :: suite) (ts a cls d)) (r : HdsN X hds l) :
      HdsN X (.ExceptHandler (some (.Name x np)) (some n) (b₀ :: suite) pos' :: hds) ((c, i, ts) :: l)
section
variable {X : Cx} {body : List Stmt} {h₀ : ExceptHandler} {hds : List ExceptHandler} {l : List (Value × Nat × (Addr → Value → Option Addr → TS))} {pos : Pos} {tb : WX → TS} {Wout : WX}
theorem ps_try_gen (hs : X.stack = X.env :: X.outer) (hf : X.env.frame = some X.env.locals) (hN : X.N.Nodup) (tk : Takes X Wout)
    (hb : ∀ (W : WX) (pn : List (Addr × Obj)) (xe : Value → Shared → Prop), Takes (X.tr pn xe) W → PassesOwn (model X.prog X.w) X.A X.env xe → PSs (X.tr pn xe) body (tb W))
    (hh : HdsN X (h₀ :: hds) l) : PS X (.Try body (h₀ :: hds) [] [] pos) (fun D σ H => tb (wGen X.K Wout D l) D σ H) := by
  refine ⟨fun pins s σ H D I h => ?_⟩
  have ok := I.ok
  have hfr : X.A.frames = some (X.env :: X.outer) := by rw [ok.frames, hs]
  refine wpAny_Try_except ?_
  refine wpAny_mono ((hb (wGen X.K Wout D l) (X.pn ++ pins) (fun e s₁ => wpAny (model X.prog X.w) X.A (noteFrame e X.env) (fun _ s₂ => wpAny (model X.prog X.w) X.A (setFlight e none) (fun _ s₃ =>
    wpAny (model X.prog X.w) X.A (handleBy e X.env (h₀ :: hds)) (SP X pins D) X.xe s₃) X.xe s₂) X.xe s₁) (fun u s' xx => ?_) PassesOwn.looking).run [] s σ H D (I.toTry _) h) (fun f s1 hsp => ?_) (fun e s1 he => he)
  · obtain ⟨a, B, sI, pins', σ', H', cls, d, rfl, J', nb, up, sky, na, os, ag, w⟩ := xx
    have J : Inv X pins σ' H' sI := J'.ofTry ok
    have sky' : Sky B (X.env :: X.outer) a (Zc cls d) X.env.locals s'.heap := by rw [← hs]; exact sky
    show wpAny (model X.prog X.w) X.A (noteFrame (.ref a) X.env) _ _ _
    refine Sky.land Zc.steady hfr hf sky' fun h3 fl3 up3 => ?_
    have J3 : Inv X pins σ' H' { s' with heap := h3 } := J.landed nb fl3.1 (up.trans up3) os ag
    obtain ⟨oe3, vs3, he3, hz3, hd3⟩ := fl3.there
    have notFr : ∀ {h : Heap} {o : Obj} {vs : Array Value}, h.FunFrames B (X.env :: X.outer) → h.get? a = some o → o.data = .fields vs → a ∉ frs (X.env :: X.outer) := fun {h o vs} ff e dd hm => by
      obtain ⟨_, o', e', hnf⟩ := ff.mem hm
      rw [e] at e'; cases e'
      exact hnf _ dd
    have nfr := notFr fl3.2.2.1 he3 hd3
    have nL : a ≠ X.env.locals := fun z => nfr (List.mem_filterMap.mpr ⟨X.env, List.mem_cons_self, by rw [hf, z]⟩)
    have nF : a ∉ X.fs := fun hm => by
      obtain ⟨e, he, q⟩ := List.mem_filterMap.mp hm
      exact nfr (List.mem_filterMap.mpr ⟨e, List.mem_cons_of_mem _ he, q⟩)
    have S3 := J3.suite he3 hd3 na nL nF
    have go : ∀ {hds' : List ExceptHandler} {l' : List (Value × Nat × (Addr → Value → Option Addr → TS))}, HdsN X hds' l' → wGen X.K Wout D l' cls d σ' H' →
        wpAny (model X.prog X.w) X.A (handleBy (.ref a) X.env hds') (SP X pins D) X.xe { s' with heap := h3 } := by
      intro hds' l' hk
      induction hk with
      | nil =>
        intro w
        refine wpAny_handleBy_nil ?_
        obtain ⟨k1, k2, k3, oe, vs, T, oT, ts', he, hz, hd, h1, hr⟩ := id fl3
        unfold PySem.passOn
        refine wpAny_bind (wpAny_field he hd h1 ?_)
        rw [if_neg (show ¬ ((Value.ref T == Value.none) = true) from by simp)]
        have fin : wpAny (model X.prog X.w) X.A (setFlight (.ref a) X.env.frame) (fun _ s4 => wpAny (model X.prog X.w) X.A (throw (.ref a) : Sem Flow) (SP X pins D) X.xe s4) X.xe { s' with heap := h3 } := by
          rw [hf]
          refine HandSPX.setFlight_upZ fl3 fun h4 hh4 up4 => wpAny_throw (tk _ _ ?_)
          exact ⟨a, B, sI, pins, σ', H', cls, d, rfl, J, nb, (up.trans up3).trans up4, .inr (.inr (by rw [hs]; exact hh4)), na, os, ag, w⟩
        first
          | exact wpAny_bind (wpAny_pure (wpAny_bind fin))
          | exact wpAny_bind fin
      | @cons x n c i ts b₀ suite np pos' hds2 l2 hc hi hln hsu r ih =>
        intro w
        have hloc : Loc X.env.scope n := .inl hln
        obtain ⟨b, hb1, hyes, hno⟩ := w
        refine wpAny_handleBy_cons (codeAny_handlers_test ?_) (by intro q; cases q)
        have LT : PySem.W.Looks (model X.prog X.w) h3 (typeOf (.ref a)) cls := fun A Q E s k q => wpAny_typeOf_ref (k _ _ he3) (by rw [hz3.1]; exact q)
        have LM := PySem.W.exm_one (M := model X.prog X.w) (J3.kIn) LT hb1
        have test : ∀ {Q : Value → Shared → Prop} {E : Value → Shared → Prop}, Q c { s' with heap := h3 } → wpAny (model X.prog X.w) (X.A.mark (some (.ref a))) (eval (.Name x np) X.env) Q E { s' with heap := h3 } := fun {Q E} q => by
          obtain ⟨hg, hdbg, hm | ⟨hm, hv, hnn⟩⟩ := hc
          · exact ld_glob (X := X.suite a ((a, oe3) :: (X.pn ++ pins))) S3 hg hm q hdbg
          · exact ld_blt (X := X.suite a ((a, oe3) :: (X.pn ++ pins))) S3 hg hm hv q hnn hdbg
        refine test (LM.here ?_)
        cases b with
        | true =>
          refine codeAny_handlers_suite_as ?_
          refine HandSPX.lands_againZ fl3 fun h4 fl4 up4 => ?_
          have J4 : Inv X pins σ' H' { s' with heap := h4 } := J.landed nb fl4.1 ((up.trans up3).trans up4) os ag
          obtain ⟨oe4, vs4, he4, hz4, hd4⟩ := fl4.there
          have S4 := J4.suite he4 hd4 na nL nF
          refine store_ok (X := X.suite a ((a, oe4) :: (X.pn ++ pins))) (v := .ref a) S4 hN hi hloc rfl (fun s5 S5 => ?_) (.inr hln)
          refine wpAny_mono ((hsu a oe4 cls d (X.pn ++ pins) hz4 ⟨_, hd4⟩).run [] s5 _ H' _ S5 (hyes rfl a na)) (fun f s6 hsp => ?_) (fun _ _ z => False.elim z)
          have end_ : ∀ {σ6 : L2.St} {H6 : Hp} {Q : Shared → Prop}, Inv (X.suite a ((a, oe4) :: (X.pn ++ pins))) [] σ6 H6 s6 → (∀ s7, Inv X pins (σ6.set i none) H6 s7 → Q s7) →
              wpAny (model X.prog X.w) X.A (do bindName X.env n .none; unbindBehindTheSuite X.env n pos') (fun _ s7 => Q s7) X.xe s6 := fun {σ6 H6 Q} S6 hq => gone_ok (S6.unsuite ok) hN hi hln hq
          cases f with
          | next =>
            obtain ⟨σ6, H6, S6, q6⟩ := hsp
            exact end_ S6 fun s7 J7 => ⟨_, _, J7, q6⟩
          | brk =>
            obtain ⟨σ6, H6, S6, q6⟩ := hsp
            exact end_ S6 fun s7 J7 => ⟨_, _, J7, q6⟩
          | cont =>
            obtain ⟨σ6, H6, S6, q6⟩ := hsp
            exact end_ S6 fun s7 J7 => ⟨_, _, J7, q6⟩
          | ret u =>
            obtain ⟨v6, σ6, H6, S6, r6, q6⟩ := hsp
            exact end_ S6 fun s7 J7 => ⟨_, _, _, J7, r6, q6⟩
        | false =>
          show wpAny _ X.A (handleBy (.ref a) X.env hds2) _ _ _
          exact ih (hno rfl)
    exact go hh w
  · cases f with
    | next =>
      obtain ⟨σ', H', J', q⟩ := hsp
      exact wpAny_execs_nil ⟨σ', H', J'.ofTry ok, q⟩
    | brk =>
      obtain ⟨σ', H', J', q⟩ := hsp
      exact ⟨σ', H', J'.ofTry ok, q⟩
    | cont =>
      obtain ⟨σ', H', J', q⟩ := hsp
      exact ⟨σ', H', J'.ofTry ok, q⟩
    | ret u =>
      obtain ⟨v, σ', H', J', r, q⟩ := hsp
      exact ⟨v, σ', H', J'.ofTry ok, r, q⟩
/-- a wish that does not look at the names -/
theorem takes_any {X : Cx} {W : WX} (t : Takes X W) : Takes X (fun c d _ H => ∀ σ : List (Option V), σ.length = X.N.length → W c d σ H) := fun u s' ⟨a, B, sI, pins, σ, H, cls, d, e, I, nb, up, sky, na, os, ag, w⟩ =>
  t u s' ⟨a, B, sI, pins, σ, H, cls, d, e, I, nb, up, sky, na, os, ag, w σ I.len⟩
end
end EV
set_option Elab.async false
set_option linter.all false
set_option maxRecDepth 100000
set_option maxHeartbeats 4000000
namespace EV
open PySem PySem.Spec PyProof.Rows L2
/-! ## swaps -/
theorem swaps_no {e : Expr} {t : Option Expr} {l : Nat} {env : Env} (h : isComp e = false) : swapsWith e t l env = pure false := by
  cases e <;> first | rfl | cases h
theorem swaps_set {e : Expr} {x : Str} {px : Pos} {l : Nat} {env : Env} (hk : env.scope.kind = .function) (hE : ∀ a b c d, e ≠ .SetComp a b c d) (h : swB env.scope x px e = false) : swapsWith e (some (.Name x px)) l env = pure false := by
  have hb : env.blockKind = .function := by unfold Env.blockKind; rw [hk]; rfl
  have hk2 : env.kindOf x = env.scope.names.lookup x := rfl
  have e1 : (env.scope.names.lookup x == some NameKind.local) = decide (env.scope.names.lookup x = some .local) := by
    cases hh : (env.scope.names.lookup x == some NameKind.local) with
    | true => exact (decide_eq_true (eq_of_beq hh)).symm
    | false => exact (decide_eq_false (fun z => by rw [z] at hh; cases hh)).symm
  cases e with
  | ListComp elt gs s p =>
    unfold swB at h
    unfold swapsWith
    simp only [hb, hk2, Expr.pos]
    show (pure _ : Sem Bool) = pure false
    congr 1
    rw [show ((ScopeKind.function == ScopeKind.function) = true) from rfl, Bool.true_and]
    rw [e1]
    exact h
  | DictComp k v gs s p =>
    unfold swB at h
    unfold swapsWith
    simp only [hb, hk2, Expr.pos]
    show (pure _ : Sem Bool) = pure false
    congr 1
    rw [show ((ScopeKind.function == ScopeKind.function) = true) from rfl, Bool.true_and]
    rw [e1]
    exact h
  | SetComp a b c d => exact absurd rfl (hE a b c d)
  | _ => rfl
theorem par2_sw {N : List Str} {env : Env} {ts vs : List Expr} {i j : Nat} {kt kt2 : Nat} {pt pt2 : Pos} (hk : env.scope.kind = .function) (h : parOk2 N env.scope ts vs [i, j] = true) :
    ∃ x px y py a b, ts = [.Name x px, .Name y py] ∧ vs = [a, b] ∧ N[i]? = some x ∧ N[j]? = some y ∧ i ≠ j ∧ env.scope.names.lookup x = some .local ∧ env.scope.names.lookup y = some .local ∧
      swappedStores [.Tuple ts kt pt] (.Tuple vs kt2 pt2) env = pure (some [x, y]) := by
  unfold parOk2 at h
  split at h
  · rename_i x px y py a b i' j' e0
    cases e0
    simp only [Bool.and_eq_true, decide_eq_true_eq, Bool.not_eq_true', bne_iff_ne, ne_eq, beq_iff_eq] at h
    obtain ⟨⟨⟨⟨⟨⟨⟨⟨⟨⟨h1, h2⟩, h3⟩, h4⟩, h5⟩, h6⟩, h7⟩, h8⟩, h9⟩, h10⟩, h11⟩ := h
    refine ⟨x, px, y, py, a, b, rfl, rfl, h1, h2, h3, h4, h5, ?_⟩
    have hb : env.blockKind = .function := by unfold Env.blockKind; rw [hk]; rfl
    have kx : env.kindOf x = some .local := h4
    have ky : env.kindOf y = some .local := h5
    have nd : ([x, y] : List Str).eraseDups = [x, y] := by
      have e : (y == x) = false := beq_eq_false_iff_ne.mpr fun z => h7 z.symm
      simp [List.eraseDups_cons, e]
    unfold swappedStores
    simp only [hb, kx, ky, h6, h10, h11, List.any_cons, List.any_nil, List.length_cons, List.length_nil, List.filterMap_cons, List.filterMap_nil, List.head?_cons, Option.map_some, Option.getD_some, Expr.pos, nd]
    simp
    rw [if_neg, nd]
    · rfl
    · rintro (z | z)
      · cases a <;> first | (cases h8; done) | cases z
      · cases b <;> first | (cases h9; done) | cases z
  · rename_i e0; cases e0
  · cases h
theorem par3_sw {N : List Str} {env : Env} {ts vs : List Expr} {i j l : Nat} {kt kt2 : Nat} {pt pt2 : Pos} (hk : env.scope.kind = .function) (h : parOk2 N env.scope ts vs [i, j, l] = true) :
    ∃ x px y py z pz a b c, ts = [.Name x px, .Name y py, .Name z pz] ∧ vs = [a, b, c] ∧ N[i]? = some x ∧ N[j]? = some y ∧ N[l]? = some z ∧ i ≠ j ∧ i ≠ l ∧ j ≠ l ∧ env.scope.names.lookup x = some .local ∧ env.scope.names.lookup y = some .local ∧ env.scope.names.lookup z = some .local ∧
      swappedStores [.Tuple ts kt pt] (.Tuple vs kt2 pt2) env = pure (some [x, y, z]) := by
  unfold parOk2 at h
  split at h
  · rename_i e0; cases e0
  · rename_i x px y py z pz a b c i' j' l' e0
    cases e0
    simp only [Bool.and_eq_true, decide_eq_true_eq, Bool.not_eq_true', bne_iff_ne, ne_eq, beq_iff_eq] at h
    obtain ⟨⟨⟨⟨⟨⟨⟨⟨⟨⟨⟨⟨⟨⟨⟨⟨⟨⟨h1, h2⟩, h3⟩, h4⟩, h5⟩, h6⟩, h7⟩, h8⟩, h9⟩, h10⟩, h11⟩, h12⟩, h13⟩, h14⟩, h15⟩, h16⟩, h17⟩, h18⟩, h19⟩ := h
    refine ⟨x, px, y, py, z, pz, a, b, c, rfl, rfl, h1, h2, h3, h4, h5, h6, h7, h8, h9, ?_⟩
    have hb : env.blockKind = .function := by unfold Env.blockKind; rw [hk]; rfl
    have kx : env.kindOf x = some .local := h7
    have ky : env.kindOf y = some .local := h8
    have kz : env.kindOf z = some .local := h9
    have nd : ([x, y, z] : List Str).eraseDups = [x, y, z] := by
      have e1 : (y == x) = false := beq_eq_false_iff_ne.mpr fun q => h12 q.symm
      have e2 : (z == x) = false := beq_eq_false_iff_ne.mpr fun q => h13 q.symm
      have e3 : (z == y) = false := beq_eq_false_iff_ne.mpr fun q => h14 q.symm
      simp [List.eraseDups_cons, e1, e2, e3]
    unfold swappedStores
    simp only [hb, kx, ky, kz, ← h10, ← h11, h18, h19, List.any_cons, List.any_nil, List.length_cons, List.length_nil, List.filterMap_cons, List.filterMap_nil, List.head?_cons, Option.map_some, Option.getD_some, Expr.pos, nd]
    simp
    rw [if_neg, nd]
    · rfl
    · rintro (z | z | z)
      · cases a <;> first | (cases h15; done) | cases z
      · cases b <;> first | (cases h16; done) | cases z
      · cases c <;> first | (cases h17; done) | cases z
  · cases h
theorem par_len {N : List Str} {sc : Scope} {ts vs : List Expr} {is : List Nat} (h : parOk2 N sc ts vs is = true) : is.length = 2 ∨ is.length = 3 := by
  unfold parOk2 at h
  split at h
  · exact .inl rfl
  · exact .inr rfl
  · cases h
theorem filterMap_lt {α β : Type} {f : α → Option β} : ∀ {l : List α}, (∃ a ∈ l, f a = none) → (l.filterMap f).length < l.length
  | [], ⟨_, h, _⟩ => by cases h
  | a :: l, h => by
    cases e : f a with
    | none =>
      rw [List.filterMap_cons_none e, List.length_cons]
      exact Nat.lt_succ_of_le (List.length_filterMap_le f l)
    | some b =>
      rw [List.filterMap_cons_some e, List.length_cons, List.length_cons]
      obtain ⟨x, hx, hn⟩ := h
      rcases List.mem_cons.mp hx with rfl | hx
      · rw [e] at hn
        cases hn
      · exact Nat.succ_lt_succ (filterMap_lt ⟨x, hx, hn⟩)
theorem fold_sw {t v : Expr} {env : Env} (h : isTupFold env.scope t v = true) : swappedStores [t] v env = pure none := by
  cases v with
  | Tuple vs k p =>
    have h : (!isSeqE t || (vs.all (foldedForSure 8) || cellTg env.scope t)) = true := h
    cases t with
    | Tuple ts k2 p2 =>
      have h : (vs.all (foldedForSure 8) || cellTg env.scope (.Tuple ts k2 p2)) = true := h
      rcases Bool.or_eq_true_iff.mp h with h | h
      · unfold swappedStores
        simp [h]
        try (all_goals (first | rfl | (split <;> first | rfl | (split <;> rfl))))
      · have h : (ts.any fun | .Name x _ => !(env.scope.names.lookup x == some .local) | _ => true) = true := h
        rw [List.any_eq_true] at h
        obtain ⟨a, ha, e⟩ := h
        have hlt : ∀ line : Nat, (ts.filterMap fun | .Name id pos => if env.kindOf id == some .local && pos.line == line then some id else none | _ => none).length ≠ ts.length := fun line => Nat.ne_of_lt (filterMap_lt ⟨a, ha, by
          cases a with
          | Name x p =>
            have e : (!(env.kindOf x == some .local)) = true := e
            have e : (env.kindOf x == some .local) = false := by simpa using e
            show (if (env.kindOf x == some .local && p.line == line) = true then some x else none) = none
            rw [e]
            rfl
          | _ => rfl⟩)
        unfold swappedStores
        dsimp only
        split
        · rfl
        · split
          · rfl
          · rw [if_pos]
            simp only [Bool.or_eq_true, bne_iff_ne, ne_eq]
            exact .inl (hlt _)
    | List ts p2 =>
      have h : (vs.all (foldedForSure 8) || cellTg env.scope (.List ts p2)) = true := h
      have h : vs.all (foldedForSure 8) = true := by
        rcases Bool.or_eq_true_iff.mp h with h | h
        · exact h
        · cases h
      unfold swappedStores
      simp [h]
      try (all_goals (first | rfl | (split <;> first | rfl | (split <;> rfl))))
    | _ => rfl
  | _ => cases t <;> rfl

/-! ## what is reached behind a statement -/
section
variable {K : PySem.W.Frag} {w : World} {μ μ' : List Addr} {H H' : Hp} {cls : Nat → Addr × Option Str} {E : XK}
def RsS (K : PySem.W.Frag) (w : World) (cls : Nat → Addr × Option Str) (E : XK) (μ : List Addr) (H : Hp) (r : Rs) (D : Ends) : Prop := match r with
  | .nx e S' => ∀ σ' μ' H', Ext μ H μ' H' → Good K w μ' S' H' → EnvR K μ' H' e σ' → D.nx σ' H'
  | .brk e S' => ∀ σ' μ' H', Ext μ H μ' H' → Good K w μ' S' H' → EnvR K μ' H' e σ' → D.bk σ' H'
  | .cnt e S' => ∀ σ' μ' H', Ext μ H μ' H' → Good K w μ' S' H' → EnvR K μ' H' e σ' → D.ct σ' H'
  | .ret d S' => Post K w μ H d S' D.rt
  | .exc c as S' => ExP K w cls E μ H c as S'
  | _ => False
theorem RsS.ext {r : Rs} {D : Ends} (h : RsS K w cls E μ H r D) (x : Ext μ H μ' H') : RsS K w cls E μ' H' r D := by
  cases r with
  | nx e S => exact fun σ2 μ2 H2 y g => h σ2 μ2 H2 (x.trans y) g
  | brk e S => exact fun σ2 μ2 H2 y g => h σ2 μ2 H2 (x.trans y) g
  | cnt e S => exact fun σ2 μ2 H2 y g => h σ2 μ2 H2 (x.trans y) g
  | ret d S => exact fun v μ2 H2 y g => h v μ2 H2 (x.trans y) g
  | exc c as S => exact ExP.ext h x
  | _ => exact h
theorem b1_S {r : Rs} {f : D → Sto → Rs} {D' : Ends} (h : RsS K w cls E μ H (r.b1 f) D') :
    RsP K w cls E μ H r fun v H1 => ∃ d S1 μ1, Ext μ H μ1 H1 ∧ Good K w μ1 S1 H1 ∧ Rl K μ1 H1 d v ∧ RsS K w cls E μ1 H1 (f d S1) D' := by
  cases r with
  | ok d S => exact fun v μ1 H1 x g r => ⟨d, S, μ1, x, g, r, RsS.ext h x⟩
  | exc c as S => exact h
  | _ => exact h
theorem t1_S {r : Rs} {f : D → Sto → Rs} {D' : Ends} (h : RsS K w cls E μ H (r.b1 f) D') (hf : ∀ d S, (∀ b, d ≠ .bl b) → f d S = .bad) :
    RsT K w cls E μ H r fun b H1 => ∃ S1 μ1, Ext μ H μ1 H1 ∧ Good K w μ1 S1 H1 ∧ RsS K w cls E μ1 H1 (f (.bl b) S1) D' := by
  cases r with
  | ok d S =>
    rcases bl_or d with ⟨b, rfl⟩ | hn
    · exact fun μ1 H1 x g => ⟨S, μ1, x, g, RsS.ext h x⟩
    · have e := hf d S hn
      rw [show Rs.b1 (.ok d S) f = f d S from rfl, e] at h
      exact h.elim
  | exc c as S => exact h
  | _ => exact h
theorem bs_S {r : Rs} {f : List D → Sto → Rs} {D' : Ends} (h : RsS K w cls E μ H (r.bs f) D') :
    RsA K w cls E μ H r fun vs H1 => ∃ ds S1 μ1, Ext μ H μ1 H1 ∧ Good K w μ1 S1 H1 ∧ RlA K μ1 H1 ds vs ∧ RsS K w cls E μ1 H1 (f ds S1) D' := by
  cases r with
  | oks d S => exact fun v μ1 H1 x g r => ⟨d, S, μ1, x, g, r, RsS.ext h x⟩
  | exc c as S => exact h
  | _ => exact h
end
structure CtxS (T : Tb) (cl : Nat → List D → Sto → Rs) (cls : Nat → Addr × Option Str) (E : XK) (X : Cx) : Prop where
  c : Ctx T cl cls E X
  fn : ∀ x, X.fn x = true
  own : PassesOwn (model X.prog X.w) X.A X.env X.xe
  tk : Takes X (fun cls d _ H => E cls d H)
  mkE : ∀ pn xe, ∀ (k : Nat) x, T.excs[k]? = some x → T.flds[k]? = some none → Gl X x → ∀ p pos, PMk (X.tr pn xe) (.Call (.Name x p) [] [] pos) (fun _ H R => R (.ref (cls k).1) none H)
  mk1 : ∀ pn xe, ∀ (k : Nat) x f, T.excs[k]? = some x → T.flds[k]? = some (some f) → Gl X x → ∀ (e : Expr) (ta : TA) p pos, PA (X.tr pn xe) [e] ta → isStar e = false →
    PMk (X.tr pn xe) (.Call (.Name x p) [e] [] pos) (fun σ H R => ta σ H fun vs H1 => ∃ i : Int, vs = [.int i] ∧ i.natAbs < 1000000000000 ∧ ∀ dx, H1 dx = none → R (.ref (cls k).1) (some dx) (upd H1 dx (.xd [(f, .int i)])))
  fld : ∀ (j : Nat) x, T.excs[j]? = some x → T.flds[j]? = some (cls j).2
  xf : ∀ (j : Nat) x f, T.excs[j]? = some x → (cls j).2 = some f → XfC X.K (cls j).1 ∧ PySem.W.findIn X.K (.ref (cls j).1) f = some none
  exm : ∀ (j j' : Nat) x x', T.excs[j]? = some x → T.excs[j']? = some x' → PySem.W.exmOne X.K (.ref (cls j).1) (.ref (cls j').1) = some (Nat.beq j j')
  mgx : ∀ (j : Nat) x, T.excs[j]? = some x → X.mg x = some (.ref (cls j).1)
  exC : ∀ (j : Nat) x, T.excs[j]? = some x → ExcC X.K (cls j).1
  isE : ∀ (j : Nat) l t, T.bases[j]? = some l → t ∈ l → PySem.W.kitOne X.K (.ref (cls j).1) (.type t) = some true
  bas : ∀ (j : Nat) l, T.bases[j]? = some l → ∃ x, T.excs[j]? = some x
  mgB : ∀ x ∈ errNames, X.mg x = none
  stk : X.stack = X.env :: X.outer
  frm : X.env.frame = some X.env.locals
section
variable (T : Tb) (cl : Nat → List D → Sto → Rs) (cls : Nat → Addr × Option Str)
structure AllS (m : Nat) : Prop where
  s : ∀ {X : Cx} {E : XK}, CtxS T cl cls E X → ∀ {n : Nat} {st : Stmt} {c : CS}, isS T n X.N X.env.scope st c = true → ∀ {env : En} {S : Sto} {μ : List Addr} {σ : L2.St} {H : Hp} {D : Ends},
    Good X.K X.w μ S H → EnvR X.K μ H env σ → RsS X.K X.w cls E μ H (run T cl m env S (.s c)) D → WPS X st D σ H
  ss : ∀ {X : Cx} {E : XK}, CtxS T cl cls E X → ∀ {n : Nat} {sts : List Stmt} {cs : List CS}, isSs T n X.N X.env.scope sts cs = true → ∀ {env : En} {S : Sto} {μ : List Addr} {σ : L2.St} {H : Hp} {D : Ends},
    Good X.K X.w μ S H → EnvR X.K μ H env σ → RsS X.K X.w cls E μ H (run T cl m env S (.ss cs)) D → WPSs X sts D σ H
variable {T cl cls}
theorem allS_ss {m : Nat} (ih : AllS T cl cls m) : ∀ {X : Cx} {E : XK}, CtxS T cl cls E X → ∀ {n : Nat} {sts : List Stmt} {cs : List CS}, isSs T n X.N X.env.scope sts cs = true → ∀ {env : En} {S : Sto} {μ : List Addr} {σ : L2.St} {H : Hp} {D : Ends},
    Good X.K X.w μ S H → EnvR X.K μ H env σ → RsS X.K X.w cls E μ H (run T cl (m + 1) env S (.ss cs)) D → WPSs X sts D σ H := by
  intro X E hc n sts cs hi env S μ σ H D g r h
  cases n with
  | zero => cases hi
  | succ n =>
    unfold isSs at hi
    split at hi
    · exact ⟨_, pss_nil, h σ μ H Ext.refl g r⟩
    · rename_i st sts c cs
      rw [Bool.and_eq_true] at hi
      refine ⟨_, pss_cons ps_w pss_w, ?_⟩
      refine ih.s hc hi.1 g r ?_
      have h : RsS X.K X.w cls E μ H (match run T cl m env S (.s c) with
        | .nx e S => run T cl m e S (.ss cs)
        | .ret d S => .ret d S
        | .brk e S => .brk e S
        | .cnt e S => .cnt e S
        | .exc c as S => .exc c as S
        | _ => .bad) D := h
      cases hr : run T cl m env S (.s c) with
      | nx e S1 =>
        rw [hr] at h
        exact fun σ1 μ1 H1 x1 g1 r1 => ih.ss hc hi.2 g1 r1 (RsS.ext h x1)
      | ret d S1 => rw [hr] at h; exact h
      | brk d S1 => rw [hr] at h; exact h
      | cnt d S1 => rw [hr] at h; exact h
      | exc c as S1 => rw [hr] at h; exact h
      | _ => rw [hr] at h; exact h.elim
    · cases hi
/-- the loops' bodies -/
theorem body_S {K : PySem.W.Frag} {w : World} {E : XK} {m : Nat} {e1 : En} {S : Sto} {body : List CS} {μ : List Addr} {H : Hp} {D : Ends} {next : En → Sto → Rs} {Nn : L2.St → Hp → Prop}
    (h : RsS K w cls E μ H (match run T cl m e1 S (.ss body) with
        | .nx e S => next e S
        | .cnt e S => next e S
        | .brk e S => .nx e S
        | .ret d S => .ret d S
        | .exc c as S => .exc c as S
        | _ => .bad) D)
    (hN : ∀ e S' σ' μ' H', Ext μ H μ' H' → Good K w μ' S' H' → EnvR K μ' H' e σ' → RsS K w cls E μ' H' (next e S') D → Nn σ' H') :
    RsS K w cls E μ H (run T cl m e1 S (.ss body)) { D with nx := Nn, ct := Nn, bk := D.nx } := by
  cases hr : run T cl m e1 S (.ss body) with
  | nx e S1 =>
    rw [hr] at h
    exact fun σ1 μ1 H1 x1 g1 r1 => hN e S1 σ1 μ1 H1 x1 g1 r1 (RsS.ext h x1)
  | cnt e S1 =>
    rw [hr] at h
    exact fun σ1 μ1 H1 x1 g1 r1 => hN e S1 σ1 μ1 H1 x1 g1 r1 (RsS.ext h x1)
  | brk e S1 => rw [hr] at h; exact h
  | ret d S1 => rw [hr] at h; exact h
  | exc c as S1 => rw [hr] at h; exact h
  | _ => rw [hr] at h; exact h.elim
theorem for_ok {M : Nat} (ih : ∀ m, m ≤ M → AllS T cl cls m) {X : Cx} {E : XK} (hc : CtxS T cl cls E X) {k1 k2 : Nat} {t iter : Expr} {b : List Stmt} {tg : Tg} {it : ItK} {ops : List C} {body : List CS} {pos : Pos}
    (ht : isTg allT X.N X.env.scope t tg = true) (hi : isIt T k1 X.N X.env.scope t iter it ops = true) (hb : isSs T k2 X.N X.env.scope b body = true)
    {env : En} {S : Sto} {μ : List Addr} {σ : L2.St} {H : Hp} {D : Ends} (g : Good X.K X.w μ S H) (r : EnvR X.K μ H env σ)
    (h : RsS X.K X.w cls E μ H (run T cl (M + 1) env S (.s (.for_ tg it ops body))) D) : WPS X (.For t iter b [] pos) D σ H := by
  have h : RsS X.K X.w cls E μ H ((run T cl M env S (.es ops)).bs fun ds S => (match ivOf it ds S with
        | some iv => run T cl M env S (.floop 0 iv tg body)
        | none => .bad)) D := h
  refine ⟨_, ps_for hc.own hc.c.calm pi_w pg_w pss_w (set_folded (it_notSet hi)), ?_⟩
  refine it_ok (m := M) (fun k _ => allE k) hc.c hi g r ?_
  cases hr : run T cl M env S (.es ops) with
  | oks ds S1 =>
    rw [hr] at h
    have h : RsS X.K X.w cls E μ H (match ivOf it ds S1 with
        | some iv => run T cl M env S1 (.floop 0 iv tg body)
        | none => .bad) D := h
    cases hv : ivOf it ds S1 with
    | none => rw [hv] at h; exact h.elim
    | some iv =>
      rw [hv] at h
      dsimp only at h
      refine .inl ⟨ds, S1, iv, rfl, hv, fun μ1 H1 J x1 g1 hJ => ?_⟩
      refine ⟨fun i k σk Hk => ∃ μk Sk ek, Ext μ1 H1 μk Hk ∧ Good X.K X.w μk Sk Hk ∧ EnvR X.K μk Hk ek σk ∧ RsS X.K X.w cls E μk Hk (run T cl k ek Sk (.floop i iv tg body)) D ∧ k ≤ M,
        ⟨M, μ1, S1, env, Ext.refl, g1, r.ext x1 g, RsS.ext h x1, Nat.le_refl _⟩, ?_⟩
      rintro i k σk Hk ⟨μk, Sk, ek, xk, gk, rk, hk, hkM⟩
      obtain ⟨st1, st2⟩ := (hJ.ext xk g1).step gk i
      cases k with
      | zero => exact hk.elim
      | succ k =>
        have hk : RsS X.K X.w cls E μk Hk (match ivNext i iv Sk with
          | none => .bad
          | some none => .nx ek Sk
          | some (some d) => (match asgT tg d ek Sk with
            | none => .bad
            | some e1 => (match run T cl k e1 Sk (.ss body) with
              | .nx e S => run T cl k e S (.floop (i + 1) iv tg body)
              | .cnt e S => run T cl k e S (.floop (i + 1) iv tg body)
              | .brk e S => .nx e S
              | .ret d S => .ret d S
              | .exc c as S => .exc c as S
              | _ => .bad))) D := hk
        cases hn : ivNext i iv Sk with
        | none => rw [hn] at hk; exact hk.elim
        | some o =>
          rw [hn] at hk
          cases o with
          | none => exact .inl ⟨st1 hn, hk σk μk Hk Ext.refl gk rk⟩
          | some d =>
            dsimp only at hk
            obtain ⟨go, yl⟩ := st2 d hn
            cases he : asgT tg d ek Sk with
            | none => rw [he] at hk; exact hk.elim
            | some e1 =>
              rw [he] at hk
              dsimp only at hk
              refine .inr ⟨go, fun σ' H' => ∃ μ' S' e', Ext μ1 H1 μ' H' ∧ Good X.K X.w μ' S' H' ∧ EnvR X.K μ' H' e' σ' ∧ RsS X.K X.w cls E μ' H' (run T cl k e' S' (.floop (i + 1) iv tg body)) D ∧ k ≤ M,
                fun σ' H' w => ⟨k, Nat.lt_succ_self k, w⟩, fun x H' y => ?_⟩
              obtain ⟨xy, gy, rx⟩ := yl x H' y
              refine tg_ok hc.c.calm hc.c.nd (fn := allT) (fun x _ => hc.fn x) ht gy rx (rk.ext xy gk) he fun σ' re1 _ => ?_
              refine (ih k (by omega)).ss hc hb gy re1 ?_
              refine body_S (RsS.ext hk xy) fun e S' σ' μ' H'' x' g' r' h' => ?_
              exact ⟨μ', S', e, (xk.trans xy).trans x', g', r', h', by omega⟩
  | exc c as S1 =>
    rw [hr] at h
    exact .inr ⟨c, as, S1, rfl, h⟩
  | _ => rw [hr] at h; exact h.elim
theorem while_ok {M : Nat} (ih : ∀ m, m ≤ M → AllS T cl cls m) {X : Cx} {E : XK} (hc : CtxS T cl cls E X) {k1 k2 : Nat} {x : Expr} {b : List Stmt} {t : C} {body : List CS} {pos : Pos}
    (ht : isE T k1 X.N X.env.scope x t = true) (hb : isSs T k2 X.N X.env.scope b body = true)
    {env : En} {S : Sto} {μ : List Addr} {σ : L2.St} {H : Hp} {D : Ends} (g : Good X.K X.w μ S H) (r : EnvR X.K μ H env σ)
    (h : RsS X.K X.w cls E μ H (run T cl (M + 1) env S (.s (.while_ t body))) D) : WPS X (.While x b [] pos) D σ H := by
  refine ⟨_, ps_while hc.own pt_w pss_w, ?_⟩
  have h : RsS X.K X.w cls E μ H (run T cl M env S (.wloop t body)) D := h
  refine ⟨fun k σk Hk => ∃ μk Sk ek, Ext μ H μk Hk ∧ Good X.K X.w μk Sk Hk ∧ EnvR X.K μk Hk ek σk ∧ RsS X.K X.w cls E μk Hk (run T cl k ek Sk (.wloop t body)) D ∧ k ≤ M,
    ⟨M, μ, S, env, Ext.refl, g, r, h, Nat.le_refl _⟩, ?_⟩
  rintro k σk Hk ⟨μk, Sk, ek, xk, gk, rk, hk, hkM⟩
  cases k with
  | zero => exact hk.elim
  | succ k =>
    have hk : RsS X.K X.w cls E μk Hk ((run T cl k ek Sk (.t t)).b1 fun x S => (match x with
      | .bl false => .nx ek S
      | .bl true => (match run T cl k ek S (.ss body) with
        | .nx e S => run T cl k e S (.wloop t body)
        | .cnt e S => run T cl k e S (.wloop t body)
        | .brk e S => .nx e S
        | .ret d S => .ret d S
        | .exc c as S => .exc c as S
        | _ => .bad)
      | _ => .bad)) D := hk
    refine (allE k).t hc.c ht gk rk (RsT.mono (t1_S hk fun d S hn => by cases d with | bl b => exact absurd rfl (hn b) | _ => rfl) ?_)
    rintro b0 H1 ⟨S1, μ1, x1, g1, h1⟩
    have r1 := rk.ext x1 gk
    cases b0 with
    | false => exact iteF (h1 σk μ1 H1 Ext.refl g1 r1)
    | true =>
      refine iteT ⟨fun σ' H' => ∃ μ' S' e', Ext μ H μ' H' ∧ Good X.K X.w μ' S' H' ∧ EnvR X.K μ' H' e' σ' ∧ RsS X.K X.w cls E μ' H' (run T cl k e' S' (.wloop t body)) D ∧ k ≤ M, fun σ' H' w => ⟨k, Nat.lt_succ_self k, w⟩, ?_⟩
      refine (ih k (by omega)).ss hc hb g1 r1 ?_
      refine body_S h1 fun e S' σ' μ' H'' x' g' r' h' => ?_
      exact ⟨μ', S', e, (xk.trans x1).trans x', g', r', h', by omega⟩
/-! ## except suites -/
def vOf : D → V
  | .non => .non | .bl b => .bl b | .int i => .int i | .str s => .str s | _ => .non
theorem vOf_rl {K : PySem.W.Frag} {μ : List Addr} {H : Hp} {d : D} (h : flatD d = true) : Rl K μ H d (vOf d) := by
  cases d <;> first | exact .non | exact .bl _ | exact .int _ | exact .str _ | cases h
theorem rl_vOf {K : PySem.W.Frag} {μ : List Addr} {H : Hp} {d : D} {v : V} (r : Rl K μ H d v) (h : flatD d = true) : v = vOf d := by
  cases r <;> first | rfl | cases h
theorem ses_rl {K : PySem.W.Frag} {μ : List Addr} {H : Hp} {l : List String} {fl : Option (Str × D)} : ∀ {ses : List SE} {ds : List D}, sesD l fl ses = some ds → RlA K μ H ds (ds.map vOf)
  | [], _, h => by cases h; exact .nil
  | .k d :: r, _, h => by
    unfold sesD at h
    cases c : flatD d with
    | false => rw [c] at h; cases h
    | true =>
      rw [c] at h
      cases e : sesD l fl r with
      | none => rw [e] at h; cases h
      | some ds => rw [e] at h; cases h; exact .cons (vOf_rl c) (ses_rl e)
  | .isE t :: r, _, h => by
    unfold sesD at h
    cases c : l.contains t with
    | false => rw [c] at h; cases h
    | true =>
      rw [c] at h
      cases e : sesD l fl r with
      | none => rw [e] at h; cases h
      | some ds => rw [e] at h; cases h; exact .cons (.bl true) (ses_rl e)
  | .fld f :: r, _, h => by
    unfold sesD at h
    cases fl with
    | none => cases h
    | some p =>
      dsimp only at h
      cases c : (decide (p.1 = f) && flatD p.2) with
      | false => rw [c] at h; cases h
      | true =>
        rw [c] at h
        rw [Bool.and_eq_true] at c
        cases e : sesD l (some p) r with
        | none => rw [e] at h; cases h
        | some ds => rw [e] at h; cases h; exact .cons (vOf_rl c.2) (ses_rl e)
theorem pa_ses {X : Cx} {E : XK} (hc : CtxS T cl cls E X) {k i : Nat} {n : Str} {l : List String} {a : Addr} {oe : Obj} {pn : List (Addr × Obj)} {dO : Option Addr} {fl : Option (Str × D)} (hv : okVar X.N X.env.scope i n = true) (hl : T.bases[k]? = some l) (hz : Zc (.ref (cls k).1) dO oe) (hf : ∃ vs, oe.data = .fields vs)
    (hxf : ∀ f d, fl = some (f, d) → XfC X.K (cls k).1 ∧ PySem.W.findIn X.K (.ref (cls k).1) f = some none) :
    ∀ {es : List Expr} {ses : List SE} {ds : List D}, isSEs X.env.scope n es ses = true → noStar es = true → sesD l fl ses = some ds → ∀ {σ : L2.St} {H : Hp} {Q : List V → Hp → Prop}, σ[i]? = some (some (.ref a)) →
      (∀ f d, fl = some (f, d) → flatD d = true → ∃ dx, dO = some dx ∧ H dx = some (.xd [(f, vOf d)])) → (∀ dx, dO = some dx → ∃ fs, H dx = some (.xd fs)) → Q (ds.map vOf) H → WPA (X.suite a ((a, oe) :: pn)) es σ H Q
  | [], [], _, _, _, h, σ, H, Q, hs, hx, hxd, q => by
    cases h
    exact ⟨_, pa_nil, q⟩
  | e :: es, c :: cs, ds, hi, hns, h, σ, H, Q, hs, hx, hxd, q => by
    unfold isSEs at hi
    rw [Bool.and_eq_true] at hi
    obtain ⟨n1, n2⟩ := noStar_cons hns
    have vis : Vis X.env.scope n := by
      unfold okVar at hv
      simp only [Bool.and_eq_true, decide_eq_true_eq, Bool.not_eq_true'] at hv
      have v2 := hv.1.1.2
      unfold visB at v2
      split at v2
      · exact .inl (by assumption)
      · exact .inr (.inl (by assumption))
      · exact .inr (.inr (by assumption))
      · cases v2
    have hv' := hv
    unfold okVar at hv'
    simp only [Bool.and_eq_true, decide_eq_true_eq, Bool.not_eq_true'] at hv'
    obtain ⟨⟨⟨v1, v2⟩, v3⟩, v4⟩ := hv'
    cases c with
    | k d =>
      unfold sesD at h
      cases cf : flatD d with
      | false => rw [cf] at h; cases h
      | true =>
        rw [cf] at h
        cases e2 : sesD l fl cs with
        | none => rw [e2] at h; cases h
        | some ds' =>
          rw [e2] at h
          cases h
          have ih := pa_ses hc hv hl hz hf hxf (a := a) (pn := pn) hi.2 n2 e2 (σ := σ) (H := H) (Q := fun ws H' => Q (vOf d :: ws) H') hs hx hxd q
          have h1 := hi.1
          unfold isSE at h1
          dsimp only at h1
          split at h1
          · rename_i kk z1 z2
            unfold isK at h1
            split at h1
            · exact ⟨_, pa_cons pe_non pa_w (star_cons n1), ih⟩
            · have e0 := eq_of_beq h1
              subst e0
              exact ⟨_, pa_cons pe_bl pa_w (star_cons n1), ih⟩
            · have e0 := of_decide_eq_true h1
              subst e0
              exact ⟨_, pa_cons pe_int pa_w (star_cons n1), ih⟩
            · have e0 := of_decide_eq_true h1
              subst e0
              exact ⟨_, pa_cons pe_str pa_w (star_cons n1), ih⟩
            · cases h1
          · cases h1
    | fld f =>
      unfold sesD at h
      cases hfl : fl with
      | none => rw [hfl] at h; cases h
      | some p =>
        rw [hfl] at h
        dsimp only at h
        cases cf : (decide (p.1 = f) && flatD p.2) with
        | false => rw [cf] at h; cases h
        | true =>
          rw [cf] at h
          simp only [Bool.and_eq_true, decide_eq_true_eq] at cf
          obtain ⟨ef, cf⟩ := cf
          subst ef
          cases e2 : sesD l (some p) cs with
          | none => rw [e2] at h; cases h
          | some ds' =>
            rw [e2] at h
            cases h
            have ih := pa_ses hc hv hl hz hf hxf (a := a) (pn := pn) hi.2 n2 (by rw [hfl]; exact e2) (σ := σ) (H := H) (Q := fun ws H' => Q (vOf p.2 :: ws) H') hs hx hxd q
            have h1 := hi.1
            unfold isSE at h1
            dsimp only at h1
            split at h1
            · rename_i y py g pos
              simp only [Bool.and_eq_true, decide_eq_true_eq] at h1
              obtain ⟨rfl, rfl⟩ := h1
              obtain ⟨x1, x2⟩ := hxf _ _ hfl
              obtain ⟨dx, z1, z2⟩ := hx _ _ hfl cf
              have p1 : PE (X.suite a ((a, oe) :: pn)) (.Name y py) (tVar i) := pe_var v1 vis v3 v4
              have p2 : PE (X.suite a ((a, oe) :: pn)) (.Attribute (.Name y py) p.1 pos) _ := pe_xf x1 x2 hz hf p1 (by rfl)
              refine ⟨_, pa_cons p2 pa_w (by rfl), ?_⟩
              refine ⟨.ref a, hs, rfl, rfl, dx, [(p.1, vOf p.2)], vOf p.2, z1, z2, ?_, ih⟩
              simp [List.lookup]
            · cases h1
    | isE t =>
      unfold sesD at h
      cases cf : l.contains t with
      | false => rw [cf] at h; cases h
      | true =>
        rw [cf] at h
        cases e2 : sesD l fl cs with
        | none => rw [e2] at h; cases h
        | some ds' =>
          rw [e2] at h
          cases h
          have ih := pa_ses hc hv hl hz hf hxf (a := a) (pn := pn) hi.2 n2 e2 (σ := σ) (H := H) (Q := fun ws H' => Q (.bl true :: ws) H') hs hx hxd q
          have h1 := hi.1
          unfold isSE at h1
          dsimp only at h1
          split at h1
          · rename_i f pf y py z pz pos
            simp only [Bool.and_eq_true, decide_eq_true_eq] at h1
            obtain ⟨⟨⟨⟨⟨rfl, g1⟩, rfl⟩, g2⟩, g3⟩, g4⟩ := h1
            obtain ⟨x, hx0⟩ := hc.bas k l hl
            have zn : z ≠ ("__name__" : Str) := by
              intro e0
              subst e0
              revert g3
              decide
            have zd : (z == ("__debug__" : Str)) = false := by
              simp only [errNames, List.mem_cons, List.not_mem_nil, or_false] at g3
              rcases g3 with rfl | rfl <;> decide
            have p1 : PE (X.suite a ((a, oe) :: pn)) (.Name y py) (tVar i) := pe_var v1 vis v3 v4
            have p2 : PE (X.suite a ((a, oe) :: pn)) (.Name z pz) (tC (.ty t)) := pe_bltn (show Gl (X.suite a ((a, oe) :: pn)) z from gl_of g2) (hc.mgB z g3) g4 rfl zn zd
            have p3 : PE (X.suite a ((a, oe) :: pn)) (.Call (.Name "isinstance" pf) [.Name y py, .Name z pz] [] pos) _ := pe_callB (call_isE2 (hc.exC k x hx0) hz hf) (show Gl (X.suite a ((a, oe) :: pn)) "isinstance" from gl_of g1) (hc.c.mg0 _ (by simp)) (by decide +kernel) (pa_cons p1 (pa_cons p2 pa_nil))
            refine ⟨_, pa_cons p3 pa_w (by rfl), ?_⟩
            refine ⟨.ref a, hs, .ty t, .type t, true, rfl, fun u r => r, hc.isE k l t hl (by simpa using cf), hxd, ih⟩
          · cases h1
  | [], _ :: _, _, hi, _, _, _, _, _, _, _, _, _ => by cases hi
  | _ :: _, [], _, hi, _, _, _, _, _, _, _, _, _ => by cases hi
def cls_l (X : Cx) (cls : Nat → Addr × Option Str) : List ExceptHandler → List (Nat × Nat × List SE) → List (Value × Nat × (Addr → Value → Option Addr → TS))
  | .ExceptHandler _ _ suite _ :: hs, c :: cs => (.ref (cls c.1).1, c.2.1, fun a cv d D σ H => ∀ oe pn, Zc cv d oe → (∃ vs, oe.data = .fields vs) → WPSs (X.suite a ((a, oe) :: pn)) suite D σ H) :: cls_l X cls hs cs
  | _, _ => []
theorem hds_ok {X : Cx} {E : XK} (hc : CtxS T cl cls E X) : ∀ {hds : List ExceptHandler} {hs : List (Nat × Nat × List SE)}, isHs T X.N X.env.scope hds hs = true → HdsN X hds (cls_l X cls hds hs)
  | [], [], _ => .nil
  | h :: hds, c :: hs, hi => by
    unfold isHs at hi
    rw [Bool.and_eq_true] at hi
    have h1 := hi.1
    unfold isH at h1
    split at h1
    · simp only [Bool.and_eq_true, decide_eq_true_eq, Bool.not_eq_true'] at h1
      obtain ⟨⟨⟨⟨⟨⟨g1, g2⟩, g3⟩, g4⟩, g5⟩, g6⟩, g7⟩ := h1
      unfold okVar at g4
      simp only [Bool.and_eq_true, decide_eq_true_eq] at g4
      exact .cons ⟨gl_of g2, g3, .inl (hc.mgx _ _ g1)⟩ g4.1.1.1 g5 (fun a oe cv d pn z1 z2 => ⟨fun pins s σ H D I q => pss_w.run pins s σ H D I (q oe pn z1 z2)⟩) (hds_ok hc hi.2)
    · cases h1
  | [], _ :: _, hi => by cases hi
  | _ :: _, [], hi => by cases hi
/-- the caught one's field -/
def XR (K : PySem.W.Frag) (μ : List Addr) (H1 : Hp) (dO : Option Addr) (fl : Option (Str × EV.D)) (H2 : Hp) : Prop :=
  (dO = none ∧ fl = none ∧ H2 = H1) ∨ ∃ dx f d v, dO = some dx ∧ fl = some (f, d) ∧ Rl K μ H1 d v ∧ H1 dx = none ∧ H2 = upd H1 dx (.xd [(f, v)])
theorem XR.at {K : PySem.W.Frag} {μ : List Addr} {H1 H2 : Hp} {dO : Option Addr} {fl : Option (Str × D)} (x : XR K μ H1 dO fl H2) : ∀ f d, fl = some (f, d) → flatD d = true → ∃ dx, dO = some dx ∧ H2 dx = some (.xd [(f, vOf d)]) := fun f d e fd => by
  rcases x with ⟨_, z, _⟩ | ⟨dx, f', d', v, z1, z2, z3, z4, z5⟩
  · rw [z] at e; cases e
  · rw [z2] at e
    cases e
    refine ⟨dx, z1, ?_⟩
    rw [z5, ← rl_vOf z3 fd]
    exact upd_same
theorem XR.xd {K : PySem.W.Frag} {μ : List Addr} {H1 H2 : Hp} {dO : Option Addr} {fl : Option (Str × D)} (x : XR K μ H1 dO fl H2) : ∀ dx, dO = some dx → ∃ fs, H2 dx = some (.xd fs) := fun dx e => by
  rcases x with ⟨z, _, _⟩ | ⟨dx', f', d', v, z1, z2, z3, z4, z5⟩
  · rw [z] at e; cases e
  · rw [z1] at e
    cases e
    rw [z5]
    exact ⟨_, upd_same⟩
theorem XR.good {K : PySem.W.Frag} {w : World} {μ : List Addr} {S : Sto} {H1 H2 : Hp} {dO : Option Addr} {fl : Option (Str × D)} (x : XR K μ H1 dO fl H2) (g : Good K w μ S H1) : Ext μ H1 μ H2 ∧ Good K w μ S H2 := by
  rcases x with ⟨_, _, z⟩ | ⟨dx, f', d', v, z1, z2, z3, z4, z5⟩
  · rw [z]
    exact ⟨Ext.refl, g⟩
  · rw [z5]
    exact ⟨ext_new z4, good_new g z4⟩
theorem try_ok {M : Nat} (ih : AllS T cl cls M) {X : Cx} {E : XK} (hc : CtxS T cl cls E X) {n : Nat} {b : List Stmt} {h₀ : ExceptHandler} {hds : List ExceptHandler} {body : List CS} {hs : List (Nat × Nat × List SE)} {pos : Pos}
    (h1 : isSs T n X.N X.env.scope b body = true) (h2 : isHs T X.N X.env.scope (h₀ :: hds) hs = true)
    {env : En} {S : Sto} {μ : List Addr} {σ : L2.St} {H : Hp} {D : Ends} (g : Good X.K X.w μ S H) (r : EnvR X.K μ H env σ)
    (h : RsS X.K X.w cls E μ H (run T cl (M + 1) env S (.s (.try_ body hs))) D) : WPS X (.Try b (h₀ :: hds) [] [] pos) D σ H := by
  have h : RsS X.K X.w cls E μ H (match run T cl M env S (.ss body) with
      | .exc k as S => (match T.excs[k]? with
        | some _ => (match hfind hs k with
          | some ses => (match T.bases[k]? with
            | some l => (match exFld T k as with
              | some fl => (match sesD l fl ses with | some ds => cond (smallB ds.length) (.ret (.ref S.nx) (S.new ds)) .bad | none => .bad)
              | none => .bad)
            | none => .bad)
          | none => .exc k as S)
        | none => .bad)
      | .nx e S => .nx e S
      | .ret d S => .ret d S
      | .brk e S => .brk e S
      | .cnt e S => .cnt e S
      | _ => .bad) D := h
  let TB : WX → TS := fun W D σ H => ∀ pn xe, Takes (X.tr pn xe) W → PassesOwn (model X.prog X.w) X.A X.env xe → WPSs (X.tr pn xe) b D σ H
  refine ⟨_, ps_try_gen (tb := TB) (Wout := fun cv d _ H => E cv d H) hc.stk hc.frm hc.c.nd hc.tk (fun W pn xe tk own => ⟨fun pins s σ H D I q => pss_w.run pins s σ H D I (q pn xe tk own)⟩) (hds_ok hc h2), ?_⟩
  intro pn xe tk own
  have tk' := takes_any tk
  refine ih.ss (X := X.tr pn xe) (E := fun cv d H => ∀ σ : List (Option V), σ.length = X.N.length → wGen X.K (fun cv d _ H => E cv d H) D (cls_l X cls (h₀ :: hds) hs) cv d σ H) ?_ h1 g r ?_
  · exact ⟨⟨hc.c.calm, hc.c.nd, hc.c.kind, hc.c.un, passes_call tk' (fun _ _ _ _ z => fun _ _ => z _ (by assumption)), hc.c.fns, hc.c.gcd, hc.c.consts, hc.c.tcs, hc.c.comb, hc.c.prm, hc.c.mg0⟩, hc.fn, own, tk', fun pn' xe' => hc.mkE pn' xe', fun pn' xe' => hc.mk1 pn' xe', hc.fld, hc.xf, hc.exm, hc.mgx, hc.exC, hc.isE, hc.bas, hc.mgB, hc.stk, hc.frm⟩
  · cases hr : run T cl M env S (.ss body) with
    | nx e S1 => rw [hr] at h; exact h
    | ret d S1 => rw [hr] at h; exact h
    | brk e S1 => rw [hr] at h; exact h
    | cnt e S1 => rw [hr] at h; exact h
    | exc k as S1 =>
      rw [hr] at h
      dsimp only at h
      cases hx : T.excs[k]? with
      | none => rw [hx] at h; exact h.elim
      | some x0 =>
        rw [hx] at h
        dsimp only at h
        have hfd := hc.fld k x0 hx
        intro μ1 H1 x1 g1
        -- which clause takes it
        have go : ∀ (dO : Option Addr) (fl : Option (Str × EV.D)) (H2 : Hp) (σ1 : List (Option V)), σ1.length = X.N.length → exFld T k as = some fl → XR X.K μ1 H1 dO fl H2 → (EW X.K μ1 cls E k as H1 → E (.ref (cls k).1) dO H2) → ∀ (hds' : List ExceptHandler) (hs' : List (Nat × Nat × List SE)), isHs T X.N X.env.scope hds' hs' = true →
            RsS X.K X.w cls E μ H (match hfind hs' k with
              | some ses => (match T.bases[k]? with
                | some l => (match exFld T k as with
                  | some fl => (match sesD l fl ses with | some ds => cond (smallB ds.length) (.ret (.ref S1.nx) (S1.new ds)) .bad | none => .bad)
                  | none => .bad)
                | none => .bad)
              | none => .exc k as S1) D → wGen X.K (fun cv d _ H => E cv d H) D (cls_l X cls hds' hs') (.ref (cls k).1) dO σ1 H2 := by
          intro dO fl H2 σ1 hl1 efl xr out hds'
          rw [efl]
          induction hds' with
          | nil =>
            intro hs' hi h
            cases hs' with
            | nil => exact out (h μ1 H1 x1 g1)
            | cons _ _ => cases hi
          | cons hd hds' ihd =>
            intro hs' hi h
            cases hs' with
            | nil => cases hi
            | cons c hs' =>
              unfold isHs at hi
              rw [Bool.and_eq_true] at hi
              have h1 := hi.1
              unfold isH at h1
              split at h1
              · simp only [Bool.and_eq_true, decide_eq_true_eq, Bool.not_eq_true'] at h1
                obtain ⟨⟨⟨⟨⟨⟨g1', g2'⟩, g3'⟩, g4'⟩, g5'⟩, g6'⟩, g7'⟩ := h1
                refine ⟨Nat.beq k c.1, hc.exm k c.1 _ _ hx g1', fun hb => ?_, fun hb => ?_⟩
                · unfold hfind at h
                  rw [hb] at h
                  dsimp only [cond] at h
                  intro a ha oe pn' hz hf
                  cases hl : T.bases[k]? with
                  | none => rw [hl] at h; exact h.elim
                  | some l =>
                    rw [hl] at h
                    dsimp only at h
                    cases hd' : sesD l fl c.2.2 with
                    | none => rw [hd'] at h; exact h.elim
                    | some ds =>
                      rw [hd'] at h
                      dsimp only at h
                      cases cs : smallB ds.length with
                      | false => rw [cs] at h; exact h.elim
                      | true =>
                        rw [cs] at h
                        have h : Post X.K X.w μ H (.ref S1.nx) (S1.new ds) D.rt := h
                        have hlt : c.2.1 < X.N.length := (by
                          have g4'' := g4'
                          unfold okVar at g4''
                          simp only [Bool.and_eq_true, decide_eq_true_eq] at g4''
                          exact (List.getElem?_eq_some_iff.mp g4''.1.1.1).1)
                        obtain ⟨x2, g2⟩ := xr.good g1
                        have hxf : ∀ f d, fl = some (f, d) → XfC X.K (cls k).1 ∧ PySem.W.findIn X.K (.ref (cls k).1) f = some none := fun f d e => by
                          refine hc.xf k x0 f hx ?_
                          subst e
                          cases hfl : (cls k).2 with
                          | none =>
                            unfold exFld at efl
                            rw [hfd, hfl] at efl
                            cases as with
                            | nil => cases efl
                            | cons _ _ => cases efl
                          | some f' =>
                            unfold exFld at efl
                            rw [hfd, hfl] at efl
                            cases as with
                            | nil => cases efl
                            | cons a0 as0 =>
                              cases as0 with
                              | nil => cases efl; rfl
                              | cons _ _ => cases efl
                        refine ⟨_, pss_one (ps_ret (pe_lst pa_w)), ?_⟩
                        refine pa_ses hc g4' hl hz hf hxf g6' g7' hd' (by rw [List.getElem?_set_self (by rw [hl1]; exact hlt)]) xr.at xr.xd ⟨by rw [List.length_map]; exact small_of cs, fun p hp => ?_⟩
                        exact h _ (μ1 ++ [p]) _ ((x1.trans x2).trans (ext_lst hp)) (good_lst g2 hp (ses_rl hd')) (.ref (at_last g2))
                · unfold hfind at h
                  rw [hb] at h
                  exact ihd hs' hi.2 h
              · cases h1
        -- its form
        have form : exFld T k as = none → False := fun en => by
          cases hh : hfind hs k with
          | some ses =>
            rw [hh] at h
            dsimp only at h
            cases hl : T.bases[k]? with
            | none => rw [hl] at h; exact h.elim
            | some l =>
              rw [hl, en] at h
              exact h.elim
          | none =>
            rw [hh] at h
            have w := h μ1 H1 x1 g1
            unfold exFld at en
            rw [hfd] at en
            unfold EW at w
            split at w
            · rename_i z1
              rw [z1] at en
              cases en
            · rename_i f d z1
              rw [z1] at en
              cases en
            · exact w
        cases hfl : (cls k).2 with
        | none =>
          cases as with
          | nil =>
            unfold EW
            rw [hfl]
            intro σ1 hl1
            refine go none none H1 σ1 hl1 (by unfold exFld; rw [hfd, hfl]) (.inl ⟨rfl, rfl, rfl⟩) (fun w => ?_) _ _ h2 h
            unfold EW at w
            rw [hfl] at w
            exact w
          | cons a as => exact (form (by unfold exFld; rw [hfd, hfl])).elim
        | some f =>
          have bad : (∀ d, as ≠ [d]) → exFld T k as = none := fun hn => by
            unfold exFld
            rw [hfd, hfl]
            cases as with
            | nil => rfl
            | cons a0 as0 =>
              cases as0 with
              | nil => exact absurd rfl (hn a0)
              | cons _ _ => rfl
          match as, bad, form, go, h with
          | [d], _, _, go, h =>
            unfold EW
            rw [hfl]
            intro v rv dx hdx σ1 hl1
            refine go (some dx) (some (f, d)) (upd H1 dx (.xd [(f, v)])) σ1 hl1 (by unfold exFld; rw [hfd, hfl]) (.inr ⟨dx, f, d, v, rfl, rfl, rv, hdx, rfl⟩) (fun w => ?_) _ _ h2 h
            unfold EW at w
            rw [hfl] at w
            exact w v rv dx hdx
          | [], bad, form, _, _ => exact (form (bad fun d z => by cases z)).elim
          | _ :: _ :: _, bad, form, _, _ => exact (form (bad fun d z => by cases z)).elim
    | _ => rw [hr] at h; exact h.elim
theorem setAll_rl {K : PySem.W.Frag} {μ : List Addr} {H : Hp} : ∀ {is : List Nat} {ds : List D} {vs : List V} {env env' : En} {σ : List (Option V)}, EnvR K μ H env σ → RlA K μ H ds vs → setAll is ds env = some env' →
    vs.length = is.length ∧ EnvR K μ H env' ((is.zip vs).foldl (fun s p => s.set p.1 (some p.2)) σ)
  | [], [], _, _, _, _, r, .nil, e => by cases e; exact ⟨rfl, r⟩
  | i :: is, d :: ds, _, env, env', σ, r, .cons a t, e => by
    obtain ⟨h1, h2⟩ := setAll_rl (r.set i a) t (show setAll is ds (env.set i (some d)) = some env' from e)
    exact ⟨by simp [h1], h2⟩
  | [], _ :: _, _, _, _, _, _, _, e => by cases e
  | _ :: _, [], _, _, _, _, _, _, e => by cases e
/-- a comprehension that is stored at once -/
theorem swap_ok {M : Nat} {X : Cx} {E : XK} (hc : CtxS T cl cls E X) {n : Nat} {x : Str} {px pos : Pos} {j : Nat} {v : Expr} {c : C} (h1 : isTg1 allT X.N X.env.scope (.Name x px) j = true) (h2 : isE T n X.N X.env.scope v c = true) (hs : swB X.env.scope x px v = true)
    {env : En} {S : Sto} {μ : List Addr} {σ : L2.St} {H : Hp} {D : Ends} (g : Good X.K X.w μ S H) (r : EnvR X.K μ H env σ) (h : RsP X.K X.w cls E μ H (run T cl M env S (.e c)) fun v' H1 => gName j v' σ H1 D.nx) : WPS X (.Assign [.Name x px] v pos) D σ H := by
  have hN : X.N[j]? = some x := by
    unfold isTg1 at h1
    simp only [Bool.and_eq_true, decide_eq_true_eq] at h1
    exact h1.1
  cases n with
  | zero => cases h2
  | succ n =>
    cases M with
    | zero => exact h.elim
    | succ M =>
    unfold isE at h2
    cases c with
    | comp vs tg' it ops ifs elt =>
      dsimp only at h2
      split at h2
      · rename_i el t' iter' fs' scope p
        unfold swB at hs
        simp only [Bool.and_eq_true, decide_eq_true_eq, Bool.not_eq_true'] at hs
        obtain ⟨⟨s1, s2⟩, s3⟩ := hs
        simp only [Bool.and_eq_true] at h2
        obtain ⟨⟨⟨⟨⟨⟨c1, c2⟩, c3⟩, c4⟩, c5⟩, c6⟩, c7⟩ := h2
        have base := ps_setLc (spos := pos) (py := px) (pos := p) hc.c.calm hc.c.nd hN s1 (sw_true hc.c.kind s1 s2 s3) pi_w (blkOk_by c1) (pg_blk (t := t')) (pt_blk (fs := fs')) (pe_blk (el := el)) (set_folded (it_notSet c4))
        rw [own_slots] at base
        exact ⟨_, base, comp_read (pos := p) (fun k _ => allE k) hc.c c1 c2 c3 c4 c5 c6 c7 g r h⟩
      · cases h2
    | comp2 vs tg' it ops ifs vs1 tg1 it1 ops1 ifs1 elt =>
      dsimp only at h2
      split at h2
      · rename_i el t' iter' fs' t1' iter1' fs1' scope p
        unfold swB at hs
        simp only [Bool.and_eq_true, decide_eq_true_eq, Bool.not_eq_true'] at hs
        obtain ⟨⟨s1, s2⟩, s3⟩ := hs
        simp only [Bool.and_eq_true] at h2
        obtain ⟨⟨⟨⟨⟨⟨⟨⟨⟨⟨⟨⟨c1, c2⟩, c3⟩, c4⟩, c5⟩, c6⟩, c7⟩, c8⟩, c9⟩, c10⟩, c11⟩, c12⟩, c13⟩ := h2
        have hv : ∀ i ∈ vs1, i ∈ (ownOf X.N vs).map (·.2) := by
          rw [own_slots]
          intro i hi
          simpa using List.all_eq_true.mp c7 i hi
        have base := ps_setLc2 (spos := pos) (py := px) (pos := p) hc.c.calm hc.c.nd hN s1 (sw_true hc.c.kind s1 s2 s3) pi_w (blkOk_by c1) hv (pg_blk (t := t')) (pt_blk (fs := fs')) (pi_blk (t := t1') (iter := iter1')) (pg_blk (t := t1')) (pt_blk (fs := fs1')) (pe_blk (el := el)) (set_folded (it_notSet c4)) fun env => set_folded (it_notSet c10)
        rw [own_slots] at base
        exact ⟨_, base, comp2_read (fun k _ => allE k) hc.c c1 c2 c3 c4 c5 c6 c8 c9 c10 c11 c12 c13 g r h⟩
      · cases h2
    | dcomp vs tg' it ops ifs ck cv =>
      dsimp only at h2
      split at h2
      · rename_i ek ev t' iter' fs' scope p
        unfold swB at hs
        simp only [Bool.and_eq_true, decide_eq_true_eq, Bool.not_eq_true'] at hs
        obtain ⟨⟨s1, s2⟩, s3⟩ := hs
        simp only [Bool.and_eq_true] at h2
        obtain ⟨⟨⟨⟨⟨⟨⟨c1, c2⟩, c3⟩, c4⟩, c5⟩, c6⟩, c7⟩, c8⟩ := h2
        have base := ps_setDc (spos := pos) (py := px) (pos := p) hc.c.calm hc.c.nd hN s1 (sw_trueD hc.c.kind s1 s2 s3) pi_w (blkOk_by c1) (pg_blk (t := t')) (pt_blk (fs := fs')) (pe_blk (el := ek)) (pe_blk (el := ev)) (set_folded (it_notSet c4))
        rw [own_slots] at base
        exact ⟨_, base, dcomp_read (fun k _ => allE k) hc.c c1 c2 c3 c4 c5 c6 c7 c8 g r h⟩
      · cases h2
    | _ =>
      first
      | (cases h2; done)
      | (dsimp only at h2; split at h2 <;> first | (cases hs; done) | (cases h2; done))
theorem isE_noSet {n : Nat} {N : List Str} {sc : Scope} {v : Expr} {c : C} (h : isE T n N sc v c = true) : ∀ a b k d, v ≠ .SetComp a b k d := fun a b k d e0 => by
  subst e0
  cases n with
  | zero => cases h
  | succ n => unfold isE at h; cases c <;> first | (cases h; done) | (dsimp only at h; split at h <;> first | (rename_i e0; cases e0; done) | (cases h; done))
theorem allS_s {M : Nat} (ih : ∀ m, m ≤ M → AllS T cl cls m) : ∀ {X : Cx} {E : XK}, CtxS T cl cls E X → ∀ {n : Nat} {st : Stmt} {c : CS}, isS T n X.N X.env.scope st c = true → ∀ {env : En} {S : Sto} {μ : List Addr} {σ : L2.St} {H : Hp} {D : Ends},
    Good X.K X.w μ S H → EnvR X.K μ H env σ → RsS X.K X.w cls E μ H (run T cl (M + 1) env S (.s c)) D → WPS X st D σ H := by
  intro X E hc n st c hi env S μ σ H D g r h
  have i := ih M (Nat.le_refl M)
  have iE : AllE T cl cls M := allE M
  cases n with
  | zero => cases hi
  | succ n =>
    unfold isS at hi
    cases c with
    | asg tg c =>
      dsimp only at hi
      split at hi
      · rename_i t v pos
        simp only [Bool.and_eq_true] at hi
        obtain ⟨⟨h1, h2⟩, h3⟩ := hi
        have h : RsS X.K X.w cls E μ H ((run T cl M env S (.e c)).b1 fun d S => (match asgT tg d env S with | some e => .nx e S | none => .bad)) D := h
        have fin : ∀ {v' : V} {H1 : Hp}, (∃ d S1 μ1, Ext μ H μ1 H1 ∧ Good X.K X.w μ1 S1 H1 ∧ Rl X.K μ1 H1 d v' ∧ RsS X.K X.w cls E μ1 H1 (match asgT tg d env S1 with | some e => .nx e S1 | none => .bad) D) → WPG X t v' σ H1 D.nx := by
          rintro v' H1 ⟨d, S1, μ1, x1, g1, r1, q1⟩
          cases ha : asgT tg d env S1 with
          | none => rw [ha] at q1; exact q1.elim
          | some e1 =>
            rw [ha] at q1
            exact tg_ok hc.c.calm hc.c.nd (fn := allT) (fun x _ => hc.fn x) h1 g1 r1 (r.ext x1 g) ha fun σ' re1 _ => q1 _ μ1 H1 Ext.refl g1 re1
        have rd : WPE X v σ H fun v' H1 => WPG X t v' σ H1 D.nx := iE.e hc.c h2 g r (RsP.mono (b1_S h) fun v' H1 q => fin q)
        -- a comprehension may be stored at once
        by_cases hsw : ∃ x px j, t = .Name x px ∧ tg = .nm j ∧ swB X.env.scope x px v = true
        · obtain ⟨x, px, j, rfl, rfl, hs⟩ := hsw
          refine swap_ok hc h1 h2 hs g r (RsP.mono (b1_S h) ?_)
          rintro v' H1 ⟨d, S1, μ1, x1, g1, r1, q1⟩
          exact q1 _ μ1 H1 Ext.refl g1 ((r.ext x1 g).set j r1)
        · cases t with
          | Name x px =>
            cases tg with
            | tp is => cases h1
            | nt ts => cases h1
            | nm j =>
              have hsb : swB X.env.scope x px v = false := by
                cases hb : swB X.env.scope x px v with
                | false => rfl
                | true => exact absurd ⟨x, px, j, rfl, rfl, hb⟩ hsw
              exact ⟨_, ps_asg (pos := pos) pe_w pg_w (show swapsWithSole [.Name x px] v pos.line X.env = pure false from swaps_set (l := pos.line) hc.c.kind (isE_noSet h2) hsb) (fold_sw h3) (by rfl), rd⟩
          | Tuple ts k p =>
            exact ⟨_, ps_asg (pos := pos) pe_w pg_w (by cases v <;> rfl) (fold_sw h3) (by rfl), rd⟩
          | _ => cases tg <;> cases h1
      · cases hi
    | par is cs =>
      dsimp only at hi
      split at hi
      · rename_i ts k p vs k2 p2 pos
        rw [Bool.and_eq_true] at hi
        obtain ⟨h1, h2⟩ := hi
        have h : RsS X.K X.w cls E μ H ((run T cl M env S (.es cs)).bs fun ds S => (match setAll is ds env with | some e => .nx e S | none => .bad)) D := h
        have rd : ∀ (Q' : List V → Hp → Prop), (∀ ws H1, ws.length = is.length → D.nx ((is.zip ws).foldl (fun s p => s.set p.1 (some p.2)) σ) H1 → Q' ws H1) → WPA X vs σ H Q' := fun Q' hq => by
          refine iE.es hc.c h2 g r (RsA.mono (bs_S h) ?_)
          rintro ws H1 ⟨ds, S1, μ1, x1, g1, r1, q1⟩
          cases ha : setAll is ds env with
          | none => rw [ha] at q1; exact q1.elim
          | some e1 =>
            rw [ha] at q1
            obtain ⟨l1, l2⟩ := setAll_rl (r.ext x1 g) r1 ha
            exact hq ws H1 l1 (q1 _ μ1 H1 Ext.refl g1 l2)
        match is, h1, rd with
        | [], h1, _ => rcases par_len h1 with z | z <;> cases z
        | [a], h1, _ => rcases par_len h1 with z | z <;> cases z
        | [a, b], h1, rd =>
          obtain ⟨x, px, y, py, u, w, rfl, rfl, n1, n2, n3, n4, n5, n6⟩ := par2_sw hc.c.kind h1 (kt := k) (kt2 := k2) (pt := p) (pt2 := p2)
          refine ⟨_, ps_par hc.c.calm hc.c.nd n1 n2 n3 n4 n5 pa_w n6, ?_⟩
          refine rd _ fun ws H1 l q => ?_
          match ws, l, q with
          | [v, w], _, q => exact ⟨v, w, rfl, q⟩
        | [a, b, c], h1, rd =>
          obtain ⟨x, px, y, py, z, pz, u, w, w2, rfl, rfl, n1, n2, n3, m1, m2, m3, n4, n5, n6, n7⟩ := par3_sw hc.c.kind h1 (kt := k) (kt2 := k2) (pt := p) (pt2 := p2)
          refine ⟨_, ps_par3 hc.c.calm hc.c.nd n1 n2 n3 m1 m2 m3 n4 n5 n6 pa_w n7, ?_⟩
          refine rd _ fun ws H1 l q => ?_
          match ws, l, q with
          | [v, w, u], _, q => exact ⟨v, w, u, rfl, q⟩
        | a :: b :: c :: d :: e, h1, _ => rcases par_len h1 with z | z <;> cases z
      · cases hi
    | sub o j c =>
      dsimp only at hi
      split at hi
      · rename_i a b p v pos
        simp only [Bool.and_eq_true, Bool.not_eq_true'] at hi
        obtain ⟨⟨⟨h1, h2⟩, h3⟩, h4⟩ := hi
        have h : RsS X.K X.w cls E μ H ((run T cl M env S (.e c)).b1 fun d S => (run T cl M env S (.e o)).b1 fun x S => (run T cl M env S (.e j)).b1 fun y S => (match x with
          | .ref n => (match S.obj n with
            | some (.lst l) => (match y with
              | .int k => (match ixN l.length k with | some j => .nx env (S.set n (l.set j d)) | none => .bad)
              | _ => .bad)
            | some o => (match dstore o y d with | some o' => .nx env (S.setO n o') | none => .bad)
            | none => .bad)
          | _ => .bad)) D := h
        have ha : ∀ v, assign (.Subscript a b p) X.env v = (do
            let ov ← holding [v] (eval a X.env)
            let iv ← holding [v, ov] (eval b X.env)
            standAt p
            holding [v, ov, iv] (setItem ov iv v)
            release [v, ov, iv] []) := fun v => by
          cases b <;> first | rfl | cases h1
        have nc : ∀ l, swapsWithSole [.Subscript a b p] v l X.env = pure false := fun l => by cases v <;> rfl
        have both : PSet X (fun x y z H Q => rSetL x y z H Q ∨ rSetD X x y z H Q) := fun pins s σ H o i z ov iv u Q I ro ri rv h => by
          rcases h with h | h
          · exact set_list pins s σ H o i z ov iv u Q I ro ri rv h
          · exact set_dict hc.c.un pins s σ H o i z ov iv u Q I ro ri rv h
        refine ⟨_, ps_asg (pos := pos) pe_w (pg_sub pe_w pe_w both ha) (nc _) (by cases v <;> rfl) (by rfl), ?_⟩
        refine iE.e hc.c h2 g r (RsP.mono (b1_S h) ?_)
        rintro v1 H1 ⟨d, S1, μ1, x1, g1, r1, q1⟩
        refine iE.e hc.c h3 g1 (r.ext x1 g) (RsP.mono (b1_S q1) ?_)
        rintro v2 H2 ⟨d2, S2, μ2, x2, g2, r2, q2⟩
        refine iE.e hc.c h4 g2 ((r.ext x1 g).ext x2 g1) (RsP.mono (b1_S q2) ?_)
        rintro v3 H3 ⟨d3, S3, μ3, x3, g3, r3, q3⟩
        have r1' := Rl.ext x3 g2 (Rl.ext x2 g1 r1)
        have r2' := Rl.ext x3 g2 r2
        have re := ((r.ext x1 g).ext x2 g1).ext x3 g2
        split at q3
        · rename_i nn
          obtain ⟨aa, rfl, pp⟩ := rl_ref r2'
          split at q3
          · rename_i l el
            split at q3
            · rename_i kk
              have e3 := rl_int r3
              subst e3
              obtain ⟨xs, hl, rr⟩ := g3.sq pp (get_of el)
              split at q3
              · rename_i jj ej
                rw [rr.length] at ej
                refine .inl ⟨aa, xs, kk, jj, rfl, rfl, hl, ej, ?_⟩
                exact q3 σ μ3 _ (ext_set pp) (good_set g3 pp (rr.set r1' jj)) (re.ext (ext_set pp) g3)
              · exact q3.elim
            · exact q3.elim
          · rename_i o' _ eo
            split at q3
            · rename_i o2 es
              obtain ⟨ho, p1, p2⟩ := dstore_ok g3 pp eo es r3 r1'
              refine .inr ⟨aa, _, rfl, p1, ?_⟩
              exact q3 σ μ3 _ (ext_setO pp) (good_setO g3 pp p2) (re.ext (ext_setO pp) g3)
            · exact q3.elim
          · exact q3.elim
        · exact q3.elim
      · cases hi
    | expr c =>
      dsimp only at hi
      split at hi
      · simp only [Bool.and_eq_true, Bool.not_eq_true'] at hi
        have h : RsS X.K X.w cls E μ H ((run T cl M env S (.e c)).b1 fun _ S => .nx env S) D := h
        refine ⟨_, ps_expr pe_w (swaps_no hi.1), ?_⟩
        refine iE.e hc.c hi.2 g r (RsP.mono (b1_S h) ?_)
        rintro v' H1 ⟨d, S1, μ1, x1, g1, r1, q1⟩
        exact q1 σ μ1 H1 Ext.refl g1 (r.ext x1 g)
      · cases hi
    | ret c =>
      dsimp only at hi
      split at hi
      · have h : RsS X.K X.w cls E μ H ((run T cl M env S (.e c)).b1 fun d S => .ret d S) D := h
        refine ⟨_, ps_ret pe_w, ?_⟩
        refine iE.e hc.c hi g r (RsP.mono (b1_S h) ?_)
        rintro v' H1 ⟨d, S1, μ1, x1, g1, r1, q1⟩
        exact q1 v' μ1 H1 Ext.refl g1 r1
      · cases hi
    | retN =>
      dsimp only at hi
      split at hi
      · exact ⟨_, ps_retN, h .non μ H Ext.refl g .non⟩
      · cases hi
    | ite t a b =>
      dsimp only at hi
      split at hi
      · simp only [Bool.and_eq_true] at hi
        obtain ⟨⟨h1, h2⟩, h3⟩ := hi
        have h : RsS X.K X.w cls E μ H ((run T cl M env S (.t t)).b1 fun x S => (match x with | .bl true => run T cl M env S (.ss a) | .bl false => run T cl M env S (.ss b) | _ => .bad)) D := h
        refine ⟨_, ps_if pt_w pss_w pss_w, ?_⟩
        refine iE.t hc.c h1 g r (RsT.mono (t1_S h fun d S hn => by cases d with | bl b => exact absurd rfl (hn b) | _ => rfl) ?_)
        rintro v H1 ⟨S1, μ1, x1, g1, q1⟩
        cases v with
        | true => exact iteT (i.ss hc h2 g1 (r.ext x1 g) q1)
        | false => exact iteF (i.ss hc h3 g1 (r.ext x1 g) q1)
      · cases hi
    | for_ tg it ops body =>
      dsimp only at hi
      split at hi
      · simp only [Bool.and_eq_true] at hi
        exact for_ok ih hc hi.1.1 hi.1.2 hi.2 g r h
      · cases hi
    | while_ t body =>
      dsimp only at hi
      split at hi
      · rw [Bool.and_eq_true] at hi
        exact while_ok ih hc hi.1 hi.2 g r h
      · cases hi
    | pass =>
      dsimp only at hi
      split at hi
      · exact ⟨_, ps_pass, h σ μ H Ext.refl g r⟩
      · cases hi
    | brk =>
      dsimp only at hi
      split at hi
      · exact ⟨_, ps_break, h σ μ H Ext.refl g r⟩
      · cases hi
    | cont =>
      dsimp only at hi
      split at hi
      · exact ⟨_, ps_continue, h σ μ H Ext.refl g r⟩
      · cases hi
    | try_ body hs =>
      dsimp only at hi
      split at hi
      · rename_i b h₀ hds pos
        rw [Bool.and_eq_true] at hi
        obtain ⟨h1, h2⟩ := hi
        exact try_ok i hc h1 h2 g r h
      · cases hi
    | raise k =>
      dsimp only at hi
      split at hi
      · simp only [Bool.and_eq_true, decide_eq_true_eq] at hi
        have h : RsS X.K X.w cls E μ H (match T.flds[k]? with | some none => .exc k [] S | _ => .bad) D := h
        have hfd := hc.fld k _ hi.1
        split at h
        · rename_i ef
          refine ⟨_, ps_raise hc.c.calm hc.tk (hc.mkE X.pn X.xe k _ hi.1 ef (gl_of hi.2) _ _), ?_⟩
          have w := h μ H Ext.refl g
          rw [hfd] at ef
          have ef := Option.some.inj ef
          unfold EW at w
          rw [ef] at w
          exact w
        · exact h.elim
      · cases hi
    | raise1 k c =>
      dsimp only at hi
      split at hi
      · simp only [Bool.and_eq_true, decide_eq_true_eq, Bool.not_eq_true'] at hi
        obtain ⟨⟨⟨⟨h1, h2⟩, h3⟩, h4⟩, h5⟩ := hi
        have h : RsS X.K X.w cls E μ H (match T.flds[k]? with
          | some (some _) => (run T cl M env S (.e c)).b1 fun d S => (match d with
            | .int i => cond (decide (i.natAbs < 1000000000000)) (.exc k [.int i] S) .bad
            | _ => .bad)
          | _ => .bad) D := h
        have hfd := hc.fld k _ h1
        cases hf : (cls k).2 with
        | none =>
          rw [hfd, hf] at h
          exact h.elim
        | some f =>
          rw [hf] at hfd
          rw [hfd] at h
          refine ⟨_, ps_raise hc.c.calm hc.tk (hc.mk1 X.pn X.xe k _ f h1 hfd (gl_of h2) _ _ _ _ (pa_cons pe_w pa_nil (star1 h4)) (noStar_cons h4).1), ?_⟩
          refine iE.e hc.c h5 g r (RsP.mono (b1_S h) ?_)
          rintro v H1 ⟨d, S1, μ1, x1, g1, r1, q1⟩
          split at q1
          · rename_i i
            have ev := rl_int r1
            subst ev
            cases cc : decide (i.natAbs < 1000000000000) with
            | false => rw [cc] at q1; exact q1.elim
            | true =>
              rw [cc] at q1
              refine ⟨i, rfl, of_decide_eq_true cc, fun dx hdx => ?_⟩
              have w := q1 μ1 H1 Ext.refl g1
              unfold EW at w
              rw [hf] at w
              exact w _ (.int i) dx hdx
          · exact q1.elim
      · cases hi
    | aug j op c =>
      dsimp only at hi
      split at hi
      · rename_i x px op' v pos
        simp only [Bool.and_eq_true, Bool.or_eq_true, decide_eq_true_eq] at hi
        obtain ⟨⟨⟨rfl, ho⟩, h1⟩, h2⟩ := hi
        unfold isTg1 at h1
        simp only [Bool.and_eq_true, decide_eq_true_eq, Bool.or_eq_true] at h1
        obtain ⟨hN, hx⟩ := h1
        have hloc : Loc X.env.scope x := hx.elim .inl fun z => .inr z.1
        have both : ∀ (f : Int → Int → Int), PIp X op (ipI f) → RsS X.K X.w cls E μ H (match env[j]? with
          | some (some (.int a)) => (run T cl M env S (.e c)).b1 fun d S => (match d with
            | .int b => .nx (env.set j (some (.int (f a b)))) S
            | _ => .bad)
          | _ => .bad) D → WPS X (.AugAssign (.Name x px) op v pos) D σ H := by
          intro f hp h
          split at h
          · rename_i a ea
            obtain ⟨u, hu, ru⟩ := r.at_ j _ ea
            have eu := rl_int ru
            subst eu
            refine ⟨_, ps_aug hc.c.nd hN hloc pe_w hp (.inl (hc.fn x)), .int a, hu, ?_⟩
            refine iE.e hc.c h2 g r (RsP.mono (b1_S h) ?_)
            rintro v H1 ⟨d, S1, μ1, x1, g1, r1, q1⟩
            cases r1 with
            | int i => exact ⟨a, i, rfl, rfl, q1 _ μ1 H1 Ext.refl g1 ((r.ext x1 g).set j (.int _))⟩
            | _ => exact q1.elim
          · exact h.elim
        have h : RsS X.K X.w cls E μ H (match env[j]? with
          | some (some (.int a)) => (run T cl M env S (.e c)).b1 fun d S => augD op a j env d S
          | _ => .bad) D := h
        rcases ho with rfl | rfl
        · refine both _ ip_add ?_
          split at h
          · rename_i a ea
            exact h
          · exact h.elim
        · refine both _ ip_sub ?_
          split at h
          · rename_i a ea
            exact h
          · exact h.elim
      · cases hi
    | del o j =>
      dsimp only at hi
      split at hi
      · rename_i a b p pos
        rw [Bool.and_eq_true] at hi
        obtain ⟨h1, h2⟩ := hi
        have h : RsS X.K X.w cls E μ H ((run T cl M env S (.e o)).b1 fun x S => (run T cl M env S (.e j)).b1 fun y S => (match x, y with
          | .ref n, .int j => (match S.obj n with
            | some (.dki ks ds) => cond (lookI ks ds j).isSome (.nx env (S.setO n (match dropI ks ds j with | (a, b) => .dki a b))) .bad
            | _ => .bad)
          | _, _ => .bad)) D := h
        refine ⟨_, ps_ddel pe_w pe_w, ?_⟩
        refine iE.e hc.c h1 g r (RsP.mono (b1_S h) ?_)
        rintro v1 H1 ⟨d1, S1, μ1, x1, g1, r1, q1⟩
        refine iE.e hc.c h2 g1 (r.ext x1 g) (RsP.mono (b1_S q1) ?_)
        rintro v2 H2 ⟨d2, S2, μ2, x2, g2, r2, q2⟩
        have r1' := Rl.ext x2 g1 r1
        have re := (r.ext x1 g).ext x2 g1
        split at q2
        · rename_i n i
          obtain ⟨aa, rfl, pp⟩ := rl_ref r1'
          have e2 := rl_int r2
          subst e2
          split at q2
          · rename_i ks ds eo
            obtain ⟨o', ho, f1, f2, f3⟩ := g2.at_ _ _ pp
            rw [eo] at f1
            cases f1
            cases f3 with
            | @dki _ _ vs hl rr =>
              cases cc : (lookI ks ds i).isSome with
              | false => rw [cc] at q2; exact q2.elim
              | true =>
                rw [cc] at q2
                have lk : RlOpt X.K μ2 H2 (lookI ks ds i) (valV (kvI ks vs) (.inl i)) := look_I (K := X.K) (μ := μ2) (H := H2) i hl rr
                have is : (valV (kvI ks vs) (.inl i)).isSome = true := by
                  generalize lookI ks ds i = o1 at cc lk
                  generalize valV (kvI ks vs) (Sum.inl i) = o2 at lk
                  cases lk with
                  | none => cases cc
                  | some _ => rfl
                obtain ⟨vs', p1, p2, p3⟩ := drop_I (K := X.K) (μ := μ2) (H := H2) i hl rr
                refine ⟨aa, kvI ks vs, .inl i, rfl, f2, rfl, is, ?_⟩
                rw [p2]
                exact q2 σ μ2 _ (ext_setO pp) (good_setO g2 pp (.dki p3 p1)) (re.ext (ext_setO pp) g2)
          · exact q2.elim
        · exact q2.elim
      · cases hi
theorem allS : ∀ m, AllS T cl cls m := by
  intro m
  induction m using Nat.strongRecOn with
  | ind m ih =>
    cases m with
    | zero =>
      constructor
      · intro X E _ n st c _ env S μ σ H D _ _ h
        exact h.elim
      · intro X E _ n st c _ env S μ σ H D _ _ h
        exact h.elim
    | succ m => exact ⟨allS_s fun k hk => ih k (by omega), allS_ss (ih m (Nat.lt_succ_self m))⟩
end
end EV
set_option Elab.async false
set_option linter.all false
set_option maxRecDepth 100000
set_option maxHeartbeats 4000000
namespace EV
open PySem PySem.Spec PyProof.Rows L2
/-! ## the defs -/
/-- what the written part says of a def -/
structure FnF (T : Tb) (K : PySem.W.Frag) (mg : Str → Option Value) (f : FnE) : Prop where
  ex : ∃ (adr : Addr) (fd : FuncData) (params : Arguments) (body : List Stmt) (scope : Scope) (dvs : List V), FunD K f.name f.name params body scope dvs [] adr fd ∧ FnScope f.N f.ps scope ∧ (∃ n, isSs T n f.N scope body f.body = true) ∧ mg f.name = some (.ref adr) ∧ PySem.W.nsIn K mainGlobals f.name = some (some (.ref adr)) ∧
    (∀ n, n ≤ f.ps.length → f.ps.length ≤ n + f.dfl.length → ∃ dvs ds, VsOf K (f.dfl.drop (n + f.dfl.length - f.ps.length)) dvs ∧ Vals dvs ds ∧ Binds K fd f.ps ds) ∧
    ∀ sh ∈ f.shapes, KBn K fd f.ps sh.1 sh.2.1 (gP Value.none sh.2.2) (gP V.non sh.2.2)
structure EnvT (T : Tb) (P : Program) (w : World) (K : PySem.W.Frag) (mg : Str → Option Value) (base : Heap) (cls : Nat → Addr × Option Str) : Prop where
  fs : ∀ (j : Nat) f, T.fs[j]? = some f → FnF T K mg f
  gcd : ∀ p ∈ T.gcd, mg p.1 = some (.builtin p.2)
  consts : ∀ p ∈ T.consts, ∃ t, mg p.1 = some (.int p.2 t)
  tcs : ∀ p ∈ T.tcs, ∃ a, mg p.1 = some (.ref a) ∧ KTup K a (p.2.map V.int)
  comb : T.comb = true → mg "combinations" = some (.type "itertools.combinations")
  prm : T.prm = true → mg "permutations" = some (.type "itertools.permutations")
  mg0 : ∀ x ∈ (["len", "abs", "int", "bool", "all", "any", "tuple", "list", "range", "zip", "enumerate", "isinstance", "str", "sorted", "min", "sum", "max", "divmod", "set", "dict", "reversed"] : List Str), mg x = none
  mkE : ∀ (X : Cx), X.prog = P → X.w = w → X.K = K → X.mg = mg → X.base = base → Room 3 X.A → X.calm = true → ∀ (j : Nat) x, T.excs[j]? = some x → T.flds[j]? = some none → Gl X x → ∀ p pos, PMk X (.Call (.Name x p) [] [] pos) (fun _ H R => R (.ref (cls j).1) none H)
  mk1 : ∀ (X : Cx), X.prog = P → X.w = w → X.K = K → X.mg = mg → X.base = base → Room 3 X.A → X.calm = true → ∀ (j : Nat) x f, T.excs[j]? = some x → T.flds[j]? = some (some f) → Gl X x → ∀ (e : Expr) (ta : TA) p pos, PA X [e] ta → isStar e = false →
    PMk X (.Call (.Name x p) [e] [] pos) (fun σ H R => ta σ H fun vs H1 => ∃ i : Int, vs = [.int i] ∧ i.natAbs < 1000000000000 ∧ ∀ dx, H1 dx = none → R (.ref (cls j).1) (some dx) (upd H1 dx (.xd [(f, .int i)])))
  fld : ∀ (j : Nat) x, T.excs[j]? = some x → T.flds[j]? = some (cls j).2
  xf : ∀ (j : Nat) x f, T.excs[j]? = some x → (cls j).2 = some f → XfC K (cls j).1 ∧ PySem.W.findIn K (.ref (cls j).1) f = some none
  exm : ∀ (j j' : Nat) x x', T.excs[j]? = some x → T.excs[j']? = some x' → PySem.W.exmOne K (.ref (cls j).1) (.ref (cls j').1) = some (Nat.beq j j')
  mgx : ∀ (j : Nat) x, T.excs[j]? = some x → mg x = some (.ref (cls j).1)
  exC : ∀ (j : Nat) x, T.excs[j]? = some x → ExcC K (cls j).1
  isE : ∀ (j : Nat) l t, T.bases[j]? = some l → t ∈ l → PySem.W.kitOne K (.ref (cls j).1) (.type t) = some true
  bas : ∀ (j : Nat) l, T.bases[j]? = some l → ∃ x, T.excs[j]? = some x
  mgB : ∀ x ∈ errNames, mg x = none
theorem env_start {K : PySem.W.Frag} {μ : List Addr} {H : Hp} (N : List Str) : ∀ {ds : List D} {vs : List V}, RlA K μ H ds vs → EnvR K μ H (ds.map some ++ List.replicate (N.length - ds.length) none) (L2.start N vs) := by
  intro ds vs r
  have hl := r.length
  unfold L2.start
  refine ⟨by simp [hl], fun i d h => ?_⟩
  by_cases hi : i < ds.length
  · rw [List.getElem?_append_left (by simpa using hi), List.getElem?_map] at h
    cases e : ds[i]? with
    | none => rw [e] at h; cases h
    | some d' =>
      rw [e] at h
      cases h
      obtain ⟨v, h1, h2⟩ := r.get e
      refine ⟨v, ?_, h2⟩
      rw [List.getElem?_append_left (by rw [List.length_map, ← hl]; exact hi), List.getElem?_map, h1]
      rfl
  · rw [List.getElem?_append_right (by simpa using hi)] at h
    have := List.mem_of_getElem? h
    rw [List.mem_replicate] at this
    cases this.2
section
variable {T : Tb} {P : Program} {w : World} {K : PySem.W.Frag} {mg : Str → Option Value} {base : Heap} {cls : Nat → Addr × Option Str}
theorem fn_zero {j n : Nat} {adr : Addr} {fd : FuncData} {ps : List Str} (hn : ps.length = n) : FnOk P w K mg base (L2.CX P w) 0 adr fd ps (spR K w cls (runFn T 0) n j) :=
  ⟨fun vs H Q E h => h.1.trans hn.symm, fun A outer s H args us vs Q E hr he hb hv h => by
    obtain ⟨_, μ, S, ds, _, _, h⟩ := h
    exact h.elim⟩
/-- a def at each depth -/
theorem fn_ok (G : EnvT T P w K mg base cls) : ∀ (k : Nat) (A : Around), Room k A → ∀ (j : Nat) f, T.fs[j]? = some f → FnA (runFn T (k - 3)) cls P w K mg base A j f
  | k, A, hr, j, f, hf => by
    obtain ⟨adr, fd, params, body, scope, dvs, F, S, ⟨n, hb⟩, hm, hns, h1, h2⟩ := (G.fs j f hf).ex
    refine ⟨k, adr, fd, ?_, hr, hm, hns, F.kp, h1, h2⟩
    match k with
    | 0 => exact (fn_zero rfl)
    | 1 => exact (fn_zero rfl).mono (by omega)
    | 2 => exact (fn_zero rfl).mono (by omega)
    | 3 => exact (fn_zero rfl).mono (by omega)
    | k + 4 =>
      refine F.ok S (fun vs H Q E h => h.1) (fun cdv A outer s H vs Q E hr h => ?_)
      obtain ⟨hl, μ, S0, ds, g, r, h⟩ := h
      have hds : ds.length = f.ps.length := r.length.trans hl
      have e1 : runFn T (k + 4 - 3) j ds S0 = (match run T (runFn T k) fuel (ds.map some ++ List.replicate (f.N.length - ds.length) none) S0 (.ss f.body) with
        | .ret d S => .ok d S
        | .nx _ S => .ok .non S
        | .exc c as S => .exc c as S
        | _ => .bad) := by
        show runFn T (k + 1) j ds S0 = _
        unfold runFn
        rw [hf]
        dsimp only
        rw [hds, Nat.beq_refl]
        rfl
      rw [e1] at h
      have h : RsS K w cls E μ H (run T (runFn T k) fuel (ds.map some ++ List.replicate (f.N.length - ds.length) none) S0 (.ss f.body)) { nx := fun _ H' => Q .non H', rt := Q } := by
        cases hr0 : run T (runFn T k) fuel (ds.map some ++ List.replicate (f.N.length - ds.length) none) S0 (.ss f.body) with
        | ret d S1 => rw [hr0] at h; exact h
        | nx e S1 =>
          rw [hr0] at h
          exact fun σ' μ' H' x' g' _ => h .non μ' H' x' g' .non
        | exc c as S1 => rw [hr0] at h; exact h
        | _ => rw [hr0] at h; exact h.elim
      refine ⟨_, pss_w, ?_⟩
      refine (allS fuel).ss (n := n) ?_ hb g (env_start f.N r) h
      have tk : Takes (cxOf (L2.CX P w) P w K mg base f.N f.name scope adr cdv A outer s H E) (fun cls d _ H => E cls d H) := takes_of rfl rfl rfl rfl
      refine ⟨⟨rfl, S.nd, S.kind, hr.units, passes_call tk (fun _ _ _ _ h => h), fun j' f' hf' => ?_, G.gcd, G.consts, G.tcs, G.comb, G.prm, G.mg0⟩, fun _ => rfl, passes_of rfl, tk, fun pn xe k' x hx hf hg p pos => ?_, fun pn xe k' x f' hx hf hg e ta p pos ha hs => ?_, G.fld, G.xf, G.exm, G.mgx, G.exC, G.isE, G.bas, G.mgB, rfl, rfl⟩
      · exact fn_ok G (k + 3) _ hr j' f' hf'
      · exact G.mkE (Cx.tr _ pn xe) rfl rfl rfl rfl rfl (hr.mono (by omega)) rfl k' x hx hf hg p pos
      · exact G.mk1 (Cx.tr _ pn xe) rfl rfl rfl rfl rfl (hr.mono (by omega)) rfl k' x f' hx hf hg e ta p pos ha hs
end
end EV
set_option Elab.async false
set_option linter.all false
set_option maxRecDepth 100000
set_option maxHeartbeats 4000000
namespace EV
open PySem PySem.Spec PyProof.Rows L2
/-! ## an own exception without fields -/
section
variable {X : Cx}
theorem del_upd {H : Hp} {a : Addr} {o : HO} (h : H a = none) : del (upd H a o) a = H := by
  funext b
  by_cases e : b = a
  · subst e
    rw [del_same, h]
  · rw [del_ne e, upd_ne e]
theorem mk_end1 {pins : List (Addr × Obj)} {σ : L2.St} {H1 : Hp} {Q : XK} {hp hp2 h2 : Heap} {g1 g2 : Array GenState} {d1 d2 : Drawn} {t1 t2 : Nat} {os1 os2 : OsState} {a C : Addr} (T : Raises X (.ref C)) (I1 : Inv X pins σ H1 ⟨hp, g1, d1, t1, os1⟩)
    (ha : hp.objs.size ≤ a) (k : ∀ b o, hp.get? b = some o → hp2.get? b = some o) (un : Un (frs X.stack) [] (upd H1 a (exo a C none)) (upd H1 a (exo a C none)) hp2 h2) (hok : HOk X.prog X.w (upd H1 a (exo a C none)) h2) (ho : os2 = os1) (hb : AllBare g2)
    (q : Q (.ref C) none H1) : MkP X pins σ Q (.ref a) ⟨h2, g2, d2, t2, os2⟩ := by
  have ea : (upd H1 a (exo a C none)) a = some (exo a C none) := upd_same
  obtain ⟨t0, hoe⟩ := exo_at hok ea
  have hn : H1 a = none := I1.hok.fresh ha
  obtain ⟨G, g1', g2'⟩ := restrict h2 fun b => decide (b ≠ a)
  have gk : ∀ b, b ≠ a → G.get? b = h2.get? b := fun b hb => g1' b (decide_eq_true hb)
  have ge : G.get? a = none := g2' a (by simp)
  have nha : ∀ {b : Addr} {o : Obj}, hp.get? b = some o → b ≠ a := fun {b o} z => Nat.ne_of_lt (Nat.lt_of_lt_of_le (Heap.lt_size z) ha)
  have up : ∀ {b : Addr}, b ≠ a → H1 b = none → upd H1 a (exo a C none) b = none := fun {b} hb n => by rw [upd_ne hb]; exact n
  have U : Un (frs X.stack) [] H1 H1 hp G := {
    keep := fun b o z n hf hx => by
      rw [gk b (nha z)]
      exact un.keep b o (k b o z) (up (nha z) n) hf hx
    slot := fun b o z n hf hx => by
      rw [gk b (nha z)]
      exact un.slot b o (k b o z) (up (nha z) n) hf hx
    free := fun b o z n hx => n
    there := fun b o z hx => by
      rw [gk b (nha z)]
      exact un.there b o (k b o z) hx
    tups := fun b xs z => z
    frzs := fun b o v z => z
    tbls := fun b ps z => ⟨#[], by simpa using z⟩ }
  have hok3 : HOk X.prog X.w H1 G := fun b o z => by
    have hba : b ≠ a := ne_of_none z hn
    have z2 : upd H1 a (exo a C none) b = some o := by rw [upd_ne hba]; exact z
    have noa : ∀ {c : Addr}, upd H1 a (exo a C none) c = some (.own b) → c ≠ a := fun {c} hc => at_ne ea hc exo_own
    exact (hok b o z2).stay (fun c v hc y => by
        have hca : c ≠ a := by
          rcases hc with hc | hc
          · rw [hc]
            exact hba
          · exact noa hc
        rw [gk c hca]
        exact y)
      (fun c hc => by have n := noa hc; rw [upd_ne n] at hc; exact hc) (fun c xs hc => by have n := at_ne ea hc exo_tup; rw [upd_ne n] at hc; exact hc)
  have J : Inv X pins σ H1 ⟨G, g2, d2, t2, os2⟩ := I1.call' (ch := []) ho U hok3 hb (fun b z => absurd z (by simp))
  refine ⟨a, _, _, ⟨G, g2, d2, t2, os2⟩, _, .ref C, none, rfl, J, fun b o z => ?_, ge, hoe, ⟨rfl, rfl⟩, rfl, rfl, hn, rfl, hb, T, q⟩
  by_cases hba : b = a
  · rw [hba, ge] at z
    cases z
  · exact (gk b hba).symm.trans z
def spIni (K : PySem.W.Frag) (C : Addr) : Sp := fun vs H Q _ => ∃ a, vs = [.ref a] ∧ OexC K C ∧ H a = some (exo a C none) ∧ Q .non H
theorem pmk_own0 {CX : CXT} {x : Str} {C fI : Addr} {k : Nat} {fd : FuncData} {p pos : Pos} (T : OexC X.K C) (iC : PySem.W.findIn X.K (.ref C) "__init__" = some (some (.ref fI))) (tI : PySem.W.typeIn X.K (.ref fI) = some (.type "function"))
    (F1 : FnOk X.prog X.w X.K X.mg X.base CX k fI fd ["self"] (spIni X.K C)) (hr : Room (k + 1) X.A) (hb : Binds X.K fd ["self"] []) (hx : Passes CX X (fun _ _ _ => False)) (hg : Gl X x) (hm : X.mg x = some (.ref C))
    (hdb : (x == ("__debug__" : Str)) = false) :
    PMk X (.Call (.Name x p) [] [] pos) (fun _ H R => R (.ref C) none H) := by
  intro pins s σ H Q I h
  obtain ⟨nm, q, N, bs, bm, sn, sub, ab, col, dd, k0, k1, k2, k3, k5, hC, hbm⟩ := T.cls
  refine wpAny_Call_Name_kw (ld_glob I hg hm ?_ hdb)
  refine PySem.W.callWith_K0 I.kIn T.kC ?_
  show wpAny _ _ (call (.ref C) []) _ _ _
  obtain ⟨hp, g, dr, tk, os⟩ := s
  have hsz : hp.objs.size ≤ hp.objs.size + 1 := Nat.le_succ _
  have hn : H (hp.objs.size + 1) = none := I.hok.fresh hsz
  have kk : ∀ b o, hp.get? b = some o → ((hp.push (PySem.W.kdv_tup [])).push (PySem.HandSPX.excO C hp.objs.size)).get? b = some o := fun b o e => Heap.get?_push_of_some _ (Heap.get?_push_of_some _ e)
  have hget : ((hp.push (PySem.W.kdv_tup [])).push (PySem.HandSPX.excO C hp.objs.size)).get? (hp.objs.size + 1) = some (PySem.HandSPX.excO C hp.objs.size) := by heap_get
  have I2 : Inv X pins σ (upd H (hp.objs.size + 1) (exo (hp.objs.size + 1) C none)) ⟨(hp.push (PySem.W.kdv_tup [])).push (PySem.HandSPX.excO C hp.objs.size), g, dr, tk, os⟩ :=
    I.laid (t' := tk) (a := hp.objs.size + 1) (o := exo (hp.objs.size + 1) C none) (h' := (hp.push (PySem.W.kdv_tup [])).push (PySem.HandSPX.excO C hp.objs.size)) kk hsz (exo_ok hget)
  have r2 : Vals [V.ref (hp.objs.size + 1)] [Value.ref (hp.objs.size + 1)] := .cons rfl .nil
  have hq : spIni X.K C [V.ref (hp.objs.size + 1)] (upd H (hp.objs.size + 1) (exo (hp.objs.size + 1) C none)) (fun v H2 => v = .non ∧ H2 = upd H (hp.objs.size + 1) (exo (hp.objs.size + 1) C none)) (fun _ _ _ => False) :=
    ⟨_, rfl, T, upd_same, rfl, rfl⟩
  refine wpAny_call (PySem.HandSPX.call_own F.excBase_ValueError (fun Y => PySem.HandSPX.refsVE_contains Y bm hbm) (I.kIn _ _ hC) (PySem.W.looks_findIn I.kIn iC) (fun self => PySem.W.bind_fn I.kIn self tI) (by rw [sizeLine_eq]; exact Nat.zero_le _)
    (codeAny_mono (F1.run _ X.stack _ _ ⟨[Value.ref (hp.objs.size + 1)], []⟩ [Value.ref (hp.objs.size + 1)] _ _ (fun _ _ _ => False) (hr.make C [] []) (I2.env0.make C [] []) (by simpa using hb _ [Value.ref (hp.objs.size + 1)] I2.kIn rfl) r2 hq) fun r s' hq' => ?_))
  cases r with
  | error er => exact hx pins σ _ _ er s' I2 hq'
  | ok fl =>
    cases fl with
    | ret u =>
      obtain ⟨v, H2, os2, bare2, un2, hok2, rv, ev, eH⟩ := hq'
      subst ev
      subst eH
      obtain ⟨h2, g2, d2, t2, os'⟩ := s'
      exact ⟨rv, mk_end1 (raises_own T.exC T.tyC) I hsz kk un2 hok2 os2 bare2 h⟩
    | next => exact False.elim hq'
    | brk => exact False.elim hq'
    | cont => exact False.elim hq'
end
end EV
set_option Elab.async false
set_option linter.all false
set_option maxRecDepth 100000
set_option maxHeartbeats 4000000
namespace EV
open PySem PySem.Spec PyProof.Rows L2
/-! ## a def of the text -/
structure DefR (K : PySem.W.Frag) (st : Stmt) (x : Str) : Prop where
  ex : ∃ (f : Addr) (oc : Value) (od : Option Addr) (kV doc pm : Value) (an : Option Addr) (cdv ct : Value) (osl : Array (Option Value)),
    PySem.W.nsIn K mainGlobals x = some (some (.ref f)) ∧ K.lookup f = some ⟨oc, od, .func (PySem.W.fnOf x x (defArgs st) (defBody st) (defScope st) .none kV doc pm an cdv ct), osl⟩ ∧ PySem.W.codeIn K cdv x = true ∧ PySem.W.keepIn K (.ref f) = true
theorem defR_mk {K : PySem.W.Frag} {st : Stmt} {x : Str} {f : Addr} {oc : Value} {od an : Option Addr} {osl : Array (Option Value)} {kV doc pm cdv ct : Value} (a : PySem.W.nsIn K mainGlobals x = some (some (.ref f)))
    (l : K.lookup f = some ⟨oc, od, .func (PySem.W.fnOf x x (defArgs st) (defBody st) (defScope st) .none kV doc pm an cdv ct), osl⟩) (c : PySem.W.codeIn K cdv x = true) (k : PySem.W.keepIn K (.ref f) = true) : DefR K st x :=
  ⟨f, oc, od, kV, doc, pm, an, cdv, ct, osl, a, l, c, k⟩
/-- the same with defaults -/
structure DefRD (K : PySem.W.Frag) (st : Stmt) (x : Str) (dvs : List V) : Prop where
  ex : ∃ (f : Addr) (oc : Value) (od : Option Addr) (dT : Addr) (dO : Obj) (its : List Value) (dn : Nat) (kV doc pm : Value) (an : Option Addr) (cdv ct : Value) (osl : Array (Option Value)),
    PySem.W.nsIn K mainGlobals x = some (some (.ref f)) ∧ K.lookup f = some ⟨oc, od, .func (PySem.W.fnOf x x (defArgs st) (defBody st) (defScope st) (.ref dT) kV doc pm an cdv ct), osl⟩ ∧ PySem.W.codeIn K cdv x = true ∧ PySem.W.keepIn K (.ref f) = true ∧
    K.lookup dT = some dO ∧ dO.data = .seq its.toArray dn ∧ Vals dvs its
theorem defRD_mk {K : PySem.W.Frag} {st : Stmt} {x : Str} {dvs : List V} {f dT : Addr} {oc : Value} {od od2 an : Option Addr} {osl osl2 : Array (Option Value)} {oc2 kV doc pm cdv ct : Value} {its : List Value} {dn : Nat} (a : PySem.W.nsIn K mainGlobals x = some (some (.ref f)))
    (l : K.lookup f = some ⟨oc, od, .func (PySem.W.fnOf x x (defArgs st) (defBody st) (defScope st) (.ref dT) kV doc pm an cdv ct), osl⟩) (c : PySem.W.codeIn K cdv x = true) (k : PySem.W.keepIn K (.ref f) = true)
    (l2 : K.lookup dT = some ⟨oc2, od2, .seq its.toArray dn, osl2⟩) (r : Vals dvs its) : DefRD K st x dvs :=
  ⟨f, oc, od, dT, _, its, dn, kV, doc, pm, an, cdv, ct, osl, a, l, c, k, l2, rfl, r⟩
theorem relV_non : RelV V.non Value.none := by constructor
theorem vals_getD {zs : List V} {ws : List Value} (r : Vals zs ws) (i : Nat) : RelV (zs.getD i V.non) (ws.getD i Value.none) := by
  induction r generalizing i with
  | nil => simpa using relV_non
  | cons h t ih => cases i with
    | zero => exact h
    | succ i => simpa using ih i
theorem vals_map {zs : List V} {ws : List Value} (r : Vals zs ws) : ∀ perm : List Nat, Vals (perm.map fun i => zs.getD i V.non) (perm.map fun i => ws.getD i Value.none)
  | [] => .nil
  | i :: p => .cons (vals_getD r i) (vals_map r p)
theorem gP_rel {vs : List V} {us : List Value} {zs : List V} {ws : List Value} (perm : List Nat) (r : Vals vs us) (q : Vals zs ws) : Vals (gP V.non perm vs zs) (gP Value.none perm us ws) := r.append (vals_map q perm)
section
variable {T : Tb} {K : PySem.W.Frag} {mg : Str → Option Value} {f : FnE} {st : Stmt} {h : Heap}
theorem fnf_mk (n : Nat) (X : K.In h) (G : h.Ns mainGlobals mg) (R : DefR K st f.name) (S : FnScope f.N f.ps (defScope st)) (b : isSs T n f.N (defScope st) (defBody st) f.body = true) (dfl : f.dfl = [])
    (bs : ∀ (kV doc pm : Value) (an : Option Addr) (cdv ct : Value) (us : List Value), us.length = f.ps.length → bindArgs (PySem.W.fnOf f.name f.name (defArgs st) (defBody st) (defScope st) .none kV doc pm an cdv ct) ⟨us, []⟩ = pure (f.ps.zip us))
    (sh : ∀ (kV doc pm : Value) (an : Option Addr) (cdv ct : Value), ∀ q ∈ f.shapes, ∀ us ws : List Value, us.length = q.1 → ws.length = q.2.1.length → bindArgs (PySem.W.fnOf f.name f.name (defArgs st) (defBody st) (defScope st) .none kV doc pm an cdv ct) ⟨us, q.2.1.zip ws⟩ = pure (f.ps.zip (gP Value.none q.2.2 us ws))) :
    FnF T K mg f := by
  obtain ⟨adr, oc, od, kV, doc, pm, an, cdv, ct, osl, a, l, c, k⟩ := R.ex
  refine ⟨adr, _, defArgs st, defBody st, defScope st, [], ⟨⟨oc, od, .none, kV, doc, pm, an, cdv, ct, osl, rfl, l, c, .inl ⟨rfl, rfl⟩, .inl rfl⟩, k⟩, S, ⟨n, b⟩, PySem.W.mg_of X G a, a, fun m h1 h2 => ?_, fun q hq => ?_⟩
  · rw [dfl] at h2 ⊢
    simp at h2
    refine ⟨[], [], fun _ _ => by simpa using RlA.nil, .nil, .all fun us hu => bs _ _ _ _ _ _ us hu⟩
  · exact ⟨fun s us ws _ h1 h2 => .of_eq (sh _ _ _ _ _ _ q hq us ws h1 h2), fun r q2 => gP_rel _ r q2⟩
/-- one default at the end -/
theorem fnf_mkD (n : Nat) (d : D) (v : V) (X : K.In h) (G : h.Ns mainGlobals mg) (R : DefRD K st f.name [v]) (S : FnScope f.N f.ps (defScope st)) (b : isSs T n f.N (defScope st) (defBody st) f.body = true) (dfl : f.dfl = [d]) (sh : f.shapes = [])
    (rl : ∀ μ H, Rl K μ H d v)
    (b0 : ∀ (dT : Addr) (kV doc pm : Value) (an : Option Addr) (cdv ct : Value) (us its : List Value), us.length = f.ps.length → its.length = 1 → ∃ k, bindArgs (PySem.W.fnOf f.name f.name (defArgs st) (defBody st) (defScope st) (.ref dT) kV doc pm an cdv ct) ⟨us, []⟩ = seqItems? (.ref dT) >>= k ∧ k (some its.toArray) = pure (f.ps.zip us))
    (b1 : ∀ (dT : Addr) (kV doc pm : Value) (an : Option Addr) (cdv ct : Value) (us its : List Value), us.length + 1 = f.ps.length → its.length = 1 → ∃ k, bindArgs (PySem.W.fnOf f.name f.name (defArgs st) (defBody st) (defScope st) (.ref dT) kV doc pm an cdv ct) ⟨us, []⟩ = seqItems? (.ref dT) >>= k ∧ k (some its.toArray) = pure (f.ps.zip (us ++ its))) :
    FnF T K mg f := by
  obtain ⟨adr, oc, od, dT, dO, its, dn, kV, doc, pm, an, cdv, ct, osl, a, l, c, k, l2, e2, r2⟩ := R.ex
  have F : FunD K f.name f.name (defArgs st) (defBody st) (defScope st) [v] [] adr _ := ⟨⟨oc, od, .ref dT, kV, doc, pm, an, cdv, ct, osl, rfl, l, c, .inr ⟨by simp, dT, dO, its, dn, rfl, l2, e2, r2⟩, .inl rfl⟩, k⟩
  refine ⟨adr, _, defArgs st, defBody st, defScope st, [v], F, S, ⟨n, b⟩, PySem.W.mg_of X G a, a, fun m h1 h2 => ?_, fun q hq => ?_⟩
  · rw [dfl] at h2 ⊢
    simp at h2
    rcases Nat.lt_or_ge m f.ps.length with hm | hm
    · have e : m + 1 = f.ps.length := by omega
      obtain ⟨ds, v1, v2⟩ := F.binds1 (ps := f.ps) m 0 (by simp) (by simpa using e) (fun T kV doc pm an cdv ct us its hu hi => by
        have hi : its.length = 1 := by simpa using hi
        simpa using b1 T kV doc pm an cdv ct us its (by omega) hi)
      refine ⟨[v], ds, fun μ H => ?_, v1, v2⟩
      rw [show m + [d].length - f.ps.length = 0 by simp; omega]
      exact .cons (rl μ H) .nil
    · have e : m = f.ps.length := by omega
      obtain ⟨ds, v1, v2⟩ := F.binds1 (ps := f.ps) m 1 (by simp) (by simpa using e) (fun T kV doc pm an cdv ct us its hu hi => by
        have hi : its.length = 1 := by simpa using hi
        obtain ⟨k, q1, q2⟩ := b0 T kV doc pm an cdv ct us its (by omega) hi
        refine ⟨k, q1, ?_⟩
        rw [q2, show its.drop 1 = [] from (match its, hi with | [_], _ => rfl), List.append_nil])
      refine ⟨[], ds, fun μ H => ?_, v1, v2⟩
      rw [show m + [d].length - f.ps.length = 1 by simp; omega]
      exact .nil
  · rw [sh] at hq
    cases hq
end
end EV
set_option Elab.async false
set_option linter.all false
set_option maxRecDepth 100000
set_option maxHeartbeats 4000000
namespace EV
open PySem PySem.Spec PyProof.Rows L2
theorem getq_nil {α : Type} {P : Nat → α → Prop} : ∀ (j : Nat) x, ([] : List α)[j]? = some x → P j x := fun j x h => by simp at h
theorem getq_cons {α : Type} {P : Nat → α → Prop} {a : α} {l : List α} (h0 : P 0 a) (h1 : ∀ (j : Nat) x, l[j]? = some x → P (j + 1) x) : ∀ (j : Nat) x, (a :: l)[j]? = some x → P j x
  | 0, x, h => by
    cases h
    exact h0
  | j + 1, x, h => h1 j x (by simpa using h)
/-! ## __init__ of an own exception without fields -/
def iniArgs (p : Pos) : Arguments := { posonlyargs := [], args := [{ arg := "self", annotation := none, pos := p : PySem.Arg }], vararg := none, kwonlyargs := [], kw_defaults := [], kwarg := none, defaults := [] }
def iniBody (p1 p2 p3 p4 p5 : Pos) : List Stmt := [.Expr (.Call (.Attribute (.Name "ValueError" p1) "__init__" p2) [.Name "self" p3] [] p4) p5]
def iniScope : Scope := { kind := .function, names := [("self", .local), ("ValueError", .globalImplicit)], isGenerator := false, isCoroutine := false, more := [] }
theorem iniS : FnScope ["self"] ["self"] iniScope := ⟨rfl, rfl, rfl, by decide +kernel, rfl, by decide +kernel, by decide +kernel⟩
structure ClsF (K : PySem.W.Frag) (mg : Str → Option Value) (C : Addr) (x : Str) : Prop where
  o : OexC K C
  m : mg x = some (.ref C)
  ec : ExcC K C
  nd : (x == ("__debug__" : Str)) = false
  ini : ∃ (fI : Addr) (q : Str) (p p1 p2 p3 p4 p5 : Pos) (oc : Value) (od an : Option Addr) (osl : Array (Option Value)) (kV doc pm cdv ct : Value), (p2.endLine == p4.line) = true ∧ PySem.W.findIn K (.ref C) "__init__" = some (some (.ref fI)) ∧ PySem.W.typeIn K (.ref fI) = some (.type "function") ∧
    K.lookup fI = some ⟨oc, od, .func (PySem.W.fnOf "__init__" q (iniArgs p) (iniBody p1 p2 p3 p4 p5) iniScope .none kV doc pm an cdv ct), osl⟩ ∧ PySem.W.codeIn K cdv q = true ∧ PySem.W.keepIn K (.ref fI) = true
theorem clsF_mk {K : PySem.W.Frag} {mg : Str → Option Value} {h : Heap} (X : K.In h) (G : h.Ns mainGlobals mg) {x : Str} {C fI N : Addr} {q nm q0 : Str} {p p1 p2 p3 p4 p5 : Pos} {bs sub : List Value} {bm : List Value} {sn : List Str} {ab : Bool} {col : Option Bool} {dd : Option Addr} {m0 m1 m2 m3 m5 : Option Value}
    {oc kV doc pm cdv ct : Value} {od an : Option Addr} {osl : Array (Option Value)}
    (a : PySem.W.nsIn K mainGlobals x = some (some (.ref C)))
    (xL : K.lookup C = some (excClassObj nm q0 C N bs bm true sn sub ab col dd m0 m1 m2 m3 m5 "ValueError.__new__")) (bV : PySem.HandSPX.refsVE bm = true)
    (sa : PySem.W.findIn K (.ref C) "__setattr__" = some (some (.builtin "object.__setattr__")))
    (eC : PySem.W.subIn K (.ref C) (.type "BaseException") = some true) (tC : PySem.W.typeIn K (.ref C) = some (.type "type")) (kC : PySem.W.keepIn K (.ref C) = true)
    (iC : PySem.W.findIn K (.ref C) "__init__" = some (some (.ref fI))) (tI : PySem.W.typeIn K (.ref fI) = some (.type "function"))
    (lI : K.lookup fI = some ⟨oc, od, .func (PySem.W.fnOf "__init__" q (iniArgs p) (iniBody p1 p2 p3 p4 p5) iniScope .none kV doc pm an cdv ct), osl⟩) (cI : PySem.W.codeIn K cdv q = true) (kI : PySem.W.keepIn K (.ref fI) = true) (hl : (p2.endLine == p4.line) = true)
    (hg : PySem.W.findIn K (.ref C) "__getattribute__" = some (some (.builtin "BaseException.__getattribute__"))) (hk : PySem.W.findIn K (.ref C) "__getattr__" = some none) (hd : PySem.W.hasDictIn K C = true)
    (ha : PySem.W.findIn K (.ref C) "__class__" = some (some (.builtin "object.__class__"))) (hn : PySem.W.specialIn K (.builtin "object.__class__") "__get__" = some (some (.builtin "getset_descriptor.__get__"))) (ht : PySem.W.takesIn K (.builtin "object.__class__") = some true)
    (hm : PySem.W.mroIn K C (.type "object") = some true) (nd : (x == ("__debug__" : Str)) = false) : ClsF K mg C x :=
  ⟨⟨⟨nm, q0, N, bs, bm, sn, sub, ab, col, dd, m0, m1, m2, m3, m5, xL, bV⟩, sa, eC, tC, kC⟩, PySem.W.mg_of X G a, ⟨hg, hk, eC, hd, ha, hn, ht, hm⟩, nd, ⟨fI, q, p, p1, p2, p3, p4, p5, oc, od, an, osl, kV, doc, pm, cdv, ct, hl, iC, tI, lI, cI, kI⟩⟩
section
variable {K : PySem.W.Frag} {mg : Str → Option Value} {C : Addr} {x : Str}
theorem ini_ok {P : Program} {w : World} {base : Heap} {fI : Addr} {q : Str} {p p1 p2 p3 p4 p5 : Pos} {fd : FuncData} (F : FunD K "__init__" q (iniArgs p) (iniBody p1 p2 p3 p4 p5) iniScope [] [] fI fd) (hl : (p2.endLine == p4.line) = true) (hm : mg "ValueError" = none)
    (vV : PySem.W.findCls K (.type "ValueError") (.type "type") "__init__" = some (.val (.builtin "ValueError.__init__"))) : FnOk P w K mg base CX0 1 fI fd ["self"] (spIni K C) := by
  refine F.ok iniS (fun vs H Q E h => ?_) (fun cdv A outer s H vs Q E hr h => ?_)
  · obtain ⟨a, rfl, _⟩ := h
    rfl
  · obtain ⟨a, rfl, T, ha, q'⟩ := h
    refine ⟨_, pss_one (ps_expr (pe_veinit (pl := (do return (← importBound (.Name "ValueError" p1) (cxOf CX0 P w K mg base ["self"] q iniScope fI cdv A outer s H E).env).getD true)) (by rfl) hm vV (pa_cons (pv 0) pa_nil) ?_)), ?_⟩
    · have e0 : ∀ env, methodCallPos true (.Name "ValueError" p1) env p2 p4 = pure p4 := fun env => by
        unfold methodCallPos
        rw [hl]
        rfl
      show (eval (.Name "ValueError" p1) _ >>= fun ov => standAt p2.atName >>= fun _ => (holding [ov] (calleeOf true (.Name "ValueError" p1) _ ov "__init__") >>= fun r => methodCallPos true (.Name "ValueError" p1) _ p2 p4 >>= fun cp => callWith cp r.1 r.2 _ _)) = _
      simp only [e0, pure_bind]
      rfl
    exact ⟨.ref a, rfl, a, C, [], rfl, by decide, T, ha, q'⟩
theorem ClsF.make {P : Program} {w : World} {base : Heap} (F : ClsF K mg C x) (hm : mg "ValueError" = none) (vV : PySem.W.findCls K (.type "ValueError") (.type "type") "__init__" = some (.val (.builtin "ValueError.__init__")))
    (X : Cx) (e1 : X.prog = P) (e2 : X.w = w) (e3 : X.K = K) (e4 : X.mg = mg) (e5 : X.base = base) (hr : Room 3 X.A) (hg : Gl X x) (p pos : Pos) : PMk X (.Call (.Name x p) [] [] pos) (fun _ H R => R (.ref C) none H) := by
  obtain ⟨fI, q, p0, p1, p2, p3, p4, p5, oc, od, an, osl, kV, doc, pm, cdv, ct, hl, iC, tI, lI, cI, kI⟩ := F.ini
  subst e3 e4
  have FF : FunD X.K "__init__" q (iniArgs p0) (iniBody p1 p2 p3 p4 p5) iniScope [] [] fI (PySem.W.fnOf "__init__" q (iniArgs p0) (iniBody p1 p2 p3 p4 p5) iniScope .none kV doc pm an cdv ct) :=
    ⟨⟨oc, od, .none, kV, doc, pm, an, cdv, ct, osl, rfl, lI, cI, .inl ⟨rfl, rfl⟩, .inl rfl⟩, kI⟩
  exact pmk_own0 (CX := CX0) F.o iC tI (ini_ok FF hl hm vV) (hr.mono (by omega)) (FF.bindsN fun _ _ _ _ _ _ us hl => match us, hl with | [_], _ => rfl) pass0 hg F.m F.nd
end
/-! ## an own exception with one field -/
def xArgs (f : Str) (p pa : Pos) : Arguments := { posonlyargs := [], args := [{ arg := "self", annotation := none, pos := p : PySem.Arg }, { arg := f, annotation := none, pos := pa : PySem.Arg }], vararg := none, kwonlyargs := [], kw_defaults := [], kwarg := none, defaults := [] }
structure XPos where
  (p1 p2 p3 p4 p5 p6 p7 p8 p9 pj pc pv pf : Pos)
  (k : Nat)
def xBody (B f pre : Str) (o : XPos) : List Stmt := [.Expr (.Call (.Attribute (.Name B o.p1) "__init__" o.p2) [.Name "self" o.p3, .JoinedStr [.Constant (.str pre) o.k o.pc, .FormattedValue (.Name f o.pv) (-1) none o.pf] o.pj] [] o.p4) o.p5,
  .Assign [.Attribute (.Name "self" o.p6) f o.p7] (.Name f o.p8) o.p9]
def xScope (B f : Str) : Scope := { kind := .function, names := [("self", .local), (f, .local), (B, .globalImplicit)], isGenerator := false, isCoroutine := false, more := [] }
structure ClsX (K : PySem.W.Frag) (mg : Str → Option Value) (C : Addr) (x : Str) (B : String) (f : Str) : Prop where
  o : OexB K C B
  m : mg x = some (.ref C)
  ec : ExcC K C
  nd : (x == ("__debug__" : Str)) = false
  no : PySem.W.findIn K (.ref C) f = some none
  sc : FnScope ["self", f] ["self", f] (xScope (Str.ofString B) f)
  fd : (f == ("__debug__" : Str)) = false ∧ (f == ("__classdict__" : Str)) = false
  bi : ∀ (q pre : Str) (p pa : Pos) (o : XPos) (kV doc pm : Value) (an : Option Addr) (cdv ct : Value) (us : List Value), us.length = 2 → bindArgs (PySem.W.fnOf "__init__" q (xArgs f p pa) (xBody (Str.ofString B) f pre o) (xScope (Str.ofString B) f) .none kV doc pm an cdv ct) ⟨us, []⟩ = pure ((["self", f] : List Str).zip us)
  ini : ∃ (fI : Addr) (q pre : Str) (p pa : Pos) (o : XPos) (oc : Value) (od an : Option Addr) (osl : Array (Option Value)) (kV doc pm cdv ct : Value), (o.p2.endLine == o.p4.line) = true ∧ pre.length ≤ 200 ∧ PySem.W.findIn K (.ref C) "__init__" = some (some (.ref fI)) ∧ PySem.W.typeIn K (.ref fI) = some (.type "function") ∧
    K.lookup fI = some ⟨oc, od, .func (PySem.W.fnOf "__init__" q (xArgs f p pa) (xBody (Str.ofString B) f pre o) (xScope (Str.ofString B) f) .none kV doc pm an cdv ct), osl⟩ ∧ PySem.W.codeIn K cdv q = true ∧ PySem.W.keepIn K (.ref fI) = true
def xBodyE (B f pre : Str) (k : Nat) (p1 p2 p3 p4 p5 p6 p7 p8 p9 pj pc pv pf : Pos) : List Stmt := [.Expr (.Call (.Attribute (.Name B p1) "__init__" p2) [.Name "self" p3, .JoinedStr [.Constant (.str pre) k pc, .FormattedValue (.Name f pv) (-1) none pf] pj] [] p4) p5,
  .Assign [.Attribute (.Name "self" p6) f p7] (.Name f p8) p9]
theorem clsX_mk {K : PySem.W.Frag} {mg : Str → Option Value} {h : Heap} (X : K.In h) (G : h.Ns mainGlobals mg) {x f pre : Str} {B nw : String} {C fI N : Addr} {q nm q0 : Str} {k : Nat} {p pa p1 p2 p3 p4 p5 p6 p7 p8 p9 pj pc pv pf : Pos} {bs sub : List Value} {bm : List Value} {sn : List Str} {ab : Bool} {col : Option Bool} {dd : Option Addr} {m0 m1 m2 m3 m5 : Option Value}
    {oc kV doc pm cdv ct : Value} {od an : Option Addr} {osl : Array (Option Value)}
    (a : PySem.W.nsIn K mainGlobals x = some (some (.ref C)))
    (xL : K.lookup C = some (excClassObj nm q0 C N bs bm true sn sub ab col dd m0 m1 m2 m3 m5 nw)) (eb : bm = tailOf B) (en : nw = newOf B)
    (sa : PySem.W.findIn K (.ref C) "__setattr__" = some (some (.builtin "object.__setattr__")))
    (eC : PySem.W.subIn K (.ref C) (.type "BaseException") = some true) (tC : PySem.W.typeIn K (.ref C) = some (.type "type")) (kC : PySem.W.keepIn K (.ref C) = true)
    (iC : PySem.W.findIn K (.ref C) "__init__" = some (some (.ref fI))) (tI : PySem.W.typeIn K (.ref fI) = some (.type "function"))
    (lI : K.lookup fI = some ⟨oc, od, .func (PySem.W.fnOf "__init__" q (xArgs f p pa) (xBodyE (Str.ofString B) f pre k p1 p2 p3 p4 p5 p6 p7 p8 p9 pj pc pv pf) (xScope (Str.ofString B) f) .none kV doc pm an cdv ct), osl⟩) (cI : PySem.W.codeIn K cdv q = true) (kI : PySem.W.keepIn K (.ref fI) = true) (hl : (p2.endLine == p4.line) = true) (hpre : pre.length ≤ 200)
    (hg : PySem.W.findIn K (.ref C) "__getattribute__" = some (some (.builtin "BaseException.__getattribute__"))) (hk : PySem.W.findIn K (.ref C) "__getattr__" = some none) (hd : PySem.W.hasDictIn K C = true)
    (ha : PySem.W.findIn K (.ref C) "__class__" = some (some (.builtin "object.__class__"))) (hn : PySem.W.specialIn K (.builtin "object.__class__") "__get__" = some (some (.builtin "getset_descriptor.__get__"))) (ht : PySem.W.takesIn K (.builtin "object.__class__") = some true)
    (hm : PySem.W.mroIn K C (.type "object") = some true) (no : PySem.W.findIn K (.ref C) f = some none) (nd : (x == ("__debug__" : Str)) = false)
    (sc : FnScope ["self", f] ["self", f] (xScope (Str.ofString B) f)) (fd : (f == ("__debug__" : Str)) = false ∧ (f == ("__classdict__" : Str)) = false)
    (bi : ∀ (q pre : Str) (p pa : Pos) (o : XPos) (kV doc pm : Value) (an : Option Addr) (cdv ct : Value) (us : List Value), us.length = 2 → bindArgs (PySem.W.fnOf "__init__" q (xArgs f p pa) (xBody (Str.ofString B) f pre o) (xScope (Str.ofString B) f) .none kV doc pm an cdv ct) ⟨us, []⟩ = pure ((["self", f] : List Str).zip us)) : ClsX K mg C x B f := by
  subst eb en
  exact ⟨⟨⟨nm, q0, N, bs, sn, sub, ab, col, dd, m0, m1, m2, m3, m5, xL⟩, sa, eC, tC, kC⟩, PySem.W.mg_of X G a, ⟨hg, hk, eC, hd, ha, hn, ht, hm⟩, nd, no, sc, fd, bi, ⟨fI, q, pre, p, pa, ⟨p1, p2, p3, p4, p5, p6, p7, p8, p9, pj, pc, pv, pf, k⟩, oc, od, an, osl, kV, doc, pm, cdv, ct, hl, hpre, iC, tI, lI, cI, kI⟩⟩
def spX (K : PySem.W.Frag) (C : Addr) (B : String) (f : Str) : Sp := fun vs H Q _ => ∃ (a : Addr) (i : Int), vs = [.ref a, .int i] ∧ i.natAbs < 1000000000000 ∧ OexB K C B ∧ PySem.W.findIn K (.ref C) f = some none ∧ H a = some (exo a C none) ∧
  ∀ dx, H dx = none → dx ≠ a → Q .non (upd (upd H dx (exd dx [(f, .int i)])) a (exo a C (some dx)))
section
variable {K : PySem.W.Frag} {mg : Str → Option Value} {C : Addr} {x : Str} {B : String} {f : Str}
theorem str_app (x y : Str) : (x ++ y).length ≤ x.length + y.length := by
  show (x.cps ++ y.cps).size ≤ x.cps.size + y.cps.size
  rw [Array.size_append]
  exact Nat.le_refl _
theorem log_lt {i : Int} (h : i.natAbs < 1000000000000) : i.natAbs.log2 < 1920 := by
  by_cases z : i.natAbs = 0
  · rw [z]; decide
  · have := (Nat.log2_lt z).mpr (Nat.lt_of_lt_of_le h (by decide : 1000000000000 ≤ 2 ^ 40))
    omega
theorem iniX_ok {P : Program} {w : World} {base : Heap} {fI : Addr} {q pre : Str} {p pa : Pos} {o : XPos} {fd : FuncData} (BO : BaseOk B) (F : FunD K "__init__" q (xArgs f p pa) (xBody (Str.ofString B) f pre o) (xScope (Str.ofString B) f) [] [] fI fd) (S : FnScope ["self", f] ["self", f] (xScope (Str.ofString B) f)) (hl : (o.p2.endLine == o.p4.line) = true)
    (hpre : pre.length ≤ 200) (fd1 : (f == ("__debug__" : Str)) = false) (fd2 : (f == ("__classdict__" : Str)) = false) (gB : (xScope (Str.ofString B) f).names.lookup (Str.ofString B) = some .globalImplicit) (gF : (xScope (Str.ofString B) f).names.lookup f = some .local)
    (hm : mg (Str.ofString B) = none) (hv : bootBuiltins (Str.ofString B) = some (.type B)) (nn : (Str.ofString B) ≠ ("__name__" : Str)) (nd : ((Str.ofString B) == ("__debug__" : Str)) = false)
    (vV : PySem.W.findCls K (.type B) (.type "type") "__init__" = some (.val (.builtin (iniOf B)))) : FnOk P w K mg base CX0 1 fI fd ["self", f] (spX K C B f) := by
  refine F.ok S (fun vs H Q E h => ?_) (fun cdv A outer s H vs Q E hr h => ?_)
  · obtain ⟨a, i, rfl, _⟩ := h
    rfl
  · obtain ⟨a, i, rfl, hi, T, hno, ha, q'⟩ := h
    have vf : ∀ {pos : Pos}, PE (cxOf CX0 P w K mg base ["self", f] q (xScope (Str.ofString B) f) fI cdv A outer s H E) (.Name f pos) (tVar 1) := fun {pos} => pe_var rfl (.inl gF) fd1 fd2
    have js : PE (cxOf CX0 P w K mg base ["self", f] q (xScope (Str.ofString B) f) fI cdv A outer s H E) (.JoinedStr [.Constant (.str pre) o.k o.pc, .FormattedValue (.Name f o.pv) (-1) none o.pf] o.pj) _ := pe_joined (PJ.cons pe_str (PJ.cons (pe_fmt vf) .nil))
    have cl : PE (cxOf CX0 P w K mg base ["self", f] q (xScope (Str.ofString B) f) fI cdv A outer s H E) (.Call (.Attribute (.Name (Str.ofString B) o.p1) "__init__" o.p2) [.Name "self" o.p3, .JoinedStr [.Constant (.str pre) o.k o.pc, .FormattedValue (.Name f o.pv) (-1) none o.pf] o.pj] [] o.p4) _ :=
      pe_iniB (pl := (do return (← importBound (.Name (Str.ofString B) o.p1) (cxOf CX0 P w K mg base ["self", f] q (xScope (Str.ofString B) f) fI cdv A outer s H E).env).getD true)) BO gB hm hv nn nd vV (pa_cons (pv 0) (pa_cons js pa_nil)) (by
        have e0 : ∀ env, methodCallPos true (.Name (Str.ofString B) o.p1) env o.p2 o.p4 = pure o.p4 := fun env => by
          unfold methodCallPos
          rw [hl]
          rfl
        show (eval (.Name (Str.ofString B) o.p1) _ >>= fun ov => standAt o.p2.atName >>= fun _ => (holding [ov] (calleeOf true (.Name (Str.ofString B) o.p1) _ ov "__init__") >>= fun r => methodCallPos true (.Name (Str.ofString B) o.p1) _ o.p2 o.p4 >>= fun cp => callWith cp r.1 r.2 _ _)) = _
        simp only [e0, pure_bind]
        rfl) (by rfl) (by rfl)
    refine ⟨_, pss_cons (ps_expr cl) (pss_one (ps_fld1 BO (pv 0) vf (by rfl))), ?_⟩
    refine ⟨.ref a, rfl, pre, rfl, ?_, ⟨.int i, rfl, .inr ⟨i, rfl, log_lt hi, Str.ofString (toString i), rfl, ?_, ?_⟩⟩⟩
    · have := str_app Str.empty pre
      have e0 : Str.empty.length = 0 := rfl
      rw [sizeLine_eq]
      omega
    · have a1 := str_app (Str.empty ++ pre) (Str.ofString (toString i))
      have a2 := str_app Str.empty pre
      have e0 : Str.empty.length = 0 := rfl
      have a3 := PyProof.Rows.int_text_len_1921 (log_lt hi)
      rw [sizeLine_eq]
      omega
    · exact ⟨a, C, [_], rfl, (show 1 ≤ 1000 by decide), T, ha, .int i, rfl, .ref a, rfl, a, C, rfl, T, hno, ha, fun dx n1 n2 => q' dx n1 n2⟩
/-- what is reached may be more -/
def moreA (ta : TA) : TA := fun σ H Q => ∃ Q0, ta σ H Q0 ∧ ∀ vs H', Q0 vs H' → Q vs H'
theorem pa_more {X : Cx} {es : List Expr} {ta : TA} (h : PA X es ta) : PA X es (moreA ta) := ⟨fun pos pins s σ H Q I q => by
  obtain ⟨Q0, q, k⟩ := q
  exact thn (h.run pos pins s σ H Q0 I q) fun us s1 ⟨vs, H1, I1, r1, z⟩ => ⟨vs, H1, I1, r1, k vs H1 z⟩⟩
theorem ClsX.make {P : Program} {w : World} {base : Heap} (BO : BaseOk B) (F : ClsX K mg C x B f) (hm : mg (Str.ofString B) = none) (vV : PySem.W.findCls K (.type B) (.type "type") "__init__" = some (.val (.builtin (iniOf B))))
    (gB : (xScope (Str.ofString B) f).names.lookup (Str.ofString B) = some .globalImplicit) (gF : (xScope (Str.ofString B) f).names.lookup f = some .local) (hv : bootBuiltins (Str.ofString B) = some (.type B)) (nn : (Str.ofString B) ≠ ("__name__" : Str)) (nd : ((Str.ofString B) == ("__debug__" : Str)) = false)
    (X : Cx) (e1 : X.prog = P) (e2 : X.w = w) (e3 : X.K = K) (e4 : X.mg = mg) (e5 : X.base = base) (hr : Room 3 X.A) (hg : Gl X x) (e : Expr) (ta : TA) (p pos : Pos) (ha : PA X [e] ta) (hs : isStar e = false) :
    PMk X (.Call (.Name x p) [e] [] pos) (fun σ H R => ta σ H fun vs H1 => ∃ i : Int, vs = [.int i] ∧ i.natAbs < 1000000000000 ∧ ∀ dx, H1 dx = none → R (.ref C) (some dx) (upd H1 dx (.xd [(f, .int i)]))) := by
  obtain ⟨fI, q, pre, p0, pa, o, oc, od, an, osl, kV, doc, pm, cdv, ct, hl, hpre, iC, tI, lI, cI, kI⟩ := F.ini
  subst e3 e4
  have FF : FunD X.K "__init__" q (xArgs f p0 pa) (xBody (Str.ofString B) f pre o) (xScope (Str.ofString B) f) [] [] fI (PySem.W.fnOf "__init__" q (xArgs f p0 pa) (xBody (Str.ofString B) f pre o) (xScope (Str.ofString B) f) .none kV doc pm an cdv ct) :=
    ⟨⟨oc, od, .none, kV, doc, pm, an, cdv, ct, osl, rfl, lI, cI, .inl ⟨rfl, rfl⟩, .inl rfl⟩, kI⟩
  have base := pmk_B (CX := CX0) (sp := spX X.K C B f) (p := p) (pos := pos) BO F.o iC tI (iniX_ok (P := X.prog) (w := X.w) (base := X.base) BO FF F.sc hl hpre F.fd.1 F.fd.2 gB gF hm hv nn nd vV) (hr.mono (by omega)) (FF.bindsN fun kV doc pm an cdv ct us hl => F.bi _ _ _ _ _ kV doc pm an cdv ct us hl) pass0 hg F.m (pa_more ha) F.nd (star_cons hs) (by rfl)
  intro pins s σ H Q I h
  refine base pins s σ H Q I ⟨_, h, fun vs H1 hq => ?_⟩
  obtain ⟨i, rfl, hi, k⟩ := hq
  refine ⟨(show 1 ≤ 1000 by decide), fun a na => ⟨a, i, rfl, hi, F.o, F.no, upd_same, fun dx n1 n2 => ?_⟩⟩
  have nx : H1 dx = none := by rwa [upd_ne n2] at n1
  refine ⟨rfl, dx, [(f, .int i)], upd_same, ?_, nx, ?_⟩
  · rw [upd_ne n2]
    exact upd_same
  · have e0 : upd (del (upd (upd (upd H1 a (exo a C none)) dx (exd dx [(f, .int i)])) a (exo a C (some dx))) a) dx (.xd [(f, .int i)]) = upd H1 dx (.xd [(f, .int i)]) := by
      funext b
      by_cases hb : b = dx
      · subst hb
        rw [upd_same, upd_same]
      · rw [upd_ne hb, upd_ne hb]
        by_cases hb2 : b = a
        · subst hb2
          rw [del_same, na]
        · rw [del_ne hb2, upd_ne hb2, upd_ne hb, upd_ne hb2]
    rw [e0]
    exact k dx nx
end
/-- what is known of a class, with or without a field -/
inductive ClsK (K : PySem.W.Frag) (mg : Str → Option Value) (x : Str) : Addr × Option Str → Prop
  | f0 {C : Addr} (F : ClsF K mg C x) (hm : mg "ValueError" = none) (vV : PySem.W.findCls K (.type "ValueError") (.type "type") "__init__" = some (.val (.builtin "ValueError.__init__"))) : ClsK K mg x (C, none)
  | f1 {C : Addr} {B : String} {f : Str} (BO : BaseOk B) (F : ClsX K mg C x B f) (hm : mg (Str.ofString B) = none) (vV : PySem.W.findCls K (.type B) (.type "type") "__init__" = some (.val (.builtin (iniOf B))))
    (gB : (xScope (Str.ofString B) f).names.lookup (Str.ofString B) = some .globalImplicit) (gF : (xScope (Str.ofString B) f).names.lookup f = some .local) (hv : bootBuiltins (Str.ofString B) = some (.type B)) (nn : (Str.ofString B) ≠ ("__name__" : Str)) (nd : ((Str.ofString B) == ("__debug__" : Str)) = false) : ClsK K mg x (C, some f)
section
variable {K : PySem.W.Frag} {mg : Str → Option Value} {x : Str} {c : Addr × Option Str}
theorem ClsK.ec (k : ClsK K mg x c) : ExcC K c.1 := by cases k with | f0 F => exact F.ec | f1 _ F => exact F.ec
theorem ClsK.m (k : ClsK K mg x c) : mg x = some (.ref c.1) := by cases k with | f0 F => exact F.m | f1 _ F => exact F.m
theorem ClsK.exC (k : ClsK K mg x c) : PySem.W.subIn K (.ref c.1) (.type "BaseException") = some true := by cases k with | f0 F => exact F.o.exC | f1 _ F => exact F.o.exC
theorem ClsK.tyC (k : ClsK K mg x c) : PySem.W.typeIn K (.ref c.1) = some (.type "type") := by cases k with | f0 F => exact F.o.tyC | f1 _ F => exact F.o.tyC
end
/-- the facts of a text -/
theorem env_of {T : Tb} {P : Program} {w : World} {K : PySem.W.Frag} {mg : Str → Option Value} {base : Heap} {cls : Nat → Addr × Option Str}
    (fs : ∀ f ∈ T.fs, FnF T K mg f) (gc : ∀ p ∈ T.gcd, mg p.1 = some (.builtin p.2)) (co : ∀ p ∈ T.consts, ∃ t, mg p.1 = some (.int p.2 t)) (tc : ∀ p ∈ T.tcs, ∃ a, mg p.1 = some (.ref a) ∧ KTup K a (p.2.map V.int)) (cb : T.comb = true → mg "combinations" = some (.type "itertools.combinations")) (pb : T.prm = true → mg "permutations" = some (.type "itertools.permutations"))
    (m0 : ∀ x ∈ (["len", "abs", "int", "bool", "all", "any", "tuple", "list", "range", "zip", "enumerate", "isinstance", "str", "sorted", "min", "sum", "max", "divmod", "set", "dict", "reversed"] : List Str), mg x = none)
    (cf : ∀ (j : Nat) x, T.excs[j]? = some x → T.flds[j]? = some (cls j).2 ∧ ClsK K mg x (cls j)) (sub : ∀ (j j' : Nat) x x', T.excs[j]? = some x → T.excs[j']? = some x' → PySem.W.subIn K (.ref (cls j).1) (.ref (cls j').1) = some (Nat.beq j j'))
    (isE : ∀ (j : Nat) l t, T.bases[j]? = some l → t ∈ l → PySem.W.kitOne K (.ref (cls j).1) (.type t) = some true) (bas : T.bases.length ≤ T.excs.length) (mB : ∀ x ∈ errNames, mg x = none) : EnvT T P w K mg base cls where
  fs := fun j f h => fs f (List.mem_of_getElem? h)
  gcd := gc
  consts := co
  tcs := tc
  comb := cb
  prm := pb
  mg0 := m0
  mkE := fun X e1 e2 e3 e4 e5 hr _ j x hx hf hg p pos => by
    obtain ⟨h1, h2⟩ := cf j x hx
    rw [hf] at h1
    have h1 := Option.some.inj h1
    generalize cls j = c at h1 h2
    cases h2 with
    | f0 F hm vV => exact F.make (P := P) (w := w) (base := base) hm vV X e1 e2 e3 e4 e5 hr hg p pos
    | f1 _ _ _ _ _ _ _ _ _ => cases h1
  mk1 := fun X e1 e2 e3 e4 e5 hr _ j x f hx hf hg e ta p pos ha hs => by
    obtain ⟨h1, h2⟩ := cf j x hx
    rw [hf] at h1
    have h1 := Option.some.inj h1
    generalize cls j = c at h1 h2
    cases h2 with
    | f0 _ _ _ => cases h1
    | f1 BO F hm vV gB gF hv nn nd =>
      cases h1
      exact F.make (P := P) (w := w) (base := base) BO hm vV gB gF hv nn nd X e1 e2 e3 e4 e5 hr hg e ta p pos ha hs
  fld := fun j x hx => (cf j x hx).1
  xf := fun j x f hx hf => by
    have h2 := (cf j x hx).2
    generalize cls j = c at hf h2
    cases h2 with
    | f0 _ _ _ => cases hf
    | f1 BO F _ _ _ _ _ _ _ =>
      cases hf
      exact ⟨⟨F.ec.hg, F.ec.hk, F.ec.hs, F.ec.hd⟩, F.no⟩
  exm := fun j j' x x' hx hx' => PySem.W.exm_ref (cf j' x' hx').2.exC (cf j' x' hx').2.ec.hd (cf j' x' hx').2.tyC (sub j j' x x' hx hx')
  mgx := fun j x hx => (cf j x hx).2.m
  exC := fun j x hx => (cf j x hx).2.ec
  isE := isE
  bas := fun j l h => by
    have := (List.getElem?_eq_some_iff.mp h).1
    exact ⟨_, List.getElem?_eq_getElem (Nat.lt_of_lt_of_le this bas)⟩
  mgB := mB
end EV
set_option Elab.async false
set_option linter.all false
set_option maxRecDepth 100000
set_option maxHeartbeats 4000000
namespace EV
open PySem PySem.Spec PyProof.Rows L2
/-! ## a closed call -/
def okT (r : Rs) : Bool := match r with | .ok (.bl true) _ => true | _ => false
theorem okT_is {r : Rs} (h : okT r = true) : ∃ S, r = .ok (.bl true) S := by
  unfold okT at h
  split at h
  · exact ⟨_, rfl⟩
  · cases h
theorem good0 {K : PySem.W.Frag} {w : World} {H : Hp} : Good K w [] ⟨0, []⟩ H := ⟨rfl, List.nodup_nil, fun n a h => by simp at h⟩
theorem ext0_same {H H' : Hp} {μ : List Addr} (x : Ext [] H μ H') : Same H H' := fun b o h => x.keep b o h (by simp)
theorem pe_closed {X : Cx} {T : Tb} {cls : Nat → Addr × Option Str} {E : XK} (G : EnvT T X.prog X.w X.K X.mg X.base cls) {k j : Nat} {f : FnE} {p pos : Pos} (hr : Room k X.A) (hf : T.fs[j]? = some f) (hps : f.ps = []) (hx : Passes (L2.CX X.prog X.w) X E) (ht : okT (runFn T (k - 3) j [] ⟨0, []⟩) = true)
    (hg : Gl X f.name) (hdb : (f.name == ("__debug__" : Str)) = false) : PE X (.Call (.Name f.name p) [] [] pos) (fun σ H Q => ∀ H', Same H H' → Q (.bl true) H') := by
  obtain ⟨kk, adr, fd, F, hr2, hm, _, hk, hb, _⟩ := (fn_ok G k X.A hr j f hf).ex
  obtain ⟨dvs, dss, v1, v2, bi⟩ := hb 0 (Nat.zero_le _) (by simp [hps])
  refine ⟨fun pins s σ H Q I h => (pe_call0 (p := p) (pos := pos) F hr2 hg hm hk bi v2 hx hdb).run pins s σ H Q I ?_⟩
  have e : f.dfl.drop (0 + f.dfl.length - f.ps.length) = [] := by simp [hps]
  rw [e] at v1
  have e2 : dvs = [] := by
    have := v1 [] H
    cases this
    rfl
  subst e2
  obtain ⟨S, hS⟩ := okT_is ht
  refine ⟨by simp [hps], [], ⟨0, []⟩, [], good0, .nil, ?_⟩
  rw [hS]
  intro v μ' H' x g r
  cases r
  exact h H' (ext0_same x)
end EV
namespace EV
open PySem PySem.Spec PyProof.Rows L2
theorem kit_sub {K : PySem.W.Frag} {C : Addr} {t : String} {b : Bool} (hm : PySem.W.kitMeta t = true) (h : PySem.W.subIn K (.ref C) (.type t) = some b) : PySem.W.kitOne K (.ref C) (.type t) = some b := by
  unfold PySem.W.kitOne
  have e : ((Value.ref C == Value.type t) = true) = False := by simp
  rw [if_neg (by rw [e]; exact id)]
  unfold PySem.W.kitCls
  dsimp only
  rw [if_pos hm]
  exact h
end EV
namespace EV
open PySem PySem.Spec PyProof.Rows L2
/-- a def of nothing that is true, called as a value -/
def spT : Sp := fun vs H Q _ => vs = [] ∧ ∀ H', Same H H' → Q (.bl true) H'
theorem can_closed {X : Cx} {T : Tb} {cls : Nat → Addr × Option Str} {E : XK} (G : EnvT T X.prog X.w X.K X.mg X.base cls) {k j : Nat} {f : FnE} (hr : Room k X.A) (hf : T.fs[j]? = some f) (hps : f.ps = []) (hx : Passes (L2.CX X.prog X.w) X E) (ht : okT (runFn T (k - 3) j [] ⟨0, []⟩) = true) :
    ∃ a, X.mg f.name = some (.ref a) ∧ CanCall X E a 0 spT := by
  obtain ⟨kk, adr, fd, F, hr2, hm, _, hk, hb, _⟩ := (fn_ok G k X.A hr j f hf).ex
  obtain ⟨dvs, dss, v1, v2, bi⟩ := hb 0 (Nat.zero_le _) (by simp [hps])
  have e : f.dfl.drop (0 + f.dfl.length - f.ps.length) = [] := by simp [hps]
  rw [e] at v1
  obtain ⟨S, hS⟩ := okT_is ht
  refine ⟨adr, hm, ⟨L2.CX X.prog X.w, kk, fd, f.ps, dvs, dss, _, F, hr2, hk, bi, v2, hx, fun vs H Q hl h => ?_⟩⟩
  obtain ⟨rfl, h⟩ := h
  have e2 : dvs = [] := by
    have := v1 [] H
    cases this
    rfl
  subst e2
  refine ⟨by simp [hps], [], ⟨0, []⟩, [], good0, .nil, ?_⟩
  rw [hS]
  intro v μ' H' x g r
  cases r
  exact h H' (ext0_same x)
end EV
set_option Elab.async false
set_option linter.all false
set_option maxRecDepth 100000
set_option maxHeartbeats 4000000
namespace EV
open PySem PySem.Spec PyProof.Rows L2
/-! ## the evaluator, one small constant a construct -/
abbrev Cl := Nat → List D → Sto → Rs
abbrev Rc := En → Sto → Tk → Rs
structure W where
  f : Tb → Cl → Rc → En → Sto → Rs
def hE_var (i : Nat) (T : Tb) (cl : Cl) (rec : Rc) (env : En) (S : Sto) : Rs := (match env[i]? with | some (some d) => .ok d S | _ => .bad)
def hE_kc (d : D) (T : Tb) (cl : Cl) (rec : Rc) (env : En) (S : Sto) : Rs := .ok d S
def hE_glob (_x0 : Str) (i : Int) (T : Tb) (cl : Cl) (rec : Rc) (env : En) (S : Sto) : Rs := .ok (.int i) S
def hE_globT (i : Nat) (T : Tb) (cl : Cl) (rec : Rc) (env : En) (S : Sto) : Rs := (match T.tcs[i]? with | some p => .ok (.tup (p.2.map .int)) S | none => .bad)
def hE_tup (cs : List C) (T : Tb) (cl : Cl) (rec : Rc) (env : En) (S : Sto) : Rs := (rec env S (.es cs)).bs fun ds S => cond (smallB ds.length) (.ok (.tup ds) S) .bad
def hE_lst (cs : List C) (T : Tb) (cl : Cl) (rec : Rc) (env : En) (S : Sto) : Rs := (rec env S (.es cs)).bs fun ds S => cond (smallB ds.length) (.ok (.ref S.nx) (S.new ds)) .bad
def hE_star (_x0 : C) (T : Tb) (cl : Cl) (rec : Rc) (env : En) (S : Sto) : Rs := .bad
def hE_bin (op : Operator) (a : C) (b : C) (T : Tb) (cl : Cl) (rec : Rc) (env : En) (S : Sto) : Rs := (rec env S (.e a)).b1 fun x S => (rec env S (.e b)).b1 fun y S => opD op x y S
def hE_neg (a : C) (T : Tb) (cl : Cl) (rec : Rc) (env : En) (S : Sto) : Rs := (rec env S (.e a)).b1 fun x S => (match x with | .int i => .ok (.int (-i)) S | _ => .bad)
def hE_not (a : C) (T : Tb) (cl : Cl) (rec : Rc) (env : En) (S : Sto) : Rs := (rec env S (.e a)).b1 fun x S => (match x with | .bl b => .ok (.bl (!b)) S | _ => .bad)
def hE_and (cs : List C) (T : Tb) (cl : Cl) (rec : Rc) (env : En) (S : Sto) : Rs := rec env S (.andv cs)
def hE_or (cs : List C) (T : Tb) (cl : Cl) (rec : Rc) (env : En) (S : Sto) : Rs := rec env S (.orv cs)
def hE_ite (t : C) (a : C) (b : C) (T : Tb) (cl : Cl) (rec : Rc) (env : En) (S : Sto) : Rs := (rec env S (.t t)).b1 fun x S => (match x with | .bl true => rec env S (.e a) | .bl false => rec env S (.e b) | _ => .bad)
def hE_cmp (op : CmpOp) (a : C) (b : C) (T : Tb) (cl : Cl) (rec : Rc) (env : En) (S : Sto) : Rs := (rec env S (.e a)).b1 fun x S => (rec env S (.e b)).b1 fun y S => cmpD op x y S
def hE_chain (a : C) (op : CmpOp) (b : C) (op' : CmpOp) (c : C) (T : Tb) (cl : Cl) (rec : Rc) (env : En) (S : Sto) : Rs := (rec env S (.e a)).b1 fun x S => (rec env S (.e b)).b1 fun y S => (cmpD op x y S).b1 fun z S => (match z with
        | .bl true => (rec env S (.e c)).b1 fun u S => cmpD op' y u S
        | .bl false => .ok (.bl false) S
        | _ => .bad)
def hE_idx (a : C) (i : C) (T : Tb) (cl : Cl) (rec : Rc) (env : En) (S : Sto) : Rs := (rec env S (.e a)).b1 fun x S => (rec env S (.e i)).b1 fun y S => idxD x y S
def hE_slc (a : C) (lo : Option C) (hi : Option C) (T : Tb) (cl : Cl) (rec : Rc) (env : En) (S : Sto) : Rs := (rec env S (.e a)).b1 fun x S => (rec env S (.op lo)).b1 fun l S => (rec env S (.op hi)).b1 fun u S => (match l, u with
        | .non, .non => slcD x none none S
        | .int i, .non => slcD x (some i) none S
        | .non, .int j => slcD x none (some j) S
        | .int i, .int j => slcD x (some i) (some j) S
        | _, _ => .bad)
def hE_call (j : Nat) (args : List C) (T : Tb) (cl : Cl) (rec : Rc) (env : En) (S : Sto) : Rs := (rec env S (.es args)).bs fun ds S => (match T.fs[j]? with
        | some e => (match fillD e ds with | some full => cl j full S | none => .bad)
        | none => .bad)
def hE_callK (j : Nat) (args : List C) (ks : List Str) (kws : List C) (perm : List Nat) (T : Tb) (cl : Cl) (rec : Rc) (env : En) (S : Sto) : Rs := (rec env S (.es args)).bs fun ds S => (rec env S (.es kws)).bs fun zs S => (match T.fs[j]? with
        | some e => cond (Nat.beq ds.length args.length && Nat.beq zs.length ks.length) (cl j (ds ++ perm.map fun i => zs.getD i .non) S) .bad
        | none => .bad)
def hE_bi (b : BI) (args : List C) (T : Tb) (cl : Cl) (rec : Rc) (env : En) (S : Sto) : Rs := (rec env S (.es args)).bs fun ds S => biD b ds S
def hE_isi (a : C) (ts : List String) (T : Tb) (cl : Cl) (rec : Rc) (env : En) (S : Sto) : Rs := (rec env S (.e a)).b1 fun x S => (match isiAny (tyN S x) ts with | some b => .ok (.bl b) S | none => .bad)
def hE_isi1 (a : C) (t : String) (T : Tb) (cl : Cl) (rec : Rc) (env : En) (S : Sto) : Rs := (rec env S (.e a)).b1 fun x S => (match isiT (tyN S x) t with | some b => .ok (.bl b) S | none => .bad)
def hE_meth (m : Mt) (o : C) (args : List C) (T : Tb) (cl : Cl) (rec : Rc) (env : En) (S : Sto) : Rs := (rec env S (.e o)).b1 fun x S => (match x with
        | .ref n => (match S.get n with
          | some _ => (rec env S (.es args)).bs fun ds S => methD m (.ref n) ds S
          | none => .bad)
        | _ => .bad)
def hE_comp (vs : List Nat) (tg : Tg) (it : ItK) (ops : List C) (ifs : List C) (elt : C) (T : Tb) (cl : Cl) (rec : Rc) (env : En) (S : Sto) : Rs := (rec env S (.es ops)).bs fun ds S => (match ivOf it ds S with
        | some iv => (match rec (wipeE env vs) (S.new []) (.lc 0 iv S.nx vs tg ifs elt) with
          | .ok d S => .ok d S
          | _ => .bad)
        | none => .bad)
def hE_comp2 (vs : List Nat) (tg : Tg) (it : ItK) (ops : List C) (ifs : List C) (vs1 : List Nat) (tg1 : Tg) (it1 : ItK) (ops1 : List C) (ifs1 : List C) (elt : C) (T : Tb) (cl : Cl) (rec : Rc) (env : En) (S : Sto) : Rs := (rec env S (.es ops)).bs fun ds S => (match ivOf it ds S with
        | some iv => (match rec (wipeE env vs) (S.new []) (.lc2 0 iv S.nx vs tg ifs vs1 tg1 it1 ops1 ifs1 elt) with
          | .ok d S => .ok d S
          | _ => .bad)
        | none => .bad)
def hE_dcomp (vs : List Nat) (tg : Tg) (it : ItK) (ops : List C) (ifs : List C) (k : C) (v : C) (T : Tb) (cl : Cl) (rec : Rc) (env : En) (S : Sto) : Rs := (rec env S (.es ops)).bs fun ds S => (match ivOf it ds S with
        | some iv => (match rec (wipeE env vs) (S.newO (.dki [] [])) (.dc 0 iv S.nx vs tg ifs k v) with
          | .ok d S => .ok d S
          | _ => .bad)
        | none => .bad)
def hE_glf (j : Nat) (T : Tb) (cl : Cl) (rec : Rc) (env : En) (S : Sto) : Rs := (match T.fs[j]? with | some e => .ok (.fn e.name) S | none => .bad)
def hE_callV (f : C) (args : List C) (T : Tb) (cl : Cl) (rec : Rc) (env : En) (S : Sto) : Rs := (rec env S (.e f)).b1 fun x S => (match x with
        | .fn y => (match T.fs.findIdx? (fun f => decide (f.name = y)) with
          | some j => (match T.fs[j]? with
            | some e => cond (decide (e.name = y) && Nat.beq args.length e.ps.length) ((rec env S (.es args)).bs fun ds S => cond (Nat.beq ds.length e.ps.length) (cl j ds S) .bad) .bad
            | none => .bad)
          | none => .bad)
        | _ => .bad)
def hE_chain3 (a : C) (op : CmpOp) (b : C) (op' : CmpOp) (c : C) (op'' : CmpOp) (d : C) (T : Tb) (cl : Cl) (rec : Rc) (env : En) (S : Sto) : Rs := (rec env S (.e a)).b1 fun x S => (rec env S (.e b)).b1 fun y S => (cmpD op x y S).b1 fun z S => (match z with
        | .bl true => (rec env S (.e c)).b1 fun u S => (cmpD op' y u S).b1 fun z S => (match z with
          | .bl true => (rec env S (.e d)).b1 fun w S => cmpD op'' u w S
          | .bl false => .ok (.bl false) S
          | _ => .bad)
        | .bl false => .ok (.bl false) S
        | _ => .bad)
def hE_revs (a : C) (T : Tb) (cl : Cl) (rec : Rc) (env : En) (S : Sto) : Rs := (rec env S (.e a)).b1 fun x S => (match x with
        | .ref n => (match S.get n with | some l => .ok (.ref S.nx) (S.new l.reverse) | none => .bad)
        | .tup l => .ok (.tup l.reverse) S
        | _ => .bad)
def hE_dnewI  (T : Tb) (cl : Cl) (rec : Rc) (env : En) (S : Sto) : Rs := .ok (.ref S.nx) (S.newO (.dki [] []))
def hE_dnewN  (T : Tb) (cl : Cl) (rec : Rc) (env : En) (S : Sto) : Rs := .ok (.ref S.nx) (S.newO (.dkn []))
def hE_ddisp (kvs : List C) (T : Tb) (cl : Cl) (rec : Rc) (env : En) (S : Sto) : Rs := (rec env (S.newO (.dki [] [])) (.es kvs)).bs fun ds S1 => (match S1.obj S.nx with
        | some (.dki [] []) => (match pairI ds with | some (ks, es) => cond (Nat.ble ks.length 15) (.ok (.ref S.nx) (S1.setO S.nx (mergeI ks es))) .bad | none => .bad)
        | _ => .bad)
def hE_dget (o : C) (k : C) (x : C) (T : Tb) (cl : Cl) (rec : Rc) (env : En) (S : Sto) : Rs := (rec env S (.e o)).b1 fun a S => (match a with
        | .ref n => cond (isDict (S.obj n)) ((rec env S (.e k)).b1 fun y S => (rec env S (.e x)).b1 fun z S => (match S.obj n with
          | some ob => (match dlookG ob y with | some r => .ok (r.getD z) S | none => .bad)
          | none => .bad)) .bad
        | _ => .bad)
def hE_dvals (o : C) (T : Tb) (cl : Cl) (rec : Rc) (env : En) (S : Sto) : Rs := (rec env S (.e o)).b1 fun a S => (match a with
        | .ref n => (match S.obj n with | some (.dki _ ds) => .ok (.ref S.nx) (S.new ds) | _ => .bad)
        | _ => .bad)
def hE_mdf (mx : Bool) (a : C) (d : C) (T : Tb) (cl : Cl) (rec : Rc) (env : En) (S : Sto) : Rs := (rec env S (.e a)).b1 fun x S => (rec env S (.e d)).b1 fun z S => mdfD mx x z S
def hE_sset (a : C) (T : Tb) (cl : Cl) (rec : Rc) (env : En) (S : Sto) : Rs := (rec env S (.e a)).b1 fun x S => ssetD x S
def hE_rngT (a : C) (T : Tb) (cl : Cl) (rec : Rc) (env : En) (S : Sto) : Rs := (rec env S (.e a)).b1 fun x S => (match x with | .int n => cond (decide (-1000000 ≤ n) && decide (n ≤ 100000)) (.ok (.tup (rngD n)) S) .bad | _ => .bad)
def hE_rngL (a : C) (T : Tb) (cl : Cl) (rec : Rc) (env : En) (S : Sto) : Rs := (rec env S (.e a)).b1 fun x S => (match x with | .int n => cond (decide (-1000000 ≤ n) && decide (n ≤ 100000)) (.ok (.ref S.nx) (S.new (rngD n))) .bad | _ => .bad)
def hE_lprm (a : C) (f : C) (T : Tb) (cl : Cl) (rec : Rc) (env : En) (S : Sto) : Rs := (rec env S (.e a)).b1 fun x S => (match x with | .int n => (rec env S (.e f)).b1 fun y S => lprmD (.int n) y S | _ => .bad)
def hE_lzip (cs : List C) (T : Tb) (cl : Cl) (rec : Rc) (env : En) (S : Sto) : Rs := (rec env S (.es cs)).bs fun ds S => lzipD ds S
def hE_tidx (o : C) (x : C) (T : Tb) (cl : Cl) (rec : Rc) (env : En) (S : Sto) : Rs := (rec env S (.e o)).b1 fun a S => (match a with
        | .tup l => (rec env S (.e x)).b1 fun y S => cond (flatD y && l.all flatD) (match l.findIdx? (fun z => eqD z y) with | some j => .ok (.int (j : Nat)) S | none => .bad) .bad
        | _ => .bad)
def wE (c : C) : W := match c with
  | .var x0 => ⟨hE_var x0⟩
  | .kc x0 => ⟨hE_kc x0⟩
  | .glob x0 x1 => ⟨hE_glob x0 x1⟩
  | .globT x0 => ⟨hE_globT x0⟩
  | .tup x0 => ⟨hE_tup x0⟩
  | .lst x0 => ⟨hE_lst x0⟩
  | .star x0 => ⟨hE_star x0⟩
  | .bin x0 x1 x2 => ⟨hE_bin x0 x1 x2⟩
  | .neg x0 => ⟨hE_neg x0⟩
  | .not x0 => ⟨hE_not x0⟩
  | .and x0 => ⟨hE_and x0⟩
  | .or x0 => ⟨hE_or x0⟩
  | .ite x0 x1 x2 => ⟨hE_ite x0 x1 x2⟩
  | .cmp x0 x1 x2 => ⟨hE_cmp x0 x1 x2⟩
  | .chain x0 x1 x2 x3 x4 => ⟨hE_chain x0 x1 x2 x3 x4⟩
  | .idx x0 x1 => ⟨hE_idx x0 x1⟩
  | .slc x0 x1 x2 => ⟨hE_slc x0 x1 x2⟩
  | .call x0 x1 => ⟨hE_call x0 x1⟩
  | .callK x0 x1 x2 x3 x4 => ⟨hE_callK x0 x1 x2 x3 x4⟩
  | .bi x0 x1 => ⟨hE_bi x0 x1⟩
  | .isi x0 x1 => ⟨hE_isi x0 x1⟩
  | .isi1 x0 x1 => ⟨hE_isi1 x0 x1⟩
  | .meth x0 x1 x2 => ⟨hE_meth x0 x1 x2⟩
  | .comp x0 x1 x2 x3 x4 x5 => ⟨hE_comp x0 x1 x2 x3 x4 x5⟩
  | .comp2 x0 x1 x2 x3 x4 x5 x6 x7 x8 x9 x10 => ⟨hE_comp2 x0 x1 x2 x3 x4 x5 x6 x7 x8 x9 x10⟩
  | .dcomp x0 x1 x2 x3 x4 x5 x6 => ⟨hE_dcomp x0 x1 x2 x3 x4 x5 x6⟩
  | .glf x0 => ⟨hE_glf x0⟩
  | .callV x0 x1 => ⟨hE_callV x0 x1⟩
  | .chain3 x0 x1 x2 x3 x4 x5 x6 => ⟨hE_chain3 x0 x1 x2 x3 x4 x5 x6⟩
  | .revs x0 => ⟨hE_revs x0⟩
  | .dnewI  => ⟨hE_dnewI ⟩
  | .dnewN  => ⟨hE_dnewN ⟩
  | .ddisp x0 => ⟨hE_ddisp x0⟩
  | .dget x0 x1 x2 => ⟨hE_dget x0 x1 x2⟩
  | .dvals x0 => ⟨hE_dvals x0⟩
  | .mdf x0 x1 x2 => ⟨hE_mdf x0 x1 x2⟩
  | .sset x0 => ⟨hE_sset x0⟩
  | .rngT x0 => ⟨hE_rngT x0⟩
  | .rngL x0 => ⟨hE_rngL x0⟩
  | .lprm x0 x1 => ⟨hE_lprm x0 x1⟩
  | .lzip x0 => ⟨hE_lzip x0⟩
  | .tidx x0 x1 => ⟨hE_tidx x0 x1⟩
def w_op (c : Option C) : W := match c with
    | none => ⟨fun T cl rec env S => .ok .non S⟩
    | some c => ⟨fun T cl rec env S => (rec env S (.e c)).b1 fun x S => (match x with | .int i => .ok (.int i) S | _ => .bad)⟩
def w_es (cs : List C) : W := match cs with
    | [] => ⟨fun T cl rec env S => .oks [] S⟩
    | .star c :: r => ⟨fun T cl rec env S => (rec env S (.e c)).b1 fun x S => (match x with
        | .tup l => (rec env S (.es r)).bs fun ds S => .oks (l ++ ds) S
        | .ref n => (match S.get n with
          | some l => (rec env S (.es r)).bs fun ds S => .oks (l ++ ds) S
          | none => .bad)
        | _ => .bad)⟩
    | c :: r => ⟨fun T cl rec env S => (rec env S (.e c)).b1 fun x S => (rec env S (.es r)).bs fun ds S => .oks (x :: ds) S⟩
def w_t (c : C) : W := match c with
    | .not a => ⟨fun T cl rec env S => (rec env S (.t a)).b1 fun x S => (match x with | .bl b => .ok (.bl (!b)) S | _ => .bad)⟩
    | .and cs => ⟨fun T cl rec env S => rec env S (.ands cs)⟩
    | .or cs => ⟨fun T cl rec env S => rec env S (.ors cs)⟩
    | .ite .. => ⟨fun T cl rec env S => .bad⟩
    | .cmp .. => ⟨fun T cl rec env S => (rec env S (.e c)).b1 fun x S => (match x with | .bl b => .ok (.bl b) S | _ => .bad)⟩
    | .chain .. => ⟨fun T cl rec env S => (rec env S (.e c)).b1 fun x S => (match x with | .bl b => .ok (.bl b) S | _ => .bad)⟩
    | .chain3 .. => ⟨fun T cl rec env S => (rec env S (.e c)).b1 fun x S => (match x with | .bl b => .ok (.bl b) S | _ => .bad)⟩
    | c => ⟨fun T cl rec env S => (rec env S (.e c)).b1 fun x S => (match truD S x with | some b => .ok (.bl b) S | none => .bad)⟩
def w_ands (cs : List C) : W := match cs with
    | [] => ⟨fun T cl rec env S => .bad⟩
    | [c] => ⟨fun T cl rec env S => rec env S (.t c)⟩
    | c :: r => ⟨fun T cl rec env S => (rec env S (.t c)).b1 fun x S => (match x with | .bl true => rec env S (.ands r) | .bl false => .ok (.bl false) S | _ => .bad)⟩
def w_ors (cs : List C) : W := match cs with
    | [] => ⟨fun T cl rec env S => .bad⟩
    | [c] => ⟨fun T cl rec env S => rec env S (.t c)⟩
    | c :: r => ⟨fun T cl rec env S => (rec env S (.t c)).b1 fun x S => (match x with | .bl false => rec env S (.ors r) | .bl true => .ok (.bl true) S | _ => .bad)⟩
def w_andv (cs : List C) : W := match cs with
    | [] => ⟨fun T cl rec env S => .bad⟩
    | [c] => ⟨fun T cl rec env S => rec env S (.e c)⟩
    | c :: r => ⟨fun T cl rec env S => (rec env S (.e c)).b1 fun x S => (match x with | .bl true => rec env S (.andv r) | .bl false => .ok (.bl false) S | _ => .bad)⟩
def w_orv (cs : List C) : W := match cs with
    | [] => ⟨fun T cl rec env S => .bad⟩
    | [c] => ⟨fun T cl rec env S => rec env S (.e c)⟩
    | c :: r => ⟨fun T cl rec env S => (rec env S (.e c)).b1 fun x S => (match x with | .bl false => rec env S (.orv r) | .bl true => .ok (.bl true) S | _ => .bad)⟩
def hT_lc (i : Nat) (iv : Iv) (n : Nat) (vs : List Nat) (tg : Tg) (ifs : List C) (elt : C) (T : Tb) (cl : Cl) (rec : Rc) (env : En) (S : Sto) : Rs := (match ivNext i iv S with
    | none => .bad
    | some none => .ok (.ref n) S
    | some (some d) => (match asgT tg d env S with
      | none => .bad
      | some e1 => (match (match ifs with | [] => Rs.ok (.bl true) S | [c] => rec e1 S (.t c) | _ => .bad) with
        | .ok (.bl false) S => rec env S (.lc (i + 1) iv n vs tg ifs elt)
        | .ok (.bl true) S => (match rec e1 S (.e elt) with
          | .ok y S => (match S.get n with
            | some acc => cond (smallB (acc.length + 1)) (rec env (S.set n (acc ++ [y])) (.lc (i + 1) iv n vs tg ifs elt)) .bad
            | none => .bad)
          | _ => .bad)
        | _ => .bad)))
def hT_lc2 (i : Nat) (iv : Iv) (n : Nat) (vs : List Nat) (tg : Tg) (ifs : List C) (vs1 : List Nat) (tg1 : Tg) (it1 : ItK) (ops1 : List C) (ifs1 : List C) (elt : C) (T : Tb) (cl : Cl) (rec : Rc) (env : En) (S : Sto) : Rs := (match ivNext i iv S with
    | none => .bad
    | some none => .ok (.ref n) S
    | some (some d) => (match asgT tg d env S with
      | none => .bad
      | some e1 => (match (match ifs with | [] => Rs.ok (.bl true) S | [c] => rec e1 S (.t c) | _ => .bad) with
        | .ok (.bl false) S => rec env S (.lc2 (i + 1) iv n vs tg ifs vs1 tg1 it1 ops1 ifs1 elt)
        | .ok (.bl true) S => (match rec e1 S (.es ops1) with
          | .oks ds S => (match ivOf it1 ds S with
            | some iv1 => (match rec (wipeE e1 vs1) S (.lc 0 iv1 n vs1 tg1 ifs1 elt) with
              | .ok _ S => rec env S (.lc2 (i + 1) iv n vs tg ifs vs1 tg1 it1 ops1 ifs1 elt)
              | _ => .bad)
            | none => .bad)
          | _ => .bad)
        | _ => .bad)))
def hT_dc (i : Nat) (iv : Iv) (n : Nat) (vs : List Nat) (tg : Tg) (ifs : List C) (k : C) (v : C) (T : Tb) (cl : Cl) (rec : Rc) (env : En) (S : Sto) : Rs := (match ivNext i iv S with
    | none => .bad
    | some none => .ok (.ref n) S
    | some (some d) => (match asgT tg d env S with
      | none => .bad
      | some e1 => (match (match ifs with | [] => Rs.ok (.bl true) S | [c] => rec e1 S (.t c) | _ => .bad) with
        | .ok (.bl false) S => rec env S (.dc (i + 1) iv n vs tg ifs k v)
        | .ok (.bl true) S => (match rec e1 S (.e k) with
          | .ok (.int j) S => (match rec e1 S (.e v) with
            | .ok y S => (match S.obj n with
              | some (.dki ks ds) => cond (smallB (ks.length + 1)) (rec env (S.setO n (storeI ks ds j y)) (.dc (i + 1) iv n vs tg ifs k v)) .bad
              | _ => .bad)
            | _ => .bad)
          | _ => .bad)
        | _ => .bad)))
def w_ss (cs : List CS) : W := match cs with
    | [] => ⟨fun T cl rec env S => .nx env S⟩
    | c :: r => ⟨fun T cl rec env S => (match rec env S (.s c) with
      | .nx e S => rec e S (.ss r)
      | .ret d S => .ret d S
      | .brk e S => .brk e S
      | .cnt e S => .cnt e S
      | .exc c as S => .exc c as S
      | _ => .bad)⟩
def hS_asg (tg : Tg) (c : C) (T : Tb) (cl : Cl) (rec : Rc) (env : En) (S : Sto) : Rs := (rec env S (.e c)).b1 fun d S => (match asgT tg d env S with | some e => .nx e S | none => .bad)
def hS_par (is : List Nat) (cs : List C) (T : Tb) (cl : Cl) (rec : Rc) (env : En) (S : Sto) : Rs := (rec env S (.es cs)).bs fun ds S => (match setAll is ds env with | some e => .nx e S | none => .bad)
def hS_sub (o : C) (i : C) (c : C) (T : Tb) (cl : Cl) (rec : Rc) (env : En) (S : Sto) : Rs := (rec env S (.e c)).b1 fun d S => (rec env S (.e o)).b1 fun x S => (rec env S (.e i)).b1 fun y S => (match x with
        | .ref n => (match S.obj n with
          | some (.lst l) => (match y with
            | .int k => (match ixN l.length k with | some j => .nx env (S.set n (l.set j d)) | none => .bad)
            | _ => .bad)
          | some o => (match dstore o y d with | some o' => .nx env (S.setO n o') | none => .bad)
          | none => .bad)
        | _ => .bad)
def hS_expr (c : C) (T : Tb) (cl : Cl) (rec : Rc) (env : En) (S : Sto) : Rs := (rec env S (.e c)).b1 fun _ S => .nx env S
def hS_ret (c : C) (T : Tb) (cl : Cl) (rec : Rc) (env : En) (S : Sto) : Rs := (rec env S (.e c)).b1 fun d S => .ret d S
def hS_retN  (T : Tb) (cl : Cl) (rec : Rc) (env : En) (S : Sto) : Rs := .ret .non S
def hS_ite (t : C) (a : List CS) (b : List CS) (T : Tb) (cl : Cl) (rec : Rc) (env : En) (S : Sto) : Rs := (rec env S (.t t)).b1 fun x S => (match x with | .bl true => rec env S (.ss a) | .bl false => rec env S (.ss b) | _ => .bad)
def hS_for_ (tg : Tg) (it : ItK) (ops : List C) (body : List CS) (T : Tb) (cl : Cl) (rec : Rc) (env : En) (S : Sto) : Rs := (rec env S (.es ops)).bs fun ds S => (match ivOf it ds S with
        | some iv => rec env S (.floop 0 iv tg body)
        | none => .bad)
def hS_while_ (t : C) (body : List CS) (T : Tb) (cl : Cl) (rec : Rc) (env : En) (S : Sto) : Rs := rec env S (.wloop t body)
def hS_pass  (T : Tb) (cl : Cl) (rec : Rc) (env : En) (S : Sto) : Rs := .nx env S
def hS_brk  (T : Tb) (cl : Cl) (rec : Rc) (env : En) (S : Sto) : Rs := .brk env S
def hS_cont  (T : Tb) (cl : Cl) (rec : Rc) (env : En) (S : Sto) : Rs := .cnt env S
def hS_raise (k : Nat) (T : Tb) (cl : Cl) (rec : Rc) (env : En) (S : Sto) : Rs := (match T.flds[k]? with | some none => .exc k [] S | _ => .bad)
def hS_raise1 (k : Nat) (c : C) (T : Tb) (cl : Cl) (rec : Rc) (env : En) (S : Sto) : Rs := (match T.flds[k]? with
      | some (some _) => (rec env S (.e c)).b1 fun d S => (match d with
        | .int i => cond (decide (i.natAbs < 1000000000000)) (.exc k [.int i] S) .bad
        | _ => .bad)
      | _ => .bad)
def hS_aug (i : Nat) (op : Operator) (c : C) (T : Tb) (cl : Cl) (rec : Rc) (env : En) (S : Sto) : Rs := (match env[i]? with
      | some (some (.int a)) => (rec env S (.e c)).b1 fun d S => augD op a i env d S
      | _ => .bad)
def hS_del (o : C) (i : C) (T : Tb) (cl : Cl) (rec : Rc) (env : En) (S : Sto) : Rs := (rec env S (.e o)).b1 fun x S => (rec env S (.e i)).b1 fun y S => (match x, y with
      | .ref n, .int j => (match S.obj n with
        | some (.dki ks ds) => cond (lookI ks ds j).isSome (.nx env (S.setO n (match dropI ks ds j with | (a, b) => .dki a b))) .bad
        | _ => .bad)
      | _, _ => .bad)
def hS_try_ (body : List CS) (hs : List (Nat × Nat × List SE)) (T : Tb) (cl : Cl) (rec : Rc) (env : En) (S : Sto) : Rs := (match rec env S (.ss body) with
      | .exc k as S => (match T.excs[k]? with
        | some _ => (match hfind hs k with
          | some ses => (match T.bases[k]? with
            | some l => (match exFld T k as with
              | some fl => (match sesD l fl ses with | some ds => cond (smallB ds.length) (.ret (.ref S.nx) (S.new ds)) .bad | none => .bad)
              | none => .bad)
            | none => .bad)
          | none => .exc k as S)
        | none => .bad)
      | .nx e S => .nx e S
      | .ret d S => .ret d S
      | .brk e S => .brk e S
      | .cnt e S => .cnt e S
      | _ => .bad)
def wS (c : CS) : W := match c with
  | .asg x0 x1 => ⟨hS_asg x0 x1⟩
  | .par x0 x1 => ⟨hS_par x0 x1⟩
  | .sub x0 x1 x2 => ⟨hS_sub x0 x1 x2⟩
  | .expr x0 => ⟨hS_expr x0⟩
  | .ret x0 => ⟨hS_ret x0⟩
  | .retN  => ⟨hS_retN ⟩
  | .ite x0 x1 x2 => ⟨hS_ite x0 x1 x2⟩
  | .for_ x0 x1 x2 x3 => ⟨hS_for_ x0 x1 x2 x3⟩
  | .while_ x0 x1 => ⟨hS_while_ x0 x1⟩
  | .pass  => ⟨hS_pass ⟩
  | .brk  => ⟨hS_brk ⟩
  | .cont  => ⟨hS_cont ⟩
  | .raise x0 => ⟨hS_raise x0⟩
  | .raise1 x0 x1 => ⟨hS_raise1 x0 x1⟩
  | .aug x0 x1 x2 => ⟨hS_aug x0 x1 x2⟩
  | .del x0 x1 => ⟨hS_del x0 x1⟩
  | .try_ x0 x1 => ⟨hS_try_ x0 x1⟩
def hT_floop (i : Nat) (iv : Iv) (tg : Tg) (body : List CS) (T : Tb) (cl : Cl) (rec : Rc) (env : En) (S : Sto) : Rs := (match ivNext i iv S with
    | none => .bad
    | some none => .nx env S
    | some (some d) => (match asgT tg d env S with
      | none => .bad
      | some e1 => (match rec e1 S (.ss body) with
        | .nx e S => rec e S (.floop (i + 1) iv tg body)
        | .cnt e S => rec e S (.floop (i + 1) iv tg body)
        | .brk e S => .nx e S
        | .ret d S => .ret d S
        | .exc c as S => .exc c as S
        | _ => .bad)))
def hT_wloop (t : C) (body : List CS) (T : Tb) (cl : Cl) (rec : Rc) (env : En) (S : Sto) : Rs := (rec env S (.t t)).b1 fun x S => (match x with
    | .bl false => .nx env S
    | .bl true => (match rec env S (.ss body) with
        | .nx e S => rec e S (.wloop t body)
        | .cnt e S => rec e S (.wloop t body)
        | .brk e S => .nx e S
        | .ret d S => .ret d S
        | .exc c as S => .exc c as S
        | _ => .bad)
    | _ => .bad)
def wT (t : Tk) : W := match t with
  | .e x0 => wE x0
  | .op x0 => w_op x0
  | .es x0 => w_es x0
  | .t x0 => w_t x0
  | .ands x0 => w_ands x0
  | .ors x0 => w_ors x0
  | .andv x0 => w_andv x0
  | .orv x0 => w_orv x0
  | .lc x0 x1 x2 x3 x4 x5 x6 => ⟨hT_lc x0 x1 x2 x3 x4 x5 x6⟩
  | .lc2 x0 x1 x2 x3 x4 x5 x6 x7 x8 x9 x10 x11 => ⟨hT_lc2 x0 x1 x2 x3 x4 x5 x6 x7 x8 x9 x10 x11⟩
  | .dc x0 x1 x2 x3 x4 x5 x6 x7 => ⟨hT_dc x0 x1 x2 x3 x4 x5 x6 x7⟩
  | .ss x0 => w_ss x0
  | .s x0 => wS x0
  | .floop x0 x1 x2 x3 => ⟨hT_floop x0 x1 x2 x3⟩
  | .wloop x0 x1 => ⟨hT_wloop x0 x1⟩
theorem step_w (T : Tb) (cl : Cl) (rec : Rc) (env : En) (S : Sto) (t : Tk) : step T cl rec env S t = (wT t).f T cl rec env S := by
  cases t with
  | e c => cases c <;> rfl
  | s c => cases c <;> rfl
  | es cs => cases cs with
    | nil => rfl
    | cons c r => cases c <;> rfl
  | t c => cases c <;> rfl
  | op c => cases c <;> rfl
  | ss cs => cases cs <;> rfl
  | ands cs => rcases cs with _ | ⟨c, _ | ⟨d, r⟩⟩ <;> rfl
  | ors cs => rcases cs with _ | ⟨c, _ | ⟨d, r⟩⟩ <;> rfl
  | andv cs => rcases cs with _ | ⟨c, _ | ⟨d, r⟩⟩ <;> rfl
  | orv cs => rcases cs with _ | ⟨c, _ | ⟨d, r⟩⟩ <;> rfl
  | _ => rfl
def runW (T : Tb) (cl : Cl) (n : Nat) : Rc := @Nat.rec (fun _ => Rc) (fun _ _ _ => .bad) (fun _ ih env S t => (wT t).1 T cl ih env S) n
theorem run_w (T : Tb) (cl : Cl) : ∀ n, run T cl n = runW T cl n
  | 0 => rfl
  | n + 1 => by
    funext env S t
    show step T cl (run T cl n) env S t = (wT t).1 T cl (runW T cl n) env S
    rw [step_w, run_w T cl n]
def endW (r : Rs) : Rs := match r with
  | .ret d S => .ok d S
  | .nx _ S => .ok .non S
  | .exc c as S => .exc c as S
  | _ => .bad
def bodyW (T : Tb) (cl : Cl) (ds : List D) (S : Sto) (e : FnE) : Rs := cond (Nat.beq ds.length e.ps.length) (endW (runW T cl fuel (ds.map some ++ List.replicate (e.N.length - ds.length) none) S (.ss e.body))) .bad
def fnW (T : Tb) (cl : Cl) (j : Nat) (ds : List D) (S : Sto) : Rs := match T.fs[j]? with
  | none => .bad
  | some e => bodyW T cl ds S e
def runFnW (T : Tb) (k : Nat) : Cl := @Nat.rec (fun _ => Cl) (fun _ _ _ => .bad) (fun _ ih j ds S => fnW T ih j ds S) k
theorem runFn_w (T : Tb) : ∀ k, runFn T k = runFnW T k
  | 0 => rfl
  | k + 1 => by
    funext j ds S
    show runFn T (k + 1) j ds S = fnW T (runFnW T k) j ds S
    rw [← runFn_w T k]
    unfold runFn fnW bodyW
    cases T.fs[j]? with
    | none => rfl
    | some e => dsimp only; rw [run_w]; rfl
end EV
set_option Elab.async false
set_option linter.all false
set_option maxRecDepth 100000
set_option maxHeartbeats 4000000
/-! the same evaluator, its most frequent steps by bare recursors -/
namespace EV
open PySem PySem.Spec PyProof.Rows L2
universe u v
noncomputable section
def optR {α : Type u} {β : Type v} (x : Option α) (n : β) (f : α → β) : β := @Option.rec α (fun _ => β) n f x
def bolR {β : Type v} (b : Bool) (t f : β) : β := @Bool.rec (fun _ => β) f t b
def dR {β : Type v} (d : D) (non : β) (bl : Bool → β) (int : Int → β) (str : Str → β) (ref : Nat → β) (tup : List D → β) (fn : Str → β) (tpf : List D → β) : β := @D.rec (fun _ => β) (fun _ => PUnit) non bl int str ref (fun l _ => tup l) fn (fun l _ => tpf l) ⟨⟩ (fun _ _ _ _ => ⟨⟩) d
def b1R (r : Rs) (f : D → Sto → Rs) : Rs := @Rs.rec (fun _ => Rs) f (fun _ _ => .bad) (fun _ _ => .bad) (fun _ _ => .bad) (fun _ _ => .bad) (fun _ _ => .bad) (fun c as S => .exc c as S) .bad r
def bsR (r : Rs) (f : List D → Sto → Rs) : Rs := @Rs.rec (fun _ => Rs) (fun _ _ => .bad) f (fun _ _ => .bad) (fun _ _ => .bad) (fun _ _ => .bad) (fun _ _ => .bad) (fun c as S => .exc c as S) .bad r
theorem b1R_eq (r : Rs) (f : D → Sto → Rs) : r.b1 f = b1R r f := by cases r <;> rfl
theorem bsR_eq (r : Rs) (f : List D → Sto → Rs) : r.bs f = bsR r f := by cases r <;> rfl
def nthR {α : Type u} (l : List α) : Nat → Option α := @List.rec α (fun _ => Nat → Option α) (fun _ => none) (fun a _ ih i => @Nat.rec (fun _ => Option α) (some a) (fun k _ => ih k) i) l
theorem nthR_eq {α : Type u} : ∀ (l : List α) (i : Nat), l[i]? = nthR l i
  | [], _ => rfl
  | a :: r, 0 => rfl
  | a :: r, i + 1 => by
    rw [List.getElem?_cons_succ]
    exact nthR_eq r i
def setR {α : Type u} (l : List α) (x : α) : Nat → List α := @List.rec α (fun _ => Nat → List α) (fun _ => []) (fun a r ih i => @Nat.rec (fun _ => List α) (x :: r) (fun k _ => a :: ih k) i) l
theorem setR_eq {α : Type u} : ∀ (l : List α) (i : Nat) (x : α), l.set i x = setR l x i
  | [], _, _ => rfl
  | a :: r, 0, _ => rfl
  | a :: r, i + 1, x => by
    rw [List.set_cons_succ, setR_eq r i x]
    rfl
def appR {α : Type u} (l m : List α) : List α := @List.rec α (fun _ => List α) m (fun a _ ih => a :: ih) l
theorem appR_eq {α : Type u} : ∀ (l m : List α), l ++ m = appR l m
  | [], _ => rfl
  | a :: r, m => by
    rw [List.cons_append, appR_eq r m]
    rfl
def lenR {α : Type u} (l : List α) : Nat := @List.rec α (fun _ => Nat) 0 (fun _ _ ih => Nat.succ ih) l
theorem lenR_eq {α : Type u} : ∀ (l : List α), l.length = lenR l
  | [] => rfl
  | a :: r => by
    rw [List.length_cons, lenR_eq r]
    rfl
def objR (l : List (Nat × Ob)) (n : Nat) : Option Ob := @List.rec (Nat × Ob) (fun _ => Option Ob) none (fun p _ ih => @Bool.rec (fun _ => Option Ob) ih (some p.2) (Nat.beq p.1 n)) l
theorem objR_eq : ∀ (l : List (Nat × Ob)) (n : Nat), sget l n = objR l n
  | [], _ => rfl
  | p :: r, n => by
    show cond (Nat.beq p.1 n) (some p.2) (sget r n) = @Bool.rec (fun _ => Option Ob) (objR r n) (some p.2) (Nat.beq p.1 n)
    rw [objR_eq r n]
    cases Nat.beq p.1 n <;> rfl
def getR (S : Sto) (n : Nat) : Option (List D) := optR (objR S.l n) none fun o => @Ob.rec (fun _ => Option (List D)) (fun l => some l) (fun _ _ => none) (fun _ => none) o
theorem getR_eq (S : Sto) (n : Nat) : S.get n = getR S n := by
  unfold Sto.get Sto.obj getR
  rw [objR_eq]
  cases objR S.l n with
  | none => rfl
  | some o => cases o <;> rfl
def newR (S : Sto) (l : List D) : Sto := ⟨Nat.succ S.nx, (S.nx, .lst l) :: S.l⟩
def delR (n : Nat) (l : List (Nat × Ob)) : List (Nat × Ob) := @List.rec (Nat × Ob) (fun _ => List (Nat × Ob)) [] (fun p r ih => @Bool.rec (fun _ => List (Nat × Ob)) (p :: ih) r (Nat.beq p.1 n)) l
theorem delR_eq (n : Nat) : ∀ l : List (Nat × Ob), sdel n l = delR n l
  | [] => rfl
  | p :: r => by
    unfold sdel
    rw [delR_eq n r]
    show _ = @Bool.rec (fun _ => List (Nat × Ob)) (p :: delR n r) r (Nat.beq p.1 n)
    cases Nat.beq p.1 n <;> rfl
def putR (S : Sto) (n : Nat) (l : List D) : Sto := ⟨S.nx, (n, .lst l) :: delR n S.l⟩
theorem putR_eq (S : Sto) (n : Nat) (l : List D) : S.set n l = putR S n l := by
  show (⟨S.nx, (n, .lst l) :: sdel n S.l⟩ : Sto) = _
  rw [delR_eq]
  rfl
def asgR (tg : Tg) (d : D) (env : En) (S : Sto) : Option En := @Tg.rec (fun _ => Option En) (fun i => some (setR env (some d) i)) (fun is => asgT (.tp is) d env S) (fun ts => asgT (.nt ts) d env S) tg
theorem asgR_eq (tg : Tg) (d : D) (env : En) (S : Sto) : asgT tg d env S = asgR tg d env S := by
  cases tg with
  | nm i =>
    show some (env.set i (some d)) = some (setR env (some d) i)
    rw [setR_eq]
  | _ => rfl
/-! ## the handlers -/
abbrev Hd := Tb → Cl → Rc → En → Sto → Rs
def gVar (i : Nat) : Hd := fun _ _ _ env S => optR (nthR env i) .bad fun o => optR o .bad fun d => .ok d S
theorem gVar_eq (i : Nat) : hE_var i = gVar i := by
  funext T cl rec env S
  unfold hE_var gVar
  rw [nthR_eq]
  cases nthR env i with
  | none => rfl
  | some o => cases o <;> rfl
def gTup (cs : List C) : Hd := fun _ _ rec env S => bsR (rec env S (.es cs)) fun ds S => bolR (Nat.ble (lenR ds) 100000) (.ok (.tup ds) S) .bad
theorem gTup_eq (cs : List C) : hE_tup cs = gTup cs := by
  funext T cl rec env S
  unfold hE_tup gTup
  rw [bsR_eq]
  congr 1
  funext ds S
  unfold smallB
  rw [lenR_eq]
  cases Nat.ble (lenR ds) 100000 <;> rfl
def gLst (cs : List C) : Hd := fun _ _ rec env S => bsR (rec env S (.es cs)) fun ds S => bolR (Nat.ble (lenR ds) 100000) (.ok (.ref S.nx) (newR S ds)) .bad
theorem gLst_eq (cs : List C) : hE_lst cs = gLst cs := by
  funext T cl rec env S
  unfold hE_lst gLst
  rw [bsR_eq]
  congr 1
  funext ds S
  unfold smallB
  rw [lenR_eq]
  cases Nat.ble (lenR ds) 100000 <;> rfl
def gBin (op : Operator) (a b : C) : Hd := fun _ _ rec env S => b1R (rec env S (.e a)) fun x S => b1R (rec env S (.e b)) fun y S => opD op x y S
theorem gBin_eq (op : Operator) (a b : C) : hE_bin op a b = gBin op a b := by
  funext T cl rec env S
  unfold hE_bin gBin
  simp only [b1R_eq]
def bolD (d : D) (t f : Rs) : Rs := dR d .bad (fun b => bolR b t f) (fun _ => .bad) (fun _ => .bad) (fun _ => .bad) (fun _ => .bad) (fun _ => .bad) (fun _ => .bad)
theorem bolD_eq (d : D) (t f : Rs) : (match d with | .bl true => t | .bl false => f | _ => .bad) = bolD d t f := by
  cases d with
  | bl b => cases b <;> rfl
  | _ => rfl
theorem bolD_eq' (d : D) (t f : Rs) : (match d with | .bl false => f | .bl true => t | _ => .bad) = bolD d t f := by
  cases d with
  | bl b => cases b <;> rfl
  | _ => rfl
def gNot (a : C) : Hd := fun _ _ rec env S => b1R (rec env S (.e a)) fun x S => bolD x (.ok (.bl false) S) (.ok (.bl true) S)
theorem gNot_eq (a : C) : hE_not a = gNot a := by
  funext T cl rec env S
  unfold hE_not gNot
  rw [b1R_eq]
  congr 1
  funext x S
  cases x with
  | bl b => cases b <;> rfl
  | _ => rfl
def gIte (t a b : C) : Hd := fun _ _ rec env S => b1R (rec env S (.t t)) fun x S => bolD x (rec env S (.e a)) (rec env S (.e b))
theorem gIte_eq (t a b : C) : hE_ite t a b = gIte t a b := by
  funext T cl rec env S
  unfold hE_ite gIte
  rw [b1R_eq]
  congr 1
  funext x S
  exact bolD_eq x _ _
/-- == of two plain values -/
def eqR (x y : D) (S : Sto) (e : Rs) : Rs := dR x e (fun _ => e) (fun i => dR y e (fun _ => e) (fun j => .ok (.bl (decide (i = j))) S) (fun _ => e) (fun _ => e) (fun _ => e) (fun _ => e) (fun _ => e)) (fun _ => e) (fun _ => e) (fun _ => e) (fun _ => e) (fun _ => e)
theorem eqR_eq (x y : D) (S : Sto) : cmpD .Eq x y S = eqR x y S (cmpD .Eq x y S) := by
  cases x with
  | int i => cases y with
    | int j =>
      show _ = Rs.ok (.bl (decide (i = j))) S
      have h : cmpD .Eq (.int i) (.int j) S = .ok (.bl (i == j)) S := rfl
      rw [h]
      rfl
    | _ => rfl
  | _ => rfl
def gCmp (op : CmpOp) (a b : C) : Hd := @CmpOp.rec (fun _ => Hd)
  (fun _ _ rec env S => b1R (rec env S (.e a)) fun x S => b1R (rec env S (.e b)) fun y S => eqR x y S (cmpD .Eq x y S))
  (hE_cmp .NotEq a b) (hE_cmp .Lt a b) (hE_cmp .LtE a b) (hE_cmp .Gt a b) (hE_cmp .GtE a b) (hE_cmp .Is a b) (hE_cmp .IsNot a b) (hE_cmp .In a b) (hE_cmp .NotIn a b) op
theorem gCmp_eq (op : CmpOp) (a b : C) : hE_cmp op a b = gCmp op a b := by
  cases op with
  | Eq =>
    funext T cl rec env S
    show hE_cmp .Eq a b T cl rec env S = b1R (rec env S (.e a)) fun x S => b1R (rec env S (.e b)) fun y S => eqR x y S (cmpD .Eq x y S)
    unfold hE_cmp
    simp only [b1R_eq]
    congr 1
    funext x S
    congr 1
    funext y S
    exact eqR_eq x y S
  | _ => rfl
def atR (l : List D) (i : Int) (S : Sto) : Rs := @Int.rec (fun _ => Rs) (fun n => optR (nthR l n) Rs.bad fun d => Rs.ok d S) (fun n => match atI l (.negSucc n) with | some d => Rs.ok d S | none => Rs.bad) i
theorem atR_eq (l : List D) (i : Int) (S : Sto) : (match atI l i with | some d => Rs.ok d S | none => Rs.bad) = atR l i S := by
  cases i with
  | negSucc n => rfl
  | ofNat n =>
    have h : atI l (Int.ofNat n) = nthR l n := by
      rw [← nthR_eq]
      show (ixN l.length (n : Int)).bind _ = _
      unfold ixN
      rw [if_pos (by omega)]
      by_cases c : n < l.length
      · rw [if_pos (by omega)]
        rfl
      · rw [if_neg (by omega), List.getElem?_eq_none (by omega)]
        rfl
    rw [h]
    show _ = optR (nthR l n) Rs.bad fun d => Rs.ok d S
    cases nthR l n <;> rfl
def idxR (x y : D) (S : Sto) : Rs := dR x .bad (fun _ => .bad) (fun _ => .bad) (fun _ => .bad) (fun _ => idxD x y S) (fun l => dR y .bad (fun _ => .bad) (fun i => atR l i S) (fun _ => .bad) (fun _ => .bad) (fun _ => .bad) (fun _ => .bad) (fun _ => .bad)) (fun _ => .bad) (fun _ => .bad)
theorem idxR_eq (x y : D) (S : Sto) : idxD x y S = idxR x y S := by
  cases x with
  | tup l => cases y with
    | int i => exact atR_eq l i S
    | _ => rfl
  | _ => rfl
def gIdx (a i : C) : Hd := fun _ _ rec env S => b1R (rec env S (.e a)) fun x S => b1R (rec env S (.e i)) fun y S => idxR x y S
theorem gIdx_eq (a i : C) : hE_idx a i = gIdx a i := by
  funext T cl rec env S
  unfold hE_idx gIdx
  simp only [b1R_eq, idxR_eq]
def gCall (j : Nat) (args : List C) : Hd := fun T cl rec env S => bsR (rec env S (.es args)) fun ds S => optR (nthR T.fs j) .bad fun e => bolR (Nat.beq (lenR ds) (lenR e.ps)) (cl j ds S) (match fillD e ds with | some full => cl j full S | none => .bad)
theorem gCall_eq (j : Nat) (args : List C) : hE_call j args = gCall j args := by
  funext T cl rec env S
  unfold hE_call gCall
  rw [bsR_eq]
  congr 1
  funext ds S
  rw [nthR_eq]
  cases nthR T.fs j with
  | none => rfl
  | some e =>
    show (match fillD e ds with | some full => cl j full S | none => .bad) = bolR (Nat.beq (lenR ds) (lenR e.ps)) (cl j ds S) (match fillD e ds with | some full => cl j full S | none => .bad)
    rw [← lenR_eq, ← lenR_eq]
    cases h : Nat.beq ds.length e.ps.length with
    | false => rfl
    | true =>
      have hl := Nat.eq_of_beq_eq_true h
      have hf : fillD e ds = some ds := by
        unfold fillD
        rw [hl, Nat.ble_eq.mpr (Nat.le_refl _), Nat.ble_eq.mpr (Nat.le_add_right _ _), List.drop_eq_nil_of_le (by omega), List.append_nil]
        rfl
      rw [hf]
      rfl
def isiR (x : D) (S : Sto) (ts : List String) : Option Bool := dR x (isiAny "NoneType" ts) (fun _ => isiAny "bool" ts) (fun _ => isiAny "int" ts) (fun _ => isiAny "str" ts) (fun n => optR (getR S n) (isiAny "" ts) fun _ => isiAny "list" ts) (fun _ => isiAny "tuple" ts) (fun _ => isiAny "" ts) (fun _ => isiAny "" ts)
theorem isiR_eq (x : D) (S : Sto) (ts : List String) : isiAny (tyN S x) ts = isiR x S ts := by
  cases x with
  | ref n =>
    show isiAny (match S.obj n with | some (.lst _) => "list" | _ => "") ts = optR (getR S n) (isiAny "" ts) fun _ => isiAny "list" ts
    rw [← getR_eq]
    unfold Sto.get
    cases S.obj n with
    | none => rfl
    | some o => cases o <;> rfl
  | _ => rfl
def gIsi (a : C) (ts : List String) : Hd := fun _ _ rec env S => b1R (rec env S (.e a)) fun x S => optR (isiR x S ts) .bad fun b => .ok (.bl b) S
theorem gIsi_eq (a : C) (ts : List String) : hE_isi a ts = gIsi a ts := by
  funext T cl rec env S
  unfold hE_isi gIsi
  rw [b1R_eq]
  congr 1
  funext x S
  rw [isiR_eq]
  cases isiR x S ts <;> rfl
def isi1R (x : D) (S : Sto) (t : String) : Option Bool := dR x (isiT "NoneType" t) (fun _ => isiT "bool" t) (fun _ => isiT "int" t) (fun _ => isiT "str" t) (fun n => optR (getR S n) (isiT "" t) fun _ => isiT "list" t) (fun _ => isiT "tuple" t) (fun _ => isiT "" t) (fun _ => isiT "" t)
theorem isi1R_eq (x : D) (S : Sto) (t : String) : isiT (tyN S x) t = isi1R x S t := by
  cases x with
  | ref n =>
    show isiT (match S.obj n with | some (.lst _) => "list" | _ => "") t = optR (getR S n) (isiT "" t) fun _ => isiT "list" t
    rw [← getR_eq]
    unfold Sto.get
    cases S.obj n with
    | none => rfl
    | some o => cases o <;> rfl
  | _ => rfl
def gIsi1 (a : C) (t : String) : Hd := fun _ _ rec env S => b1R (rec env S (.e a)) fun x S => optR (isi1R x S t) .bad fun b => .ok (.bl b) S
theorem gIsi1_eq (a : C) (t : String) : hE_isi1 a t = gIsi1 a t := by
  funext T cl rec env S
  unfold hE_isi1 gIsi1
  rw [b1R_eq]
  congr 1
  funext x S
  rw [isi1R_eq]
  cases isi1R x S t <;> rfl
def okR (r : Rs) : Rs := @Rs.rec (fun _ => Rs) (fun d S => .ok d S) (fun _ _ => .bad) (fun _ _ => .bad) (fun _ _ => .bad) (fun _ _ => .bad) (fun _ _ => .bad) (fun _ _ _ => .bad) .bad r
def gComp (vs : List Nat) (tg : Tg) (it : ItK) (ops : List C) (ifs : List C) (elt : C) : Hd := fun _ _ rec env S => bsR (rec env S (.es ops)) fun ds S => optR (ivOf it ds S) .bad fun iv => okR (rec (wipeE env vs) (newR S []) (.lc 0 iv S.nx vs tg ifs elt))
theorem gComp_eq (vs : List Nat) (tg : Tg) (it : ItK) (ops : List C) (ifs : List C) (elt : C) : hE_comp vs tg it ops ifs elt = gComp vs tg it ops ifs elt := by
  funext T cl rec env S
  unfold hE_comp gComp
  rw [bsR_eq]
  congr 1
  funext ds S
  cases ivOf it ds S with
  | none => rfl
  | some iv =>
    show (match rec (wipeE env vs) (newR S []) (.lc 0 iv S.nx vs tg ifs elt) with | .ok d S => Rs.ok d S | _ => .bad) = okR (rec (wipeE env vs) (newR S []) (.lc 0 iv S.nx vs tg ifs elt))
    cases rec (wipeE env vs) (newR S []) (.lc 0 iv S.nx vs tg ifs elt) <;> rfl
def ok1R (r : Rs) (f : D → Sto → Rs) : Rs := @Rs.rec (fun _ => Rs) f (fun _ _ => .bad) (fun _ _ => .bad) (fun _ _ => .bad) (fun _ _ => .bad) (fun _ _ => .bad) (fun _ _ _ => .bad) .bad r
def gLc (i : Nat) (iv : Iv) (n : Nat) (vs : List Nat) (tg : Tg) (ifs : List C) (elt : C) : Hd := fun _ _ rec env S => optR (ivNext i iv S) .bad fun nx => optR nx (.ok (.ref n) S) fun d => optR (asgR tg d env S) .bad fun e1 =>
  ok1R (@List.rec C (fun _ => Rs) (.ok (.bl true) S) (fun c r _ => @List.rec C (fun _ => Rs) (rec e1 S (.t c)) (fun _ _ _ => .bad) r) ifs) fun b S => bolD b
    (ok1R (rec e1 S (.e elt)) fun y S => optR (getR S n) .bad fun acc => bolR (Nat.ble (Nat.succ (lenR acc)) 100000) (rec env (putR S n (appR acc [y])) (.lc (Nat.succ i) iv n vs tg ifs elt)) .bad)
    (rec env S (.lc (Nat.succ i) iv n vs tg ifs elt))
theorem ok1_bol (r : Rs) (f g : Sto → Rs) : (match r with | .ok (.bl false) S => f S | .ok (.bl true) S => g S | _ => .bad) = ok1R r fun b S => bolD b (g S) (f S) := by
  cases r with
  | ok d S => cases d with
    | bl b => cases b <;> rfl
    | _ => rfl
  | _ => rfl
theorem ok1_eq (r : Rs) (f : D → Sto → Rs) : (match r with | .ok y S => f y S | _ => .bad) = ok1R r f := by cases r <;> rfl
theorem gLc_eq (i : Nat) (iv : Iv) (n : Nat) (vs : List Nat) (tg : Tg) (ifs : List C) (elt : C) : hT_lc i iv n vs tg ifs elt = gLc i iv n vs tg ifs elt := by
  funext T cl rec env S
  unfold hT_lc gLc
  cases ivNext i iv S with
  | none => rfl
  | some nx => cases nx with
    | none => rfl
    | some d =>
      show (match asgT tg d env S with | none => _ | some e1 => _) = optR (asgR tg d env S) _ _
      rw [asgR_eq]
      cases asgR tg d env S with
      | none => rfl
      | some e1 =>
        have key : ∀ r : Rs, (match r with
            | .ok (.bl false) S => rec env S (.lc (i + 1) iv n vs tg ifs elt)
            | .ok (.bl true) S => (match rec e1 S (.e elt) with
              | .ok y S => (match S.get n with
                | some acc => cond (smallB (acc.length + 1)) (rec env (S.set n (acc ++ [y])) (.lc (i + 1) iv n vs tg ifs elt)) .bad
                | none => .bad)
              | _ => .bad)
            | _ => .bad) = ok1R r fun b S => bolD b
              (ok1R (rec e1 S (.e elt)) fun y S => optR (getR S n) .bad fun acc => bolR (Nat.ble (Nat.succ (lenR acc)) 100000) (rec env (putR S n (appR acc [y])) (.lc (Nat.succ i) iv n vs tg ifs elt)) .bad)
              (rec env S (.lc (Nat.succ i) iv n vs tg ifs elt)) := fun r => by
          rw [ok1_bol r (fun S => rec env S (.lc (i + 1) iv n vs tg ifs elt)) (fun S => (match rec e1 S (.e elt) with
              | .ok y S => (match S.get n with
                | some acc => cond (smallB (acc.length + 1)) (rec env (S.set n (acc ++ [y])) (.lc (i + 1) iv n vs tg ifs elt)) .bad
                | none => .bad)
              | _ => .bad))]
          congr 1
          funext b S
          congr 1
          rw [ok1_eq]
          congr 1
          funext y S
          rw [getR_eq]
          cases getR S n with
          | none => rfl
          | some acc =>
            show cond (smallB (acc.length + 1)) _ _ = bolR (Nat.ble (Nat.succ (lenR acc)) 100000) _ _
            unfold smallB
            rw [putR_eq, lenR_eq, appR_eq]
            cases Nat.ble (lenR acc + 1) 100000 <;> rfl
        cases ifs with
        | nil => exact key (.ok (.bl true) S)
        | cons c r => cases r with
          | nil => exact key (rec e1 S (.t c))
          | cons _ _ => exact key .bad
def truR (x : D) (S : Sto) : Option Bool := dR x (some false) (fun b => some b) (fun i => some (i != 0)) (fun _ => none) (fun n => optR (getR S n) none fun l => some (@List.rec D (fun _ => Bool) false (fun _ _ _ => true) l)) (fun l => some (@List.rec D (fun _ => Bool) false (fun _ _ _ => true) l)) (fun _ => none) (fun _ => none)
theorem truR_eq (x : D) (S : Sto) : truD S x = truR x S := by
  cases x with
  | ref n =>
    show (S.get n).map _ = _
    rw [getR_eq]
    show _ = optR (getR S n) none _
    cases getR S n with
    | none => rfl
    | some l => cases l <;> rfl
  | tup l => cases l <;> rfl
  | _ => rfl
def blR (x : D) (S : Sto) : Rs := dR x .bad (fun b => .ok (.bl b) S) (fun _ => .bad) (fun _ => .bad) (fun _ => .bad) (fun _ => .bad) (fun _ => .bad) (fun _ => .bad)
theorem blR_eq (x : D) (S : Sto) : (match x with | .bl b => Rs.ok (.bl b) S | _ => .bad) = blR x S := by cases x <;> rfl
def gTb (c : C) : Hd := fun _ _ rec env S => b1R (rec env S (.e c)) blR
def gTt (c : C) : Hd := fun _ _ rec env S => b1R (rec env S (.e c)) fun x S => optR (truR x S) .bad fun b => .ok (.bl b) S
def gTn (a : C) : Hd := fun _ _ rec env S => b1R (rec env S (.t a)) fun x S => bolD x (.ok (.bl false) S) (.ok (.bl true) S)
def gTbad : Hd := fun _ _ _ _ _ => .bad
def wt2 (c : C) : W := match c with
  | .not a => ⟨gTn a⟩
  | .and cs => ⟨fun _ _ rec env S => rec env S (.ands cs)⟩
  | .or cs => ⟨fun _ _ rec env S => rec env S (.ors cs)⟩
  | .ite .. => ⟨gTbad⟩
  | .cmp .. => ⟨gTb c⟩
  | .chain .. => ⟨gTb c⟩
  | .chain3 .. => ⟨gTb c⟩
  | c => ⟨gTt c⟩
theorem gTt_eq (c : C) (T : Tb) (cl : Cl) (rec : Rc) (env : En) (S : Sto) : ((rec env S (.e c)).b1 fun x S => (match truD S x with | some b => .ok (.bl b) S | none => .bad)) = gTt c T cl rec env S := by
  unfold gTt
  rw [b1R_eq]
  congr 1
  funext x S
  rw [truR_eq]
  cases truR x S <;> rfl
theorem gTb_eq (c : C) (T : Tb) (cl : Cl) (rec : Rc) (env : En) (S : Sto) : ((rec env S (.e c)).b1 fun x S => (match x with | .bl b => .ok (.bl b) S | _ => .bad)) = gTb c T cl rec env S := by
  unfold gTb
  rw [b1R_eq]
  congr 1
  funext x S
  exact blR_eq x S
theorem gTn_eq (a : C) (T : Tb) (cl : Cl) (rec : Rc) (env : En) (S : Sto) : ((rec env S (.t a)).b1 fun x S => (match x with | .bl b => .ok (.bl (!b)) S | _ => .bad)) = gTn a T cl rec env S := by
  unfold gTn
  rw [b1R_eq]
  congr 1
  funext x S
  cases x with
  | bl b => cases b <;> rfl
  | _ => rfl
theorem wt2_eq (c : C) (T : Tb) (cl : Cl) (rec : Rc) (env : En) (S : Sto) : (w_t c).f T cl rec env S = (wt2 c).f T cl rec env S := by
  cases c with
  | not a => exact gTn_eq a T cl rec env S
  | and cs => rfl
  | or cs => rfl
  | ite => rfl
  | cmp => exact gTb_eq _ T cl rec env S
  | chain => exact gTb_eq _ T cl rec env S
  | chain3 => exact gTb_eq _ T cl rec env S
  | _ => exact gTt_eq _ T cl rec env S
def gEs (c : C) (r : List C) : Hd := fun _ _ rec env S => b1R (rec env S (.e c)) fun x S => bsR (rec env S (.es r)) fun ds S => .oks (x :: ds) S
def wes2 (cs : List C) : W := match cs with
  | [] => ⟨fun _ _ _ _ S => .oks [] S⟩
  | .star c :: r => w_es (.star c :: r)
  | c :: r => ⟨gEs c r⟩
theorem wes2_eq (cs : List C) (T : Tb) (cl : Cl) (rec : Rc) (env : En) (S : Sto) : (w_es cs).f T cl rec env S = (wes2 cs).f T cl rec env S := by
  have key : ∀ (c : C) (r : List C), ((rec env S (.e c)).b1 fun x S => (rec env S (.es r)).bs fun ds S => Rs.oks (x :: ds) S) = gEs c r T cl rec env S := fun c r => by
    unfold gEs
    simp only [b1R_eq, bsR_eq]
  cases cs with
  | nil => rfl
  | cons c r => cases c <;> first | rfl | exact key _ _
def gAnds (c : C) (r : List C) : Hd := fun _ _ rec env S => b1R (rec env S (.t c)) fun x S => bolD x (rec env S (.ands r)) (.ok (.bl false) S)
def wands2 (cs : List C) : W := match cs with
  | [] => ⟨gTbad⟩
  | [c] => ⟨fun _ _ rec env S => rec env S (.t c)⟩
  | c :: r => ⟨gAnds c r⟩
theorem wands2_eq (cs : List C) (T : Tb) (cl : Cl) (rec : Rc) (env : En) (S : Sto) : (w_ands cs).f T cl rec env S = (wands2 cs).f T cl rec env S := by
  cases cs with
  | nil => rfl
  | cons c r => cases r with
    | nil => rfl
    | cons d r =>
      show (rec env S (.t c)).b1 _ = gAnds c (d :: r) T cl rec env S
      unfold gAnds
      rw [b1R_eq]
      congr 1
      funext x S
      exact bolD_eq x _ _
def gAndv (c : C) (r : List C) : Hd := fun _ _ rec env S => b1R (rec env S (.e c)) fun x S => bolD x (rec env S (.andv r)) (.ok (.bl false) S)
def wandv2 (cs : List C) : W := match cs with
  | [] => ⟨gTbad⟩
  | [c] => ⟨fun _ _ rec env S => rec env S (.e c)⟩
  | c :: r => ⟨gAndv c r⟩
theorem wandv2_eq (cs : List C) (T : Tb) (cl : Cl) (rec : Rc) (env : En) (S : Sto) : (w_andv cs).f T cl rec env S = (wandv2 cs).f T cl rec env S := by
  cases cs with
  | nil => rfl
  | cons c r => cases r with
    | nil => rfl
    | cons d r =>
      show (rec env S (.e c)).b1 _ = gAndv c (d :: r) T cl rec env S
      unfold gAndv
      rw [b1R_eq]
      congr 1
      funext x S
      exact bolD_eq x _ _
def ssR (r : Rs) (f : En → Sto → Rs) : Rs := @Rs.rec (fun _ => Rs) (fun _ _ => .bad) (fun _ _ => .bad) f (fun d S => .ret d S) (fun e S => .brk e S) (fun e S => .cnt e S) (fun c as S => .exc c as S) .bad r
theorem ssR_eq (r : Rs) (f : En → Sto → Rs) : (match r with | .nx e S => f e S | .ret d S => .ret d S | .brk e S => .brk e S | .cnt e S => .cnt e S | .exc c as S => .exc c as S | _ => .bad) = ssR r f := by cases r <;> rfl
def gSs (c : CS) (r : List CS) : Hd := fun _ _ rec env S => ssR (rec env S (.s c)) fun e S => rec e S (.ss r)
def wss2 (cs : List CS) : W := match cs with
  | [] => ⟨fun _ _ _ env S => .nx env S⟩
  | c :: r => ⟨gSs c r⟩
theorem wss2_eq (cs : List CS) (T : Tb) (cl : Cl) (rec : Rc) (env : En) (S : Sto) : (w_ss cs).f T cl rec env S = (wss2 cs).f T cl rec env S := by
  cases cs with
  | nil => rfl
  | cons c r => exact ssR_eq _ _
def gAsg (tg : Tg) (c : C) : Hd := fun _ _ rec env S => b1R (rec env S (.e c)) fun d S => optR (asgR tg d env S) .bad fun e => .nx e S
theorem gAsg_eq (tg : Tg) (c : C) : hS_asg tg c = gAsg tg c := by
  funext T cl rec env S
  unfold hS_asg gAsg
  rw [b1R_eq]
  congr 1
  funext d S
  rw [asgR_eq]
  cases asgR tg d env S <;> rfl
def gRet (c : C) : Hd := fun _ _ rec env S => b1R (rec env S (.e c)) fun d S => .ret d S
def gExpr (c : C) : Hd := fun _ _ rec env S => b1R (rec env S (.e c)) fun _ S => .nx env S
def gIf (t : C) (a b : List CS) : Hd := fun _ _ rec env S => b1R (rec env S (.t t)) fun x S => bolD x (rec env S (.ss a)) (rec env S (.ss b))
theorem gIf_eq (t : C) (a b : List CS) : hS_ite t a b = gIf t a b := by
  funext T cl rec env S
  unfold hS_ite gIf
  rw [b1R_eq]
  congr 1
  funext x S
  exact bolD_eq x _ _
def gFor (tg : Tg) (it : ItK) (ops : List C) (body : List CS) : Hd := fun _ _ rec env S => bsR (rec env S (.es ops)) fun ds S => optR (ivOf it ds S) .bad fun iv => rec env S (.floop 0 iv tg body)
theorem gFor_eq (tg : Tg) (it : ItK) (ops : List C) (body : List CS) : hS_for_ tg it ops body = gFor tg it ops body := by
  funext T cl rec env S
  unfold hS_for_ gFor
  rw [bsR_eq]
  congr 1
  funext ds S
  cases ivOf it ds S <;> rfl
def loopR (r : Rs) (f : En → Sto → Rs) : Rs := @Rs.rec (fun _ => Rs) (fun _ _ => .bad) (fun _ _ => .bad) f (fun d S => .ret d S) (fun e S => .nx e S) f (fun c as S => .exc c as S) .bad r
def gFl (i : Nat) (iv : Iv) (tg : Tg) (body : List CS) : Hd := fun _ _ rec env S => optR (ivNext i iv S) .bad fun nx => optR nx (.nx env S) fun d => optR (asgR tg d env S) .bad fun e1 => loopR (rec e1 S (.ss body)) fun e S => rec e S (.floop (Nat.succ i) iv tg body)
theorem gFl_eq (i : Nat) (iv : Iv) (tg : Tg) (body : List CS) : hT_floop i iv tg body = gFl i iv tg body := by
  funext T cl rec env S
  unfold hT_floop gFl
  cases ivNext i iv S with
  | none => rfl
  | some nx => cases nx with
    | none => rfl
    | some d =>
      show (match asgT tg d env S with | none => _ | some e1 => _) = optR (asgR tg d env S) _ _
      rw [asgR_eq]
      cases asgR tg d env S with
      | none => rfl
      | some e1 =>
        show _ = loopR (rec e1 S (.ss body)) fun e S => rec e S (.floop (Nat.succ i) iv tg body)
        dsimp only
        generalize rec e1 S (.ss body) = r
        cases r <;> rfl
def wE2 (c : C) : W := match c with
  | .var i => ⟨gVar i⟩
  | .tup cs => ⟨gTup cs⟩
  | .lst cs => ⟨gLst cs⟩
  | .bin op a b => ⟨gBin op a b⟩
  | .not a => ⟨gNot a⟩
  | .ite t a b => ⟨gIte t a b⟩
  | .cmp op a b => ⟨gCmp op a b⟩
  | .idx a i => ⟨gIdx a i⟩
  | .call j args => ⟨gCall j args⟩
  | .isi a ts => ⟨gIsi a ts⟩
  | .isi1 a t => ⟨gIsi1 a t⟩
  | .comp vs tg it ops ifs elt => ⟨gComp vs tg it ops ifs elt⟩
  | c => wE c
theorem wE2_eq (c : C) : (wE c).f = (wE2 c).f := by
  cases c with
  | var i => exact gVar_eq i
  | tup cs => exact gTup_eq cs
  | lst cs => exact gLst_eq cs
  | bin op a b => exact gBin_eq op a b
  | not a => exact gNot_eq a
  | ite t a b => exact gIte_eq t a b
  | cmp op a b => exact gCmp_eq op a b
  | idx a i => exact gIdx_eq a i
  | call j args => exact gCall_eq j args
  | isi a ts => exact gIsi_eq a ts
  | isi1 a t => exact gIsi1_eq a t
  | comp vs tg it ops ifs elt => exact gComp_eq vs tg it ops ifs elt
  | _ => rfl
def wS2 (c : CS) : W := match c with
  | .asg tg c => ⟨gAsg tg c⟩
  | .ret c => ⟨gRet c⟩
  | .expr c => ⟨gExpr c⟩
  | .ite t a b => ⟨gIf t a b⟩
  | .for_ tg it ops body => ⟨gFor tg it ops body⟩
  | c => wS c
theorem wS2_eq (c : CS) : (wS c).f = (wS2 c).f := by
  cases c with
  | asg tg c => exact gAsg_eq tg c
  | ret c =>
    funext T cl rec env S
    exact b1R_eq _ _
  | expr c =>
    funext T cl rec env S
    exact b1R_eq _ _
  | ite t a b => exact gIf_eq t a b
  | for_ tg it ops body => exact gFor_eq tg it ops body
  | _ => rfl
def wT2 (t : Tk) : W := @Tk.rec (fun _ => W) wE2 wes2 wt2 wands2 w_ors wandv2 w_orv w_op wS2 wss2 (fun i iv tg body => ⟨gFl i iv tg body⟩) (fun t body => ⟨hT_wloop t body⟩) (fun i iv n vs tg ifs elt => ⟨gLc i iv n vs tg ifs elt⟩)
  (fun i iv n vs tg ifs vs1 tg1 it1 ops1 ifs1 elt => ⟨hT_lc2 i iv n vs tg ifs vs1 tg1 it1 ops1 ifs1 elt⟩) (fun i iv n vs tg ifs k v => ⟨hT_dc i iv n vs tg ifs k v⟩) t
theorem wT2_eq (t : Tk) (T : Tb) (cl : Cl) (rec : Rc) (env : En) (S : Sto) : (wT t).f T cl rec env S = (wT2 t).f T cl rec env S := by
  cases t with
  | e c => exact congrFun (congrFun (congrFun (congrFun (congrFun (wE2_eq c) T) cl) rec) env) S
  | s c => exact congrFun (congrFun (congrFun (congrFun (congrFun (wS2_eq c) T) cl) rec) env) S
  | es cs => exact wes2_eq cs T cl rec env S
  | t c => exact wt2_eq c T cl rec env S
  | ands cs => exact wands2_eq cs T cl rec env S
  | andv cs => exact wandv2_eq cs T cl rec env S
  | ss cs => exact wss2_eq cs T cl rec env S
  | floop i iv tg body => exact congrFun (congrFun (congrFun (congrFun (congrFun (gFl_eq i iv tg body) T) cl) rec) env) S
  | lc i iv n vs tg ifs elt => exact congrFun (congrFun (congrFun (congrFun (congrFun (gLc_eq i iv n vs tg ifs elt) T) cl) rec) env) S
  | _ => rfl
def runG (T : Tb) (cl : Cl) (n : Nat) : Rc := @Nat.rec (fun _ => Rc) (fun _ _ _ => .bad) (fun _ ih env S t => (wT2 t).1 T cl ih env S) n
theorem run_g (T : Tb) (cl : Cl) : ∀ n, runW T cl n = runG T cl n
  | 0 => rfl
  | n + 1 => by
    funext env S t
    show (wT t).1 T cl (runW T cl n) env S = (wT2 t).1 T cl (runG T cl n) env S
    rw [run_g T cl n]
    exact wT2_eq t T cl _ env S
def endR (r : Rs) : Rs := @Rs.rec (fun _ => Rs) (fun _ _ => .bad) (fun _ _ => .bad) (fun _ S => .ok .non S) (fun d S => .ok d S) (fun _ _ => .bad) (fun _ _ => .bad) (fun c as S => .exc c as S) .bad r
theorem endR_eq (r : Rs) : endW r = endR r := by cases r <;> rfl
def mapR (l : List D) (m : List (Option D)) : List (Option D) := @List.rec D (fun _ => List (Option D)) m (fun a _ ih => some a :: ih) l
theorem mapR_eq : ∀ (l : List D) (m : List (Option D)), l.map some ++ m = mapR l m
  | [], _ => rfl
  | a :: r, m => by
    show some a :: (r.map some ++ m) = some a :: mapR r m
    rw [mapR_eq r m]
def fnG (T : Tb) (cl : Cl) (j : Nat) (ds : List D) (S : Sto) : Rs := optR (nthR T.fs j) .bad fun e => bolR (Nat.beq (lenR ds) (lenR e.ps)) (endR (runG T cl fuel (mapR ds (List.replicate (Nat.sub (lenR e.N) (lenR e.ps)) none)) S (.ss e.body))) .bad
theorem fnG_eq (T : Tb) (cl : Cl) (j : Nat) (ds : List D) (S : Sto) : fnW T cl j ds S = fnG T cl j ds S := by
  unfold fnW fnG
  rw [nthR_eq]
  cases nthR T.fs j with
  | none => rfl
  | some e =>
    show bodyW T cl ds S e = bolR (Nat.beq (lenR ds) (lenR e.ps)) (endR (runG T cl fuel (mapR ds (List.replicate (Nat.sub (lenR e.N) (lenR e.ps)) none)) S (.ss e.body))) .bad
    unfold bodyW
    rw [← lenR_eq, ← lenR_eq, ← lenR_eq, run_g, endR_eq, mapR_eq]
    cases h : Nat.beq ds.length e.ps.length with
    | false => rfl
    | true =>
      rw [Nat.eq_of_beq_eq_true h]
      rfl
def runFnG (T : Tb) (k : Nat) : Cl := @Nat.rec (fun _ => Cl) (fun _ _ _ => .bad) (fun _ ih j ds S => fnG T ih j ds S) k
theorem runFn_g (T : Tb) : ∀ k, runFn T k = runFnG T k := fun k => by
  rw [runFn_w]
  induction k with
  | zero => rfl
  | succ k ih =>
    funext j ds S
    show fnW T (runFnW T k) j ds S = fnG T (runFnG T k) j ds S
    rw [ih]
    exact fnG_eq T _ j ds S
end
end EV
set_option Elab.async false
set_option linter.all false
set_option maxRecDepth 100000
set_option maxHeartbeats 4000000
/-! a part cut between its statements -/
namespace EV
open PySem PySem.Spec PyProof.Rows L2
mutual
def eqDb : D → D → Bool
  | .non, .non => true
  | .bl a, .bl b => a == b
  | .int a, .int b => decide (a = b)
  | .str a, .str b => decide (a = b)
  | .ref a, .ref b => Nat.beq a b
  | .tup a, .tup b => eqDs a b
  | .fn a, .fn b => decide (a = b)
  | .tpf a, .tpf b => eqDs a b
  | _, _ => false
def eqDs : List D → List D → Bool
  | [], [] => true
  | a :: r, b :: s => eqDb a b && eqDs r s
  | _, _ => false
end
mutual
theorem eqDb_is : ∀ {a b : D}, eqDb a b = true → a = b
  | .non, b, h => by cases b <;> first | rfl | (unfold eqDb at h; cases h)
  | .bl a, b, h => by
    cases b <;> first | (unfold eqDb at h; rw [eq_of_beq h]; done) | (unfold eqDb at h; cases h)
  | .int a, b, h => by
    cases b <;> first | (unfold eqDb at h; rw [of_decide_eq_true h]; done) | (unfold eqDb at h; cases h)
  | .str a, b, h => by
    cases b <;> first | (unfold eqDb at h; rw [of_decide_eq_true h]; done) | (unfold eqDb at h; cases h)
  | .ref a, b, h => by
    cases b <;> first | (unfold eqDb at h; rw [Nat.eq_of_beq_eq_true h]; done) | (unfold eqDb at h; cases h)
  | .fn a, b, h => by
    cases b <;> first | (unfold eqDb at h; rw [of_decide_eq_true h]; done) | (unfold eqDb at h; cases h)
  | .tup a, b, h => by
    cases b <;> first | (unfold eqDb at h; rw [eqDs_is h]; done) | (unfold eqDb at h; cases h)
  | .tpf a, b, h => by
    cases b <;> first | (unfold eqDb at h; rw [eqDs_is h]; done) | (unfold eqDb at h; cases h)
theorem eqDs_is : ∀ {a b : List D}, eqDs a b = true → a = b
  | [], b, h => by cases b <;> first | rfl | (unfold eqDs at h; cases h)
  | a :: r, b, h => by
    cases b with
    | nil => unfold eqDs at h; cases h
    | cons b s =>
      unfold eqDs at h
      rw [Bool.and_eq_true] at h
      rw [eqDb_is h.1, eqDs_is h.2]
end
def eqIs : List Int → List Int → Bool
  | [], [] => true
  | a :: r, b :: s => decide (a = b) && eqIs r s
  | _, _ => false
theorem eqIs_is : ∀ {a b : List Int}, eqIs a b = true → a = b
  | [], b, h => by cases b <;> first | rfl | (unfold eqIs at h; cases h)
  | a :: r, b, h => by
    cases b with
    | nil => unfold eqIs at h; cases h
    | cons b s =>
      unfold eqIs at h
      rw [Bool.and_eq_true] at h
      rw [of_decide_eq_true h.1, eqIs_is h.2]
def eqPs : List (D × D) → List (D × D) → Bool
  | [], [] => true
  | a :: r, b :: s => eqDb a.1 b.1 && eqDb a.2 b.2 && eqPs r s
  | _, _ => false
theorem eqPs_is : ∀ {a b : List (D × D)}, eqPs a b = true → a = b
  | [], b, h => by cases b <;> first | rfl | (unfold eqPs at h; cases h)
  | a :: r, b, h => by
    cases b with
    | nil => unfold eqPs at h; cases h
    | cons b s =>
      unfold eqPs at h
      rw [Bool.and_eq_true, Bool.and_eq_true] at h
      rw [Prod.ext (eqDb_is h.1.1) (eqDb_is h.1.2), eqPs_is h.2]
def eqOb : Ob → Ob → Bool
  | .lst a, .lst b => eqDs a b
  | .dki a b, .dki c d => eqIs a c && eqDs b d
  | .dkn a, .dkn b => eqPs a b
  | _, _ => false
theorem eqOb_is {a b : Ob} (h : eqOb a b = true) : a = b := by
  cases a <;> cases b <;> unfold eqOb at h <;> first | (cases h; done) | skip
  · rw [eqDs_is h]
  · rw [Bool.and_eq_true] at h
    rw [eqIs_is h.1, eqDs_is h.2]
  · rw [eqPs_is h]
def eqL : List (Nat × Ob) → List (Nat × Ob) → Bool
  | [], [] => true
  | a :: r, b :: s => Nat.beq a.1 b.1 && eqOb a.2 b.2 && eqL r s
  | _, _ => false
theorem eqL_is : ∀ {a b : List (Nat × Ob)}, eqL a b = true → a = b
  | [], b, h => by cases b <;> first | rfl | (unfold eqL at h; cases h)
  | a :: r, b, h => by
    cases b with
    | nil => unfold eqL at h; cases h
    | cons b s =>
      unfold eqL at h
      rw [Bool.and_eq_true, Bool.and_eq_true] at h
      rw [Prod.ext (Nat.eq_of_beq_eq_true h.1.1) (eqOb_is h.1.2), eqL_is h.2]
def eqEn : En → En → Bool
  | [], [] => true
  | none :: r, none :: s => eqEn r s
  | some a :: r, some b :: s => eqDb a b && eqEn r s
  | _, _ => false
theorem eqEn_is : ∀ {a b : En}, eqEn a b = true → a = b
  | [], b, h => by cases b <;> first | rfl | (unfold eqEn at h; cases h)
  | none :: r, b, h => by
    cases b with
    | nil => unfold eqEn at h; cases h
    | cons b s => cases b with
      | none => unfold eqEn at h; rw [eqEn_is h]
      | some b => unfold eqEn at h; cases h
  | some a :: r, b, h => by
    cases b with
    | nil => unfold eqEn at h; cases h
    | cons b s => cases b with
      | none => unfold eqEn at h; cases h
      | some b =>
        unfold eqEn at h
        rw [Bool.and_eq_true] at h
        rw [eqDb_is h.1, eqEn_is h.2]
def isNx (r : Rs) (E : En) (S : Sto) : Bool := match r with
  | .nx e s => eqEn e E && Nat.beq s.nx S.nx && eqL s.l S.l
  | _ => false
theorem isNx_is {r : Rs} {E : En} {S : Sto} (h : isNx r E S = true) : r = .nx E S := by
  unfold isNx at h
  split at h
  · rename_i e s
    rw [Bool.and_eq_true, Bool.and_eq_true] at h
    obtain ⟨nx, l⟩ := s
    obtain ⟨nx', l'⟩ := S
    have e1 : nx = nx' := Nat.eq_of_beq_eq_true h.1.2
    have e2 : l = l' := eqL_is h.2
    rw [eqEn_is h.1.1, e1, e2]
  · cases h
theorem run_app {T : Tb} {cl : Nat → List D → Sto → Rs} {b : List CS} : ∀ (a : List CS) (m : Nat) (env : En) (S : Sto) (E1 : En) (S1 : Sto), run T cl (m + a.length) env S (.ss a) = .nx E1 S1 → run T cl (m + a.length) env S (.ss (a ++ b)) = run T cl m E1 S1 (.ss b)
  | [], m, env, S, E1, S1, h => by
    cases m with
    | zero => cases h
    | succ m =>
      cases h
      rfl
  | c :: a, m, env, S, E1, S1, h => by
    have h : (match run T cl (m + a.length) env S (.s c) with
      | .nx e S => run T cl (m + a.length) e S (.ss a)
      | .ret d S => .ret d S
      | .brk e S => .brk e S
      | .cnt e S => .cnt e S
      | .exc k as S => .exc k as S
      | _ => .bad) = Rs.nx E1 S1 := h
    show (match run T cl (m + a.length) env S (.s c) with
      | .nx e S => run T cl (m + a.length) e S (.ss (a ++ b))
      | .ret d S => .ret d S
      | .brk e S => .brk e S
      | .cnt e S => .cnt e S
      | .exc k as S => .exc k as S
      | _ => .bad) = _
    cases e : run T cl (m + a.length) env S (.s c) with
    | nx e1 S2 =>
      rw [e] at h
      exact run_app a m e1 S2 E1 S1 h
    | _ => rw [e] at h; cases h
def okE (r : Rs) : Bool := match r with | .ret (.bl true) _ => true | _ => false
/-- a def of nothing, cut in two -/
theorem fn_cut {T : Tb} {k j m : Nat} {f : FnE} {c1 c2 : List CS} {E1 : En} {S1 : Sto} (hf : T.fs[j]? = some f) (hp : f.ps = []) (hb : f.body = c1 ++ c2) (hm : m + c1.length = fuel)
    (h1 : run T (runFn T k) fuel (List.replicate f.N.length none) ⟨0, []⟩ (.ss c1) = .nx E1 S1) (h2 : okE (run T (runFn T k) m E1 S1 (.ss c2)) = true) : okT (runFn T (k + 1) j [] ⟨0, []⟩) = true := by
  have e : runFn T (k + 1) j [] ⟨0, []⟩ = (match run T (runFn T k) fuel (List.replicate f.N.length none) ⟨0, []⟩ (.ss f.body) with
        | .ret d S => .ok d S
        | .nx _ S => .ok .non S
        | .exc c as S => .exc c as S
        | _ => .bad) := by
    show (match T.fs[j]? with
      | none => Rs.bad
      | some e => cond (Nat.beq 0 e.ps.length) _ Rs.bad) = _
    rw [hf]
    show cond (Nat.beq 0 f.ps.length) _ _ = _
    rw [hp]
    rfl
  rw [e, hb, ← hm, run_app c1 m _ _ E1 S1 (hm ▸ h1)]
  revert h2
  generalize run T (runFn T k) m E1 S1 (.ss c2) = r
  intro h2
  unfold okE at h2
  split at h2
  · rfl
  · cases h2
end EV
set_option maxRecDepth 1000000
set_option maxHeartbeats 0
namespace K05
open EV PySem L2
def b0 : List CS := [.ite (.and [(.cmp .Gt (.var 1) (.kc (.int 0))), (.isi (.var 0) ["list", "tuple"])]) [.ret (.bi .tuple [(.comp [2] (.nm 2) .seq [(.var 0)] [] (.ite (.isi (.var 2) ["list", "tuple"]) (.call 0 [(.var 2), (.bin .Sub (.var 1) (.kc (.int 1)))]) (.var 2)))])] [], .ret (.var 0)]
def f0 : FnE := { name := "frozen", ps := ["value", "levels"], N := ["value", "levels", "part"], dfl := [(.int 20)], shapes := [], body := b0 }
def b1 : List CS := [.ret (.and [(.isi1 (.var 0) "int"), (.not (.isi1 (.var 0) "bool"))])]
def f1 : FnE := { name := "is_number", ps := ["thing"], N := ["thing"], dfl := [], shapes := [], body := b1 }
def b2 : List CS := [.ret (.and [(.call 1 [(.var 0)]), (.cmp .GtE (.var 0) (.var 1))])]
def f2 : FnE := { name := "is_from", ps := ["thing", "low"], N := ["thing", "low"], dfl := [], shapes := [], body := b2 }
def b3 : List CS := [.ret (.and [(.call 1 [(.var 0)]), (.chain (.kc (.int 0)) .LtE (.var 0) .Lt (.var 1))])]
def f3 : FnE := { name := "is_below", ps := ["thing", "top"], N := ["thing", "top"], dfl := [], shapes := [], body := b3 }
def b4 : List CS := [.ret (.and [(.isi1 (.var 0) "tuple"), (.cmp .Eq (.bi .len [(.var 0)]) (.var 1))])]
def f4 : FnE := { name := "is_row", ps := ["thing", "many"], N := ["thing", "many"], dfl := [], shapes := [], body := b4 }
def b5 : List CS := [.ret (.bi .tuple [(.sset (.var 0))])]
def f5 : FnE := { name := "as_set", ps := ["things"], N := ["things"], dfl := [], shapes := [], body := b5 }
def b6 : List CS := [.ite (.cmp .Eq (.var 1) (.kc (.int 0))) [.raise 1] [], .asg (.nm 2) (.bi .gcd [(.var 0), (.var 1)]), .ite (.cmp .Lt (.var 1) (.kc (.int 0))) [.asg (.nm 2) (.neg (.var 2))] [], .ret (.tup [(.bin .FloorDiv (.var 0) (.var 2)), (.bin .FloorDiv (.var 1) (.var 2))])]
def f6 : FnE := { name := "fraction", ps := ["above", "below"], N := ["above", "below", "shared"], dfl := [], shapes := [], body := b6 }
def b7 : List CS := [.ret (.and [(.isi1 (.var 0) "tuple"), (.bi .all [(.comp [1] (.nm 1) .seq [(.var 0)] [] (.call 2 [(.var 1), (.kc (.int 0))]))])])]
def f7 : FnE := { name := "is_luck", ps := ["thing"], N := ["thing", "number"], dfl := [], shapes := [], body := b7 }
def b8 : List CS := [.asg (.nm 0) (.call 0 [(.var 0)]), .ite (.cmp .Eq (.var 0) (.tup [])) [.ret (.tup [(.kc (.int 0)), (.tup [])])] [], .ret (.tup [(.idx (.var 0) (.kc (.int 0))), (.slc (.var 0) (some (.kc (.int 1))) none)])]
def f8 : FnE := { name := "next_luck", ps := ["luck"], N := ["luck"], dfl := [], shapes := [], body := b8 }
def b9 : List CS := [.asg (.nm 3) (.rngL (.var 1)), .asg (.nm 4) (.lst []), .for_ (.nm 5) .rng1 [(.var 2)] [.asg (.nm 6) (.ite (.cmp .Lt (.var 5) (.bi .len [(.var 0)])) (.idx (.var 0) (.var 5)) (.kc (.int 0))), .expr (.meth .append (.var 4) [(.meth .popAt (.var 3) [(.bin .Mod (.var 6) (.bi .len [(.var 3)]))])])], .ret (.bi .tuple [(.var 4)])]
def f9 : FnE := { name := "drawn", ps := ["luck", "size", "many"], N := ["luck", "size", "many", "left", "places", "turn", "number"], dfl := [], shapes := [], body := b9 }
def b10 : List CS := [.asg (.nm 2) (.rngL (.var 0)), .asg (.nm 3) (.lst []), .for_ (.nm 4) .seq [(.var 1)] [.asg (.nm 5) (.meth .index (.var 2) [(.var 4)]), .expr (.meth .append (.var 3) [(.var 5)]), .expr (.meth .popAt (.var 2) [(.var 5)])], .ret (.bi .tuple [(.var 3)])]
def f10 : FnE := { name := "drawing", ps := ["size", "places"], N := ["size", "places", "left", "numbers", "place", "number"], dfl := [], shapes := [], body := b10 }
def b11 : List CS := [.ite (.not (.chain3 (.kc (.int 0)) .LtE (.var 1) .LtE (.var 0) .LtE (.glob "MOST_THINGS" 60))) [.raise 1] []]
def f11 : FnE := { name := "_check_sizes", ps := ["size", "many"], N := ["size", "many"], dfl := [], shapes := [], body := b11 }
def b12 : List CS := [.expr (.call 11 [(.var 0), (.kc (.int 0))]), .ite (.not (.bi .all [(.comp [2] (.nm 2) .seq [(.var 1)] [] (.call 3 [(.var 2), (.var 0)]))])) [.raise 1] []]
def f12 : FnE := { name := "_check_places", ps := ["size", "places"], N := ["size", "places", "place"], dfl := [], shapes := [], body := b12 }
def b13 : List CS := [.expr (.call 11 [(.var 1), (.var 2)]), .ret (.call 9 [(.var 0), (.var 1), (.var 2)])]
def f13 : FnE := { name := "picks", ps := ["luck", "size", "many"], N := ["luck", "size", "many"], dfl := [], shapes := [(0, ["luck", "size", "many"], [0, 1, 2])], body := b13 }
def b14 : List CS := [.asg (.nm 3) (.call 13 [(.var 0), (.var 1), (.var 2)]), .ret (.bi .tuple [(.comp [4] (.nm 4) .rng1 [(.var 1)] [(.cmp .NotIn (.var 4) (.var 3))] (.var 4))])]
def f14 : FnE := { name := "unpicked", ps := ["luck", "size", "many"], N := ["luck", "size", "many", "gone", "place"], dfl := [], shapes := [(0, ["size", "many", "luck"], [2, 0, 1])], body := b14 }
def b15 : List CS := [.expr (.call 11 [(.var 0), (.var 1)]), .ret (.bi .perm [(.var 0), (.var 1)])]
def f15 : FnE := { name := "picks_count", ps := ["size", "many"], N := ["size", "many"], dfl := [], shapes := [(0, ["many", "size"], [1, 0])], body := b15 }
def b16 : List CS := [.expr (.call 12 [(.var 0), (.var 1)]), .ite (.cmp .Lt (.bi .len [(.call 5 [(.var 1)])]) (.bi .len [(.var 1)])) [.raise 1] [], .ret (.call 10 [(.var 0), (.var 1)])]
def f16 : FnE := { name := "luck_for", ps := ["size", "places"], N := ["size", "places"], dfl := [], shapes := [(0, ["places", "size"], [1, 0])], body := b16 }
def b17 : List CS := [.ret (.call 10 [(.var 1), (.call 13 [(.var 0), (.var 1), (.var 2)])])]
def f17 : FnE := { name := "plain_luck", ps := ["luck", "size", "many"], N := ["luck", "size", "many"], dfl := [], shapes := [], body := b17 }
def b18 : List CS := [.ret (.cmp .Eq (.call 13 [(.var 0), (.var 2), (.var 3)]) (.call 13 [(.var 1), (.var 2), (.var 3)]))]
def f18 : FnE := { name := "pick_alike", ps := ["one", "other", "size", "many"], N := ["one", "other", "size", "many"], dfl := [], shapes := [], body := b18 }
def b19 : List CS := [.par [5, 6] [(.call 13 [(.var 0), (.var 2), (.var 3)]), (.call 13 [(.var 1), (.var 2), (.var 3)])], .for_ (.nm 4) .rng1 [(.var 3)] [.ite (.cmp .NotEq (.idx (.var 5) (.var 4)) (.idx (.var 6) (.var 4))) [.ret (.var 4)] []], .ret (.kc .non)]
def f19 : FnE := { name := "first_unlike_pick", ps := ["one", "other", "size", "many"], N := ["one", "other", "size", "many", "turn", "near", "far"], dfl := [], shapes := [(0, ["one", "other", "size", "many"], [0, 1, 2, 3])], body := b19 }
def b20 : List CS := [.asg (.nm 3) (.kc (.int 0)), .for_ (.tp [4, 5]) .enu [(.call 17 [(.var 0), (.var 1), (.var 2)])] [.asg (.nm 3) (.bin .Add (.bin .Mult (.var 3) (.bin .Sub (.var 1) (.var 4))) (.var 5))], .ret (.var 3)]
def f20 : FnE := { name := "luck_number", ps := ["luck", "size", "many"], N := ["luck", "size", "many", "number", "turn", "figure"], dfl := [], shapes := [(0, ["many", "size", "luck"], [2, 1, 0])], body := b20 }
def b21 : List CS := [.ite (.not (.chain (.kc (.int 0)) .LtE (.var 0) .Lt (.call 15 [(.var 1), (.var 2)]))) [.raise 1] [], .asg (.nm 3) (.lst []), .for_ (.nm 4) .revR [(.var 2)] [.asg (.tp [0, 5]) (.bi .divmod [(.var 0), (.bin .Sub (.var 1) (.var 4))]), .expr (.meth .append (.var 3) [(.var 5)])], .ret (.bi .tuple [(.revs (.var 3))])]
def f21 : FnE := { name := "luck_at", ps := ["number", "size", "many"], N := ["number", "size", "many", "figures", "turn", "figure"], dfl := [], shapes := [(0, ["number", "size", "many"], [0, 1, 2])], body := b21 }
def b22 : List CS := [.ite (.cmp .Gt (.call 15 [(.var 0), (.var 1)]) (.glob "MOST_PICKS" 5000)) [.raise 2] [], .ret (.lprm (.var 0) (.var 1))]
def f22 : FnE := { name := "all_picks", ps := ["size", "many"], N := ["size", "many"], dfl := [], shapes := [(0, ["many", "size"], [1, 0])], body := b22 }
def b23 : List CS := [.expr (.call 12 [(.var 1), (.tup [(.var 3), (.var 4)])]), .asg (.nm 5) (.ddisp [(.var 3), (.var 4), (.var 4), (.var 3)]), .ret (.call 10 [(.var 1), (.comp [6] (.nm 6) .seq [(.call 13 [(.var 0), (.var 1), (.var 2)])] [] (.dget (.var 5) (.var 6) (.var 6)))])]
def f23 : FnE := { name := "exchanged_luck", ps := ["luck", "size", "many", "one", "other"], N := ["luck", "size", "many", "one", "other", "exchanged", "place"], dfl := [], shapes := [(0, ["luck", "size", "many", "one", "other"], [0, 1, 2, 3, 4])], body := b23 }
def b24 : List CS := [.expr (.call 11 [(.var 0), (.var 1)]), .expr (.call 12 [(.var 0), (.tup [(.var 2)])]), .ite (.not (.call 3 [(.var 3), (.var 1)])) [.raise 1] [], .ret (.bi .perm [(.bin .Sub (.var 0) (.kc (.int 1))), (.bin .Sub (.var 1) (.kc (.int 1)))])]
def f24 : FnE := { name := "picks_with", ps := ["size", "many", "place", "turn"], N := ["size", "many", "place", "turn"], dfl := [], shapes := [], body := b24 }
def b25 : List CS := [.expr (.call 11 [(.var 0), (.var 1)]), .expr (.call 12 [(.var 0), (.tup [(.var 2)])]), .ret (.call 6 [(.var 1), (.var 0)])]
def f25 : FnE := { name := "part_gone", ps := ["size", "many", "place"], N := ["size", "many", "place"], dfl := [], shapes := [(0, ["size", "many", "place"], [0, 1, 2])], body := b25 }
def b26 : List CS := [.ite (.not (.call 4 [(.var 0), (.kc (.int 5))])) [.ret (.kc (.bl false))] [], .asg (.tp [1, 2, 3, 4, 5]) (.var 0), .ite (.or [(.not (.call 2 [(.var 1), (.kc (.int 1))])), (.not (.call 2 [(.var 2), (.kc (.int 0))]))]) [.ret (.kc (.bl false))] [], .ite (.and [(.cmp .IsNot (.var 3) (.kc .non)), (.not (.call 2 [(.var 3), (.kc (.int 1))]))]) [.ret (.kc (.bl false))] [], .ret (.and [(.isi1 (.var 4) "bool"), (.isi1 (.var 5) "bool")])]
def f26 : FnE := { name := "is_rule", ps := ["thing"], N := ["thing", "batch", "keep", "wait", "doubles", "marks"], dfl := [], shapes := [], body := b26 }
def b27 : List CS := [.asg (.tp [1, 2, 3]) (.slc (.var 0) (some (.kc (.int 2))) none), .ret (.and [(.cmp .Is (.var 1) (.kc .non)), (.var 2), (.var 3)])]
def f27 : FnE := { name := "is_careful", ps := ["rule"], N := ["rule", "wait", "doubles", "marks"], dfl := [], shapes := [], body := b27 }
def b28 : List CS := [.ite (.not (.isi1 (.var 0) "tuple")) [.ret (.kc (.bl false))] [], .ite (.not (.bi .all [(.comp [2] (.nm 2) .seq [(.var 0)] [] (.and [(.call 4 [(.var 2), (.kc (.int 2))]), (.call 2 [(.idx (.var 2) (.kc (.int 0))), (.kc (.int 0))]), (.call 2 [(.idx (.var 2) (.kc (.int 1))), (.kc (.int 1))])]))])) [.ret (.kc (.bl false))] [], .ret (.bi .all [(.comp [1] (.nm 1) .rng1 [(.bin .Sub (.bi .len [(.var 0)]) (.kc (.int 1)))] [] (.cmp .LtE (.idx (.idx (.var 0) (.var 1)) (.kc (.int 1))) (.idx (.idx (.var 0) (.bin .Add (.var 1) (.kc (.int 1)))) (.kc (.int 1)))))])]
def f28 : FnE := { name := "_is_taken", ps := ["thing"], N := ["thing", "place", "pair"], dfl := [], shapes := [], body := b28 }
def b29 : List CS := [.asg (.nm 2) (.kc (.int 0)), .for_ (.nm 3) .seq [(.var 1)] [.ite (.and [(.cmp .Lt (.var 2) (.bi .len [(.var 0)])), (.cmp .Eq (.idx (.var 0) (.var 2)) (.var 3))]) [.aug 2 .Add (.kc (.int 1))] []], .ret (.cmp .Eq (.var 2) (.bi .len [(.var 0)]))]
def f29 : FnE := { name := "_is_part_of", ps := ["part", "row"], N := ["part", "row", "found", "token"], dfl := [], shapes := [], body := b29 }
def b30 : List CS := [.ite (.not (.call 4 [(.var 0), (.kc (.int 3))])) [.ret (.kc (.bl false))] [], .asg (.tp [1, 2, 3]) (.var 0), .ite (.or [(.not (.isi1 (.var 1) "tuple")), (.not (.call 28 [(.var 2)])), (.not (.call 7 [(.var 3)]))]) [.ret (.kc (.bl false))] [], .ret (.and [(.bi .all [(.comp [4] (.nm 4) .seq [(.var 1)] [] (.call 2 [(.var 4), (.kc (.int 0))]))]), (.call 29 [(.var 1), (.comp [4, 5] (.tp [4, 5]) .seq [(.var 2)] [] (.var 4))])])]
def f30 : FnE := { name := "is_bin", ps := ["thing"], N := ["thing", "lying", "taken", "luck", "token", "_"], dfl := [], shapes := [], body := b30 }
def b31 : List CS := [.ret (.tup [(.tup []), (.tup []), (.call 0 [(.var 0)])])]
def f31 : FnE := { name := "empty_bin", ps := ["luck"], N := ["luck"], dfl := [], shapes := [], body := b31 }
def b32 : List CS := [.for_ (.nm 2) .seq [(.var 0)] [.ite (.not (.chain (.kc (.int 0)) .LtE (.var 2) .Lt (.bi .len [(.var 1)]))) [.raise1 0 (.var 2)] []]]
def f32 : FnE := { name := "_check_tokens", ps := ["tokens", "whose"], N := ["tokens", "whose", "token"], dfl := [], shapes := [], body := b32 }
def b33 : List CS := [.asg (.tp [5, 6]) (.slc (.var 0) (some (.kc (.int 3))) none), .asg (.nm 4) (.comp [7, 8] (.tp [7, 8]) .seq [(.idx (.var 1) (.kc (.int 1)))] [] (.var 7)), .ite (.and [(.var 5), (.cmp .In (.var 2) (.var 4))]) [.ret (.kc (.bl true))] [], .ret (.and [(.var 6), (.cmp .In (.idx (.var 3) (.var 2)) (.comp [7] (.nm 7) .seq [(.var 4)] [] (.idx (.var 3) (.var 7))))])]
def f33 : FnE := { name := "is_refused", ps := ["rule", "box", "token", "whose"], N := ["rule", "box", "token", "whose", "before", "doubles", "marks", "other", "_"], dfl := [], shapes := [], body := b33 }
def b34 : List CS := [.ite (.call 33 [(.var 0), (.var 1), (.var 2), (.var 3)]) [.ret (.var 1)] [], .asg (.tp [5, 6, 7]) (.var 1), .ret (.tup [(.bin .Add (.var 5) (.tup [(.var 2)])), (.bin .Add (.var 6) (.tup [(.tup [(.var 2), (.var 4)])])), (.var 7)])]
def f34 : FnE := { name := "box_with", ps := ["rule", "box", "token", "whose", "moment"], N := ["rule", "box", "token", "whose", "moment", "lying", "taken", "luck"], dfl := [], shapes := [], body := b34 }
def b35 : List CS := [.expr (.call 32 [(.tup [(.var 2)]), (.var 3)]), .ret (.call 33 [(.var 0), (.var 1), (.var 2), (.var 3)])]
def f35 : FnE := { name := "refuses", ps := ["rule", "box", "token", "whose"], N := ["rule", "box", "token", "whose"], dfl := [], shapes := [], body := b35 }
def b36 : List CS := [.expr (.call 32 [(.tup [(.var 2)]), (.var 3)]), .ret (.call 34 [(.var 0), (.call 0 [(.var 1)]), (.var 2), (.var 3), (.var 4)])]
def f36 : FnE := { name := "put_in", ps := ["rule", "box", "token", "whose", "moment"], N := ["rule", "box", "token", "whose", "moment"], dfl := [], shapes := [(0, ["rule", "box", "token", "whose", "moment"], [0, 1, 2, 3, 4])], body := b36 }
def b37 : List CS := [.asg (.tp [4, 5, 6]) (.slc (.var 0) none (some (.kc (.int 3)))), .asg (.nm 3) (.idx (.var 1) (.kc (.int 0))), .ite (.and [(.cmp .IsNot (.var 6) (.kc .non)), (.var 3), (.cmp .GtE (.bin .Sub (.var 2) (.call 45 [(.var 1), (.idx (.var 3) (.kc (.int 0)))])) (.var 6))]) [.ret (.bi .len [(.var 3)])] [], .ite (.cmp .GtE (.bi .len [(.var 3)]) (.bin .Add (.var 4) (.var 5))) [.ret (.bin .Sub (.bi .len [(.var 3)]) (.var 5))] [], .ret (.kc (.int 0))]
def f37 : FnE := { name := "must_go", ps := ["rule", "box", "moment"], N := ["rule", "box", "moment", "lying", "batch", "keep", "wait"], dfl := [], shapes := [], body := b37 }
def b38 : List CS := [.asg (.tp [7, 8, 9]) (.var 1), .asg (.nm 3) (.call 37 [(.var 0), (.var 1), (.var 2)]), .asg (.nm 4) (.call 9 [(.var 9), (.bi .len [(.var 7)]), (.var 3)]), .asg (.nm 5) (.bi .tuple [(.comp [10] (.nm 10) .seq [(.var 4)] [] (.idx (.var 7) (.var 10)))]), .asg (.nm 6) (.bi .tuple [(.comp [10, 11] (.tp [10, 11]) .enu [(.var 7)] [(.cmp .NotIn (.var 10) (.var 4))] (.var 11))]), .ret (.tup [(.tup [(.var 6), (.var 8), (.slc (.var 9) (some (.var 3)) none)]), (.var 5)])]
def f38 : FnE := { name := "box_without", ps := ["rule", "box", "moment"], N := ["rule", "box", "moment", "many", "places", "gone", "left", "lying", "taken", "luck", "place", "token"], dfl := [], shapes := [], body := b38 }
def b39 : List CS := [.ret (.call 38 [(.var 0), (.call 0 [(.var 1)]), (.var 2)])]
def f39 : FnE := { name := "let_go", ps := ["rule", "box", "moment"], N := ["rule", "box", "moment"], dfl := [], shapes := [], body := b39 }
def b40 : List CS := [.for_ (.nm 5) .seq [(.var 2)] [.asg (.nm 1) (.call 34 [(.var 0), (.var 1), (.var 5), (.var 3), (.var 4)])], .ret (.call 38 [(.var 0), (.var 1), (.var 4)])]
def f40 : FnE := { name := "moment_of", ps := ["rule", "box", "comes", "whose", "moment"], N := ["rule", "box", "comes", "whose", "moment", "token"], dfl := [], shapes := [], body := b40 }
def b41 : List CS := [.expr (.call 32 [(.var 2), (.var 3)]), .ret (.call 40 [(.var 0), (.call 0 [(.var 1)]), (.var 2), (.var 3), (.var 4)])]
def f41 : FnE := { name := "house_moment", ps := ["rule", "box", "comes", "whose", "moment"], N := ["rule", "box", "comes", "whose", "moment"], dfl := [], shapes := [(0, ["rule", "box", "comes", "whose", "moment"], [0, 1, 2, 3, 4])], body := b41 }
def b42 : List CS := [.expr (.call 32 [(.comp2 [7, 9] (.nm 7) .seq [(.var 2)] [] [9] (.nm 9) .seq [(.var 7)] [] (.var 9)), (.var 3)]), .asg (.nm 4) (.call 31 [(.var 1)]), .asg (.nm 5) (.lst []), .for_ (.tp [6, 7]) .enu [(.var 2)] [.asg (.tp [4, 8]) (.call 40 [(.var 0), (.var 4), (.var 7), (.var 3), (.bin .Add (.var 6) (.kc (.int 1)))]), .expr (.meth .append (.var 5) [(.tup [(.var 4), (.var 8)])])], .ret (.var 5)]
def f42 : FnE := { name := "house_run", ps := ["rule", "luck", "rows", "whose"], N := ["rule", "luck", "rows", "whose", "box", "told", "place", "comes", "gone", "token"], dfl := [], shapes := [(0, ["whose", "rows", "luck", "rule"], [3, 2, 1, 0])], body := b42 }
def b43 : List CS := [.asg (.nm 2) (.comp [3, 4] (.tp [3, 4]) .seq [(.idx (.var 0) (.kc (.int 1)))] [(.cmp .Eq (.var 3) (.var 1))] (.var 4)), .ite (.not (.var 2)) [.raise1 0 (.var 1)] [], .ret (.var 2)]
def f43 : FnE := { name := "_taken_at", ps := ["box", "token"], N := ["box", "token", "moments", "other", "moment"], dfl := [], shapes := [], body := b43 }
def b44 : List CS := [.ret (.idx (.call 43 [(.var 0), (.var 1)]) (.kc (.int 0)))]
def f44 : FnE := { name := "taken_first", ps := ["box", "token"], N := ["box", "token"], dfl := [], shapes := [], body := b44 }
def b45 : List CS := [.ret (.idx (.call 43 [(.var 0), (.var 1)]) (.neg (.kc (.int 1))))]
def f45 : FnE := { name := "taken_last", ps := ["box", "token"], N := ["box", "token"], dfl := [], shapes := [(0, ["box", "token"], [0, 1])], body := b45 }
def b46 : List CS := [.ret (.bi .tuple [(.comp [1, 2] (.tp [1, 2]) .seq [(.idx (.var 0) (.kc (.int 1)))] [(.cmp .NotIn (.var 1) (.idx (.var 0) (.kc (.int 0))))] (.var 1))])]
def f46 : FnE := { name := "gone_from", ps := ["box"], N := ["box", "token", "_"], dfl := [], shapes := [], body := b46 }
def b47 : List CS := [.asg (.tp [2, 3]) (.slc (.var 0) none (some (.kc (.int 2)))), .ret (.bi .max [(.kc (.int 0)), (.bin .Sub (.bin .Add (.var 2) (.var 3)) (.bi .len [(.idx (.var 1) (.kc (.int 0)))]))])]
def f47 : FnE := { name := "still_wanted", ps := ["rule", "box"], N := ["rule", "box", "batch", "keep"], dfl := [], shapes := [], body := b47 }
def b48 : List CS := [.par [2, 3] [(.idx (.var 0) (.kc (.int 2))), (.idx (.var 1) (.kc (.int 0)))], .ite (.or [(.cmp .Is (.var 2) (.kc .non)), (.not (.var 3))]) [.ret (.kc .non)] [], .ret (.bin .Add (.call 45 [(.var 1), (.idx (.var 3) (.kc (.int 0)))]) (.var 2))]
def f48 : FnE := { name := "goes_by_wait", ps := ["rule", "box"], N := ["rule", "box", "wait", "lying"], dfl := [], shapes := [], body := b48 }
def b49 : List CS := [.ret (.call 5 [(.comp [2] (.nm 2) .seq [(.idx (.var 0) (.kc (.int 0)))] [] (.idx (.var 1) (.var 2)))])]
def f49 : FnE := { name := "senders_lying", ps := ["box", "whose"], N := ["box", "whose", "token"], dfl := [], shapes := [], body := b49 }
def b50 : List CS := [.expr (.call 32 [(.comp2 [7, 8] (.nm 7) .seq [(.var 1)] [] [8] (.nm 8) .seq [(.var 7)] [] (.var 8)), (.var 2)]), .ite (.cmp .NotEq (.bi .len [(.var 3)]) (.bi .len [(.var 1)])) [.raise 1] [], .asg (.nm 4) (.call 31 [(.tup [])]), .asg (.nm 5) (.lst []), .for_ (.tp [6, 7]) .enu [(.var 1)] [.for_ (.nm 8) .seq [(.var 7)] [.asg (.nm 4) (.call 34 [(.var 0), (.var 4), (.var 8), (.var 2), (.bin .Add (.var 6) (.kc (.int 1)))])], .asg (.nm 9) (.call 51 [(.idx (.var 4) (.kc (.int 0))), (.call 37 [(.var 0), (.var 4), (.bin .Add (.var 6) (.kc (.int 1)))]), (.idx (.var 3) (.var 6))]), .expr (.meth .extend (.var 5) [(.var 9)]), .asg (.tp [4, 10]) (.call 38 [(.var 0), (.tup [(.idx (.var 4) (.kc (.int 0))), (.idx (.var 4) (.kc (.int 1))), (.var 9)]), (.bin .Add (.var 6) (.kc (.int 1)))])], .ret (.bi .tuple [(.var 5)])]
def f50 : FnE := { name := "run_luck", ps := ["rule", "rows", "whose", "goes"], N := ["rule", "rows", "whose", "goes", "box", "numbers", "place", "comes", "token", "luck", "_"], dfl := [], shapes := [(0, ["rule", "rows", "whose", "goes"], [0, 1, 2, 3])], body := b50 }
def b51 : List CS := [.ite (.or [(.cmp .NotEq (.bi .len [(.var 2)]) (.var 1)), (.cmp .NotEq (.bi .len [(.call 5 [(.var 2)])]) (.var 1))]) [.raise 1] [], .ite (.not (.bi .all [(.comp [3] (.nm 3) .seq [(.var 2)] [] (.cmp .In (.var 3) (.var 0)))])) [.raise 1] [], .ret (.call 10 [(.bi .len [(.var 0)]), (.comp [3] (.nm 3) .seq [(.var 2)] [] (.tidx (.var 0) (.var 3)))])]
def f51 : FnE := { name := "_luck_of_going", ps := ["lying", "many", "goes"], N := ["lying", "many", "goes", "token"], dfl := [], shapes := [], body := b51 }
def b52 : List CS := [.ret (.ite (.isi (.var 0) ["list", "tuple"]) (.comp [1] (.nm 1) .seq [(.var 0)] [] (.call 52 [(.var 1)])) (.var 0))]
def f52 : FnE := { name := "_law_lists", ps := ["matter"], N := ["matter", "bit"], dfl := [], shapes := [], body := b52 }
def b53 : List CS := [.ite (.isi (.var 1) ["list", "tuple"]) [.ite (.or [(.cmp .NotEq (.isi1 (.var 0) "list") (.isi1 (.var 1) "list")), (.cmp .NotEq (.isi1 (.var 0) "tuple") (.isi1 (.var 1) "tuple"))]) [.ret (.kc (.bl false))] [], .ret (.and [(.cmp .Eq (.bi .len [(.var 0)]) (.bi .len [(.var 1)])), (.bi .all [(.comp [2, 3] (.tp [2, 3]) .zip [(.var 0), (.var 1)] [] (.call 53 [(.var 2), (.var 3)]))])])] [], .ite (.or [(.cmp .Is (.var 1) (.kc .non)), (.isi (.var 1) ["bool", "str"])]) [.ret (.and [(.cmp .Eq (.var 0) (.var 1)), (.cmp .Eq (.isi1 (.var 0) "bool") (.isi1 (.var 1) "bool")), (.cmp .Eq (.cmp .Is (.var 0) (.kc .non)) (.cmp .Is (.var 1) (.kc .non)))])] [], .ret (.and [(.isi1 (.var 0) "int"), (.not (.isi1 (.var 0) "bool")), (.cmp .Eq (.var 0) (.var 1))])]
def f53 : FnE := { name := "_law_same", ps := ["got", "due"], N := ["got", "due", "mine", "its"], dfl := [], shapes := [], body := b53 }
def b54 : List CS := [.asg (.nm 2) (.tup [(.glf 13), (.glf 14), (.glf 15), (.glf 16), (.glf 17), (.glf 20), (.glf 21), (.glf 22), (.glf 23), (.glf 24), (.glf 25), (.glf 18), (.glf 19), (.glf 35), (.glf 36), (.glf 41), (.glf 42), (.glf 44), (.glf 45), (.glf 50)]), .ite (.cmp .Eq (.bi .len [(.var 1)]) (.kc (.int 2))) [.ret (.callV (.idx (.var 2) (.var 0)) [(.idx (.var 1) (.kc (.int 0))), (.idx (.var 1) (.kc (.int 1)))])] [], .ite (.cmp .Eq (.bi .len [(.var 1)]) (.kc (.int 3))) [.ret (.callV (.idx (.var 2) (.var 0)) [(.idx (.var 1) (.kc (.int 0))), (.idx (.var 1) (.kc (.int 1))), (.idx (.var 1) (.kc (.int 2)))])] [], .ite (.cmp .Eq (.bi .len [(.var 1)]) (.kc (.int 4))) [.ret (.callV (.idx (.var 2) (.var 0)) [(.idx (.var 1) (.kc (.int 0))), (.idx (.var 1) (.kc (.int 1))), (.idx (.var 1) (.kc (.int 2))), (.idx (.var 1) (.kc (.int 3)))])] [], .ret (.callV (.idx (.var 2) (.var 0)) [(.idx (.var 1) (.kc (.int 0))), (.idx (.var 1) (.kc (.int 1))), (.idx (.var 1) (.kc (.int 2))), (.idx (.var 1) (.kc (.int 3))), (.idx (.var 1) (.kc (.int 4)))])]
def f54 : FnE := { name := "_law_told", ps := ["door", "parts"], N := ["door", "parts", "doors"], dfl := [], shapes := [], body := b54 }
def b55 : List CS := [.try_ [.ret (.call 54 [(.var 0), (.var 1)])] [(0, 2, [.k (.str "token"), .fld "token", .isE "LookupError"]), (2, 2, [.k (.str "many"), .isE "ValueError"]), (1, 2, [.k (.str "unfit"), .isE "ValueError"])]]
def f55 : FnE := { name := "_law_heard", ps := ["door", "parts"], N := ["door", "parts", "error"], dfl := [], shapes := [], body := b55 }
def b56 : List CS := [.asg (.nm 0) (.lst [(.call 13 [(.tup [(.kc (.int 7)), (.kc (.int 4)), (.kc (.int 0))]), (.kc (.int 5)), (.kc (.int 3))]), (.call 13 [(.tup []), (.kc (.int 4)), (.kc (.int 2))]), (.call 13 [(.lst [(.kc (.int 1000000))]), (.kc (.int 3)), (.kc (.int 3))]), (.callK 13 [] ["luck", "size", "many"] [(.tup [(.kc (.int 5)), (.kc (.int 5)), (.kc (.int 5)), (.kc (.int 9))]), (.kc (.int 4)), (.kc (.int 4))] [0, 1, 2])]), .asg (.nm 1) (.lst [(.tup [(.kc (.int 2)), (.kc (.int 0)), (.kc (.int 1))]), (.tup [(.kc (.int 0)), (.kc (.int 1))]), (.tup [(.kc (.int 1)), (.kc (.int 0)), (.kc (.int 2))]), (.tup [(.kc (.int 1)), (.kc (.int 3)), (.kc (.int 2)), (.kc (.int 0))])]), .asg (.nm 0) (.bin .Add (.var 0) (.lst [(.call 13 [(.tup [(.kc (.int 9))]), (.kc (.int 0)), (.kc (.int 0))]), (.call 14 [(.tup [(.kc (.int 7)), (.kc (.int 4)), (.kc (.int 0))]), (.kc (.int 5)), (.kc (.int 3))]), (.call 14 [(.tup [(.kc (.int 2))]), (.kc (.int 2)), (.kc (.int 2))]), (.callK 14 [] ["size", "many", "luck"] [(.kc (.int 3)), (.kc (.int 0)), (.tup [(.kc (.int 1))])] [2, 0, 1])])), .asg (.nm 1) (.bin .Add (.var 1) (.lst [(.tup []), (.tup [(.kc (.int 3)), (.kc (.int 4))]), (.tup []), (.tup [(.kc (.int 0)), (.kc (.int 1)), (.kc (.int 2))])])), .asg (.nm 0) (.bin .Add (.var 0) (.lst [(.call 8 [(.tup [(.kc (.int 3)), (.kc (.int 1))])]), (.call 8 [(.tup [])]), (.call 8 [(.lst [(.kc (.int 4))])]), (.call 7 [(.tup [(.kc (.int 0)), (.kc (.int 7))])]), (.call 7 [(.tup [])]), (.call 7 [(.tup [(.bin .Pow (.kc (.int 10)) (.kc (.int 40)))])])])), .asg (.nm 1) (.bin .Add (.var 1) (.lst [(.tup [(.kc (.int 3)), (.tup [(.kc (.int 1))])]), (.tup [(.kc (.int 0)), (.tup [])]), (.tup [(.kc (.int 4)), (.tup [])]), (.kc (.bl true)), (.kc (.bl true)), (.kc (.bl true))])), .asg (.nm 0) (.bin .Add (.var 0) (.comp [2] (.nm 2) .seq [(.tup [(.lst [(.kc (.int 0))]), (.tup [(.kc (.bl true))]), (.tup [(.neg (.kc (.int 1)))]), (.tup [(.kc (.int 0)), (.kc (.str "1"))]), (.tup [(.kc .non)]), (.kc (.int 3)), (.kc (.str "12")), (.tup [(.lst [(.kc (.int 0))])])])] [] (.call 7 [(.var 2)]))), .asg (.nm 1) (.bin .Add (.var 1) (.bin .Mult (.lst [(.kc (.bl false))]) (.kc (.int 8)))), .asg (.nm 0) (.bin .Add (.var 0) (.lst [(.call 16 [(.kc (.int 5)), (.tup [(.kc (.int 2)), (.kc (.int 0)), (.kc (.int 1))])]), (.callK 16 [] ["places", "size"] [(.lst [(.kc (.int 3)), (.kc (.int 2)), (.kc (.int 1)), (.kc (.int 0))]), (.kc (.int 4))] [1, 0]), (.call 16 [(.kc (.int 0)), (.tup [])]), (.call 17 [(.tup [(.kc (.int 7)), (.kc (.int 4)), (.kc (.int 9))]), (.kc (.int 5)), (.kc (.int 3))])])), .asg (.nm 1) (.bin .Add (.var 1) (.lst [(.tup [(.kc (.int 2)), (.kc (.int 0)), (.kc (.int 0))]), (.tup [(.kc (.int 3)), (.kc (.int 2)), (.kc (.int 1)), (.kc (.int 0))]), (.tup []), (.tup [(.kc (.int 2)), (.kc (.int 0)), (.kc (.int 0))])])), .asg (.nm 0) (.bin .Add (.var 0) (.lst [(.call 18 [(.tup [(.kc (.int 2)), (.kc (.int 0)), (.kc (.int 0))]), (.tup [(.kc (.int 7)), (.kc (.int 4)), (.kc (.int 9))]), (.kc (.int 5)), (.kc (.int 3))]), (.call 18 [(.tup [(.kc (.int 2))]), (.lst [(.kc (.int 2)), (.kc (.int 1))]), (.kc (.int 5)), (.kc (.int 2))]), (.call 18 [(.tup []), (.tup [(.kc (.int 0)), (.kc (.int 0))]), (.kc (.int 2)), (.kc (.int 2))])])), .asg (.nm 1) (.bin .Add (.var 1) (.lst [(.kc (.bl true)), (.kc (.bl false)), (.kc (.bl true))])), .asg (.nm 0) (.bin .Add (.var 0) (.lst [(.call 19 [(.tup [(.kc (.int 2)), (.kc (.int 0)), (.kc (.int 1))]), (.tup [(.kc (.int 7)), (.kc (.int 4)), (.kc (.int 9))]), (.kc (.int 5)), (.kc (.int 3))]), (.call 19 [(.tup [(.kc (.int 2)), (.kc (.int 0)), (.kc (.int 0))]), (.tup [(.kc (.int 7)), (.kc (.int 4)), (.kc (.int 9))]), (.kc (.int 5)), (.kc (.int 3))])])), .asg (.nm 0) (.bin .Add (.var 0) (.lst [(.call 19 [(.lst [(.kc (.int 0))]), (.lst [(.kc (.int 1))]), (.kc (.int 3)), (.kc (.int 0))]), (.callK 19 [] ["one", "other", "size", "many"] [(.tup [(.kc (.int 0))]), (.tup [(.kc (.int 1))]), (.kc (.int 3)), (.kc (.int 1))] [0, 1, 2, 3])])), .asg (.nm 1) (.bin .Add (.var 1) (.lst [(.kc (.int 2)), (.kc .non), (.kc .non), (.kc (.int 0))])), .ret (.call 53 [(.var 0), (.var 1)])]
def f56 : FnE := { name := "_law_luck_right", ps := [], N := ["got", "due", "own"], dfl := [], shapes := [], body := b56 }
def b57 : List CS := [.asg (.nm 0) (.lst [(.call 15 [(.kc (.int 5)), (.kc (.int 2))]), (.call 15 [(.kc (.int 3)), (.kc (.int 0))]), (.call 15 [(.kc (.int 0)), (.kc (.int 0))]), (.callK 15 [] ["many", "size"] [(.kc (.int 4)), (.kc (.int 4))] [1, 0]), (.call 15 [(.kc (.int 20)), (.kc (.int 18))])]), .asg (.nm 1) (.lst [(.kc (.int 20)), (.kc (.int 1)), (.kc (.int 1)), (.kc (.int 24)), (.kc (.int 1216451004088320000))]), .asg (.nm 0) (.bin .Add (.var 0) (.lst [(.call 22 [(.kc (.int 3)), (.kc (.int 2))]), (.call 22 [(.kc (.int 2)), (.kc (.int 0))]), (.callK 22 [] ["many", "size"] [(.kc (.int 1)), (.kc (.int 3))] [1, 0]), (.bi .len [(.call 22 [(.kc (.int 18)), (.kc (.int 3))])]), (.idx (.call 22 [(.kc (.int 8)), (.kc (.int 4))]) (.kc (.int 1679)))])), .asg (.nm 1) (.bin .Add (.var 1) (.lst [(.lst [(.tup [(.kc (.int 0)), (.kc (.int 1))]), (.tup [(.kc (.int 0)), (.kc (.int 2))]), (.tup [(.kc (.int 1)), (.kc (.int 0))]), (.tup [(.kc (.int 1)), (.kc (.int 2))]), (.tup [(.kc (.int 2)), (.kc (.int 0))]), (.tup [(.kc (.int 2)), (.kc (.int 1))])]), (.lst [(.tup [])]), (.lst [(.tup [(.kc (.int 0))]), (.tup [(.kc (.int 1))]), (.tup [(.kc (.int 2))])]), (.kc (.int 4896)), (.tup [(.kc (.int 7)), (.kc (.int 6)), (.kc (.int 5)), (.kc (.int 4))])])), .asg (.nm 2) (.call 22 [(.kc (.int 2)), (.kc (.int 1))]), .expr (.meth .append (.var 2) [(.tup [])]), .asg (.nm 0) (.bin .Add (.var 0) (.lst [(.call 22 [(.kc (.int 2)), (.kc (.int 1))]), (.call 20 [(.tup [(.kc (.int 2)), (.kc (.int 0)), (.kc (.int 1))]), (.kc (.int 5)), (.kc (.int 3))]), (.callK 20 [] ["many", "size", "luck"] [(.kc (.int 2)), (.kc (.int 3)), (.lst [(.kc (.int 8)), (.kc (.int 7))])] [2, 1, 0]), (.call 20 [(.tup []), (.kc (.int 6)), (.kc (.int 6))])])), .asg (.nm 1) (.bin .Add (.var 1) (.lst [(.lst [(.tup [(.kc (.int 0))]), (.tup [(.kc (.int 1))])]), (.kc (.int 25)), (.kc (.int 5)), (.kc (.int 0))])), .asg (.nm 0) (.bin .Add (.var 0) (.lst [(.call 21 [(.kc (.int 25)), (.kc (.int 5)), (.kc (.int 3))]), (.call 21 [(.kc (.int 0)), (.kc (.int 4)), (.kc (.int 4))]), (.callK 21 [] ["number", "size", "many"] [(.kc (.int 5)), (.kc (.int 3)), (.kc (.int 2))] [0, 1, 2]), (.call 21 [(.kc (.int 0)), (.kc (.int 2)), (.kc (.int 0))])])), .asg (.nm 1) (.bin .Add (.var 1) (.lst [(.tup [(.kc (.int 2)), (.kc (.int 0)), (.kc (.int 1))]), (.tup [(.kc (.int 0)), (.kc (.int 0)), (.kc (.int 0)), (.kc (.int 0))]), (.tup [(.kc (.int 2)), (.kc (.int 1))]), (.tup [])])), .asg (.nm 0) (.bin .Add (.var 0) (.lst [(.call 23 [(.tup [(.kc (.int 2)), (.kc (.int 0)), (.kc (.int 1))]), (.kc (.int 5)), (.kc (.int 3)), (.kc (.int 2)), (.kc (.int 4))]), (.call 23 [(.tup [(.kc (.int 2)), (.kc (.int 0)), (.kc (.int 1))]), (.kc (.int 5)), (.kc (.int 3)), (.kc (.int 2)), (.kc (.int 0))]), (.call 23 [(.tup [(.kc (.int 2)), (.kc (.int 0)), (.kc (.int 1))]), (.kc (.int 5)), (.kc (.int 3)), (.kc (.int 1)), (.kc (.int 4))])])), .asg (.nm 1) (.bin .Add (.var 1) (.lst [(.tup [(.kc (.int 4)), (.kc (.int 0)), (.kc (.int 2))]), (.tup [(.kc (.int 0)), (.kc (.int 1)), (.kc (.int 1))]), (.tup [(.kc (.int 2)), (.kc (.int 0)), (.kc (.int 1))])])), .asg (.nm 0) (.bin .Add (.var 0) (.lst [(.callK 23 [] ["luck", "size", "many", "one", "other"] [(.lst [(.kc (.int 9))]), (.kc (.int 3)), (.kc (.int 1)), (.kc (.int 2)), (.kc (.int 2))] [0, 1, 2, 3, 4]), (.call 24 [(.kc (.int 5)), (.kc (.int 3)), (.kc (.int 4)), (.kc (.int 0))]), (.call 24 [(.kc (.int 4)), (.kc (.int 4)), (.kc (.int 0)), (.kc (.int 3))])])), .asg (.nm 1) (.bin .Add (.var 1) (.lst [(.tup [(.kc (.int 0))]), (.kc (.int 12)), (.kc (.int 6))])), .asg (.nm 0) (.bin .Add (.var 0) (.lst [(.call 25 [(.kc (.int 4)), (.kc (.int 2)), (.kc (.int 1))]), (.call 25 [(.kc (.int 3)), (.kc (.int 3)), (.kc (.int 0))]), (.callK 25 [] ["size", "many", "place"] [(.kc (.int 6)), (.kc (.int 0)), (.kc (.int 5))] [0, 1, 2]), (.call 25 [(.kc (.int 5)), (.kc (.int 2)), (.kc (.int 4))])])), .asg (.nm 1) (.bin .Add (.var 1) (.lst [(.tup [(.kc (.int 1)), (.kc (.int 2))]), (.tup [(.kc (.int 1)), (.kc (.int 1))]), (.tup [(.kc (.int 0)), (.kc (.int 1))]), (.tup [(.kc (.int 2)), (.kc (.int 5))])])), .ret (.call 53 [(.var 0), (.var 1)])]
def f57 : FnE := { name := "_law_counts_right", ps := [], N := ["got", "due", "told"], dfl := [], shapes := [], body := b57 }
def b58 : List CS := [.asg (.nm 0) (.bin .Add (.comp [4] (.nm 4) .seq [(.tup [(.kc (.int 0)), (.kc (.int 1)), (.kc (.int 4)), (.kc (.int 5))])] [] (.tup [(.var 4), (.tup [(.tup [(.kc (.int 1))]), (.kc (.int 2)), (.kc (.int 3))])])) (.lst [(.tup [(.kc (.int 2)), (.tup [(.kc (.int 0)), (.kc (.int 1))])]), (.tup [(.kc (.int 7)), (.tup [(.kc (.int 2)), (.kc (.int 3))])]), (.tup [(.kc (.int 3)), (.tup [(.kc (.int 3)), (.tup [(.kc (.int 0)), (.kc (.int 3))])])]), (.tup [(.kc (.int 3)), (.tup [(.kc (.int 3)), (.tup [(.kc (.int 1)), (.kc (.int 1))])])])])), .asg (.nm 0) (.bin .Add (.var 0) (.lst [(.tup [(.kc (.int 3)), (.tup [(.kc (.int 3)), (.tup [(.neg (.kc (.int 1)))])])]), (.tup [(.kc (.int 6)), (.tup [(.kc (.int 6)), (.kc (.int 3)), (.kc (.int 2))])]), (.tup [(.kc (.int 6)), (.tup [(.neg (.kc (.int 1))), (.kc (.int 3)), (.kc (.int 2))])]), (.tup [(.kc (.int 6)), (.tup [(.kc (.int 0)), (.kc (.int 2)), (.kc (.int 3))])]), (.tup [(.kc (.int 8)), (.tup [(.tup []), (.kc (.int 3)), (.kc (.int 2)), (.kc (.int 3)), (.kc (.int 0))])]), (.tup [(.kc (.int 8)), (.tup [(.tup []), (.kc (.int 3)), (.kc (.int 2)), (.kc (.int 0)), (.neg (.kc (.int 1)))])])])), .asg (.nm 0) (.bin .Add (.var 0) (.lst [(.tup [(.kc (.int 8)), (.tup [(.tup []), (.kc (.int 2)), (.kc (.int 3)), (.kc (.int 0)), (.kc (.int 1))])]), (.tup [(.kc (.int 9)), (.tup [(.kc (.int 3)), (.kc (.int 2)), (.kc (.int 3)), (.kc (.int 0))])]), (.tup [(.kc (.int 9)), (.tup [(.kc (.int 3)), (.kc (.int 2)), (.kc (.int 0)), (.kc (.int 2))])]), (.tup [(.kc (.int 9)), (.tup [(.kc (.int 3)), (.kc (.int 0)), (.kc (.int 0)), (.kc (.int 0))])]), (.tup [(.kc (.int 10)), (.tup [(.kc (.int 3)), (.kc (.int 2)), (.kc (.int 3))])]), (.tup [(.kc (.int 10)), (.tup [(.kc (.int 2)), (.kc (.int 3)), (.kc (.int 0))])])])), .asg (.nm 0) (.bin .Add (.var 0) (.lst [(.tup [(.kc (.int 11)), (.tup [(.tup []), (.tup []), (.kc (.int 1)), (.kc (.int 2))])]), (.tup [(.kc (.int 12)), (.tup [(.tup []), (.tup []), (.kc (.int 1)), (.kc (.int 2))])]), (.tup [(.kc (.int 0)), (.tup [(.tup []), (.kc (.int 61)), (.kc (.int 1))])]), (.tup [(.kc (.int 0)), (.tup [(.tup []), (.kc (.int 3)), (.neg (.kc (.int 1)))])]), (.tup [(.kc (.int 3)), (.tup [(.kc (.int 61)), (.tup [(.kc (.int 0))])])])])), .asg (.nm 1) (.comp [3] (.nm 3) .seq [(.tup [(.tup [(.kc (.int 8)), (.kc (.int 6))]), (.tup [(.kc (.int 20)), (.kc (.int 5))]), (.tup [(.kc (.int 7)), (.kc (.int 7))]), (.tup [(.kc (.int 60)), (.kc (.int 60))])])] [] (.call 55 [(.kc (.int 7)), (.var 3)])), .asg (.nm 2) (.bin .Add (.bin .Mult (.lst [(.lst [(.kc (.str "unfit")), (.kc (.bl true))])]) (.bi .len [(.var 0)])) (.bin .Mult (.lst [(.lst [(.kc (.str "many")), (.kc (.bl true))])]) (.kc (.int 4)))), .ret (.call 53 [(.bin .Add (.comp [4, 5] (.tp [4, 5]) .seq [(.var 0)] [] (.call 55 [(.var 4), (.var 5)])) (.var 1)), (.var 2)])]
def f58 : FnE := { name := "_law_luck_refused", ps := [], N := ["rows", "many", "due", "own", "door", "parts"], dfl := [], shapes := [], body := b58 }
def b59 : List CS := [.asg (.tp [6, 7, 8, 9]) (.tup [(.tup [(.kc (.int 2)), (.kc (.int 1)), (.kc .non), (.kc (.bl true)), (.kc (.bl true))]), (.tup [(.kc (.int 3)), (.kc (.int 0)), (.kc (.int 2)), (.kc (.bl true)), (.kc (.bl true))]), (.tup [(.kc (.int 1)), (.kc (.int 0)), (.kc .non), (.kc (.bl false)), (.kc (.bl false))]), (.tup [(.kc (.int 4)), (.kc (.int 0)), (.kc (.int 1)), (.kc (.int 2)), (.kc (.int 0))])]), .asg (.nm 0) (.tup [(.tup [(.kc (.int 0)), (.kc (.int 1)), (.kc (.int 1))]), (.tup [(.kc (.int 4))]), (.tup [(.kc (.int 2)), (.kc (.int 3))]), (.tup []), (.tup [(.kc (.int 0))])]), .asg (.nm 1) (.call 42 [(.var 6), (.tup [(.kc (.int 1)), (.kc (.int 2))]), (.var 0), (.var 9)]), .expr (.meth .append (.var 1) [(.tup [])]), .asg (.nm 1) (.call 42 [(.var 6), (.tup [(.kc (.int 1)), (.kc (.int 2))]), (.var 0), (.var 9)]), .asg (.nm 2) (.bin .Add (.bin .Mult (.lst [(.tup [(.tup [(.kc (.int 0)), (.kc (.int 1))]), (.tup [(.tup [(.kc (.int 0)), (.kc (.int 1))]), (.tup [(.kc (.int 1)), (.kc (.int 1))])]), (.tup [(.kc (.int 1)), (.kc (.int 2))])])]) (.kc (.int 2))) (.bin .Mult (.lst [(.tup [(.tup [(.kc (.int 2))]), (.tup [(.tup [(.kc (.int 0)), (.kc (.int 1))]), (.tup [(.kc (.int 1)), (.kc (.int 1))]), (.tup [(.kc (.int 2)), (.kc (.int 3))]), (.tup [(.kc (.int 3)), (.kc (.int 3))])]), (.tup [])])]) (.kc (.int 3)))), .asg (.nm 3) (.lst [(.tup []), (.tup []), (.tup [(.kc (.int 1)), (.kc (.int 3)), (.kc (.int 0))]), (.tup []), (.tup [])]), .asg (.nm 4) (.lst [(.var 1), (.callK 42 [] ["whose", "rows", "luck", "rule"] [(.bi .list [(.var 9)]), (.call 52 [(.var 0)]), (.lst [(.kc (.int 1)), (.kc (.int 2))]), (.bi .list [(.var 6)])] [3, 2, 1, 0])]), .asg (.nm 5) (.bin .Mult (.lst [(.lzip [(.var 2), (.var 3)])]) (.kc (.int 2))), .asg (.tp [10, 11]) (.tup [(.idx (.var 2) (.kc (.int 0))), (.idx (.var 2) (.kc (.int 2)))]), .asg (.nm 4) (.bin .Add (.bin .Add (.var 4) (.comp [14] (.nm 14) .seq [(.tup [(.kc (.int 0)), (.kc (.int 1)), (.kc (.int 2)), (.kc (.int 4))])] [] (.call 35 [(.var 6), (.var 10), (.var 14), (.var 9)]))) (.comp [14] (.nm 14) .seq [(.tup [(.kc (.int 0)), (.kc (.int 1)), (.kc (.int 4))])] [] (.call 35 [(.var 8), (.var 10), (.var 14), (.var 9)]))), .asg (.nm 5) (.bin .Add (.var 5) (.lst [(.kc (.bl true)), (.kc (.bl true)), (.kc (.bl false)), (.kc (.bl true)), (.kc (.bl false)), (.kc (.bl false)), (.kc (.bl false))])), .asg (.tp [12, 13]) (.tup [(.tup [(.kc (.int 1)), (.kc (.int 0)), (.kc .non), (.kc (.bl true)), (.kc (.bl false))]), (.tup [(.kc (.int 1)), (.kc (.int 0)), (.kc .non), (.kc (.bl false)), (.kc (.bl true))])]), .asg (.nm 4) (.bin .Add (.var 4) (.comp [14] (.nm 14) .seq [(.tup [(.var 12), (.var 13)])] [] (.comp [15] (.nm 15) .seq [(.tup [(.kc (.int 1)), (.kc (.int 4)), (.kc (.int 3))])] [] (.call 35 [(.var 14), (.call 52 [(.var 10)]), (.var 15), (.var 9)])))), .asg (.nm 5) (.bin .Add (.var 5) (.lst [(.lst [(.kc (.bl true)), (.kc (.bl false)), (.kc (.bl false))]), (.lst [(.kc (.bl true)), (.kc (.bl true)), (.kc (.bl false))])])), .asg (.nm 4) (.bin .Add (.var 4) (.lst [(.call 36 [(.var 6), (.var 10), (.kc (.int 2)), (.var 9), (.kc (.int 4))]), (.call 36 [(.var 6), (.var 10), (.kc (.int 4)), (.var 9), (.kc (.int 4))]), (.callK 36 [] ["rule", "box", "token", "whose", "moment"] [(.var 8), (.var 10), (.kc (.int 1)), (.var 9), (.kc (.int 1))] [0, 1, 2, 3, 4])])), .asg (.nm 5) (.bin .Add (.var 5) (.lst [(.tup [(.tup [(.kc (.int 0)), (.kc (.int 1)), (.kc (.int 2))]), (.tup [(.tup [(.kc (.int 0)), (.kc (.int 1))]), (.tup [(.kc (.int 1)), (.kc (.int 1))]), (.tup [(.kc (.int 2)), (.kc (.int 4))])]), (.tup [(.kc (.int 1)), (.kc (.int 2))])]), (.var 10), (.tup [(.tup [(.kc (.int 0)), (.kc (.int 1)), (.kc (.int 1))]), (.tup [(.tup [(.kc (.int 0)), (.kc (.int 1))]), (.tup [(.kc (.int 1)), (.kc (.int 1))]), (.tup [(.kc (.int 1)), (.kc (.int 1))])]), (.tup [(.kc (.int 1)), (.kc (.int 2))])])])), .asg (.nm 4) (.bin .Add (.var 4) (.lst [(.call 37 [(.var 6), (.var 10), (.kc (.int 1))]), (.call 37 [(.var 6), (.var 11), (.kc (.int 9))]), (.call 37 [(.tup [(.kc (.int 2)), (.kc (.int 0)), (.kc .non), (.kc (.bl true)), (.kc (.bl true))]), (.var 10), (.kc (.int 1))]), (.call 37 [(.tup [(.kc (.int 1)), (.kc (.int 1)), (.kc (.int 3)), (.kc (.bl true)), (.kc (.bl true))]), (.var 10), (.kc (.int 4))])])), .asg (.nm 5) (.bin .Add (.var 5) (.lst [(.kc (.int 0)), (.kc (.int 0)), (.kc (.int 2)), (.kc (.int 2))])), .asg (.nm 4) (.bin .Add (.var 4) (.lst [(.call 37 [(.tup [(.kc (.int 1)), (.kc (.int 1)), (.kc (.int 3)), (.kc (.bl true)), (.kc (.bl true))]), (.var 10), (.kc (.int 3))]), (.call 37 [(.tup [(.kc (.int 5)), (.kc (.int 5)), (.kc (.int 3)), (.kc (.bl true)), (.kc (.bl true))]), (.var 10), (.kc (.int 3))]), (.call 37 [(.tup [(.kc (.int 5)), (.kc (.int 5)), (.kc (.int 3)), (.kc (.bl true)), (.kc (.bl true))]), (.var 10), (.kc (.int 4))])])), .asg (.nm 5) (.bin .Add (.var 5) (.lst [(.kc (.int 1)), (.kc (.int 0)), (.kc (.int 2))])), .asg (.nm 4) (.bin .Add (.var 4) (.lst [(.call 37 [(.tup [(.kc (.int 1)), (.kc (.int 0)), (.kc (.int 1)), (.kc (.bl true)), (.kc (.bl true))]), (.tup [(.tup []), (.tup []), (.tup [])]), (.kc (.int 9))]), (.call 39 [(.var 7), (.tup [(.tup [(.kc (.int 0)), (.kc (.int 1))]), (.tup [(.tup [(.kc (.int 0)), (.kc (.int 1))]), (.tup [(.kc (.int 1)), (.kc (.int 2))])]), (.tup [(.kc (.int 9))])]), (.kc (.int 3))]), (.call 39 [(.var 6), (.var 10), (.kc (.int 1))])])), .asg (.nm 5) (.bin .Add (.var 5) (.lst [(.kc (.int 0)), (.tup [(.tup [(.tup []), (.tup [(.tup [(.kc (.int 0)), (.kc (.int 1))]), (.tup [(.kc (.int 1)), (.kc (.int 2))])]), (.tup [])]), (.tup [(.kc (.int 1)), (.kc (.int 0))])]), (.tup [(.var 10), (.tup [])])])), .asg (.nm 4) (.bin .Add (.var 4) (.lst [(.call 41 [(.var 6), (.var 10), (.tup [(.kc (.int 2)), (.kc (.int 3))]), (.var 9), (.kc (.int 3))]), (.callK 41 [] ["rule", "box", "comes", "whose", "moment"] [(.var 6), (.var 10), (.lst [(.kc (.int 4))]), (.var 9), (.kc (.int 2))] [0, 1, 2, 3, 4])])), .asg (.nm 5) (.bin .Add (.var 5) (.lst [(.tup [(.var 11), (.tup [(.kc (.int 1)), (.kc (.int 3)), (.kc (.int 0))])]), (.tup [(.var 10), (.tup [])])])), .asg (.nm 4) (.bin .Add (.var 4) (.lst [(.comp [14] (.nm 14) .seq [(.call 42 [(.var 7), (.tup []), (.tup [(.tup [(.kc (.int 0))]), (.tup [(.kc (.int 1))]), (.tup []), (.tup [(.kc (.int 2))])]), (.var 9)])] [] (.idx (.var 14) (.kc (.int 1)))), (.idx (.call 42 [(.var 8), (.tup []), (.tup [(.tup [(.kc (.int 1))]), (.tup [(.kc (.int 1)), (.kc (.int 4))])]), (.var 9)]) (.kc (.int 1)))])), .asg (.nm 5) (.bin .Add (.var 5) (.lst [(.lst [(.tup []), (.tup []), (.tup [(.kc (.int 0)), (.kc (.int 1))]), (.tup [])]), (.tup [(.tup [(.tup []), (.tup [(.tup [(.kc (.int 1)), (.kc (.int 1))]), (.tup [(.kc (.int 1)), (.kc (.int 2))]), (.tup [(.kc (.int 4)), (.kc (.int 2))])]), (.tup [])]), (.tup [(.kc (.int 1)), (.kc (.int 4))])])])), .asg (.nm 4) (.bin .Add (.var 4) (.lst [(.call 31 [(.tup [(.kc (.int 3)), (.kc (.int 1))])]), (.call 31 [(.lst [])]), (.call 42 [(.var 6), (.tup [(.kc (.int 5))]), (.tup []), (.var 9)]), (.call 42 [(.var 6), (.tup [(.kc (.int 5))]), (.tup [(.tup [])]), (.tup [])])])), .asg (.nm 5) (.bin .Add (.var 5) (.lst [(.tup [(.tup []), (.tup []), (.tup [(.kc (.int 3)), (.kc (.int 1))])]), (.tup [(.tup []), (.tup []), (.tup [])]), (.lst []), (.lst [(.tup [(.tup [(.tup []), (.tup []), (.tup [(.kc (.int 5))])]), (.tup [])])])])), .ret (.call 53 [(.var 4), (.var 5)])]
def f59 : FnE := { name := "_law_house_right", ps := [], N := ["rows", "run", "bins", "gone", "got", "due", "calm", "hasty", "loose", "whose", "early", "late", "twice", "alone", "own", "token"], dfl := [], shapes := [], body := b59 }
def b60 : List CS := [.asg (.tp [4, 5, 6]) (.tup [(.tup [(.kc (.int 2)), (.kc (.int 1)), (.kc .non), (.kc (.bl true)), (.kc (.bl true))]), (.tup [(.kc (.int 3)), (.kc (.int 0)), (.kc (.int 2)), (.kc (.bl true)), (.kc (.bl true))]), (.tup [(.kc (.int 4)), (.kc (.int 0)), (.kc (.int 1)), (.kc (.int 2)), (.kc (.int 0))])]), .asg (.tp [7, 8]) (.tup [(.tup [(.tup [(.kc (.int 0)), (.kc (.int 1))]), (.tup [(.tup [(.kc (.int 0)), (.kc (.int 1))]), (.tup [(.kc (.int 1)), (.kc (.int 1))])]), (.tup [(.kc (.int 1)), (.kc (.int 2))])]), (.tup [(.tup [(.kc (.int 2))]), (.tup [(.tup [(.kc (.int 0)), (.kc (.int 1))]), (.tup [(.kc (.int 1)), (.kc (.int 1))]), (.tup [(.kc (.int 2)), (.kc (.int 3))]), (.tup [(.kc (.int 3)), (.kc (.int 3))])]), (.tup [])])]), .asg (.nm 0) (.lst [(.call 46 [(.var 8)]), (.call 46 [(.var 7)]), (.call 46 [(.tup [(.tup []), (.tup [(.tup [(.kc (.int 3)), (.kc (.int 1))]), (.tup [(.kc (.int 0)), (.kc (.int 1))])]), (.tup [])])]), (.call 44 [(.var 8), (.kc (.int 2))]), (.call 45 [(.var 8), (.kc (.int 3))])]), .asg (.nm 1) (.lst [(.tup [(.kc (.int 0)), (.kc (.int 1)), (.kc (.int 3))]), (.tup []), (.tup [(.kc (.int 3)), (.kc (.int 0))]), (.kc (.int 3)), (.kc (.int 3))]), .asg (.nm 2) (.tup [(.tup [(.kc (.int 1))]), (.tup [(.tup [(.kc (.int 1)), (.kc (.int 1))]), (.tup [(.kc (.int 1)), (.kc (.int 4))])]), (.tup [])]), .asg (.nm 0) (.bin .Add (.var 0) (.lst [(.call 44 [(.var 2), (.kc (.int 1))]), (.callK 45 [] ["box", "token"] [(.var 2), (.kc (.int 1))] [0, 1]), (.call 48 [(.var 5), (.var 2)]), (.call 48 [(.var 5), (.var 7)])])), .asg (.nm 1) (.bin .Add (.var 1) (.lst [(.kc (.int 1)), (.kc (.int 4)), (.kc (.int 6)), (.kc (.int 3))])), .asg (.nm 0) (.bin .Add (.var 0) (.lst [(.call 48 [(.var 4), (.var 7)]), (.call 48 [(.var 5), (.tup [(.tup []), (.tup [(.tup [(.kc (.int 0)), (.kc (.int 1))])]), (.tup [])])]), (.call 47 [(.var 4), (.var 7)]), (.call 47 [(.var 4), (.var 8)])])), .asg (.nm 1) (.bin .Add (.var 1) (.lst [(.kc .non), (.kc .non), (.kc (.int 1)), (.kc (.int 2))])), .asg (.nm 0) (.bin .Add (.var 0) (.lst [(.call 47 [(.tup [(.kc (.int 1)), (.kc (.int 0)), (.kc .non), (.kc (.bl true)), (.kc (.bl true))]), (.var 7)]), (.call 49 [(.var 7), (.var 6)]), (.call 49 [(.tup [(.tup [(.kc (.int 1)), (.kc (.int 4))]), (.tup [(.tup [(.kc (.int 1)), (.kc (.int 1))]), (.tup [(.kc (.int 4)), (.kc (.int 2))])]), (.tup [])]), (.var 6)])])), .asg (.nm 1) (.bin .Add (.var 1) (.lst [(.kc (.int 0)), (.tup [(.kc (.int 0)), (.kc (.int 4))]), (.tup [(.kc (.int 0))])])), .asg (.nm 0) (.bin .Add (.var 0) (.lst [(.call 49 [(.tup [(.tup []), (.tup []), (.tup [])]), (.var 6)]), (.call 27 [(.var 4)]), (.call 27 [(.var 5)]), (.call 27 [(.tup [(.kc (.int 1)), (.kc (.int 0)), (.kc .non), (.kc (.bl false)), (.kc (.bl true))])])])), .asg (.nm 1) (.bin .Add (.var 1) (.lst [(.tup []), (.kc (.bl true)), (.kc (.bl false)), (.kc (.bl false))])), .asg (.nm 0) (.bin .Add (.var 0) (.lst [(.call 27 [(.tup [(.kc (.int 1)), (.kc (.int 0)), (.kc .non), (.kc (.bl true)), (.kc (.bl false))])]), (.call 26 [(.var 4)]), (.call 26 [(.var 5)]), (.call 26 [(.tup [(.bin .Pow (.kc (.int 10)) (.kc (.int 30))), (.kc (.int 0)), (.kc (.int 1)), (.kc (.bl false)), (.kc (.bl false))])])])), .asg (.nm 1) (.bin .Add (.var 1) (.lst [(.kc (.bl false)), (.kc (.bl true)), (.kc (.bl true)), (.kc (.bl true))])), .asg (.nm 3) (.lst [(.tup [(.kc (.int 0)), (.kc (.int 0)), (.kc .non), (.kc (.bl true)), (.kc (.bl true))]), (.tup [(.kc (.int 1)), (.neg (.kc (.int 1))), (.kc .non), (.kc (.bl true)), (.kc (.bl true))]), (.tup [(.kc (.int 1)), (.kc (.int 0)), (.kc (.int 0)), (.kc (.bl true)), (.kc (.bl true))]), (.tup [(.kc (.int 1)), (.kc (.int 0)), (.kc .non), (.kc (.bl true)), (.kc (.int 1))]), (.tup [(.kc (.int 1)), (.kc (.int 0)), (.kc .non), (.kc .non), (.kc (.bl true))])]), .asg (.nm 3) (.bin .Add (.var 3) (.lst [(.bi .list [(.var 4)]), (.slc (.var 4) none (some (.kc (.int 4)))), (.bin .Add (.var 4) (.tup [(.kc (.bl true))])), (.tup [(.kc (.bl true)), (.kc (.int 0)), (.kc .non), (.kc (.bl true)), (.kc (.bl true))]), (.tup [(.kc (.int 1)), (.kc (.bl false)), (.kc .non), (.kc (.bl true)), (.kc (.bl true))]), (.tup [(.kc (.int 1)), (.kc (.int 0)), (.lst []), (.kc (.bl true)), (.kc (.bl true))]), (.kc (.str "abcde"))])), .asg (.nm 0) (.bin .Add (.var 0) (.comp [9] (.nm 9) .seq [(.var 3)] [] (.call 26 [(.var 9)]))), .asg (.nm 1) (.bin .Add (.var 1) (.bin .Mult (.lst [(.kc (.bl false))]) (.kc (.int 12)))), .asg (.nm 0) (.bin .Add (.var 0) (.comp [9] (.nm 9) .seq [(.tup [(.var 7), (.var 8), (.var 2), (.tup [(.tup [(.kc (.int 1)), (.kc (.int 1))]), (.idx (.var 2) (.kc (.int 1))), (.tup [(.kc (.int 7))])]), (.tup [(.tup []), (.tup []), (.tup [])]), (.tup [(.tup [(.kc (.int 0))]), (.tup [(.tup [(.kc (.int 0)), (.kc (.int 5))])]), (.tup [])])])] [] (.call 30 [(.var 9)]))), .asg (.nm 1) (.bin .Add (.var 1) (.bin .Mult (.lst [(.kc (.bl true))]) (.kc (.int 6)))), .asg (.nm 3) (.lst [(.tup [(.tup [(.kc (.int 2)), (.kc (.int 1))]), (.idx (.var 8) (.kc (.int 1))), (.tup [])]), (.tup [(.tup [(.kc (.int 0)), (.kc (.int 1)), (.kc (.int 1))]), (.idx (.var 7) (.kc (.int 1))), (.tup [])]), (.tup [(.tup []), (.tup [(.tup [(.kc (.int 0)), (.kc (.int 2))]), (.tup [(.kc (.int 1)), (.kc (.int 1))])]), (.tup [])]), (.tup [(.tup []), (.tup [(.tup [(.kc (.int 0)), (.kc (.int 0))])]), (.tup [])]), (.tup [(.tup [(.kc (.int 0))]), (.tup []), (.tup [])]), (.slc (.var 7) none (some (.kc (.int 2)))), (.bin .Add (.var 7) (.tup [(.tup [])]))]), .asg (.nm 3) (.bin .Add (.var 3) (.lst [(.bi .list [(.var 7)]), (.bin .Add (.tup [(.lst [(.kc (.int 0)), (.kc (.int 1))])]) (.slc (.var 7) (some (.kc (.int 1))) none)), (.bin .Add (.slc (.var 7) none (some (.kc (.int 2)))) (.tup [(.lst [(.kc (.int 1))])])), (.bin .Add (.slc (.var 7) none (some (.kc (.int 2)))) (.tup [(.tup [(.neg (.kc (.int 1)))])])), (.tup [(.tup []), (.tup [(.tup [(.kc (.str "1")), (.kc (.int 1))])]), (.tup [])]), (.tup [(.tup []), (.tup [(.tup [(.kc (.int 0)), (.lst [(.kc (.int 1))])])]), (.tup [])]), (.kc (.str "abc"))])), .asg (.nm 0) (.bin .Add (.var 0) (.comp [9] (.nm 9) .seq [(.var 3)] [] (.call 30 [(.var 9)]))), .ret (.call 53 [(.var 0), (.bin .Add (.var 1) (.bin .Mult (.lst [(.kc (.bl false))]) (.kc (.int 14))))])]
def f60 : FnE := { name := "_law_looks_right", ps := [], N := ["got", "due", "again", "bad", "calm", "hasty", "whose", "early", "late", "own"], dfl := [], shapes := [], body := b60 }
def b61 : List CS := [.asg (.tp [3, 4]) (.tup [(.tup [(.kc (.int 2)), (.kc (.int 1)), (.kc .non), (.kc (.bl true)), (.kc (.bl true))]), (.tup [(.kc (.int 4)), (.kc (.int 0)), (.kc (.int 1)), (.kc (.int 2)), (.kc (.int 0))])]), .asg (.tp [5, 6]) (.tup [(.tup [(.tup [(.kc (.int 0)), (.kc (.int 1))]), (.tup [(.tup [(.kc (.int 0)), (.kc (.int 1))]), (.tup [(.kc (.int 1)), (.kc (.int 1))])]), (.tup [(.kc (.int 1)), (.kc (.int 2))])]), (.tup [(.tup [(.kc (.int 0)), (.kc (.int 1)), (.kc (.int 1))]), (.tup [(.kc (.int 4))]), (.tup [(.kc (.int 2)), (.kc (.int 3))]), (.tup []), (.tup [(.kc (.int 0))])])]), .asg (.nm 0) (.comp [7] (.nm 7) .seq [(.tup [(.kc (.int 5)), (.neg (.kc (.int 1)))])] [] (.call 55 [(.kc (.int 13)), (.tup [(.var 3), (.var 5), (.var 7), (.var 4)])])), .asg (.nm 0) (.bin .Add (.var 0) (.comp [7] (.nm 7) .seq [(.tup [(.kc (.int 5)), (.neg (.kc (.int 1)))])] [] (.call 55 [(.kc (.int 14)), (.tup [(.var 3), (.var 5), (.var 7), (.var 4), (.kc (.int 3))])]))), .asg (.nm 1) (.bin .Mult (.comp [7] (.nm 7) .seq [(.tup [(.kc (.int 5)), (.neg (.kc (.int 1)))])] [] (.lst [(.kc (.str "token")), (.var 7), (.kc (.bl true))])) (.kc (.int 2))), .asg (.nm 0) (.bin .Add (.var 0) (.lst [(.call 55 [(.kc (.int 15)), (.tup [(.var 3), (.var 5), (.tup [(.kc (.int 2)), (.kc (.int 7)), (.kc (.int 9))]), (.var 4), (.kc (.int 3))])]), (.call 55 [(.kc (.int 16)), (.tup [(.var 3), (.tup []), (.tup [(.tup [(.kc (.int 0))]), (.tup [(.kc (.int 3)), (.kc (.int 6))])]), (.var 4)])]), (.call 55 [(.kc (.int 17)), (.tup [(.var 5), (.kc (.int 4))])])])), .asg (.nm 1) (.bin .Add (.var 1) (.comp [7] (.nm 7) .seq [(.tup [(.kc (.int 7)), (.kc (.int 6)), (.kc (.int 4))])] [] (.lst [(.kc (.str "token")), (.var 7), (.kc (.bl true))]))), .asg (.nm 0) (.bin .Add (.var 0) (.lst [(.call 55 [(.kc (.int 18)), (.tup [(.var 5), (.neg (.kc (.int 3)))])]), (.call 55 [(.kc (.int 19)), (.tup [(.var 3), (.tup [(.tup [(.kc (.int 0))]), (.tup [(.kc (.int 5))])]), (.var 4), (.tup [(.tup []), (.tup [])])])])])), .asg (.nm 1) (.bin .Add (.var 1) (.lst [(.lst [(.kc (.str "token")), (.neg (.kc (.int 3))), (.kc (.bl true))]), (.lst [(.kc (.str "token")), (.kc (.int 5)), (.kc (.bl true))])])), .asg (.nm 2) (.lst [(.tup [(.tup []), (.tup []), (.tup [(.kc (.int 3)), (.kc (.int 0)), (.kc (.int 1))]), (.tup []), (.tup [])]), (.tup [(.tup []), (.tup []), (.tup [(.kc (.int 1)), (.kc (.int 3)), (.kc (.int 0))]), (.tup []), (.tup [])]), (.tup [(.tup []), (.tup []), (.tup [(.kc (.int 3)), (.kc (.int 2)), (.kc (.int 1))]), (.tup []), (.lst [])])]), .asg (.nm 0) (.bin .Add (.bin .Add (.var 0) (.comp [7] (.nm 7) .seq [(.var 2)] [] (.call 55 [(.kc (.int 19)), (.tup [(.var 3), (.var 6), (.var 4), (.var 7)])]))) (.lst [(.callK 50 [] ["rule", "rows", "whose", "goes"] [(.var 3), (.call 52 [(.var 6)]), (.var 4), (.call 52 [(.idx (.var 2) (.kc (.int 0)))])] [0, 1, 2, 3])])), .asg (.nm 1) (.bin .Add (.var 1) (.lst [(.tup [(.kc (.int 3)), (.kc (.int 0)), (.kc (.int 0))]), (.tup [(.kc (.int 1)), (.kc (.int 2)), (.kc (.int 0))]), (.tup [(.kc (.int 3)), (.kc (.int 2)), (.kc (.int 1))]), (.tup [(.kc (.int 3)), (.kc (.int 0)), (.kc (.int 0))])])), .asg (.nm 2) (.lst [(.tup [(.tup [(.kc (.int 0))]), (.tup []), (.tup []), (.tup []), (.tup [])]), (.tup [(.tup []), (.tup []), (.tup [(.kc (.int 3)), (.kc (.int 0))]), (.tup []), (.tup [])]), (.tup [(.tup []), (.tup []), (.tup [(.kc (.int 3)), (.kc (.int 0)), (.kc (.int 0))]), (.tup []), (.tup [])]), (.tup [(.tup []), (.tup []), (.tup [(.kc (.int 3)), (.kc (.int 0)), (.kc (.int 4))]), (.tup []), (.tup [])]), (.tup [(.tup []), (.tup []), (.tup [(.kc (.int 0)), (.kc (.int 1)), (.kc (.int 2)), (.kc (.int 3))]), (.tup []), (.tup [])]), (.tup [(.tup []), (.tup []), (.tup [(.kc (.int 9)), (.kc (.int 0)), (.kc (.int 1))]), (.tup []), (.tup [])])]), .asg (.nm 0) (.bin .Add (.var 0) (.comp [7] (.nm 7) .seq [(.var 2)] [] (.call 55 [(.kc (.int 19)), (.tup [(.var 3), (.var 6), (.var 4), (.var 7)])]))), .ret (.call 53 [(.var 0), (.bin .Add (.var 1) (.bin .Mult (.lst [(.lst [(.kc (.str "unfit")), (.kc (.bl true))])]) (.kc (.int 6))))])]
def f61 : FnE := { name := "_law_house_refused", ps := [], N := ["got", "due", "goes", "calm", "whose", "early", "rows", "own"], dfl := [], shapes := [], body := b61 }
def b62 : List CS := [.ite (.or [(.not (.call 56 [])), (.not (.call 57 [])), (.not (.call 58 []))]) [.ret (.kc (.bl false))] [], .ret (.and [(.call 59 []), (.call 60 []), (.call 61 [])])]
def f62 : FnE := { name := "law", ps := ["script"], N := ["script"], dfl := [], shapes := [], body := b62 }
def fs : List FnE := [f0, f1, f2, f3, f4, f5, f6, f7, f8, f9, f10, f11, f12, f13, f14, f15, f16, f17, f18, f19, f20, f21, f22, f23, f24, f25, f26, f27, f28, f29, f30, f31, f32, f33, f34, f35, f36, f37, f38, f39, f40, f41, f42, f43, f44, f45, f46, f47, f48, f49, f50, f51, f52, f53, f54, f55, f56, f57, f58, f59, f60, f61, f62]
def T : Tb := { fs := fs, gcd := [("gcd", "math.gcd"), ("perm", "math.perm")], consts := [("DEEPEST", 20), ("MOST_THINGS", 60), ("MOST_PICKS", 5000)], excs := ["NoToken", "Unfit", "TooMany"], bases := [["LookupError"], ["ValueError"], ["ValueError"]], flds := [some "token", none, none], tcs := [], comb := false, prm := true }
end K05
namespace K05
open EV PySem PySem.Spec PyProof.Rows L2
def st (i : Nat) : Stmt := PySem.Challenge.pw_sendershade_k05_luck_and_one_house_by_ha.main.body.getD i (.Pass ⟨0, 0, 0, 0⟩)
theorem s0 : FnScope f0.N f0.ps (defScope (st 8)) := ⟨rfl, rfl, rfl, by decide +kernel, rfl, by decide +kernel, by decide +kernel⟩
theorem c0 : isSs T 1000 f0.N (defScope (st 8)) (defBody (st 8)) f0.body = true := by decide +kernel
theorem n0 {K : PySem.W.Frag} {mg : Str → Option Value} {h : Heap} (X : K.In h) (G : h.Ns mainGlobals mg) (R : DefRD K (st 8) f0.name [.int 20]) : FnF T K mg f0 := fnf_mkD 1000 (.int 20) (.int 20) X G R s0 c0 rfl rfl (fun _ _ => .int _) (fun _ _ _ _ _ _ _ us its hl hi => match us, its, hl, hi with | [_, _], [_], _, _ => ⟨_, rfl, rfl⟩) (fun _ _ _ _ _ _ _ us its hl hi => match us, its, hl, hi with | [_], [_], _, _ => ⟨_, rfl, rfl⟩)
theorem s1 : FnScope f1.N f1.ps (defScope (st 9)) := ⟨rfl, rfl, rfl, by decide +kernel, rfl, by decide +kernel, by decide +kernel⟩
theorem c1 : isSs T 1000 f1.N (defScope (st 9)) (defBody (st 9)) f1.body = true := by decide +kernel
theorem n1 {K : PySem.W.Frag} {mg : Str → Option Value} {h : Heap} (X : K.In h) (G : h.Ns mainGlobals mg) (R : DefR K (st 9) f1.name) : FnF T K mg f1 := fnf_mk 1000 X G R s1 c1 rfl (fun _ _ _ _ _ _ us hl => match us, hl with | [_], _ => rfl) (fun _ _ _ _ _ _ q hq => by cases hq)
theorem s2 : FnScope f2.N f2.ps (defScope (st 10)) := ⟨rfl, rfl, rfl, by decide +kernel, rfl, by decide +kernel, by decide +kernel⟩
theorem c2 : isSs T 1000 f2.N (defScope (st 10)) (defBody (st 10)) f2.body = true := by decide +kernel
theorem n2 {K : PySem.W.Frag} {mg : Str → Option Value} {h : Heap} (X : K.In h) (G : h.Ns mainGlobals mg) (R : DefR K (st 10) f2.name) : FnF T K mg f2 := fnf_mk 1000 X G R s2 c2 rfl (fun _ _ _ _ _ _ us hl => match us, hl with | [_, _], _ => rfl) (fun _ _ _ _ _ _ q hq => by cases hq)
theorem s3 : FnScope f3.N f3.ps (defScope (st 11)) := ⟨rfl, rfl, rfl, by decide +kernel, rfl, by decide +kernel, by decide +kernel⟩
theorem c3 : isSs T 1000 f3.N (defScope (st 11)) (defBody (st 11)) f3.body = true := by decide +kernel
theorem n3 {K : PySem.W.Frag} {mg : Str → Option Value} {h : Heap} (X : K.In h) (G : h.Ns mainGlobals mg) (R : DefR K (st 11) f3.name) : FnF T K mg f3 := fnf_mk 1000 X G R s3 c3 rfl (fun _ _ _ _ _ _ us hl => match us, hl with | [_, _], _ => rfl) (fun _ _ _ _ _ _ q hq => by cases hq)
theorem s4 : FnScope f4.N f4.ps (defScope (st 12)) := ⟨rfl, rfl, rfl, by decide +kernel, rfl, by decide +kernel, by decide +kernel⟩
theorem c4 : isSs T 1000 f4.N (defScope (st 12)) (defBody (st 12)) f4.body = true := by decide +kernel
theorem n4 {K : PySem.W.Frag} {mg : Str → Option Value} {h : Heap} (X : K.In h) (G : h.Ns mainGlobals mg) (R : DefR K (st 12) f4.name) : FnF T K mg f4 := fnf_mk 1000 X G R s4 c4 rfl (fun _ _ _ _ _ _ us hl => match us, hl with | [_, _], _ => rfl) (fun _ _ _ _ _ _ q hq => by cases hq)
theorem s5 : FnScope f5.N f5.ps (defScope (st 13)) := ⟨rfl, rfl, rfl, by decide +kernel, rfl, by decide +kernel, by decide +kernel⟩
theorem c5 : isSs T 1000 f5.N (defScope (st 13)) (defBody (st 13)) f5.body = true := by decide +kernel
theorem n5 {K : PySem.W.Frag} {mg : Str → Option Value} {h : Heap} (X : K.In h) (G : h.Ns mainGlobals mg) (R : DefR K (st 13) f5.name) : FnF T K mg f5 := fnf_mk 1000 X G R s5 c5 rfl (fun _ _ _ _ _ _ us hl => match us, hl with | [_], _ => rfl) (fun _ _ _ _ _ _ q hq => by cases hq)
theorem s6 : FnScope f6.N f6.ps (defScope (st 15)) := ⟨rfl, rfl, rfl, by decide +kernel, rfl, by decide +kernel, by decide +kernel⟩
theorem c6 : isSs T 1000 f6.N (defScope (st 15)) (defBody (st 15)) f6.body = true := by decide +kernel
theorem n6 {K : PySem.W.Frag} {mg : Str → Option Value} {h : Heap} (X : K.In h) (G : h.Ns mainGlobals mg) (R : DefR K (st 15) f6.name) : FnF T K mg f6 := fnf_mk 1000 X G R s6 c6 rfl (fun _ _ _ _ _ _ us hl => match us, hl with | [_, _], _ => rfl) (fun _ _ _ _ _ _ q hq => by cases hq)
theorem s7 : FnScope f7.N f7.ps (defScope (st 19)) := ⟨rfl, rfl, rfl, by decide +kernel, rfl, by decide +kernel, by decide +kernel⟩
theorem c7 : isSs T 1000 f7.N (defScope (st 19)) (defBody (st 19)) f7.body = true := by decide +kernel
theorem n7 {K : PySem.W.Frag} {mg : Str → Option Value} {h : Heap} (X : K.In h) (G : h.Ns mainGlobals mg) (R : DefR K (st 19) f7.name) : FnF T K mg f7 := fnf_mk 1000 X G R s7 c7 rfl (fun _ _ _ _ _ _ us hl => match us, hl with | [_], _ => rfl) (fun _ _ _ _ _ _ q hq => by cases hq)
theorem s8 : FnScope f8.N f8.ps (defScope (st 20)) := ⟨rfl, rfl, rfl, by decide +kernel, rfl, by decide +kernel, by decide +kernel⟩
theorem c8 : isSs T 1000 f8.N (defScope (st 20)) (defBody (st 20)) f8.body = true := by decide +kernel
theorem n8 {K : PySem.W.Frag} {mg : Str → Option Value} {h : Heap} (X : K.In h) (G : h.Ns mainGlobals mg) (R : DefR K (st 20) f8.name) : FnF T K mg f8 := fnf_mk 1000 X G R s8 c8 rfl (fun _ _ _ _ _ _ us hl => match us, hl with | [_], _ => rfl) (fun _ _ _ _ _ _ q hq => by cases hq)
theorem s9 : FnScope f9.N f9.ps (defScope (st 21)) := ⟨rfl, rfl, rfl, by decide +kernel, rfl, by decide +kernel, by decide +kernel⟩
theorem c9 : isSs T 1000 f9.N (defScope (st 21)) (defBody (st 21)) f9.body = true := by decide +kernel
theorem n9 {K : PySem.W.Frag} {mg : Str → Option Value} {h : Heap} (X : K.In h) (G : h.Ns mainGlobals mg) (R : DefR K (st 21) f9.name) : FnF T K mg f9 := fnf_mk 1000 X G R s9 c9 rfl (fun _ _ _ _ _ _ us hl => match us, hl with | [_, _, _], _ => rfl) (fun _ _ _ _ _ _ q hq => by cases hq)
theorem s10 : FnScope f10.N f10.ps (defScope (st 22)) := ⟨rfl, rfl, rfl, by decide +kernel, rfl, by decide +kernel, by decide +kernel⟩
theorem c10 : isSs T 1000 f10.N (defScope (st 22)) (defBody (st 22)) f10.body = true := by decide +kernel
theorem n10 {K : PySem.W.Frag} {mg : Str → Option Value} {h : Heap} (X : K.In h) (G : h.Ns mainGlobals mg) (R : DefR K (st 22) f10.name) : FnF T K mg f10 := fnf_mk 1000 X G R s10 c10 rfl (fun _ _ _ _ _ _ us hl => match us, hl with | [_, _], _ => rfl) (fun _ _ _ _ _ _ q hq => by cases hq)
theorem s11 : FnScope f11.N f11.ps (defScope (st 23)) := ⟨rfl, rfl, rfl, by decide +kernel, rfl, by decide +kernel, by decide +kernel⟩
theorem c11 : isSs T 1000 f11.N (defScope (st 23)) (defBody (st 23)) f11.body = true := by decide +kernel
theorem n11 {K : PySem.W.Frag} {mg : Str → Option Value} {h : Heap} (X : K.In h) (G : h.Ns mainGlobals mg) (R : DefR K (st 23) f11.name) : FnF T K mg f11 := fnf_mk 1000 X G R s11 c11 rfl (fun _ _ _ _ _ _ us hl => match us, hl with | [_, _], _ => rfl) (fun _ _ _ _ _ _ q hq => by cases hq)
theorem s12 : FnScope f12.N f12.ps (defScope (st 24)) := ⟨rfl, rfl, rfl, by decide +kernel, rfl, by decide +kernel, by decide +kernel⟩
theorem c12 : isSs T 1000 f12.N (defScope (st 24)) (defBody (st 24)) f12.body = true := by decide +kernel
theorem n12 {K : PySem.W.Frag} {mg : Str → Option Value} {h : Heap} (X : K.In h) (G : h.Ns mainGlobals mg) (R : DefR K (st 24) f12.name) : FnF T K mg f12 := fnf_mk 1000 X G R s12 c12 rfl (fun _ _ _ _ _ _ us hl => match us, hl with | [_, _], _ => rfl) (fun _ _ _ _ _ _ q hq => by cases hq)
theorem s13 : FnScope f13.N f13.ps (defScope (st 25)) := ⟨rfl, rfl, rfl, by decide +kernel, rfl, by decide +kernel, by decide +kernel⟩
theorem c13 : isSs T 1000 f13.N (defScope (st 25)) (defBody (st 25)) f13.body = true := by decide +kernel
theorem n13 {K : PySem.W.Frag} {mg : Str → Option Value} {h : Heap} (X : K.In h) (G : h.Ns mainGlobals mg) (R : DefR K (st 25) f13.name) : FnF T K mg f13 := fnf_mk 1000 X G R s13 c13 rfl (fun _ _ _ _ _ _ us hl => match us, hl with | [_, _, _], _ => rfl) (fun _ _ _ _ _ _ => List.forall_mem_cons.mpr ⟨fun us ws hu hw => match us, ws, hu, hw with | [], [_, _, _], _, _ => rfl, fun _ hq => by cases hq⟩)
theorem s14 : FnScope f14.N f14.ps (defScope (st 26)) := ⟨rfl, rfl, rfl, by decide +kernel, rfl, by decide +kernel, by decide +kernel⟩
theorem c14 : isSs T 1000 f14.N (defScope (st 26)) (defBody (st 26)) f14.body = true := by decide +kernel
theorem n14 {K : PySem.W.Frag} {mg : Str → Option Value} {h : Heap} (X : K.In h) (G : h.Ns mainGlobals mg) (R : DefR K (st 26) f14.name) : FnF T K mg f14 := fnf_mk 1000 X G R s14 c14 rfl (fun _ _ _ _ _ _ us hl => match us, hl with | [_, _, _], _ => rfl) (fun _ _ _ _ _ _ => List.forall_mem_cons.mpr ⟨fun us ws hu hw => match us, ws, hu, hw with | [], [_, _, _], _, _ => rfl, fun _ hq => by cases hq⟩)
theorem s15 : FnScope f15.N f15.ps (defScope (st 27)) := ⟨rfl, rfl, rfl, by decide +kernel, rfl, by decide +kernel, by decide +kernel⟩
theorem c15 : isSs T 1000 f15.N (defScope (st 27)) (defBody (st 27)) f15.body = true := by decide +kernel
theorem n15 {K : PySem.W.Frag} {mg : Str → Option Value} {h : Heap} (X : K.In h) (G : h.Ns mainGlobals mg) (R : DefR K (st 27) f15.name) : FnF T K mg f15 := fnf_mk 1000 X G R s15 c15 rfl (fun _ _ _ _ _ _ us hl => match us, hl with | [_, _], _ => rfl) (fun _ _ _ _ _ _ => List.forall_mem_cons.mpr ⟨fun us ws hu hw => match us, ws, hu, hw with | [], [_, _], _, _ => rfl, fun _ hq => by cases hq⟩)
theorem s16 : FnScope f16.N f16.ps (defScope (st 28)) := ⟨rfl, rfl, rfl, by decide +kernel, rfl, by decide +kernel, by decide +kernel⟩
theorem c16 : isSs T 1000 f16.N (defScope (st 28)) (defBody (st 28)) f16.body = true := by decide +kernel
theorem n16 {K : PySem.W.Frag} {mg : Str → Option Value} {h : Heap} (X : K.In h) (G : h.Ns mainGlobals mg) (R : DefR K (st 28) f16.name) : FnF T K mg f16 := fnf_mk 1000 X G R s16 c16 rfl (fun _ _ _ _ _ _ us hl => match us, hl with | [_, _], _ => rfl) (fun _ _ _ _ _ _ => List.forall_mem_cons.mpr ⟨fun us ws hu hw => match us, ws, hu, hw with | [], [_, _], _, _ => rfl, fun _ hq => by cases hq⟩)
theorem s17 : FnScope f17.N f17.ps (defScope (st 29)) := ⟨rfl, rfl, rfl, by decide +kernel, rfl, by decide +kernel, by decide +kernel⟩
theorem c17 : isSs T 1000 f17.N (defScope (st 29)) (defBody (st 29)) f17.body = true := by decide +kernel
theorem n17 {K : PySem.W.Frag} {mg : Str → Option Value} {h : Heap} (X : K.In h) (G : h.Ns mainGlobals mg) (R : DefR K (st 29) f17.name) : FnF T K mg f17 := fnf_mk 1000 X G R s17 c17 rfl (fun _ _ _ _ _ _ us hl => match us, hl with | [_, _, _], _ => rfl) (fun _ _ _ _ _ _ q hq => by cases hq)
theorem s18 : FnScope f18.N f18.ps (defScope (st 30)) := ⟨rfl, rfl, rfl, by decide +kernel, rfl, by decide +kernel, by decide +kernel⟩
theorem c18 : isSs T 1000 f18.N (defScope (st 30)) (defBody (st 30)) f18.body = true := by decide +kernel
theorem n18 {K : PySem.W.Frag} {mg : Str → Option Value} {h : Heap} (X : K.In h) (G : h.Ns mainGlobals mg) (R : DefR K (st 30) f18.name) : FnF T K mg f18 := fnf_mk 1000 X G R s18 c18 rfl (fun _ _ _ _ _ _ us hl => match us, hl with | [_, _, _, _], _ => rfl) (fun _ _ _ _ _ _ q hq => by cases hq)
theorem s19 : FnScope f19.N f19.ps (defScope (st 31)) := ⟨rfl, rfl, rfl, by decide +kernel, rfl, by decide +kernel, by decide +kernel⟩
theorem c19 : isSs T 1000 f19.N (defScope (st 31)) (defBody (st 31)) f19.body = true := by decide +kernel
theorem n19 {K : PySem.W.Frag} {mg : Str → Option Value} {h : Heap} (X : K.In h) (G : h.Ns mainGlobals mg) (R : DefR K (st 31) f19.name) : FnF T K mg f19 := fnf_mk 1000 X G R s19 c19 rfl (fun _ _ _ _ _ _ us hl => match us, hl with | [_, _, _, _], _ => rfl) (fun _ _ _ _ _ _ => List.forall_mem_cons.mpr ⟨fun us ws hu hw => match us, ws, hu, hw with | [], [_, _, _, _], _, _ => rfl, fun _ hq => by cases hq⟩)
theorem s20 : FnScope f20.N f20.ps (defScope (st 32)) := ⟨rfl, rfl, rfl, by decide +kernel, rfl, by decide +kernel, by decide +kernel⟩
theorem c20 : isSs T 1000 f20.N (defScope (st 32)) (defBody (st 32)) f20.body = true := by decide +kernel
theorem n20 {K : PySem.W.Frag} {mg : Str → Option Value} {h : Heap} (X : K.In h) (G : h.Ns mainGlobals mg) (R : DefR K (st 32) f20.name) : FnF T K mg f20 := fnf_mk 1000 X G R s20 c20 rfl (fun _ _ _ _ _ _ us hl => match us, hl with | [_, _, _], _ => rfl) (fun _ _ _ _ _ _ => List.forall_mem_cons.mpr ⟨fun us ws hu hw => match us, ws, hu, hw with | [], [_, _, _], _, _ => rfl, fun _ hq => by cases hq⟩)
theorem s21 : FnScope f21.N f21.ps (defScope (st 33)) := ⟨rfl, rfl, rfl, by decide +kernel, rfl, by decide +kernel, by decide +kernel⟩
theorem c21 : isSs T 1000 f21.N (defScope (st 33)) (defBody (st 33)) f21.body = true := by decide +kernel
theorem n21 {K : PySem.W.Frag} {mg : Str → Option Value} {h : Heap} (X : K.In h) (G : h.Ns mainGlobals mg) (R : DefR K (st 33) f21.name) : FnF T K mg f21 := fnf_mk 1000 X G R s21 c21 rfl (fun _ _ _ _ _ _ us hl => match us, hl with | [_, _, _], _ => rfl) (fun _ _ _ _ _ _ => List.forall_mem_cons.mpr ⟨fun us ws hu hw => match us, ws, hu, hw with | [], [_, _, _], _, _ => rfl, fun _ hq => by cases hq⟩)
theorem s22 : FnScope f22.N f22.ps (defScope (st 34)) := ⟨rfl, rfl, rfl, by decide +kernel, rfl, by decide +kernel, by decide +kernel⟩
theorem c22 : isSs T 1000 f22.N (defScope (st 34)) (defBody (st 34)) f22.body = true := by decide +kernel
theorem n22 {K : PySem.W.Frag} {mg : Str → Option Value} {h : Heap} (X : K.In h) (G : h.Ns mainGlobals mg) (R : DefR K (st 34) f22.name) : FnF T K mg f22 := fnf_mk 1000 X G R s22 c22 rfl (fun _ _ _ _ _ _ us hl => match us, hl with | [_, _], _ => rfl) (fun _ _ _ _ _ _ => List.forall_mem_cons.mpr ⟨fun us ws hu hw => match us, ws, hu, hw with | [], [_, _], _, _ => rfl, fun _ hq => by cases hq⟩)
theorem s23 : FnScope f23.N f23.ps (defScope (st 35)) := ⟨rfl, rfl, rfl, by decide +kernel, rfl, by decide +kernel, by decide +kernel⟩
theorem c23 : isSs T 1000 f23.N (defScope (st 35)) (defBody (st 35)) f23.body = true := by decide +kernel
theorem n23 {K : PySem.W.Frag} {mg : Str → Option Value} {h : Heap} (X : K.In h) (G : h.Ns mainGlobals mg) (R : DefR K (st 35) f23.name) : FnF T K mg f23 := fnf_mk 1000 X G R s23 c23 rfl (fun _ _ _ _ _ _ us hl => match us, hl with | [_, _, _, _, _], _ => rfl) (fun _ _ _ _ _ _ => List.forall_mem_cons.mpr ⟨fun us ws hu hw => match us, ws, hu, hw with | [], [_, _, _, _, _], _, _ => rfl, fun _ hq => by cases hq⟩)
theorem s24 : FnScope f24.N f24.ps (defScope (st 36)) := ⟨rfl, rfl, rfl, by decide +kernel, rfl, by decide +kernel, by decide +kernel⟩
theorem c24 : isSs T 1000 f24.N (defScope (st 36)) (defBody (st 36)) f24.body = true := by decide +kernel
theorem n24 {K : PySem.W.Frag} {mg : Str → Option Value} {h : Heap} (X : K.In h) (G : h.Ns mainGlobals mg) (R : DefR K (st 36) f24.name) : FnF T K mg f24 := fnf_mk 1000 X G R s24 c24 rfl (fun _ _ _ _ _ _ us hl => match us, hl with | [_, _, _, _], _ => rfl) (fun _ _ _ _ _ _ q hq => by cases hq)
theorem s25 : FnScope f25.N f25.ps (defScope (st 37)) := ⟨rfl, rfl, rfl, by decide +kernel, rfl, by decide +kernel, by decide +kernel⟩
theorem c25 : isSs T 1000 f25.N (defScope (st 37)) (defBody (st 37)) f25.body = true := by decide +kernel
theorem n25 {K : PySem.W.Frag} {mg : Str → Option Value} {h : Heap} (X : K.In h) (G : h.Ns mainGlobals mg) (R : DefR K (st 37) f25.name) : FnF T K mg f25 := fnf_mk 1000 X G R s25 c25 rfl (fun _ _ _ _ _ _ us hl => match us, hl with | [_, _, _], _ => rfl) (fun _ _ _ _ _ _ => List.forall_mem_cons.mpr ⟨fun us ws hu hw => match us, ws, hu, hw with | [], [_, _, _], _, _ => rfl, fun _ hq => by cases hq⟩)
theorem s26 : FnScope f26.N f26.ps (defScope (st 39)) := ⟨rfl, rfl, rfl, by decide +kernel, rfl, by decide +kernel, by decide +kernel⟩
theorem c26 : isSs T 1000 f26.N (defScope (st 39)) (defBody (st 39)) f26.body = true := by decide +kernel
theorem n26 {K : PySem.W.Frag} {mg : Str → Option Value} {h : Heap} (X : K.In h) (G : h.Ns mainGlobals mg) (R : DefR K (st 39) f26.name) : FnF T K mg f26 := fnf_mk 1000 X G R s26 c26 rfl (fun _ _ _ _ _ _ us hl => match us, hl with | [_], _ => rfl) (fun _ _ _ _ _ _ q hq => by cases hq)
theorem s27 : FnScope f27.N f27.ps (defScope (st 40)) := ⟨rfl, rfl, rfl, by decide +kernel, rfl, by decide +kernel, by decide +kernel⟩
theorem c27 : isSs T 1000 f27.N (defScope (st 40)) (defBody (st 40)) f27.body = true := by decide +kernel
theorem n27 {K : PySem.W.Frag} {mg : Str → Option Value} {h : Heap} (X : K.In h) (G : h.Ns mainGlobals mg) (R : DefR K (st 40) f27.name) : FnF T K mg f27 := fnf_mk 1000 X G R s27 c27 rfl (fun _ _ _ _ _ _ us hl => match us, hl with | [_], _ => rfl) (fun _ _ _ _ _ _ q hq => by cases hq)
theorem s28 : FnScope f28.N f28.ps (defScope (st 41)) := ⟨rfl, rfl, rfl, by decide +kernel, rfl, by decide +kernel, by decide +kernel⟩
theorem c28 : isSs T 1000 f28.N (defScope (st 41)) (defBody (st 41)) f28.body = true := by decide +kernel
theorem n28 {K : PySem.W.Frag} {mg : Str → Option Value} {h : Heap} (X : K.In h) (G : h.Ns mainGlobals mg) (R : DefR K (st 41) f28.name) : FnF T K mg f28 := fnf_mk 1000 X G R s28 c28 rfl (fun _ _ _ _ _ _ us hl => match us, hl with | [_], _ => rfl) (fun _ _ _ _ _ _ q hq => by cases hq)
theorem s29 : FnScope f29.N f29.ps (defScope (st 42)) := ⟨rfl, rfl, rfl, by decide +kernel, rfl, by decide +kernel, by decide +kernel⟩
theorem c29 : isSs T 1000 f29.N (defScope (st 42)) (defBody (st 42)) f29.body = true := by decide +kernel
theorem n29 {K : PySem.W.Frag} {mg : Str → Option Value} {h : Heap} (X : K.In h) (G : h.Ns mainGlobals mg) (R : DefR K (st 42) f29.name) : FnF T K mg f29 := fnf_mk 1000 X G R s29 c29 rfl (fun _ _ _ _ _ _ us hl => match us, hl with | [_, _], _ => rfl) (fun _ _ _ _ _ _ q hq => by cases hq)
theorem s30 : FnScope f30.N f30.ps (defScope (st 43)) := ⟨rfl, rfl, rfl, by decide +kernel, rfl, by decide +kernel, by decide +kernel⟩
theorem c30 : isSs T 1000 f30.N (defScope (st 43)) (defBody (st 43)) f30.body = true := by decide +kernel
theorem n30 {K : PySem.W.Frag} {mg : Str → Option Value} {h : Heap} (X : K.In h) (G : h.Ns mainGlobals mg) (R : DefR K (st 43) f30.name) : FnF T K mg f30 := fnf_mk 1000 X G R s30 c30 rfl (fun _ _ _ _ _ _ us hl => match us, hl with | [_], _ => rfl) (fun _ _ _ _ _ _ q hq => by cases hq)
theorem s31 : FnScope f31.N f31.ps (defScope (st 44)) := ⟨rfl, rfl, rfl, by decide +kernel, rfl, by decide +kernel, by decide +kernel⟩
theorem c31 : isSs T 1000 f31.N (defScope (st 44)) (defBody (st 44)) f31.body = true := by decide +kernel
theorem n31 {K : PySem.W.Frag} {mg : Str → Option Value} {h : Heap} (X : K.In h) (G : h.Ns mainGlobals mg) (R : DefR K (st 44) f31.name) : FnF T K mg f31 := fnf_mk 1000 X G R s31 c31 rfl (fun _ _ _ _ _ _ us hl => match us, hl with | [_], _ => rfl) (fun _ _ _ _ _ _ q hq => by cases hq)
theorem s32 : FnScope f32.N f32.ps (defScope (st 45)) := ⟨rfl, rfl, rfl, by decide +kernel, rfl, by decide +kernel, by decide +kernel⟩
theorem c32 : isSs T 1000 f32.N (defScope (st 45)) (defBody (st 45)) f32.body = true := by decide +kernel
theorem n32 {K : PySem.W.Frag} {mg : Str → Option Value} {h : Heap} (X : K.In h) (G : h.Ns mainGlobals mg) (R : DefR K (st 45) f32.name) : FnF T K mg f32 := fnf_mk 1000 X G R s32 c32 rfl (fun _ _ _ _ _ _ us hl => match us, hl with | [_, _], _ => rfl) (fun _ _ _ _ _ _ q hq => by cases hq)
theorem s33 : FnScope f33.N f33.ps (defScope (st 46)) := ⟨rfl, rfl, rfl, by decide +kernel, rfl, by decide +kernel, by decide +kernel⟩
theorem c33 : isSs T 1000 f33.N (defScope (st 46)) (defBody (st 46)) f33.body = true := by decide +kernel
theorem n33 {K : PySem.W.Frag} {mg : Str → Option Value} {h : Heap} (X : K.In h) (G : h.Ns mainGlobals mg) (R : DefR K (st 46) f33.name) : FnF T K mg f33 := fnf_mk 1000 X G R s33 c33 rfl (fun _ _ _ _ _ _ us hl => match us, hl with | [_, _, _, _], _ => rfl) (fun _ _ _ _ _ _ q hq => by cases hq)
theorem s34 : FnScope f34.N f34.ps (defScope (st 47)) := ⟨rfl, rfl, rfl, by decide +kernel, rfl, by decide +kernel, by decide +kernel⟩
theorem c34 : isSs T 1000 f34.N (defScope (st 47)) (defBody (st 47)) f34.body = true := by decide +kernel
theorem n34 {K : PySem.W.Frag} {mg : Str → Option Value} {h : Heap} (X : K.In h) (G : h.Ns mainGlobals mg) (R : DefR K (st 47) f34.name) : FnF T K mg f34 := fnf_mk 1000 X G R s34 c34 rfl (fun _ _ _ _ _ _ us hl => match us, hl with | [_, _, _, _, _], _ => rfl) (fun _ _ _ _ _ _ q hq => by cases hq)
theorem s35 : FnScope f35.N f35.ps (defScope (st 48)) := ⟨rfl, rfl, rfl, by decide +kernel, rfl, by decide +kernel, by decide +kernel⟩
theorem c35 : isSs T 1000 f35.N (defScope (st 48)) (defBody (st 48)) f35.body = true := by decide +kernel
theorem n35 {K : PySem.W.Frag} {mg : Str → Option Value} {h : Heap} (X : K.In h) (G : h.Ns mainGlobals mg) (R : DefR K (st 48) f35.name) : FnF T K mg f35 := fnf_mk 1000 X G R s35 c35 rfl (fun _ _ _ _ _ _ us hl => match us, hl with | [_, _, _, _], _ => rfl) (fun _ _ _ _ _ _ q hq => by cases hq)
theorem s36 : FnScope f36.N f36.ps (defScope (st 49)) := ⟨rfl, rfl, rfl, by decide +kernel, rfl, by decide +kernel, by decide +kernel⟩
theorem c36 : isSs T 1000 f36.N (defScope (st 49)) (defBody (st 49)) f36.body = true := by decide +kernel
theorem n36 {K : PySem.W.Frag} {mg : Str → Option Value} {h : Heap} (X : K.In h) (G : h.Ns mainGlobals mg) (R : DefR K (st 49) f36.name) : FnF T K mg f36 := fnf_mk 1000 X G R s36 c36 rfl (fun _ _ _ _ _ _ us hl => match us, hl with | [_, _, _, _, _], _ => rfl) (fun _ _ _ _ _ _ => List.forall_mem_cons.mpr ⟨fun us ws hu hw => match us, ws, hu, hw with | [], [_, _, _, _, _], _, _ => rfl, fun _ hq => by cases hq⟩)
theorem s37 : FnScope f37.N f37.ps (defScope (st 50)) := ⟨rfl, rfl, rfl, by decide +kernel, rfl, by decide +kernel, by decide +kernel⟩
theorem c37 : isSs T 1000 f37.N (defScope (st 50)) (defBody (st 50)) f37.body = true := by decide +kernel
theorem n37 {K : PySem.W.Frag} {mg : Str → Option Value} {h : Heap} (X : K.In h) (G : h.Ns mainGlobals mg) (R : DefR K (st 50) f37.name) : FnF T K mg f37 := fnf_mk 1000 X G R s37 c37 rfl (fun _ _ _ _ _ _ us hl => match us, hl with | [_, _, _], _ => rfl) (fun _ _ _ _ _ _ q hq => by cases hq)
theorem s38 : FnScope f38.N f38.ps (defScope (st 51)) := ⟨rfl, rfl, rfl, by decide +kernel, rfl, by decide +kernel, by decide +kernel⟩
theorem c38 : isSs T 1000 f38.N (defScope (st 51)) (defBody (st 51)) f38.body = true := by decide +kernel
theorem n38 {K : PySem.W.Frag} {mg : Str → Option Value} {h : Heap} (X : K.In h) (G : h.Ns mainGlobals mg) (R : DefR K (st 51) f38.name) : FnF T K mg f38 := fnf_mk 1000 X G R s38 c38 rfl (fun _ _ _ _ _ _ us hl => match us, hl with | [_, _, _], _ => rfl) (fun _ _ _ _ _ _ q hq => by cases hq)
theorem s39 : FnScope f39.N f39.ps (defScope (st 52)) := ⟨rfl, rfl, rfl, by decide +kernel, rfl, by decide +kernel, by decide +kernel⟩
theorem c39 : isSs T 1000 f39.N (defScope (st 52)) (defBody (st 52)) f39.body = true := by decide +kernel
theorem n39 {K : PySem.W.Frag} {mg : Str → Option Value} {h : Heap} (X : K.In h) (G : h.Ns mainGlobals mg) (R : DefR K (st 52) f39.name) : FnF T K mg f39 := fnf_mk 1000 X G R s39 c39 rfl (fun _ _ _ _ _ _ us hl => match us, hl with | [_, _, _], _ => rfl) (fun _ _ _ _ _ _ q hq => by cases hq)
theorem s40 : FnScope f40.N f40.ps (defScope (st 53)) := ⟨rfl, rfl, rfl, by decide +kernel, rfl, by decide +kernel, by decide +kernel⟩
theorem c40 : isSs T 1000 f40.N (defScope (st 53)) (defBody (st 53)) f40.body = true := by decide +kernel
theorem n40 {K : PySem.W.Frag} {mg : Str → Option Value} {h : Heap} (X : K.In h) (G : h.Ns mainGlobals mg) (R : DefR K (st 53) f40.name) : FnF T K mg f40 := fnf_mk 1000 X G R s40 c40 rfl (fun _ _ _ _ _ _ us hl => match us, hl with | [_, _, _, _, _], _ => rfl) (fun _ _ _ _ _ _ q hq => by cases hq)
theorem s41 : FnScope f41.N f41.ps (defScope (st 54)) := ⟨rfl, rfl, rfl, by decide +kernel, rfl, by decide +kernel, by decide +kernel⟩
theorem c41 : isSs T 1000 f41.N (defScope (st 54)) (defBody (st 54)) f41.body = true := by decide +kernel
theorem n41 {K : PySem.W.Frag} {mg : Str → Option Value} {h : Heap} (X : K.In h) (G : h.Ns mainGlobals mg) (R : DefR K (st 54) f41.name) : FnF T K mg f41 := fnf_mk 1000 X G R s41 c41 rfl (fun _ _ _ _ _ _ us hl => match us, hl with | [_, _, _, _, _], _ => rfl) (fun _ _ _ _ _ _ => List.forall_mem_cons.mpr ⟨fun us ws hu hw => match us, ws, hu, hw with | [], [_, _, _, _, _], _, _ => rfl, fun _ hq => by cases hq⟩)
theorem s42 : FnScope f42.N f42.ps (defScope (st 55)) := ⟨rfl, rfl, rfl, by decide +kernel, rfl, by decide +kernel, by decide +kernel⟩
theorem c42 : isSs T 1000 f42.N (defScope (st 55)) (defBody (st 55)) f42.body = true := by decide +kernel
theorem n42 {K : PySem.W.Frag} {mg : Str → Option Value} {h : Heap} (X : K.In h) (G : h.Ns mainGlobals mg) (R : DefR K (st 55) f42.name) : FnF T K mg f42 := fnf_mk 1000 X G R s42 c42 rfl (fun _ _ _ _ _ _ us hl => match us, hl with | [_, _, _, _], _ => rfl) (fun _ _ _ _ _ _ => List.forall_mem_cons.mpr ⟨fun us ws hu hw => match us, ws, hu, hw with | [], [_, _, _, _], _, _ => rfl, fun _ hq => by cases hq⟩)
theorem s43 : FnScope f43.N f43.ps (defScope (st 56)) := ⟨rfl, rfl, rfl, by decide +kernel, rfl, by decide +kernel, by decide +kernel⟩
theorem c43 : isSs T 1000 f43.N (defScope (st 56)) (defBody (st 56)) f43.body = true := by decide +kernel
theorem n43 {K : PySem.W.Frag} {mg : Str → Option Value} {h : Heap} (X : K.In h) (G : h.Ns mainGlobals mg) (R : DefR K (st 56) f43.name) : FnF T K mg f43 := fnf_mk 1000 X G R s43 c43 rfl (fun _ _ _ _ _ _ us hl => match us, hl with | [_, _], _ => rfl) (fun _ _ _ _ _ _ q hq => by cases hq)
theorem s44 : FnScope f44.N f44.ps (defScope (st 57)) := ⟨rfl, rfl, rfl, by decide +kernel, rfl, by decide +kernel, by decide +kernel⟩
theorem c44 : isSs T 1000 f44.N (defScope (st 57)) (defBody (st 57)) f44.body = true := by decide +kernel
theorem n44 {K : PySem.W.Frag} {mg : Str → Option Value} {h : Heap} (X : K.In h) (G : h.Ns mainGlobals mg) (R : DefR K (st 57) f44.name) : FnF T K mg f44 := fnf_mk 1000 X G R s44 c44 rfl (fun _ _ _ _ _ _ us hl => match us, hl with | [_, _], _ => rfl) (fun _ _ _ _ _ _ q hq => by cases hq)
theorem s45 : FnScope f45.N f45.ps (defScope (st 58)) := ⟨rfl, rfl, rfl, by decide +kernel, rfl, by decide +kernel, by decide +kernel⟩
theorem c45 : isSs T 1000 f45.N (defScope (st 58)) (defBody (st 58)) f45.body = true := by decide +kernel
theorem n45 {K : PySem.W.Frag} {mg : Str → Option Value} {h : Heap} (X : K.In h) (G : h.Ns mainGlobals mg) (R : DefR K (st 58) f45.name) : FnF T K mg f45 := fnf_mk 1000 X G R s45 c45 rfl (fun _ _ _ _ _ _ us hl => match us, hl with | [_, _], _ => rfl) (fun _ _ _ _ _ _ => List.forall_mem_cons.mpr ⟨fun us ws hu hw => match us, ws, hu, hw with | [], [_, _], _, _ => rfl, fun _ hq => by cases hq⟩)
theorem s46 : FnScope f46.N f46.ps (defScope (st 59)) := ⟨rfl, rfl, rfl, by decide +kernel, rfl, by decide +kernel, by decide +kernel⟩
theorem c46 : isSs T 1000 f46.N (defScope (st 59)) (defBody (st 59)) f46.body = true := by decide +kernel
theorem n46 {K : PySem.W.Frag} {mg : Str → Option Value} {h : Heap} (X : K.In h) (G : h.Ns mainGlobals mg) (R : DefR K (st 59) f46.name) : FnF T K mg f46 := fnf_mk 1000 X G R s46 c46 rfl (fun _ _ _ _ _ _ us hl => match us, hl with | [_], _ => rfl) (fun _ _ _ _ _ _ q hq => by cases hq)
theorem s47 : FnScope f47.N f47.ps (defScope (st 60)) := ⟨rfl, rfl, rfl, by decide +kernel, rfl, by decide +kernel, by decide +kernel⟩
theorem c47 : isSs T 1000 f47.N (defScope (st 60)) (defBody (st 60)) f47.body = true := by decide +kernel
theorem n47 {K : PySem.W.Frag} {mg : Str → Option Value} {h : Heap} (X : K.In h) (G : h.Ns mainGlobals mg) (R : DefR K (st 60) f47.name) : FnF T K mg f47 := fnf_mk 1000 X G R s47 c47 rfl (fun _ _ _ _ _ _ us hl => match us, hl with | [_, _], _ => rfl) (fun _ _ _ _ _ _ q hq => by cases hq)
theorem s48 : FnScope f48.N f48.ps (defScope (st 61)) := ⟨rfl, rfl, rfl, by decide +kernel, rfl, by decide +kernel, by decide +kernel⟩
theorem c48 : isSs T 1000 f48.N (defScope (st 61)) (defBody (st 61)) f48.body = true := by decide +kernel
theorem n48 {K : PySem.W.Frag} {mg : Str → Option Value} {h : Heap} (X : K.In h) (G : h.Ns mainGlobals mg) (R : DefR K (st 61) f48.name) : FnF T K mg f48 := fnf_mk 1000 X G R s48 c48 rfl (fun _ _ _ _ _ _ us hl => match us, hl with | [_, _], _ => rfl) (fun _ _ _ _ _ _ q hq => by cases hq)
theorem s49 : FnScope f49.N f49.ps (defScope (st 62)) := ⟨rfl, rfl, rfl, by decide +kernel, rfl, by decide +kernel, by decide +kernel⟩
theorem c49 : isSs T 1000 f49.N (defScope (st 62)) (defBody (st 62)) f49.body = true := by decide +kernel
theorem n49 {K : PySem.W.Frag} {mg : Str → Option Value} {h : Heap} (X : K.In h) (G : h.Ns mainGlobals mg) (R : DefR K (st 62) f49.name) : FnF T K mg f49 := fnf_mk 1000 X G R s49 c49 rfl (fun _ _ _ _ _ _ us hl => match us, hl with | [_, _], _ => rfl) (fun _ _ _ _ _ _ q hq => by cases hq)
theorem s50 : FnScope f50.N f50.ps (defScope (st 63)) := ⟨rfl, rfl, rfl, by decide +kernel, rfl, by decide +kernel, by decide +kernel⟩
theorem c50 : isSs T 1000 f50.N (defScope (st 63)) (defBody (st 63)) f50.body = true := by decide +kernel
theorem n50 {K : PySem.W.Frag} {mg : Str → Option Value} {h : Heap} (X : K.In h) (G : h.Ns mainGlobals mg) (R : DefR K (st 63) f50.name) : FnF T K mg f50 := fnf_mk 1000 X G R s50 c50 rfl (fun _ _ _ _ _ _ us hl => match us, hl with | [_, _, _, _], _ => rfl) (fun _ _ _ _ _ _ => List.forall_mem_cons.mpr ⟨fun us ws hu hw => match us, ws, hu, hw with | [], [_, _, _, _], _, _ => rfl, fun _ hq => by cases hq⟩)
theorem s51 : FnScope f51.N f51.ps (defScope (st 64)) := ⟨rfl, rfl, rfl, by decide +kernel, rfl, by decide +kernel, by decide +kernel⟩
theorem c51 : isSs T 1000 f51.N (defScope (st 64)) (defBody (st 64)) f51.body = true := by decide +kernel
theorem n51 {K : PySem.W.Frag} {mg : Str → Option Value} {h : Heap} (X : K.In h) (G : h.Ns mainGlobals mg) (R : DefR K (st 64) f51.name) : FnF T K mg f51 := fnf_mk 1000 X G R s51 c51 rfl (fun _ _ _ _ _ _ us hl => match us, hl with | [_, _, _], _ => rfl) (fun _ _ _ _ _ _ q hq => by cases hq)
theorem s52 : FnScope f52.N f52.ps (defScope (st 66)) := ⟨rfl, rfl, rfl, by decide +kernel, rfl, by decide +kernel, by decide +kernel⟩
theorem c52 : isSs T 1000 f52.N (defScope (st 66)) (defBody (st 66)) f52.body = true := by decide +kernel
theorem n52 {K : PySem.W.Frag} {mg : Str → Option Value} {h : Heap} (X : K.In h) (G : h.Ns mainGlobals mg) (R : DefR K (st 66) f52.name) : FnF T K mg f52 := fnf_mk 1000 X G R s52 c52 rfl (fun _ _ _ _ _ _ us hl => match us, hl with | [_], _ => rfl) (fun _ _ _ _ _ _ q hq => by cases hq)
theorem s53 : FnScope f53.N f53.ps (defScope (st 67)) := ⟨rfl, rfl, rfl, by decide +kernel, rfl, by decide +kernel, by decide +kernel⟩
theorem c53 : isSs T 1000 f53.N (defScope (st 67)) (defBody (st 67)) f53.body = true := by decide +kernel
theorem n53 {K : PySem.W.Frag} {mg : Str → Option Value} {h : Heap} (X : K.In h) (G : h.Ns mainGlobals mg) (R : DefR K (st 67) f53.name) : FnF T K mg f53 := fnf_mk 1000 X G R s53 c53 rfl (fun _ _ _ _ _ _ us hl => match us, hl with | [_, _], _ => rfl) (fun _ _ _ _ _ _ q hq => by cases hq)
theorem s54 : FnScope f54.N f54.ps (defScope (st 68)) := ⟨rfl, rfl, rfl, by decide +kernel, rfl, by decide +kernel, by decide +kernel⟩
theorem c54 : isSs T 1000 f54.N (defScope (st 68)) (defBody (st 68)) f54.body = true := by decide +kernel
theorem n54 {K : PySem.W.Frag} {mg : Str → Option Value} {h : Heap} (X : K.In h) (G : h.Ns mainGlobals mg) (R : DefR K (st 68) f54.name) : FnF T K mg f54 := fnf_mk 1000 X G R s54 c54 rfl (fun _ _ _ _ _ _ us hl => match us, hl with | [_, _], _ => rfl) (fun _ _ _ _ _ _ q hq => by cases hq)
theorem s55 : FnScope f55.N f55.ps (defScope (st 69)) := ⟨rfl, rfl, rfl, by decide +kernel, rfl, by decide +kernel, by decide +kernel⟩
theorem c55 : isSs T 1000 f55.N (defScope (st 69)) (defBody (st 69)) f55.body = true := by decide +kernel
theorem n55 {K : PySem.W.Frag} {mg : Str → Option Value} {h : Heap} (X : K.In h) (G : h.Ns mainGlobals mg) (R : DefR K (st 69) f55.name) : FnF T K mg f55 := fnf_mk 1000 X G R s55 c55 rfl (fun _ _ _ _ _ _ us hl => match us, hl with | [_, _], _ => rfl) (fun _ _ _ _ _ _ q hq => by cases hq)
theorem s56 : FnScope f56.N f56.ps (defScope (st 70)) := ⟨rfl, rfl, rfl, by decide +kernel, rfl, by decide +kernel, by decide +kernel⟩
theorem c56 : isSs T 1000 f56.N (defScope (st 70)) (defBody (st 70)) f56.body = true := by decide +kernel
theorem n56 {K : PySem.W.Frag} {mg : Str → Option Value} {h : Heap} (X : K.In h) (G : h.Ns mainGlobals mg) (R : DefR K (st 70) f56.name) : FnF T K mg f56 := fnf_mk 1000 X G R s56 c56 rfl (fun _ _ _ _ _ _ us hl => match us, hl with | [], _ => rfl) (fun _ _ _ _ _ _ q hq => by cases hq)
theorem s57 : FnScope f57.N f57.ps (defScope (st 71)) := ⟨rfl, rfl, rfl, by decide +kernel, rfl, by decide +kernel, by decide +kernel⟩
theorem c57 : isSs T 1000 f57.N (defScope (st 71)) (defBody (st 71)) f57.body = true := by decide +kernel
theorem n57 {K : PySem.W.Frag} {mg : Str → Option Value} {h : Heap} (X : K.In h) (G : h.Ns mainGlobals mg) (R : DefR K (st 71) f57.name) : FnF T K mg f57 := fnf_mk 1000 X G R s57 c57 rfl (fun _ _ _ _ _ _ us hl => match us, hl with | [], _ => rfl) (fun _ _ _ _ _ _ q hq => by cases hq)
theorem s58 : FnScope f58.N f58.ps (defScope (st 72)) := ⟨rfl, rfl, rfl, by decide +kernel, rfl, by decide +kernel, by decide +kernel⟩
theorem c58 : isSs T 1000 f58.N (defScope (st 72)) (defBody (st 72)) f58.body = true := by decide +kernel
theorem n58 {K : PySem.W.Frag} {mg : Str → Option Value} {h : Heap} (X : K.In h) (G : h.Ns mainGlobals mg) (R : DefR K (st 72) f58.name) : FnF T K mg f58 := fnf_mk 1000 X G R s58 c58 rfl (fun _ _ _ _ _ _ us hl => match us, hl with | [], _ => rfl) (fun _ _ _ _ _ _ q hq => by cases hq)
theorem s59 : FnScope f59.N f59.ps (defScope (st 73)) := ⟨rfl, rfl, rfl, by decide +kernel, rfl, by decide +kernel, by decide +kernel⟩
theorem c59 : isSs T 1000 f59.N (defScope (st 73)) (defBody (st 73)) f59.body = true := by decide +kernel
theorem n59 {K : PySem.W.Frag} {mg : Str → Option Value} {h : Heap} (X : K.In h) (G : h.Ns mainGlobals mg) (R : DefR K (st 73) f59.name) : FnF T K mg f59 := fnf_mk 1000 X G R s59 c59 rfl (fun _ _ _ _ _ _ us hl => match us, hl with | [], _ => rfl) (fun _ _ _ _ _ _ q hq => by cases hq)
theorem s60 : FnScope f60.N f60.ps (defScope (st 74)) := ⟨rfl, rfl, rfl, by decide +kernel, rfl, by decide +kernel, by decide +kernel⟩
theorem c60 : isSs T 1000 f60.N (defScope (st 74)) (defBody (st 74)) f60.body = true := by decide +kernel
theorem n60 {K : PySem.W.Frag} {mg : Str → Option Value} {h : Heap} (X : K.In h) (G : h.Ns mainGlobals mg) (R : DefR K (st 74) f60.name) : FnF T K mg f60 := fnf_mk 1000 X G R s60 c60 rfl (fun _ _ _ _ _ _ us hl => match us, hl with | [], _ => rfl) (fun _ _ _ _ _ _ q hq => by cases hq)
theorem s61 : FnScope f61.N f61.ps (defScope (st 75)) := ⟨rfl, rfl, rfl, by decide +kernel, rfl, by decide +kernel, by decide +kernel⟩
theorem c61 : isSs T 1000 f61.N (defScope (st 75)) (defBody (st 75)) f61.body = true := by decide +kernel
theorem n61 {K : PySem.W.Frag} {mg : Str → Option Value} {h : Heap} (X : K.In h) (G : h.Ns mainGlobals mg) (R : DefR K (st 75) f61.name) : FnF T K mg f61 := fnf_mk 1000 X G R s61 c61 rfl (fun _ _ _ _ _ _ us hl => match us, hl with | [], _ => rfl) (fun _ _ _ _ _ _ q hq => by cases hq)
theorem s62 : FnScope f62.N f62.ps (defScope (st 76)) := ⟨rfl, rfl, rfl, by decide +kernel, rfl, by decide +kernel, by decide +kernel⟩
theorem c62 : isSs T 1000 f62.N (defScope (st 76)) (defBody (st 76)) f62.body = true := by decide +kernel
theorem n62 {K : PySem.W.Frag} {mg : Str → Option Value} {h : Heap} (X : K.In h) (G : h.Ns mainGlobals mg) (R : DefR K (st 76) f62.name) : FnF T K mg f62 := fnf_mk 1000 X G R s62 c62 rfl (fun _ _ _ _ _ _ us hl => match us, hl with | [_], _ => rfl) (fun _ _ _ _ _ _ q hq => by cases hq)
end K05

namespace K05
open EV PySem PySem.Spec PyProof.Rows L2
def spLaw (K : PySem.W.Frag) : Sp := fun vs H Q _ => ∃ (a : Addr) (ns : List Int), vs = [.ref a] ∧ SqL K H a (ns.map V.int) ∧ ns.length ≤ 63 ∧ ∀ H', Q (.bl true) H'
set_option maxHeartbeats 0 in
theorem t56 : okT (runFn T 24 56 [] ⟨0, []⟩) = true := by rw [runFn_g]; decide +kernel
set_option maxHeartbeats 0 in
theorem t57 : okT (runFn T 24 57 [] ⟨0, []⟩) = true := by rw [runFn_g]; decide +kernel
set_option maxHeartbeats 0 in
theorem t58 : okT (runFn T 24 58 [] ⟨0, []⟩) = true := by rw [runFn_g]; decide +kernel
set_option maxHeartbeats 0 in
theorem t59 : okT (runFn T 24 59 [] ⟨0, []⟩) = true := by rw [runFn_g]; decide +kernel
set_option maxHeartbeats 0 in
theorem t60 : okT (runFn T 24 60 [] ⟨0, []⟩) = true := by rw [runFn_g]; decide +kernel
set_option maxHeartbeats 0 in
theorem t61 : okT (runFn T 24 61 [] ⟨0, []⟩) = true := by rw [runFn_g]; decide +kernel
section
variable {P : Program} {w : World} {K : PySem.W.Frag} {mg : Str → Option Value} {base : Heap}
theorem ok_law {cls : Nat → Addr × Option Str} {f : Addr} {fd : FuncData} (G : EnvT T P w K mg base cls) (F : FunD K "law" "law" (defArgs (st 76)) (defBody (st 76)) (defScope (st 76)) [] [] f fd) : FnOk P w K mg base (L2.CX P w) 28 f fd ["script"] (spLaw K) := by
  have sc : FnScope ["script"] ["script"] (defScope (st 76)) := ⟨rfl, rfl, rfl, by decide +kernel, rfl, by decide +kernel, by decide +kernel⟩
  refine F.ok sc (fun vs H Q E h => ?_) (fun cdv A outer s H vs Q E hr h => ?_)
  · obtain ⟨a, ns, rfl, _⟩ := h
    rfl
  · obtain ⟨a, ns, rfl, hS, hl, q⟩ := h
    have tk : Takes (cxOf (L2.CX P w) P w K mg base ["script"] "law" (defScope (st 76)) f cdv A outer s H E) (fun cls d _ H => E cls d H) := takes_of rfl rfl rfl rfl
    have hx : Passes (L2.CX P w) (cxOf (L2.CX P w) P w K mg base ["script"] "law" (defScope (st 76)) f cdv A outer s H E) E := passes_call tk (fun _ _ _ _ h => h)
    refine ⟨_, pss_cons (ps_if (PW.pt (pw_or (pt_not (pt_val (pe_closed (T := T) G hr (j := 56) (f := f56) rfl rfl hx t56 (by rfl) (by decide)))) (pw_or (pt_not (pt_val (pe_closed (T := T) G hr (j := 57) (f := f57) rfl rfl hx t57 (by rfl) (by decide)))) (pw_or1 (pt_not (pt_val (pe_closed (T := T) G hr (j := 58) (f := f58) rfl rfl hx t58 (by rfl) (by decide)))))))) (pss_one (ps_ret pe_bl)) pss_nil)
      (pss_one (ps_ret (pe_and (pe_closed (T := T) G hr (j := 59) (f := f59) rfl rfl hx t59 (by rfl) (by decide)) (pe_and (pe_closed (T := T) G hr (j := 60) (f := f60) rfl rfl hx t60 (by rfl) (by decide)) (pe_one (pe_closed (T := T) G hr (j := 61) (f := f61) rfl rfl hx t61 (by rfl) (by decide))))))), ?_⟩
    intro H1 s1
    refine ⟨_, rfl, iteF fun H2 s2 => ⟨_, rfl, iteF fun H3 s3 => ⟨_, rfl, iteF ?_⟩⟩⟩
    exact fun H4 _ => ⟨_, rfl, fun H5 _ => ⟨_, rfl, fun H6 _ => q H6⟩⟩
end
end K05
namespace K05
open EV PySem PySem.Spec PyProof.Rows L2
theorem env_mk {P : Program} {w : World} {K : PySem.W.Frag} {mg : Str → Option Value} {base h : Heap} {C0 : Addr} {C1 : Addr} {C2 : Addr} {t0 : Tok} {t1 : Tok} {t2 : Tok} (X : K.In h) (G : h.Ns mainGlobals mg) (d0 : DefRD K (st 8) "frozen" [.int 20]) (d1 : DefR K (st 9) "is_number") (d2 : DefR K (st 10) "is_from") (d3 : DefR K (st 11) "is_below") (d4 : DefR K (st 12) "is_row") (d5 : DefR K (st 13) "as_set") (d6 : DefR K (st 15) "fraction") (d7 : DefR K (st 19) "is_luck") (d8 : DefR K (st 20) "next_luck") (d9 : DefR K (st 21) "drawn") (d10 : DefR K (st 22) "drawing") (d11 : DefR K (st 23) "_check_sizes") (d12 : DefR K (st 24) "_check_places") (d13 : DefR K (st 25) "picks") (d14 : DefR K (st 26) "unpicked") (d15 : DefR K (st 27) "picks_count") (d16 : DefR K (st 28) "luck_for") (d17 : DefR K (st 29) "plain_luck") (d18 : DefR K (st 30) "pick_alike") (d19 : DefR K (st 31) "first_unlike_pick") (d20 : DefR K (st 32) "luck_number") (d21 : DefR K (st 33) "luck_at") (d22 : DefR K (st 34) "all_picks") (d23 : DefR K (st 35) "exchanged_luck") (d24 : DefR K (st 36) "picks_with") (d25 : DefR K (st 37) "part_gone") (d26 : DefR K (st 39) "is_rule") (d27 : DefR K (st 40) "is_careful") (d28 : DefR K (st 41) "_is_taken") (d29 : DefR K (st 42) "_is_part_of") (d30 : DefR K (st 43) "is_bin") (d31 : DefR K (st 44) "empty_bin") (d32 : DefR K (st 45) "_check_tokens") (d33 : DefR K (st 46) "is_refused") (d34 : DefR K (st 47) "box_with") (d35 : DefR K (st 48) "refuses") (d36 : DefR K (st 49) "put_in") (d37 : DefR K (st 50) "must_go") (d38 : DefR K (st 51) "box_without") (d39 : DefR K (st 52) "let_go") (d40 : DefR K (st 53) "moment_of") (d41 : DefR K (st 54) "house_moment") (d42 : DefR K (st 55) "house_run") (d43 : DefR K (st 56) "_taken_at") (d44 : DefR K (st 57) "taken_first") (d45 : DefR K (st 58) "taken_last") (d46 : DefR K (st 59) "gone_from") (d47 : DefR K (st 60) "still_wanted") (d48 : DefR K (st 61) "goes_by_wait") (d49 : DefR K (st 62) "senders_lying") (d50 : DefR K (st 63) "run_luck") (d51 : DefR K (st 64) "_luck_of_going") (d52 : DefR K (st 66) "_law_lists") (d53 : DefR K (st 67) "_law_same") (d54 : DefR K (st 68) "_law_told") (d55 : DefR K (st 69) "_law_heard") (d56 : DefR K (st 70) "_law_luck_right") (d57 : DefR K (st 71) "_law_counts_right") (d58 : DefR K (st 72) "_law_luck_refused") (d59 : DefR K (st 73) "_law_house_right") (d60 : DefR K (st 74) "_law_looks_right") (d61 : DefR K (st 75) "_law_house_refused") (d62 : DefR K (st 76) "law") (c0 : ClsX K mg C0 "NoToken" "LookupError" "token") (c1 : ClsF K mg C1 "Unfit") (c2 : ClsF K mg C2 "TooMany") (s0_0 : PySem.W.subIn K (.ref C0) (.ref C0) = some true) (s0_1 : PySem.W.subIn K (.ref C0) (.ref C1) = some false) (s0_2 : PySem.W.subIn K (.ref C0) (.ref C2) = some false) (s1_0 : PySem.W.subIn K (.ref C1) (.ref C0) = some false) (s1_1 : PySem.W.subIn K (.ref C1) (.ref C1) = some true) (s1_2 : PySem.W.subIn K (.ref C1) (.ref C2) = some false) (s2_0 : PySem.W.subIn K (.ref C2) (.ref C0) = some false) (s2_1 : PySem.W.subIn K (.ref C2) (.ref C1) = some false) (s2_2 : PySem.W.subIn K (.ref C2) (.ref C2) = some true) (e0 : PySem.W.subIn K (.ref C0) (.type "LookupError") = some true) (e1 : PySem.W.subIn K (.ref C1) (.type "ValueError") = some true) (e2 : PySem.W.subIn K (.ref C2) (.type "ValueError") = some true) (gc0 : PySem.W.nsIn K mainGlobals "gcd" = some (some (.builtin "math.gcd"))) (gc1 : PySem.W.nsIn K mainGlobals "perm" = some (some (.builtin "math.perm"))) (k0 : PySem.W.nsIn K mainGlobals "DEEPEST" = some (some (.int 20 t0))) (k1 : PySem.W.nsIn K mainGlobals "MOST_THINGS" = some (some (.int 60 t1))) (k2 : PySem.W.nsIn K mainGlobals "MOST_PICKS" = some (some (.int 5000 t2))) (pb : PySem.W.nsIn K mainGlobals "permutations" = some (some (.type "itertools.permutations"))) (z0 : PySem.W.nsIn K mainGlobals "len" = some none) (z1 : PySem.W.nsIn K mainGlobals "abs" = some none) (z2 : PySem.W.nsIn K mainGlobals "int" = some none) (z3 : PySem.W.nsIn K mainGlobals "bool" = some none) (z4 : PySem.W.nsIn K mainGlobals "all" = some none) (z5 : PySem.W.nsIn K mainGlobals "any" = some none) (z6 : PySem.W.nsIn K mainGlobals "tuple" = some none) (z7 : PySem.W.nsIn K mainGlobals "list" = some none) (z8 : PySem.W.nsIn K mainGlobals "range" = some none) (z9 : PySem.W.nsIn K mainGlobals "zip" = some none) (z10 : PySem.W.nsIn K mainGlobals "enumerate" = some none) (z11 : PySem.W.nsIn K mainGlobals "isinstance" = some none) (z12 : PySem.W.nsIn K mainGlobals "str" = some none) (z13 : PySem.W.nsIn K mainGlobals "sorted" = some none) (z14 : PySem.W.nsIn K mainGlobals "min" = some none) (z15 : PySem.W.nsIn K mainGlobals "sum" = some none) (z16 : PySem.W.nsIn K mainGlobals "max" = some none) (z17 : PySem.W.nsIn K mainGlobals "divmod" = some none) (z18 : PySem.W.nsIn K mainGlobals "set" = some none) (z19 : PySem.W.nsIn K mainGlobals "dict" = some none) (z20 : PySem.W.nsIn K mainGlobals "reversed" = some none) (z21 : PySem.W.nsIn K mainGlobals "ValueError" = some none) (z22 : PySem.W.nsIn K mainGlobals "LookupError" = some none) (vV : PySem.W.findCls K (.type "ValueError") (.type "type") "__init__" = some (.val (.builtin "ValueError.__init__"))) (vL : PySem.W.findCls K (.type "LookupError") (.type "type") "__init__" = some (.val (.builtin "LookupError.__init__"))) : EnvT T P w K mg base (fun j => ([(C0, some "token"), (C1, none), (C2, none)] : List (Addr × Option Str)).getD j (0, none)) := by
  refine env_of ?fs ?gc ?co ?tc ?cb ?pb ?m0 ?cf ?sub ?isE (by decide) ?mB
  case fs => exact List.forall_mem_cons.mpr ⟨(n0 X G d0), List.forall_mem_cons.mpr ⟨(n1 X G d1), List.forall_mem_cons.mpr ⟨(n2 X G d2), List.forall_mem_cons.mpr ⟨(n3 X G d3), List.forall_mem_cons.mpr ⟨(n4 X G d4), List.forall_mem_cons.mpr ⟨(n5 X G d5), List.forall_mem_cons.mpr ⟨(n6 X G d6), List.forall_mem_cons.mpr ⟨(n7 X G d7), List.forall_mem_cons.mpr ⟨(n8 X G d8), List.forall_mem_cons.mpr ⟨(n9 X G d9), List.forall_mem_cons.mpr ⟨(n10 X G d10), List.forall_mem_cons.mpr ⟨(n11 X G d11), List.forall_mem_cons.mpr ⟨(n12 X G d12), List.forall_mem_cons.mpr ⟨(n13 X G d13), List.forall_mem_cons.mpr ⟨(n14 X G d14), List.forall_mem_cons.mpr ⟨(n15 X G d15), List.forall_mem_cons.mpr ⟨(n16 X G d16), List.forall_mem_cons.mpr ⟨(n17 X G d17), List.forall_mem_cons.mpr ⟨(n18 X G d18), List.forall_mem_cons.mpr ⟨(n19 X G d19), List.forall_mem_cons.mpr ⟨(n20 X G d20), List.forall_mem_cons.mpr ⟨(n21 X G d21), List.forall_mem_cons.mpr ⟨(n22 X G d22), List.forall_mem_cons.mpr ⟨(n23 X G d23), List.forall_mem_cons.mpr ⟨(n24 X G d24), List.forall_mem_cons.mpr ⟨(n25 X G d25), List.forall_mem_cons.mpr ⟨(n26 X G d26), List.forall_mem_cons.mpr ⟨(n27 X G d27), List.forall_mem_cons.mpr ⟨(n28 X G d28), List.forall_mem_cons.mpr ⟨(n29 X G d29), List.forall_mem_cons.mpr ⟨(n30 X G d30), List.forall_mem_cons.mpr ⟨(n31 X G d31), List.forall_mem_cons.mpr ⟨(n32 X G d32), List.forall_mem_cons.mpr ⟨(n33 X G d33), List.forall_mem_cons.mpr ⟨(n34 X G d34), List.forall_mem_cons.mpr ⟨(n35 X G d35), List.forall_mem_cons.mpr ⟨(n36 X G d36), List.forall_mem_cons.mpr ⟨(n37 X G d37), List.forall_mem_cons.mpr ⟨(n38 X G d38), List.forall_mem_cons.mpr ⟨(n39 X G d39), List.forall_mem_cons.mpr ⟨(n40 X G d40), List.forall_mem_cons.mpr ⟨(n41 X G d41), List.forall_mem_cons.mpr ⟨(n42 X G d42), List.forall_mem_cons.mpr ⟨(n43 X G d43), List.forall_mem_cons.mpr ⟨(n44 X G d44), List.forall_mem_cons.mpr ⟨(n45 X G d45), List.forall_mem_cons.mpr ⟨(n46 X G d46), List.forall_mem_cons.mpr ⟨(n47 X G d47), List.forall_mem_cons.mpr ⟨(n48 X G d48), List.forall_mem_cons.mpr ⟨(n49 X G d49), List.forall_mem_cons.mpr ⟨(n50 X G d50), List.forall_mem_cons.mpr ⟨(n51 X G d51), List.forall_mem_cons.mpr ⟨(n52 X G d52), List.forall_mem_cons.mpr ⟨(n53 X G d53), List.forall_mem_cons.mpr ⟨(n54 X G d54), List.forall_mem_cons.mpr ⟨(n55 X G d55), List.forall_mem_cons.mpr ⟨(n56 X G d56), List.forall_mem_cons.mpr ⟨(n57 X G d57), List.forall_mem_cons.mpr ⟨(n58 X G d58), List.forall_mem_cons.mpr ⟨(n59 X G d59), List.forall_mem_cons.mpr ⟨(n60 X G d60), List.forall_mem_cons.mpr ⟨(n61 X G d61), List.forall_mem_cons.mpr ⟨(n62 X G d62), List.forall_mem_nil _⟩⟩⟩⟩⟩⟩⟩⟩⟩⟩⟩⟩⟩⟩⟩⟩⟩⟩⟩⟩⟩⟩⟩⟩⟩⟩⟩⟩⟩⟩⟩⟩⟩⟩⟩⟩⟩⟩⟩⟩⟩⟩⟩⟩⟩⟩⟩⟩⟩⟩⟩⟩⟩⟩⟩⟩⟩⟩⟩⟩⟩⟩⟩
  case gc => exact List.forall_mem_cons.mpr ⟨PySem.W.mg_of X G gc0, List.forall_mem_cons.mpr ⟨PySem.W.mg_of X G gc1, List.forall_mem_nil _⟩⟩
  case co => exact List.forall_mem_cons.mpr ⟨⟨_, PySem.W.mg_of X G k0⟩, List.forall_mem_cons.mpr ⟨⟨_, PySem.W.mg_of X G k1⟩, List.forall_mem_cons.mpr ⟨⟨_, PySem.W.mg_of X G k2⟩, List.forall_mem_nil _⟩⟩⟩
  case tc => exact List.forall_mem_nil _
  case cb => exact fun h => by cases h
  case pb => exact fun _ => PySem.W.mg_of X G pb
  case m0 => exact List.forall_mem_cons.mpr ⟨PySem.W.mg_none_of X G z0, List.forall_mem_cons.mpr ⟨PySem.W.mg_none_of X G z1, List.forall_mem_cons.mpr ⟨PySem.W.mg_none_of X G z2, List.forall_mem_cons.mpr ⟨PySem.W.mg_none_of X G z3, List.forall_mem_cons.mpr ⟨PySem.W.mg_none_of X G z4, List.forall_mem_cons.mpr ⟨PySem.W.mg_none_of X G z5, List.forall_mem_cons.mpr ⟨PySem.W.mg_none_of X G z6, List.forall_mem_cons.mpr ⟨PySem.W.mg_none_of X G z7, List.forall_mem_cons.mpr ⟨PySem.W.mg_none_of X G z8, List.forall_mem_cons.mpr ⟨PySem.W.mg_none_of X G z9, List.forall_mem_cons.mpr ⟨PySem.W.mg_none_of X G z10, List.forall_mem_cons.mpr ⟨PySem.W.mg_none_of X G z11, List.forall_mem_cons.mpr ⟨PySem.W.mg_none_of X G z12, List.forall_mem_cons.mpr ⟨PySem.W.mg_none_of X G z13, List.forall_mem_cons.mpr ⟨PySem.W.mg_none_of X G z14, List.forall_mem_cons.mpr ⟨PySem.W.mg_none_of X G z15, List.forall_mem_cons.mpr ⟨PySem.W.mg_none_of X G z16, List.forall_mem_cons.mpr ⟨PySem.W.mg_none_of X G z17, List.forall_mem_cons.mpr ⟨PySem.W.mg_none_of X G z18, List.forall_mem_cons.mpr ⟨PySem.W.mg_none_of X G z19, List.forall_mem_cons.mpr ⟨PySem.W.mg_none_of X G z20, List.forall_mem_nil _⟩⟩⟩⟩⟩⟩⟩⟩⟩⟩⟩⟩⟩⟩⟩⟩⟩⟩⟩⟩⟩
  case mB => exact List.forall_mem_cons.mpr ⟨PySem.W.mg_none_of X G z21, List.forall_mem_cons.mpr ⟨PySem.W.mg_none_of X G z22, List.forall_mem_nil _⟩⟩
  case cf => exact getq_cons (⟨rfl, .f1 baseLE c0 (PySem.W.mg_none_of X G z22) vL (by decide) (by decide) (by decide +kernel) (by decide) (by decide)⟩) (getq_cons (⟨rfl, .f0 c1 (PySem.W.mg_none_of X G z21) vV⟩) (getq_cons (⟨rfl, .f0 c2 (PySem.W.mg_none_of X G z21) vV⟩) (getq_nil)))
  case sub =>
    intro j j' x x' h h'
    have hj : j < 3 := (List.getElem?_eq_some_iff.mp h).1
    have hj' : j' < 3 := (List.getElem?_eq_some_iff.mp h').1
    clear h h'
    match j, j', hj, hj' with
    | 0, 0, _, _ => exact s0_0
    | 0, 1, _, _ => exact s0_1
    | 0, 2, _, _ => exact s0_2
    | 1, 0, _, _ => exact s1_0
    | 1, 1, _, _ => exact s1_1
    | 1, 2, _, _ => exact s1_2
    | 2, 0, _, _ => exact s2_0
    | 2, 1, _, _ => exact s2_1
    | 2, 2, _, _ => exact s2_2
    | n + 3, _, h, _ => exact absurd h (by omega)
    | _, n + 3, _, h => exact absurd h (by omega)
  case isE => exact fun j l t h => (getq_cons (fun t ht => by
      rcases List.mem_singleton.mp ht with rfl
      exact kit_sub (by decide +kernel) e0) (getq_cons (fun t ht => by
      rcases List.mem_singleton.mp ht with rfl
      exact kit_sub (by decide +kernel) e1) (getq_cons (fun t ht => by
      rcases List.mem_singleton.mp ht with rfl
      exact kit_sub (by decide +kernel) e2) (getq_nil))) : ∀ (j : Nat) (l : List String), T.bases[j]? = some l → ∀ t ∈ l, PySem.W.kitOne K (.ref (([(C0, some "token"), (C1, none), (C2, none)] : List (Addr × Option Str)).getD j (0, none)).1) (.type t) = some true) j l h t
theorem all_mk {w : World} {K : PySem.W.Frag} {mg : Str → Option Value} {h : Heap} {fa : Addr} {C0 : Addr} {C1 : Addr} {C2 : Addr} {t0 : Tok} {t1 : Tok} {t2 : Tok} (X : K.In h) (G : h.Ns mainGlobals mg) (hfa : mg "law" = some (.ref fa)) (d0 : DefRD K (st 8) "frozen" [.int 20]) (d1 : DefR K (st 9) "is_number") (d2 : DefR K (st 10) "is_from") (d3 : DefR K (st 11) "is_below") (d4 : DefR K (st 12) "is_row") (d5 : DefR K (st 13) "as_set") (d6 : DefR K (st 15) "fraction") (d7 : DefR K (st 19) "is_luck") (d8 : DefR K (st 20) "next_luck") (d9 : DefR K (st 21) "drawn") (d10 : DefR K (st 22) "drawing") (d11 : DefR K (st 23) "_check_sizes") (d12 : DefR K (st 24) "_check_places") (d13 : DefR K (st 25) "picks") (d14 : DefR K (st 26) "unpicked") (d15 : DefR K (st 27) "picks_count") (d16 : DefR K (st 28) "luck_for") (d17 : DefR K (st 29) "plain_luck") (d18 : DefR K (st 30) "pick_alike") (d19 : DefR K (st 31) "first_unlike_pick") (d20 : DefR K (st 32) "luck_number") (d21 : DefR K (st 33) "luck_at") (d22 : DefR K (st 34) "all_picks") (d23 : DefR K (st 35) "exchanged_luck") (d24 : DefR K (st 36) "picks_with") (d25 : DefR K (st 37) "part_gone") (d26 : DefR K (st 39) "is_rule") (d27 : DefR K (st 40) "is_careful") (d28 : DefR K (st 41) "_is_taken") (d29 : DefR K (st 42) "_is_part_of") (d30 : DefR K (st 43) "is_bin") (d31 : DefR K (st 44) "empty_bin") (d32 : DefR K (st 45) "_check_tokens") (d33 : DefR K (st 46) "is_refused") (d34 : DefR K (st 47) "box_with") (d35 : DefR K (st 48) "refuses") (d36 : DefR K (st 49) "put_in") (d37 : DefR K (st 50) "must_go") (d38 : DefR K (st 51) "box_without") (d39 : DefR K (st 52) "let_go") (d40 : DefR K (st 53) "moment_of") (d41 : DefR K (st 54) "house_moment") (d42 : DefR K (st 55) "house_run") (d43 : DefR K (st 56) "_taken_at") (d44 : DefR K (st 57) "taken_first") (d45 : DefR K (st 58) "taken_last") (d46 : DefR K (st 59) "gone_from") (d47 : DefR K (st 60) "still_wanted") (d48 : DefR K (st 61) "goes_by_wait") (d49 : DefR K (st 62) "senders_lying") (d50 : DefR K (st 63) "run_luck") (d51 : DefR K (st 64) "_luck_of_going") (d52 : DefR K (st 66) "_law_lists") (d53 : DefR K (st 67) "_law_same") (d54 : DefR K (st 68) "_law_told") (d55 : DefR K (st 69) "_law_heard") (d56 : DefR K (st 70) "_law_luck_right") (d57 : DefR K (st 71) "_law_counts_right") (d58 : DefR K (st 72) "_law_luck_refused") (d59 : DefR K (st 73) "_law_house_right") (d60 : DefR K (st 74) "_law_looks_right") (d61 : DefR K (st 75) "_law_house_refused") (d62 : DefR K (st 76) "law") (c0 : ClsX K mg C0 "NoToken" "LookupError" "token") (c1 : ClsF K mg C1 "Unfit") (c2 : ClsF K mg C2 "TooMany") (s0_0 : PySem.W.subIn K (.ref C0) (.ref C0) = some true) (s0_1 : PySem.W.subIn K (.ref C0) (.ref C1) = some false) (s0_2 : PySem.W.subIn K (.ref C0) (.ref C2) = some false) (s1_0 : PySem.W.subIn K (.ref C1) (.ref C0) = some false) (s1_1 : PySem.W.subIn K (.ref C1) (.ref C1) = some true) (s1_2 : PySem.W.subIn K (.ref C1) (.ref C2) = some false) (s2_0 : PySem.W.subIn K (.ref C2) (.ref C0) = some false) (s2_1 : PySem.W.subIn K (.ref C2) (.ref C1) = some false) (s2_2 : PySem.W.subIn K (.ref C2) (.ref C2) = some true) (e0 : PySem.W.subIn K (.ref C0) (.type "LookupError") = some true) (e1 : PySem.W.subIn K (.ref C1) (.type "ValueError") = some true) (e2 : PySem.W.subIn K (.ref C2) (.type "ValueError") = some true) (gc0 : PySem.W.nsIn K mainGlobals "gcd" = some (some (.builtin "math.gcd"))) (gc1 : PySem.W.nsIn K mainGlobals "perm" = some (some (.builtin "math.perm"))) (k0 : PySem.W.nsIn K mainGlobals "DEEPEST" = some (some (.int 20 t0))) (k1 : PySem.W.nsIn K mainGlobals "MOST_THINGS" = some (some (.int 60 t1))) (k2 : PySem.W.nsIn K mainGlobals "MOST_PICKS" = some (some (.int 5000 t2))) (pb : PySem.W.nsIn K mainGlobals "permutations" = some (some (.type "itertools.permutations"))) (z0 : PySem.W.nsIn K mainGlobals "len" = some none) (z1 : PySem.W.nsIn K mainGlobals "abs" = some none) (z2 : PySem.W.nsIn K mainGlobals "int" = some none) (z3 : PySem.W.nsIn K mainGlobals "bool" = some none) (z4 : PySem.W.nsIn K mainGlobals "all" = some none) (z5 : PySem.W.nsIn K mainGlobals "any" = some none) (z6 : PySem.W.nsIn K mainGlobals "tuple" = some none) (z7 : PySem.W.nsIn K mainGlobals "list" = some none) (z8 : PySem.W.nsIn K mainGlobals "range" = some none) (z9 : PySem.W.nsIn K mainGlobals "zip" = some none) (z10 : PySem.W.nsIn K mainGlobals "enumerate" = some none) (z11 : PySem.W.nsIn K mainGlobals "isinstance" = some none) (z12 : PySem.W.nsIn K mainGlobals "str" = some none) (z13 : PySem.W.nsIn K mainGlobals "sorted" = some none) (z14 : PySem.W.nsIn K mainGlobals "min" = some none) (z15 : PySem.W.nsIn K mainGlobals "sum" = some none) (z16 : PySem.W.nsIn K mainGlobals "max" = some none) (z17 : PySem.W.nsIn K mainGlobals "divmod" = some none) (z18 : PySem.W.nsIn K mainGlobals "set" = some none) (z19 : PySem.W.nsIn K mainGlobals "dict" = some none) (z20 : PySem.W.nsIn K mainGlobals "reversed" = some none) (z21 : PySem.W.nsIn K mainGlobals "ValueError" = some none) (z22 : PySem.W.nsIn K mainGlobals "LookupError" = some none) (vV : PySem.W.findCls K (.type "ValueError") (.type "type") "__init__" = some (.val (.builtin "ValueError.__init__"))) (vL : PySem.W.findCls K (.type "LookupError") (.type "type") "__init__" = some (.val (.builtin "LookupError.__init__"))) :
    ∃ fd : FuncData, (∀ (s : Shared) (u : Value), BindsTo s fd ⟨[u], []⟩ [("script", u)]) ∧ ∀ base : Heap, K.In base → base.Ns mainGlobals mg → FnOk PySem.Challenge.pw_sendershade_k05_luck_and_one_house_by_ha w K mg base (L2.CX PySem.Challenge.pw_sendershade_k05_luck_and_one_house_by_ha w) 28 fa fd ["script"] (spLaw K) := by
  have E : ∀ base : Heap, EnvT T PySem.Challenge.pw_sendershade_k05_luck_and_one_house_by_ha w K mg base (fun j => ([(C0, some "token"), (C1, none), (C2, none)] : List (Addr × Option Str)).getD j (0, none)) := fun base => env_mk X G d0 d1 d2 d3 d4 d5 d6 d7 d8 d9 d10 d11 d12 d13 d14 d15 d16 d17 d18 d19 d20 d21 d22 d23 d24 d25 d26 d27 d28 d29 d30 d31 d32 d33 d34 d35 d36 d37 d38 d39 d40 d41 d42 d43 d44 d45 d46 d47 d48 d49 d50 d51 d52 d53 d54 d55 d56 d57 d58 d59 d60 d61 d62 c0 c1 c2 s0_0 s0_1 s0_2 s1_0 s1_1 s1_2 s2_0 s2_1 s2_2 e0 e1 e2 gc0 gc1 k0 k1 k2 pb z0 z1 z2 z3 z4 z5 z6 z7 z8 z9 z10 z11 z12 z13 z14 z15 z16 z17 z18 z19 z20 z21 z22 vV vL
  obtain ⟨fL, ocL, odL, kVL, dcL, pmL, anL, cdL, ctL, slL, aL, lL, cL, kL⟩ := d62.ex
  have e := hfa.symm.trans (PySem.W.mg_of X G aL)
  cases e
  have FL : FunD K "law" "law" (defArgs (st 76)) (defBody (st 76)) (defScope (st 76)) [] [] fa _ := ⟨⟨ocL, odL, .none, kVL, dcL, pmL, anL, cdL, ctL, slL, rfl, lL, cL, .inl ⟨rfl, rfl⟩, .inl rfl⟩, kL⟩
  refine ⟨_, fun s u => FL.bindsA (ps := ["script"]) (fun _ _ _ _ _ _ us hl => match us, hl with | [_], _ => rfl) s [u] rfl, fun base _ _ => ok_law (E base) FL   ⟩
end K05
open PySem PySem.W PyProof.Rows
set_option maxHeartbeats 0 in
theorem PySem.Challenge.cw_sendershade_k05_luck_and_one_house_by_ha_holds : PySem.Challenge.rw_sendershade_k05_luck_and_one_house_by_ha.Holds := by
  w_on; o_law; k_head; (case hw => w_witness2)
  k_fill
  refine L2.walk_of (l := PySem.Challenge.rw_sendershade_k05_luck_and_one_house_by_ha) (n := 63) (k := 28) (x := "script") (CX := fun w => L2.CX PySem.Challenge.pw_sendershade_k05_luck_and_one_house_by_ha w) (sp := fun w => K05.spLaw _) rfl (by decide) rfl ⟨rfl, by decide, by decide⟩ (fun w h Y => PySem.W.kIn_of Y) ?F (fun _ _ a ns hl _ hS => ⟨a, ns, rfl, hS, hl, fun _ => rfl⟩) (fun _ _ _ _ _ ⟨_, _, _, _, _, _, _, _, _, _, _, _, h⟩ => h)
  case F =>
    intro w mg fa h KX G hmg
    refine' K05.all_mk KX G hmg ?d0 ?d1 ?d2 ?d3 ?d4 ?d5 ?d6 ?d7 ?d8 ?d9 ?d10 ?d11 ?d12 ?d13 ?d14 ?d15 ?d16 ?d17 ?d18 ?d19 ?d20 ?d21 ?d22 ?d23 ?d24 ?d25 ?d26 ?d27 ?d28 ?d29 ?d30 ?d31 ?d32 ?d33 ?d34 ?d35 ?d36 ?d37 ?d38 ?d39 ?d40 ?d41 ?d42 ?d43 ?d44 ?d45 ?d46 ?d47 ?d48 ?d49 ?d50 ?d51 ?d52 ?d53 ?d54 ?d55 ?d56 ?d57 ?d58 ?d59 ?d60 ?d61 ?d62 ?c0 ?c1 ?c2 ?s0_0 ?s0_1 ?s0_2 ?s1_0 ?s1_1 ?s1_2 ?s2_0 ?s2_1 ?s2_2 ?e0 ?e1 ?e2 ?gc0 ?gc1 ?k0 ?k1 ?k2 ?pb ?z0 ?z1 ?z2 ?z3 ?z4 ?z5 ?z6 ?z7 ?z8 ?z9 ?z10 ?z11 ?z12 ?z13 ?z14 ?z15 ?z16 ?z17 ?z18 ?z19 ?z20 ?z21 ?z22 ?vV ?vL
    (case d0 => refine' EV.defRD_mk ?a ?l ?c ?k ?l2 ?r; (case a => k_is); (case l => k_is); (case c => k_is); (case k => k_is); (case l2 => k_is); (case r => exact .cons ⟨_, rfl⟩ .nil))
    (case d1 => refine' EV.defR_mk ?a ?l ?c ?k; (case a => k_is); (case l => k_is); (case c => k_is); (case k => k_is))
    (case d2 => refine' EV.defR_mk ?a ?l ?c ?k; (case a => k_is); (case l => k_is); (case c => k_is); (case k => k_is))
    (case d3 => refine' EV.defR_mk ?a ?l ?c ?k; (case a => k_is); (case l => k_is); (case c => k_is); (case k => k_is))
    (case d4 => refine' EV.defR_mk ?a ?l ?c ?k; (case a => k_is); (case l => k_is); (case c => k_is); (case k => k_is))
    (case d5 => refine' EV.defR_mk ?a ?l ?c ?k; (case a => k_is); (case l => k_is); (case c => k_is); (case k => k_is))
    (case d6 => refine' EV.defR_mk ?a ?l ?c ?k; (case a => k_is); (case l => k_is); (case c => k_is); (case k => k_is))
    (case d7 => refine' EV.defR_mk ?a ?l ?c ?k; (case a => k_is); (case l => k_is); (case c => k_is); (case k => k_is))
    (case d8 => refine' EV.defR_mk ?a ?l ?c ?k; (case a => k_is); (case l => k_is); (case c => k_is); (case k => k_is))
    (case d9 => refine' EV.defR_mk ?a ?l ?c ?k; (case a => k_is); (case l => k_is); (case c => k_is); (case k => k_is))
    (case d10 => refine' EV.defR_mk ?a ?l ?c ?k; (case a => k_is); (case l => k_is); (case c => k_is); (case k => k_is))
    (case d11 => refine' EV.defR_mk ?a ?l ?c ?k; (case a => k_is); (case l => k_is); (case c => k_is); (case k => k_is))
    (case d12 => refine' EV.defR_mk ?a ?l ?c ?k; (case a => k_is); (case l => k_is); (case c => k_is); (case k => k_is))
    (case d13 => refine' EV.defR_mk ?a ?l ?c ?k; (case a => k_is); (case l => k_is); (case c => k_is); (case k => k_is))
    (case d14 => refine' EV.defR_mk ?a ?l ?c ?k; (case a => k_is); (case l => k_is); (case c => k_is); (case k => k_is))
    (case d15 => refine' EV.defR_mk ?a ?l ?c ?k; (case a => k_is); (case l => k_is); (case c => k_is); (case k => k_is))
    (case d16 => refine' EV.defR_mk ?a ?l ?c ?k; (case a => k_is); (case l => k_is); (case c => k_is); (case k => k_is))
    (case d17 => refine' EV.defR_mk ?a ?l ?c ?k; (case a => k_is); (case l => k_is); (case c => k_is); (case k => k_is))
    (case d18 => refine' EV.defR_mk ?a ?l ?c ?k; (case a => k_is); (case l => k_is); (case c => k_is); (case k => k_is))
    (case d19 => refine' EV.defR_mk ?a ?l ?c ?k; (case a => k_is); (case l => k_is); (case c => k_is); (case k => k_is))
    (case d20 => refine' EV.defR_mk ?a ?l ?c ?k; (case a => k_is); (case l => k_is); (case c => k_is); (case k => k_is))
    (case d21 => refine' EV.defR_mk ?a ?l ?c ?k; (case a => k_is); (case l => k_is); (case c => k_is); (case k => k_is))
    (case d22 => refine' EV.defR_mk ?a ?l ?c ?k; (case a => k_is); (case l => k_is); (case c => k_is); (case k => k_is))
    (case d23 => refine' EV.defR_mk ?a ?l ?c ?k; (case a => k_is); (case l => k_is); (case c => k_is); (case k => k_is))
    (case d24 => refine' EV.defR_mk ?a ?l ?c ?k; (case a => k_is); (case l => k_is); (case c => k_is); (case k => k_is))
    (case d25 => refine' EV.defR_mk ?a ?l ?c ?k; (case a => k_is); (case l => k_is); (case c => k_is); (case k => k_is))
    (case d26 => refine' EV.defR_mk ?a ?l ?c ?k; (case a => k_is); (case l => k_is); (case c => k_is); (case k => k_is))
    (case d27 => refine' EV.defR_mk ?a ?l ?c ?k; (case a => k_is); (case l => k_is); (case c => k_is); (case k => k_is))
    (case d28 => refine' EV.defR_mk ?a ?l ?c ?k; (case a => k_is); (case l => k_is); (case c => k_is); (case k => k_is))
    (case d29 => refine' EV.defR_mk ?a ?l ?c ?k; (case a => k_is); (case l => k_is); (case c => k_is); (case k => k_is))
    (case d30 => refine' EV.defR_mk ?a ?l ?c ?k; (case a => k_is); (case l => k_is); (case c => k_is); (case k => k_is))
    (case d31 => refine' EV.defR_mk ?a ?l ?c ?k; (case a => k_is); (case l => k_is); (case c => k_is); (case k => k_is))
    (case d32 => refine' EV.defR_mk ?a ?l ?c ?k; (case a => k_is); (case l => k_is); (case c => k_is); (case k => k_is))
    (case d33 => refine' EV.defR_mk ?a ?l ?c ?k; (case a => k_is); (case l => k_is); (case c => k_is); (case k => k_is))
    (case d34 => refine' EV.defR_mk ?a ?l ?c ?k; (case a => k_is); (case l => k_is); (case c => k_is); (case k => k_is))
    (case d35 => refine' EV.defR_mk ?a ?l ?c ?k; (case a => k_is); (case l => k_is); (case c => k_is); (case k => k_is))
    (case d36 => refine' EV.defR_mk ?a ?l ?c ?k; (case a => k_is); (case l => k_is); (case c => k_is); (case k => k_is))
    (case d37 => refine' EV.defR_mk ?a ?l ?c ?k; (case a => k_is); (case l => k_is); (case c => k_is); (case k => k_is))
    (case d38 => refine' EV.defR_mk ?a ?l ?c ?k; (case a => k_is); (case l => k_is); (case c => k_is); (case k => k_is))
    (case d39 => refine' EV.defR_mk ?a ?l ?c ?k; (case a => k_is); (case l => k_is); (case c => k_is); (case k => k_is))
    (case d40 => refine' EV.defR_mk ?a ?l ?c ?k; (case a => k_is); (case l => k_is); (case c => k_is); (case k => k_is))
    (case d41 => refine' EV.defR_mk ?a ?l ?c ?k; (case a => k_is); (case l => k_is); (case c => k_is); (case k => k_is))
    (case d42 => refine' EV.defR_mk ?a ?l ?c ?k; (case a => k_is); (case l => k_is); (case c => k_is); (case k => k_is))
    (case d43 => refine' EV.defR_mk ?a ?l ?c ?k; (case a => k_is); (case l => k_is); (case c => k_is); (case k => k_is))
    (case d44 => refine' EV.defR_mk ?a ?l ?c ?k; (case a => k_is); (case l => k_is); (case c => k_is); (case k => k_is))
    (case d45 => refine' EV.defR_mk ?a ?l ?c ?k; (case a => k_is); (case l => k_is); (case c => k_is); (case k => k_is))
    (case d46 => refine' EV.defR_mk ?a ?l ?c ?k; (case a => k_is); (case l => k_is); (case c => k_is); (case k => k_is))
    (case d47 => refine' EV.defR_mk ?a ?l ?c ?k; (case a => k_is); (case l => k_is); (case c => k_is); (case k => k_is))
    (case d48 => refine' EV.defR_mk ?a ?l ?c ?k; (case a => k_is); (case l => k_is); (case c => k_is); (case k => k_is))
    (case d49 => refine' EV.defR_mk ?a ?l ?c ?k; (case a => k_is); (case l => k_is); (case c => k_is); (case k => k_is))
    (case d50 => refine' EV.defR_mk ?a ?l ?c ?k; (case a => k_is); (case l => k_is); (case c => k_is); (case k => k_is))
    (case d51 => refine' EV.defR_mk ?a ?l ?c ?k; (case a => k_is); (case l => k_is); (case c => k_is); (case k => k_is))
    (case d52 => refine' EV.defR_mk ?a ?l ?c ?k; (case a => k_is); (case l => k_is); (case c => k_is); (case k => k_is))
    (case d53 => refine' EV.defR_mk ?a ?l ?c ?k; (case a => k_is); (case l => k_is); (case c => k_is); (case k => k_is))
    (case d54 => refine' EV.defR_mk ?a ?l ?c ?k; (case a => k_is); (case l => k_is); (case c => k_is); (case k => k_is))
    (case d55 => refine' EV.defR_mk ?a ?l ?c ?k; (case a => k_is); (case l => k_is); (case c => k_is); (case k => k_is))
    (case d56 => refine' EV.defR_mk ?a ?l ?c ?k; (case a => k_is); (case l => k_is); (case c => k_is); (case k => k_is))
    (case d57 => refine' EV.defR_mk ?a ?l ?c ?k; (case a => k_is); (case l => k_is); (case c => k_is); (case k => k_is))
    (case d58 => refine' EV.defR_mk ?a ?l ?c ?k; (case a => k_is); (case l => k_is); (case c => k_is); (case k => k_is))
    (case d59 => refine' EV.defR_mk ?a ?l ?c ?k; (case a => k_is); (case l => k_is); (case c => k_is); (case k => k_is))
    (case d60 => refine' EV.defR_mk ?a ?l ?c ?k; (case a => k_is); (case l => k_is); (case c => k_is); (case k => k_is))
    (case d61 => refine' EV.defR_mk ?a ?l ?c ?k; (case a => k_is); (case l => k_is); (case c => k_is); (case k => k_is))
    (case d62 => refine' EV.defR_mk ?a ?l ?c ?k; (case a => k_is); (case l => k_is); (case c => k_is); (case k => k_is))
    (case c0 => refine' EV.clsX_mk KX G ?a ?xL ?eb ?en ?sa ?eC ?tC ?kC ?iC ?tI ?lI ?cI ?kI ?hline ?hpre ?hg ?hk ?hd ?ha ?hn ?ht ?hm ?no ?nd ?sc ?fd ?bi; (case a => k_is); (case xL => k_is); (case sa => k_is); (case eC => k_is); (case tC => k_is); (case kC => k_is); (case iC => k_is); (case tI => k_is); (case lI => k_is); (case cI => k_is); (case kI => k_is); (case hg => k_is); (case hk => k_is); (case hd => k_is); (case ha => k_is); (case hn => k_is); (case ht => k_is); (case hm => k_is); (case no => k_is); (case eb => rfl); (case en => rfl); (case hpre => decide); (case hline => rfl); (case nd => decide); (case sc => exact ⟨rfl, rfl, rfl, by decide +kernel, rfl, by decide +kernel, by decide +kernel⟩); (case fd => exact ⟨by decide, by decide⟩); (case bi => exact fun _ _ _ _ _ _ _ _ _ _ _ us hl => match us, hl with | [_, _], _ => rfl))
    (case c1 => refine' EV.clsF_mk KX G ?a ?xL ?bV ?sa ?eC ?tC ?kC ?iC ?tI ?lI ?cI ?kI ?hline ?hg ?hk ?hd ?ha ?hn ?ht ?hm ?nd; (case a => k_is); (case xL => k_is); (case sa => k_is); (case eC => k_is); (case tC => k_is); (case kC => k_is); (case iC => k_is); (case tI => k_is); (case lI => k_is); (case cI => k_is); (case kI => k_is); (case hg => k_is); (case hk => k_is); (case hd => k_is); (case ha => k_is); (case hn => k_is); (case ht => k_is); (case hm => k_is); (case bV => decide +kernel); (case hline => rfl); (case nd => decide))
    (case c2 => refine' EV.clsF_mk KX G ?a ?xL ?bV ?sa ?eC ?tC ?kC ?iC ?tI ?lI ?cI ?kI ?hline ?hg ?hk ?hd ?ha ?hn ?ht ?hm ?nd; (case a => k_is); (case xL => k_is); (case sa => k_is); (case eC => k_is); (case tC => k_is); (case kC => k_is); (case iC => k_is); (case tI => k_is); (case lI => k_is); (case cI => k_is); (case kI => k_is); (case hg => k_is); (case hk => k_is); (case hd => k_is); (case ha => k_is); (case hn => k_is); (case ht => k_is); (case hm => k_is); (case bV => decide +kernel); (case hline => rfl); (case nd => decide))
    (case s0_0 => first | rfl | k_is)
    (case s0_1 => first | rfl | k_is)
    (case s0_2 => first | rfl | k_is)
    (case s1_0 => first | rfl | k_is)
    (case s1_1 => first | rfl | k_is)
    (case s1_2 => first | rfl | k_is)
    (case s2_0 => first | rfl | k_is)
    (case s2_1 => first | rfl | k_is)
    (case s2_2 => first | rfl | k_is)
    (case e0 => k_is)
    (case e1 => k_is)
    (case e2 => k_is)
    (case gc0 => k_is)
    (case gc1 => k_is)
    (case k0 => k_is)
    (case k1 => k_is)
    (case k2 => k_is)
    (case pb => k_is)
    (case z0 => k_is)
    (case z1 => k_is)
    (case z2 => k_is)
    (case z3 => k_is)
    (case z4 => k_is)
    (case z5 => k_is)
    (case z6 => k_is)
    (case z7 => k_is)
    (case z8 => k_is)
    (case z9 => k_is)
    (case z10 => k_is)
    (case z11 => k_is)
    (case z12 => k_is)
    (case z13 => k_is)
    (case z14 => k_is)
    (case z15 => k_is)
    (case z16 => k_is)
    (case z17 => k_is)
    (case z18 => k_is)
    (case z19 => k_is)
    (case z20 => k_is)
    (case z21 => k_is)
    (case z22 => k_is)
    (case vV => k_is)
    (case vL => k_is)
