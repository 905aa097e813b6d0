import PyProof.Rows.All
import Wide.All
import OpenK.AllK
import Wide.FinOn
import KE.KOpsOwn
import KE.GoesMore
import KE.GoesEnum
import HandS.ForMost
import HandS.Star
import HandS.Conv
import HandS.Deep
import HandS.DictTup
import HandS.IsInst
import HandS.Walk
import HandS.SlotsOwn
import HandS.TupAny
import HandS.Property
import KE.KDflt
import HandS.Lambda
import HandS.EndTab
import HandS.Nested
import HandS.Words
import HandS.SetFor
import HandS.ExcIs
import HandS.ExcField
import KE.KExcIs
import HandS.More
import PyProof.InstEq
import KE.KItemsList
import KE.KDictWalk
import HandS.SortInts
import HandS.ListItems
import HandS.DictComp
import HandS.Iter
import HandS.Sort
import OpenK.KMeth
import HandS.Strs
import HandS.List
import HandS.Style
import PyProof.EqAt
import PyProof.EqKinds
import PyProof.TupleCall
import KE.KDictList
import HandS.Base
import HandS.Call
import HandS.Dict
import HandS.TupMul
import HandS.GenBody
import HandS.GenYield
import PyProof.GenComp
import HandS.GenList
import HandS.OwnEq
import HandS.EndOwn
import KE.KNestM
import HandS.ExcSuper
import HandS.ExcInit
import HandS.RaiseMore
import HandS.FStr
import HandS.WordsExc
import HandS.TupSets
import HandS.GenCall
import HandS.Small
import HandS.Flow
import HandS.Finally
import KE.KExcSuper
import PySem.Challenge.RW_rowdominoes_k11_repeated_calls
set_option Elab.async false
set_option maxRecDepth 100000
section
set_option maxHeartbeats 4000000
/-! Own signs of own classes, as rules of the hand layer. -/
namespace Own
open PySem PySem.Spec PyProof.Rows L2

section
variable {X : Cx} {CX : CXT} {n : Nat} {C g : Addr} {sp : Sp} {E : XK}

/-- an instance of C, as the library's rules want it -/
theorem insAt {pins : List (Addr × Obj)} {sl : L2.St} {H : Hp} {st : Shared} {a dx : Addr} {fs : List (Str × V)} (inv : Inv X pins sl H st) (ea : H a = some (.ins C dx fs)) :
    ∃ od, PySem.W.InstAt st.heap a (PySem.W.instObj C dx) C (some od) := by
  obtain ⟨mm, ob, _⟩ := ins_get inv.hok ea
  obtain ⟨od, at1, _⟩ := ob.look
  exact ⟨od, at1⟩
/-- the def of a sign, called with the object and one more -/
theorem run2 {pins : List (Addr × Obj)} {sl : L2.St} {H : Hp} {st : Shared} {Q : VK} {a : Addr} {y : V} {u : Value} (F : FnR X.prog X.w X.K X.mg X.base CX n g sp) (hr : Room n X.A) (hx : Passes CX X E) (inv : Inv X pins sl H st) (ry : RelV y u)
    (h : sp [.ref a, y] H Q E) : wpAny (model X.prog X.w) X.A (call (.ref g) [.ref a, u]) (PySem.W.CmpBack (EP X pins sl Q)) X.xe st := by
  have go := wpAny_call (run_fnR (us := [.ref a, u]) (vs := [.ref a, y]) F hr hx inv (.cons rfl (.cons ry .nil)) h)
  refine wpAny_mono go (fun r st' z => ?_) fun _ _ z => z
  obtain ⟨z', H', inv', rz, qz⟩ := z
  exact SlX.cmpback rz ⟨z', H', inv', rz, qz⟩

/-- x op y: the class of x has the sign's def, y is an instance of it, too -/
def rBin (C : Addr) (sp : Sp) (E : XK) : R2 := fun x y H Q => ∃ a dx fs b dy gs, x = .ref a ∧ y = .ref b ∧ H a = some (.ins C dx fs) ∧ H b = some (.ins C dy gs) ∧ sp [x, y] H Q E
theorem op_bin {op : Operator} (hc : PySem.W.selfFirst X.K C = true) (hs : PySem.W.findIn X.K (.ref C) (PySem.dunder op.info.2) = some (some (.ref g))) (hf : PySem.W.isFn X.K (.ref g) = true)
    (F : FnR X.prog X.w X.K X.mg X.base CX n g sp) (hr : Room n X.A) (hx : Passes CX X E) : OpR X (binaryOp op) (rBin C sp E) := by
  intro pins st sl H x y v u Q inv rx ry h
  obtain ⟨a, dx, fs, b, dy, gs, rfl, rfl, ea, eb, h⟩ := h
  obtain rfl : v = Value.ref a := rx
  obtain rfl : u = Value.ref b := ry
  obtain ⟨_, ja⟩ := insAt inv ea
  obtain ⟨_, jb⟩ := insAt inv eb
  obtain ⟨_, fr⟩ := inv.fr
  exact PySem.W.binop_K fr inv.ok.mod.kin ja jb.type hc hs hf (run2 (y := .ref b) F hr hx inv rfl h)

/-- x op y: y an int, a bool, None or a text -/
def flatTy : V → Option String
  | .int _ => some "int"
  | .bl _ => some "bool"
  | .non => some "NoneType"
  | .str _ => some "str"
  | _ => none
theorem typeOf_flat {y : V} {u : Value} {t : String} (h : flatTy y = some t) (r : RelV y u) : typeOf u = pure (.type t) := by
  cases y with
  | int i => obtain ⟨k, rfl⟩ := r; cases h; rfl
  | bl i => cases r; cases h; rfl
  | non => cases r; cases h; rfl
  | str i => obtain ⟨k, rfl⟩ := r; cases h; rfl
  | byt i => cases h
  | flt i => cases h
  | ref i => cases h
  | ty i => cases h
def rBinF (K : PySem.W.Frag) (C : Addr) (nm : String) (sp : Sp) (E : XK) : R2 := fun x y H Q => ∃ a dx fs t fo ro, x = .ref a ∧ H a = some (.ins C dx fs) ∧ flatTy y = some t ∧
  PySem.W.findIn K (.type t) (PySem.dunder nm) = some fo ∧ PySem.W.findIn K (.type t) (dunderR nm) = some ro ∧ PySem.W.subIn K (.type t) (.ref C) = some false ∧ sp [x, y] H Q E

/-- len(x): the class of x has __len__ -/
def rLen (C : Addr) (sp : Sp) (E : XK) : List V → Hp → VK → Prop := fun xs H Q => ∃ a dx fs, xs = [.ref a] ∧ H a = some (.ins C dx fs) ∧ sp [.ref a] H (fun z H' => ∃ k : Int, z = .int k ∧ 0 ≤ k ∧ k < 2 ^ 63 ∧ Q z H') E
theorem call_len (hs : PySem.W.findIn X.K (.ref C) "__len__" = some (some (.ref g))) (hf : PySem.W.isFn X.K (.ref g) = true) (F : FnR X.prog X.w X.K X.mg X.base CX n g sp) (hr : Room (n + 1) X.A) (hx : Passes CX X E) :
    CallR X (.builtin "len") (rLen C sp E) := by
  intro pins st sl H xs us Q inv r h
  obtain ⟨a, dx, fs, rfl, ea, h⟩ := h
  obtain ⟨u, rfl, ru⟩ := r.one
  obtain rfl : u = Value.ref a := ru
  obtain ⟨_, ja⟩ := insAt inv ea
  obtain ⟨_, fr⟩ := inv.fr
  have go := wpAny_call (SlX.run_at (A := X.A.in1) (us := [.ref a]) (ws := [.ref a]) F hr.in1 inv.env0.in1 hx inv (.cons rfl .nil) h)
  refine PySem.W.len_K fr inv.ok.mod.kin ja hs hf (wpAny_mono go (fun v st' z => ?_) fun _ _ z => z)
  obtain ⟨z', H', inv', rz, k, rfl, h0, h1, qz⟩ := z
  obtain ⟨t, rfl⟩ := rz
  exact ⟨⟨h0, h1⟩, .int k, H', inv'.tok _, ⟨_, rfl⟩, qz⟩
end

/-! ### C(), C(e), C(*e) where __init__ has a star -/
section
variable {X : Cx} {CX : CXT} {k : Nat} {f C : Addr} {sp : Sp} {E : XK} {x : Str} {e : Expr} {te : TE} {p ps pos : Pos}
theorem pe_makeR0 (M : Mk X.K C f) (F : FnR X.prog X.w X.K X.mg X.base CX k f sp) (hr : Room (k + 1) X.A) (hg : Gl X x) (hm : X.mg x = some (.ref C)) (hx : Passes CX X E) (hdb : (x == ("__debug__" : Str)) = false := by decide) :
    PE X (.Call (.Name x p) [] [] pos) (StX.tMakeR C sp E tNil) := by
  refine ⟨fun pins st sl H Q inv h => wpAny_Call_Name_kw (ld_glob inv hg hm ?_ hdb)⟩
  exact PySem.W.callWith_K0 inv.kIn M.kp (StX.run_makeR (us := []) M F hr hx inv .nil h)
/-- C(*e) -/
def tMakeS (K : PySem.W.Frag) (C : Addr) (sp : Sp) (E : XK) (te : TE) : TE := fun sl H Q => te sl H fun y H1 => ∃ a xs, y = V.ref a ∧ (SqT K H1 a xs ∨ SqL K H1 a xs) ∧ ∀ z dz, H1 z = Option.none → H1 dz = Option.none → dz ≠ z →
  sp (V.ref z :: xs) (upd (upd H1 dz (.own z)) z (.ins C dz [])) (fun v H2 => v = .non ∧ Q (.ref z) H2) E
theorem pe_makeS (M : Mk X.K C f) (F : FnR X.prog X.w X.K X.mg X.base CX k f sp) (hr : Room (k + 1) X.A) (hg : Gl X x) (hm : X.mg x = some (.ref C)) (hx : Passes CX X E) (he : PE X e te) (hdb : (x == ("__debug__" : Str)) = false := by decide)
    (hst : starEach [.Starred e ps] X.env = [(true, eval e X.env)] := by rfl) : PE X (.Call (.Name x p) [.Starred e ps] [] pos) (tMakeS X.K C sp E te) := by
  refine ⟨fun pins st sl H Q inv h => wpAny_Call_Name_kw (ld_glob inv hg hm ?_ hdb)⟩
  refine PySem.W.callWith_S (h₀ := X.base) inv.ok.mod.kin M.kp (thn (he.run pins st sl H _ inv h) fun v s1 z => ?_) hst
  obtain ⟨y, H1, inv1, ry, a, xs, ey, hxs, q⟩ := z
  subst ey
  obtain rfl : v = Value.ref a := ry
  exact StX.star_any inv1 hxs fun us s2 inv2 rv => ⟨inv2.kIn, StX.run_makeR M F hr hx inv2 rv q⟩
end

/-! ### enumerate(tuple) -/
section
def Item (K : PySem.W.Frag) (a : Addr) : It :=
  ⟨fun i H => ∃ (xs : List V) (x : V), SqT K H a xs ∧ xs[i]? = some x, fun i H v H' => ∃ T x, v = .ref T ∧ H T = none ∧ H' = upd H T (.tup [.int (i : Nat), x]) ∧ ∀ ys, SqT K H a ys → ys[i]? = some x, fun i H => ∃ ys : List V, SqT K H a ys ∧ ys.length = i⟩
theorem walk_item {K : PySem.W.Frag} {a : Addr} {xs : List V} : Walk (Item K a) xs.length (fun H => SqT K H a xs) (YPair (fun i => some (.int (i : Nat))) (fun i => xs[i]?)) := by
  refine ⟨fun i _ hi q => ⟨xs, xs[i], q, by simp [hi]⟩, fun _ q => ⟨xs, q, rfl⟩, fun i H v H' _ q y => ?_⟩
  obtain ⟨T, x, e1, e2, e3, e4⟩ := y
  exact ⟨T, .int (i : Nat), x, e1, e2, e3, rfl, e4 xs q⟩
theorem two_cases {b en it : Addr} (hb : b ∈ [en, it]) : b = en ∨ b = it := by simpa using hb
theorem turn_item {P : Program} {w : World} {K : PySem.W.Frag} {elts : List Expr} {kk : Nat} {tpos : Pos} (a en it : Addr) (hat : a ≠ it) :
    Turn P w K (.Tuple elts kk tpos) (Item K a) [en, it] en (fun i h => (∃ old, IsEnum h en it ((i : Nat) : Int) old) ∧ h.IsTupleIter it a i ∧ en ≠ it ∧ en ≠ a) where
  mem := by simp
  obj := fun i h st b hb => by
    obtain ⟨⟨_, q⟩, ⟨oo, q1, _, q2⟩, _⟩ := st
    rcases two_cases hb with rfl | rfl
    · exact ⟨_, q, fun v z => nomatch z⟩
    · exact ⟨oo, q1, fun v z => by rw [q2] at z; cases z⟩
  keep := fun i h h' st k => let ⟨⟨old, q⟩, q1, q2⟩ := st; ⟨⟨old, k en (by simp) _ q⟩, q1.at fun o z => k it (by simp) o z, q2⟩
  item := by
    intro X hP hw hK hc i pins st sl H E inv free now hg
    subst hP hw hK
    obtain ⟨⟨old, q⟩, q1, q2, q3⟩ := now
    obtain ⟨xs, x, hq, hx⟩ := hg
    obtain ⟨its, rv, hp, _⟩ := inv.tuple hq
    obtain ⟨u, hu, ru⟩ := rv.get hx
    have lt1 : en < st.heap.objs.size := Heap.lt_size q
    have lt2 : it < st.heap.objs.size := by obtain ⟨_, z, _⟩ := q1; exact Heap.lt_size z
    have lt3 : a < st.heap.objs.size := by obtain ⟨_, z, _⟩ := hp; exact Heap.lt_size z
    have dr := Draws.tuple (prog := X.prog) (w := X.w) (A := X.A.in1) (show X.A.in1.handled = none from inv.ok.hd hc) it a hat its.toArray
    have hi : i < its.toArray.size := by
      have := (List.getElem?_eq_some_iff.mp hu).1
      simpa using this
    refine wpAny_pyNext_enum_itemD dr q ⟨q1, hp⟩ hi q2 (by simp [q2, q3]) fun x' h1 tk hx' ho hs1 hT hsz hk => ?_
    obtain rfl : x' = u := by
      have z : its.toArray[i]? = some u := by simpa using hu
      rw [z] at hx'
      exact (Option.some.inj hx').symm
    refine ⟨_, rfl, wpAny_letOwnedTupleGo_enum (s := { st with heap := h1, toks := tk + 1 }) ho fun h2 he2 sb => ?_⟩
    have hT2 : h2.get? st.heap.objs.size = some { cls := .type "tuple", data := .seq #[.int i tk, x'] } := (sb.2 _ (Nat.ne_of_gt lt1)).trans hT
    have pair : ObjOk X.prog X.w (upd H st.heap.objs.size (.tup [.int (i : Nat), x])) h2 st.heap.objs.size (.tup [.int (i : Nat), x]) :=
      ⟨by show 2 ≤ sizeLine; decide, [.int i tk, x'], .cons ⟨_, rfl⟩ (.cons ru .nil), ⟨_, hT2, rfl, _, rfl⟩⟩
    have inv2 : Inv X pins sl (upd H st.heap.objs.size (.tup [.int (i : Nat), x])) { st with heap := h2, toks := tk + 1 } :=
      inv.turnedNew (ch := [en, it]) (fun b ob hb z => (sb.2 b (fun y => hb (by simp [y]))).trans (hk b ob (fun y => hb (by simp [y])) (fun y => hb (by simp [y])) z)) free (Nat.le_refl _) pair
    refine ⟨.ref st.heap.objs.size, _, inv2, rfl, ⟨_, x, rfl, inv.hok.fresh (Nat.le_refl _), rfl, fun ys hy => by rw [inv.tuple_inj hy hq]; exact hx⟩, ⟨⟨x', ?_⟩, hs1.1.at fun o z => (sb.2 it (Ne.symm q2)).trans z, q2, q3⟩, fun b hb => ?_⟩
    · have e1 : ((i + 1 : Nat) : Int) = (i : Int) + 1 := by omega
      rw [e1]
      exact he2
    · have hb' : b < st.heap.objs.size := by
        rcases two_cases hb with rfl | rfl
        · exact lt1
        · exact lt2
      rw [upd_ne (Nat.ne_of_lt hb')]
      exact (free b hb).1
  done := by
    intro X hP hw hK hc i pins st sl H E inv free now hg
    subst hP hw hK
    obtain ⟨⟨old, q⟩, q1, q2, q3⟩ := now
    obtain ⟨xs, hq, hx⟩ := hg
    obtain ⟨its, rv, hp, _⟩ := inv.tuple hq
    obtain ⟨f0, f1, f2, f3, f4, f5⟩ := free it (by simp)
    have len := rv.length
    have dr := Draws.tuple (prog := X.prog) (w := X.w) (A := X.A.in1) (show X.A.in1.handled = none from inv.ok.hd hc) it a hat (its.toArray)
    have hn : i = its.toArray.size := by rw [List.size_toArray, ← len, hx]
    subst hn
    exact wpAny_pyNext_enum_endD dr q ⟨q1, hp⟩ fun h1 eb => ⟨rfl, inv.turned (t' := st.toks) (fun b o hb z => eb b o hb z) f0 f1 f3 f4 f5⟩
  self := fun A i s Q E now h => let ⟨⟨_, q⟩, _⟩ := now; wpAny_pyIter_enum q h

theorem new_enum {v : Value} {o : Obj} {G : Heap → Prop} (B : Begins v o G) :
    Meets (Builtin.«enumerate.__new__» ⟨[.type "enumerate", v], []⟩) (fun _ R st => G st.heap ∧
      R (.ok (.ret (.ref (st.heap.push o).objs.size))) { st with heap := (st.heap.push o).push { cls := .type "enumerate", data := .fields #[.none, .bool false, .ref st.heap.objs.size, rawInt 0, .none, .none] } }) :=
  .of_wp fun prog w A R st h => by
    obtain ⟨hp, g, d, tk, os⟩ := st; obtain ⟨h1, h⟩ := h
    have hsub := sub_enumerate
    have it1 : ∀ {A' : Around} {E : Value → Shared → Prop} {Q : Value → Shared → Prop}, Q (.ref hp.objs.size) ⟨hp.push o, g, d, tk, os⟩ → wpAny (model prog w) A' (pyIter v) Q E ⟨hp, g, d, tk, os⟩ :=
      fun z => B.iter prog w _ _ ⟨hp, g, d, tk, os⟩ _ h1 z
    wp_walk using it1
    refine wpAny_stack_any fun fs => wpAny_pure ?_
    split
    · rename_i c _ _ _ _ _
      cases (c == Value.type "enumerate")
      · wp_walk using it1
        exact ⟨_, rfl, h⟩
      · wp_walk using it1
        exact ⟨_, rfl, h⟩
    · wp_walk using it1
      exact ⟨_, rfl, h⟩
section
variable {prog : Program} {w : World} {A : Around} {E : Value → Shared → Prop} {st : Shared}
theorem call_enum {v : Value} {o : Obj} {G : Heap → Prop} {Q : Value → Shared → Prop} (B : Begins v o G) (h1 : G st.heap)
    (h : ∀ h', IsEnum h' (st.heap.objs.size + 1) st.heap.objs.size 0 .none → h'.get? st.heap.objs.size = some o → h'.objs.size = st.heap.objs.size + 2 →
      (∀ b u, st.heap.get? b = some u → h'.get? b = some u) → Q (.ref (st.heap.objs.size + 1)) { st with heap := h' }) :
    wpAny (model prog w) A (call (.type "enumerate") [v]) Q E st := by
  refine callType_new F.called_enumerate (by decide) (F.typeCall_enumerate_1 _) (F.newCall_enumerate_1 _) (fun obj => F.args_object_init_2 obj _) F.entry_enumerate_new (new_enum B) ⟨h1, ?_⟩
  have sz : (st.heap.push o).objs.size = st.heap.objs.size + 1 := Heap.size_push ..
  show _ ∧ _
  rw [sz]
  have en : IsEnum ((st.heap.push o).push { cls := .type "enumerate", data := .fields #[.none, .bool false, .ref st.heap.objs.size, rawInt 0, .none, .none] }) (st.heap.objs.size + 1) st.heap.objs.size 0 .none := by
    have z := Heap.get?_push_size (st.heap.push o) (o := { cls := .type "enumerate", data := .fields #[.none, .bool false, .ref st.heap.objs.size, rawInt 0, .none, .none] }) rfl
    rw [sz] at z
    exact z
  exact ⟨⟨_, en, rfl⟩, h _ en (Heap.get?_push_of_some _ (Heap.get?_push_size _ B.free)) (by rw [Heap.size_push, sz]) fun b u z => Heap.get?_push_of_some _ (Heap.get?_push_of_some _ z)⟩
end
def iEnumT (K : PySem.W.Frag) (ta : TA) : TI := fun sl H R => ta sl H fun vs H1 => ∃ a xs, vs = [.ref a] ∧ SqT K H1 a xs ∧ R (Item K a) H1
theorem pi_enumT {X : Cx} {e : Expr} {ta : TA} {p pos tpos : Pos} {elts : List Expr} {kk : Nat} (hg : Gl X "enumerate") (hm : X.mg "enumerate" = none) (ha : PA X [e] ta) (hs : starEach [e] X.env = [(false, eval e X.env)] := by rfl) :
    PI X (.Tuple elts kk tpos) (.Call (.Name "enumerate" p) [e] [] pos) (iEnumT X.K ta) := by
  refine ⟨fun pins st sl H R inv h => Call_ (ld_blt inv hg hm boot_enumerate (PyProof.Rows.callWith_type1 (thn (ha.run pos pins st sl H _ inv h) fun us s1 z => ?_) hs rfl))⟩
  obtain ⟨vs, H1, inv1, r1, a, xs, ex, hq, q⟩ := z
  subst ex
  obtain ⟨u, rfl, ru⟩ := r1.one
  obtain rfl : u = Value.ref a := ru
  obtain ⟨its, rv, hp, _⟩ := inv1.tuple hq
  have lt3 : a < s1.heap.objs.size := by obtain ⟨_, z, _⟩ := hp; exact Heap.lt_size z
  refine call_enum (begins_tuple a its.toArray) hp fun h' en hit hsz hk => wpAny_pyIter_enum en ?_
  have inv2 : Inv X pins sl H1 { s1 with heap := h' } := inv1.kept (t' := s1.toks) hk
  refine ⟨s1.heap.objs.size + 1, [s1.heap.objs.size + 1, s1.heap.objs.size], _, _, H1, rfl, inv2, turn_item a (s1.heap.objs.size + 1) s1.heap.objs.size (Nat.ne_of_lt lt3), ⟨⟨.none, en⟩, ⟨_, hit, rfl, rfl⟩, Nat.succ_ne_self _, Nat.ne_of_gt (Nat.lt_succ_of_lt lt3)⟩, fun b hb => ?_, q⟩
  have low : s1.heap.objs.size ≤ b := by
    rcases two_cases hb with rfl | rfl
    · exact Nat.le_add_right _ _
    · exact Nat.le_refl _
  exact inv1.fpOk low (inv1.hok.fresh low)
end

/-! ### list(range(a, b, -1)) -/
section
def dnV (a b : Int) : List V := (List.range (a - b).toNat).map fun i => V.int (a - (i : Nat))
theorem dnV_length (a b : Int) : (dnV a b).length = (a - b).toNat := by unfold dnV; simp
def tDown (ta : TA) : TE := fun sl H Q => ta sl H fun vs H1 => ∃ i j : Int, vs = [.int i, .int j, .int (-1)] ∧ -1000000 ≤ i ∧ i ≤ 1000000 ∧ -1000000 ≤ j ∧ j ≤ 1000000 ∧ ∀ q, H1 q = none → Q (.ref q) (upd H1 q (.lst (dnV i j)))
theorem pe_listDown {X : Cx} {a b c : Expr} {ta : TA} {p pos rp rpos : Pos} (hc : X.calm = true) (hg : Gl X "list") (hm : X.mg "list" = none) (hg2 : Gl X "range") (hm2 : X.mg "range" = none) (ha : PA X [a, b, c] ta)
    (hs : starEach [a, b, c] X.env = (false, eval a X.env) :: starEach [b, c] X.env := by rfl) (hpl : (backTo rpos (starEach [b, c] X.env)).any (·.1) = false := by rfl)
    (na : starEach [.Call (.Name "range" rp) [a, b, c] [] rpos] X.env = (false, eval (.Call (.Name "range" rp) [a, b, c] [] rpos) X.env) :: starEach [] X.env := by rfl) :
    PE X (.Call (.Name "list" p) [.Call (.Name "range" rp) [a, b, c] [] rpos] [] pos) (tDown ta) := by
  refine ⟨fun pins st sl H Q inv h => ?_⟩
  refine Call_ (ld_blt inv hg hm boot_list (PyProof.Rows.callWith_type1 (args_cons ?_ na) na))
  refine Call_ (ld_blt inv hg2 hm2 boot_range (PyProof.Rows.callWith_type1 (thn (ha.run rpos pins st sl H _ inv h) fun us s1 z => ?_) hs hpl))
  obtain ⟨vs, H1, inv1, r1, i, j, e, b1, b2, b3, b4, q⟩ := z
  subst e
  cases r1 with
  | cons r rr =>
    cases rr with
    | cons r' rr =>
      cases rr with
      | cons r'' rr =>
        cases rr
        obtain ⟨t, rfl⟩ := r
        obtain ⟨t', rfl⟩ := r'
        obtain ⟨t'', rfl⟩ := r''
        obtain ⟨c0, c1, c2, c3⟩ := RgC.neg (i := i) (j := j) (by omega) (by omega) (by omega) (by omega)
        refine call_range_3 c0 (args_nil ?_) (.inl (PyProof.noPylong_small c1))
        have inv2 : Inv X pins sl H1 { s1 with heap := s1.heap.push { cls := .type "range", data := .fields #[.int i t, .int j t', .int (-1) t''] } } := inv1.kept (t' := s1.toks) fun b o e => Heap.get?_push_of_some _ e
        refine call_list_range (n := (i - j).toNat) (inv2.ok.hd hc) (IsRange.new ..) c2 c3 (by omega) fun h' tk acc c' hk e' hi => ?_
        refine ⟨.ref _, upd H1 _ (.lst (dnV i j)), inv2.laid hk (Nat.le_refl _) (show ObjOk X.prog X.w _ _ _ (.lst (dnV i j)) from ⟨?_, acc.toList, c', ?_, ?_⟩), rfl, q _ (inv2.hok.fresh (Nat.le_refl _))⟩
        · rw [dnV_length, sizeLine_eq]; omega
        · have e : acc.toList.length = (i - j).toNat := by rw [Array.length_toList]; exact hi.1
          unfold dnV
          rw [← e]
          refine vals_of_get acc.toList _ fun k u hk => ?_
          obtain ⟨t, rfl⟩ := hi.2 k u (by rw [← hk, Array.getElem?_toList])
          exact ⟨t, by congr 1; omega⟩
        · rw [Array.toArray_toList]; exact e'
end
end Own

/-! Lambdas as values: made, kept in lists, handed to a def that calls them. -/
namespace LamV
open PySem PySem.Spec PyProof.Rows L2 LamX NdefX
/-- a lambda as it was made -/
structure LF where
  qual : Str
  params : Arguments
  body : Expr
  scope : Scope
  cl : List (Str × Addr)
  dV : Value
  c : Addr
abbrev LF.data (F : LF) (doc pm ctv : Value) : FuncData := PySem.W.kdv_fn "<lambda>" F.qual F.params (.expr F.body) F.scope F.cl F.dV doc pm (.ref F.c) ctv
/-- at f stands the lambda F -/
def LamO (f : Addr) (F : LF) : HO := .ext fun h => ∃ (doc pm ctv : Value), h.get? f = some ({ cls := .type "function", data := .func (F.data doc pm ctv) } : Obj)
theorem lamO_at {P : Program} {w : World} {H : Hp} {hp : Heap} {f : Addr} {F : LF} (ok : HOk P w H hp) (e : H f = some (LamO f F)) : ∃ (doc pm ctv : Value), hp.get? f = some ({ cls := .type "function", data := .func (F.data doc pm ctv) } : Obj) :=
  (ok f _ e).1
section
variable {X : Cx} {pins : List (Addr × Obj)} {sl : L2.St} {H : Hp} {st : Shared}
theorem lamO_laid {F : LF} {ob : Obj} {tk : Nat} {doc pm ctv : Value} (inv : Inv X pins sl H st) (eo : ob = { cls := .type "function", data := .func (F.data doc pm ctv) }) :
    Inv X pins sl (upd H st.heap.objs.size (LamO st.heap.objs.size F)) { st with heap := st.heap.push ob, toks := tk } := by
  subst eo
  have got : (st.heap.push ({ cls := .type "function", data := .func (F.data doc pm ctv) } : Obj)).get? st.heap.objs.size = some ({ cls := .type "function", data := .func (F.data doc pm ctv) } : Obj) := Heap.get?_push_size _ rfl
  exact inv.laid (a := st.heap.objs.size) (fun _ _ q => Heap.get?_push_of_some _ q) (Nat.le_refl _) ⟨⟨doc, pm, ctv, got⟩, ⟨_, got⟩, fun _ _ ⟨a, b, c, z⟩ k => ⟨a, b, c, k _ z⟩⟩
/-- what a new lambda leaves -/
def Born (T : List (Addr × Str)) (H : Hp) (Q : VK) (F : Addr → LF) : Prop :=
  ∀ (f c' : Addr) (H1 : Hp), ExtN H H1 → (∀ b, H1 b = none → H b = none) → Tabs T H1 → H f = none → H1 f = some (LamO f (F c')) → H1 c' = some (CodeO c' (F c').qual) → Q (.ref f) H1
theorem born {T : List (Addr × Str)} {c P : Addr} {params : Arguments} {body : Expr} {scope : Scope} {pos : Pos} {dV : Value} {Q : VK} (inv : Inv X pins sl H st) (TB : TabB X.base X.mg c P) (ec : X.env.code = .ref c)
    (inT : (P, X.env.qual ++ "<lambda>") ∈ T) (one : ∀ p ∈ T, p.1 = P → p.2 = X.env.qual ++ "<lambda>") (tabs : Tabs T H) (frees : ∀ y ∈ scope.names, y.2 = .free → ∃ c, X.env.cells.lookup y.1 = some c)
    (k : Born T H Q fun c' => ⟨X.env.qual ++ "<lambda>", params, body, scope, cloFrom X.env.cells scope.names [], dV, c'⟩) :
    wpAny (model X.prog X.w) X.A (makeTail "<lambda>" (X.env.qual ++ "<lambda>") params (.expr body) scope X.env dV .none none pos pos.line) (EP X pins sl Q) X.xe st := by
  obtain ⟨ps, eP, trip, all⟩ := tabs _ inT
  have bmP : st.heap.BuiltinsAt X.mg P := TB.bm.keeps inv.bk
  have atP : st.heap.get? P = some { cls := .none, data := .fields ps } := inv.hok P _ eP
  cases found : codeAmong pos ps.toList with
  | none =>
    refine PySem.W.kdv_makeTail (mg := X.mg) (c := c) (P := P) (ps := ps) (closure_ok frees) inv.ok.glob (inv.mod.glob.keeps inv.bk) ec (TB.code.keeps inv.bk) atP trip found TB.gP bmP fun c' ctv doc hp tk but ge lt rec tb => ?_
    obtain ⟨c2, oc, vs, t, e2, hoc, hd, hv⟩ := rec
    cases e2
    have nc : H c' = none := inv.hok.fresh ge
    have j1 := inv_table (t' := tk) (more := #[rawInt pos.line, rawInt pos.col, .ref c']) (h' := hp) inv eP (fun b o n q => but b o n q) tb ge ⟨oc, vs, t, hoc, hd, hv⟩
    have ex : ExtN H (upd (upd H P (.tbl (ps ++ #[rawInt pos.line, rawInt pos.col, .ref c']))) c' (CodeO c' (X.env.qual ++ "<lambda>"))) := fun b o q n => by
      rw [upd_ne (ne_of_none q nc), upd_ne (fun z => n ps (by rw [z, eP] at q; exact (Option.some.inj q).symm))]
      exact q
    have eL : (ps ++ #[rawInt pos.line, rawInt pos.col, .ref c']).toList = ps.toList ++ [rawInt pos.line, rawInt pos.col, .ref c'] := by simp
    have t1 : Tabs T (upd (upd H P (.tbl (ps ++ #[rawInt pos.line, rawInt pos.col, .ref c']))) c' (CodeO c' (X.env.qual ++ "<lambda>"))) := fun p hp => by
      by_cases same : p.1 = P
      · rw [one p hp same, same]
        refine ⟨_, by rw [upd_ne (ne_of_none eP nc), upd_same], by rw [eL]; exact PySem.TriplesOk_snoc _ _ _ _ trip, fun p' cv q => ?_⟩
        rw [eL] at q
        rcases among_app _ trip q with z | z
        · obtain ⟨c0, q1, q2⟩ := all p' cv z
          exact ⟨c0, q1, ex _ _ q2 codeO_ne⟩
        · exact ⟨c', z, upd_same⟩
      · obtain ⟨ps', q1, q2, q3⟩ := tabs p hp
        refine ⟨ps', by rw [upd_ne (ne_of_none q1 nc), upd_ne same]; exact q1, q2, fun p' cv q => ?_⟩
        obtain ⟨c0, r1, r2⟩ := q3 p' cv q
        exact ⟨c0, r1, ex _ _ r2 codeO_ne⟩
    have nf := j1.hok.fresh (Nat.le_refl _)
    have j2 := lamO_laid (F := ⟨X.env.qual ++ "<lambda>", params, body, scope, cloFrom X.env.cells scope.names [], dV, c'⟩) (tk := tk) (doc := doc) (pm := (X.mg "__name__").getD .none) (ctv := ctv) j1 rfl
    refine ⟨.ref hp.objs.size, _, j2, rfl, k hp.objs.size c' _ (fun b o q n => ?_) (fun b q => upd_none (upd_none (upd_none q))) (fun p hp => (t1 p hp).ext fun b o q => ?_) (inv.hok.fresh (Nat.le_trans ge (Nat.le_of_lt lt))) upd_same ?_⟩
    · have q1 := ex b o q n
      exact (upd_ne (ne_of_none q1 nf)).trans q1
    · exact (upd_ne (ne_of_none q nf)).trans q
    · exact (upd_ne (Nat.ne_of_lt lt)).trans upd_same
  | some cv =>
    obtain ⟨c', ecv, known⟩ := all pos cv found
    subst ecv
    refine PySem.W.kdv_makeTailHit (mg := X.mg) (c := c) (P := P) (ps := ps) (closure_ok frees) inv.ok.glob (inv.mod.glob.keeps inv.bk) ec (TB.code.keeps inv.bk) atP trip found bmP fun ctv doc hp tk keep sz => ?_
    have j1 : Inv X pins sl H { st with heap := hp, toks := tk } := inv.kept keep
    have nf : H hp.objs.size = none := j1.hok.fresh (Nat.le_refl _)
    have j2 := lamO_laid (F := ⟨X.env.qual ++ "<lambda>", params, body, scope, cloFrom X.env.cells scope.names [], dV, c'⟩) (tk := tk) (doc := doc) (pm := (X.mg "__name__").getD .none) (ctv := ctv) j1 rfl
    refine ⟨.ref hp.objs.size, _, j2, rfl, k hp.objs.size c' _ (fun b o q n => ?_) (fun b q => upd_none q) (fun p hp => (tabs p hp).ext fun b o q => ?_) nf upd_same ?_⟩
    · exact (upd_ne (ne_of_none q nf)).trans q
    · exact (upd_ne (ne_of_none q nf)).trans q
    · exact (upd_ne (ne_of_none known nf)).trans known
/-! ### the expression -/
def tLamN (T : List (Addr × Str)) (F : Addr → LF) : TE := fun _ H Q => Tabs T H ∧ Born T H Q F
def tLamD (T : List (Addr × Str)) (te : TE) (F : Addr → Addr → LF) : TE := fun sl H Q => te sl H fun v H1 => Tabs T H1 ∧ ∀ t, H1 t = none → Born T (upd H1 t (.tup [v])) Q (F t)
theorem pe_lam0 {T : List (Addr × Str)} {c P : Addr} {params : Arguments} {body : Expr} {scope : Scope} {pos : Pos} (TB : TabB X.base X.mg c P) (ec : X.env.code = .ref c) (inT : (P, X.env.qual ++ "<lambda>") ∈ T)
    (one : ∀ p ∈ T, p.1 = P → p.2 = X.env.qual ++ "<lambda>") (frees : ∀ y ∈ scope.names, y.2 = .free → X.env.scope.names.lookup y.1 = some .cell ∨ X.env.scope.names.lookup y.1 = some .free) (nod : defaultsOf params X.env = ([], [])) :
    PE X (.Lambda params body scope pos) (tLamN T fun c' => ⟨X.env.qual ++ "<lambda>", params, body, scope, cloFrom X.env.cells scope.names [], .none, c'⟩) := by
  refine ⟨fun pins st sl H Q inv h => PySem.W.kla_eval nod ?_⟩
  rw [makeFunction_eq]
  simp only [List.zip_nil_right, List.filterMap_nil, List.isEmpty_nil, if_true, pure_bind]
  exact born inv TB ec inT one h.1 (fun y hy e => (frees y hy e).elim (fun z => inv.ok.has _ (.inl z)) fun z => inv.ok.has _ (.inr z)) h.2
theorem pe_lam1 {T : List (Addr × Str)} {c P : Addr} {params : Arguments} {body e : Expr} {scope : Scope} {pos : Pos} {te : TE} (TB : TabB X.base X.mg c P) (ec : X.env.code = .ref c) (inT : (P, X.env.qual ++ "<lambda>") ∈ T)
    (one : ∀ p ∈ T, p.1 = P → p.2 = X.env.qual ++ "<lambda>") (frees : ∀ y ∈ scope.names, y.2 = .free → X.env.scope.names.lookup y.1 = some .cell ∨ X.env.scope.names.lookup y.1 = some .free) (ed : params.defaults = [e]) (ek : params.kw_defaults = []) (he : PE X e te) :
    PE X (.Lambda params body scope pos) (tLamD T te fun t c' => ⟨X.env.qual ++ "<lambda>", params, body, scope, cloFrom X.env.cells scope.names [], .ref t, c'⟩) := by
  refine ⟨fun pins st sl H Q inv h => PySem.W.kdv_lam (by rw [ed]; rfl) ek ?_⟩
  rw [ed]
  refine PySem.W.kdv_all1 (wpAny_mono (he.run pins st sl H _ inv h) (fun u s1 q => PySem.W.kdv_all0 ?_) fun _ _ z => z)
  obtain ⟨v, H1, i1, rv, tabs, k⟩ := q
  rw [makeFunction_eq]
  simp only [List.zip_nil_right, List.filterMap_nil, List.isEmpty_nil, if_true, pure_bind, List.isEmpty_cons, Bool.false_eq_true, if_false]
  refine wpAny_bind (wpAny_newTextTuple ?_)
  have nt : H1 s1.heap.objs.size = none := i1.hok.fresh (Nat.le_refl _)
  have i2 : Inv X pins sl (upd H1 s1.heap.objs.size (.tup [v])) { s1 with heap := s1.heap.push { cls := .type "tuple", data := .seq [u].toArray }, toks := s1.toks } :=
    i1.laid (fun _ _ z => Heap.get?_push_of_some _ z) (Nat.le_refl _) ⟨by show 1 ≤ sizeLine; decide, [u], .cons rv .nil, ⟨_, Heap.get?_push_size _ rfl, rfl, _, rfl⟩⟩
  exact born i2 TB ec inT one (fun p hp => (tabs p hp).ext fun b o z => (upd_ne (ne_of_none z nt)).trans z) (fun y hy e => (frees y hy e).elim (fun z => i2.ok.has _ (.inl z)) fun z => i2.ok.has _ (.inr z)) (k _ nt)
end
/-! ### the body -/
/-- captured names, globals, and own names that the maker's frame has not -/
structure LamN (N : List Str) (sc scope : Scope) : Prop where
  kind : scope.kind = .function
  co : scope.isCoroutine = false
  gen : scope.isGenerator = false
  own : ∀ y ∈ scope.names, y.2 ≠ .cell ∧ (y.2 = .local → y.1 ∉ N)
  free : ∀ y ∈ scope.names, y.2 = .free → sc.names.lookup y.1 = some .cell ∨ sc.names.lookup y.1 = some .free
def lamNB (N : List Str) (sc scope : Scope) : Bool :=
  decide (scope.kind = .function) && !scope.isCoroutine && !scope.isGenerator && scope.names.all fun y => !decide (y.2 = .cell) && (!decide (y.2 = .local) || !N.contains y.1) && (!decide (y.2 = .free) || decide (sc.names.lookup y.1 = some .cell) || decide (sc.names.lookup y.1 = some .free))
theorem lamN_by {N : List Str} {sc scope : Scope} (h : lamNB N sc scope = true) : LamN N sc scope := by
  unfold lamNB at h
  simp only [Bool.and_eq_true, Bool.or_eq_true, Bool.not_eq_true', decide_eq_true_eq, decide_eq_false_iff_not, List.all_eq_true] at h
  obtain ⟨⟨⟨a, b⟩, c⟩, d⟩ := h
  refine ⟨a, b, c, fun y hy => ⟨(d y hy).1.1, fun e z => ?_⟩, fun y hy e => ?_⟩
  · rcases (d y hy).1.2 with q | q
    · exact q e
    · rw [List.contains_iff_mem.mpr z] at q
      cases q
  · rcases (d y hy).2 with (q | q) | q
    · exact absurd e q
    · exact .inl q
    · exact .inr q
/-- the maker's cells stand as they stood -/
def Kept (X : Cx) (h0 : Heap) (HZ : Hp) (h : Heap) : Prop := ∀ y c, X.env.cells.lookup y = some c → HZ c = none ∧ ∀ o, h0.get? c = some o → ∃ sl, h.get? c = some { o with slots := sl }
section
variable {X : Cx} {pins : List (Addr × Obj)} {sl : L2.St} {H HZ : Hp} {st s1 : Shared}
theorem enter {A : Around} {outer : List Env} {E : XK} {scope : Scope} {f c' : Addr} {h1 : Heap} {tk : Nat} {bs : List (Str × Value)} (inv : Inv X pins sl H st) (L : LamN X.N X.env.scope scope) (e0 : Env0 X.prog X.w X.K X.mg X.base A outer s1 HZ) (hd : A.handled = none)
    (kept : Kept X st.heap HZ s1.heap) (ns : h1.Ns s1.heap.objs.size fun y => bs.reverse.lookup y) (grow : ∀ b o, s1.heap.get? b = some o → h1.get? b = some o) :
    Inv (lamCx X A outer s1 HZ E scope f c') [] sl HZ { s1 with heap := h1, toks := tk } := by
  have frees : ∀ y ∈ scope.names, y.2 = .free → ∃ c, X.env.cells.lookup y.1 = some c := fun y hy e => (L.free y hy e).elim (fun z => inv.ok.has _ (.inl z)) fun z => inv.ok.has _ (.inr z)
  have same : ∀ {y c}, (cloFrom X.env.cells scope.names []).lookup y = some c → X.env.cells.lookup y = some c := fun {y c} e => clo_cm frees e
  have cell : ∀ {y : Str} {c : Addr} {v : Option Value}, X.env.cells.lookup y = some c → st.heap.IsCell c v → h1.IsCell c v := fun {y c v} q ⟨o, ho, hv⟩ => by
    obtain ⟨sl, z⟩ := (kept y c q).2 o ho
    exact ⟨_, grow _ _ z, hv⟩
  have noex : ∀ b : Addr, b ∉ (lamCx X A outer s1 HZ E scope f c').ex := fun b z => absurd (show b ∈ ([] : List Addr) from z) (by simp)
  refine ⟨⟨e0.mod, L.kind, rfl, rfl, Nat.le_refl _, fun y z c a b => inv.ok.inj y z c (same a) (same b), fun y hy => ?_, fun y c z _ => ?_, fun _ => hd, Around.frames_deeper e0.frames, .inr ⟨rfl, rfl⟩, fun b z => absurd z (noex b), e0.bs, e0.bsz, fun b _ _ => noex b,
      fun b z => absurd z (noex b), e0.funs, e0.frf⟩,
    rfl, e0.bare, Un.kept grow, ⟨_, ns, fun i y v a b d => ?_⟩, fun y c e => ?_, e0.hok.fresh (Nat.le_refl _), fun y c e => (kept y c (same e)).1, fun q hq => absurd (show q ∈ ([] : List (Addr × Obj)) ++ [] from hq) (by simp), e0.hok.kept grow, inv.len⟩
  · have hy : scope.names.lookup y = some .cell ∨ scope.names.lookup y = some .free := hy
    rcases hy with z | z
    · exact absurd rfl (L.own _ (PySem.mem_of_lookup z)).1
    · obtain ⟨c, q⟩ := frees _ (PySem.mem_of_lookup z) rfl
      exact ⟨c, clo_has frees (PySem.mem_of_lookup z) q⟩
  · have z : false = true := z
    cases z
  · have d : Vis scope y := d
    have a : X.N[i]? = some y := a
    rcases d with k | k | k
    · exact absurd (List.mem_of_getElem? a) ((L.own _ (PySem.mem_of_lookup k)).2 rfl)
    · exact absurd rfl (L.own _ (PySem.mem_of_lookup k)).1
    · obtain ⟨m, hn, look⟩ := inv.loc
      have fr := L.free _ (PySem.mem_of_lookup k) rfl
      obtain ⟨u, r, q⟩ := look i y v a b (fr.elim (fun z => .inr (.inl z)) fun z => .inr (.inr z))
      obtain ⟨c1, h1'⟩ := frees _ (PySem.mem_of_lookup k) rfl
      refine ⟨u, r, .inr ⟨.inr k, c1, clo_has frees (PySem.mem_of_lookup k) h1', ?_⟩⟩
      rcases q with ⟨k', _⟩ | ⟨_, c2, q1, q2⟩
      · have k' : X.env.scope.names.lookup y = some .local := k'
        rcases fr with z | z <;> rw [show X.env.scope.names.lookup y = _ from z] at k' <;> cases k'
      · have e : c2 = c1 := Option.some.inj (q1.symm.trans h1')
        subst e
        exact cell h1' q2
  · obtain ⟨w', z⟩ := inv.cell y c (same e)
    exact ⟨w', cell (same e) z⟩
/-- a call without arguments finds its bindings -/
def Bound (P : Program) (w : World) (F : LF) (D : Hp → Prop) : Prop := ∀ (s : Shared) (H : Hp), HOk P w H s.heap → D H → ∀ doc pm ctv, ∃ bs, BindsTo s (F.data doc pm ctv) ⟨[], []⟩ bs ∧ ∀ y ∈ bs, F.scope.names.lookup y.1 = some .local
/-- v(), in the def that got the lambda: that def's context, entered at s1 with H1 -/
theorem pe_act {CXg : CXT} {Eg : XK} {Ng : List Str} {qg : Str} {sg : Scope} {g f : Addr} {cdg : Value} {F : LF} {D : Hp → Prop} {k i : Nat} {a : Str} {pn : List (Addr × Obj)} {xe : Value → Shared → Prop} {W : WX} {E : XK} {tb : TE} {p1 p2 : Pos} {H1 : Hp}
    (inv : Inv X pins sl H st) (eq : F.qual = X.env.qual ++ "<lambda>") (ec : F.cl = cloFrom X.env.cells F.scope.names []) (L : LamN X.N X.env.scope F.scope) (bd : Bound X.prog X.w F D) (kept : Kept X st.heap H1 s1.heap)
    (tk : Takes ((cxOf CXg X.prog X.w X.K X.mg X.base Ng qg sg g cdg X.A X.stack s1 H1 Eg).tr pn xe) W) (hW : ∀ cls d σ' H', E cls d H' → W cls d σ' H') (hr : Room (k + 1) (X.A.deeper (envOfC qg sg s1.heap.objs.size g cdg)))
    (hbody : ∀ (A : Around) (outer : List Env) (s : Shared) (H : Hp), Room k (A.deeper (lamEnv X F.scope s.heap.objs.size f F.c)) → PE (lamCx X A outer s H E F.scope f F.c) F.body tb)
    (hN : Ng[i]? = some a) (hv : Vis sg a) (hd : (a == ("__debug__" : Str)) = false := by decide) (hcd : (a == ("__classdict__" : Str)) = false := by decide) :
    PE ((cxOf CXg X.prog X.w X.K X.mg X.base Ng qg sg g cdg X.A X.stack s1 H1 Eg).tr pn xe) (.Call (.Name a p1) [] [] p2)
      (fun σZ HZ Q => σZ[i]? = some (some (.ref f)) ∧ HZ f = some (LamO f F) ∧ HZ F.c = some (CodeO F.c F.qual) ∧ D HZ ∧ tb sl HZ Q) := by
  refine ⟨fun pinsZ sZ σZ HZ Q IZ h => ?_⟩
  obtain ⟨at_, isF, isC, dv, go⟩ := h
  refine wpAny_Call_Name_kw (thn ((pe_var (pos := p1) (i := i) hN hv hd hcd).run pinsZ sZ σZ HZ (fun v H2 => v = .ref f ∧ H2 = HZ) IZ ⟨.ref f, at_, rfl, rfl⟩) fun u s2 ⟨v, H2, J, rv, qv⟩ => ?_)
  obtain ⟨ev, eH⟩ := qv
  subst ev
  rw [eH] at J
  obtain rfl : u = Value.ref f := rv
  obtain ⟨doc, pm, ctv, ob⟩ := lamO_at J.hok isF
  refine PySem.W.callWith_F0 ⟨_, _, _, _, ob⟩ ?_
  have un : Un (frs X.stack) [] H1 HZ s1.heap s2.heap := J.base
  have kept2 : Kept X st.heap HZ s2.heap := fun y c q => by
    obtain ⟨n1, k1⟩ := kept y c q
    obtain ⟨v0, o0, ho0, _⟩ := inv.cell y c q
    obtain ⟨sl0, z0⟩ := k1 o0 ho0
    refine ⟨un.free c _ z0 n1 (by simp), fun o ho => ?_⟩
    obtain ⟨sl1, z1⟩ := k1 o ho
    obtain ⟨sl2, z2⟩ := un.any z1 n1 (by simp)
    exact ⟨sl2, z2⟩
  obtain ⟨bs, bto, bl⟩ := bd s2 HZ J.hok dv doc pm ctv
  have rc : codeAny (model X.prog X.w) (X.A.deeper (envOfC qg sg s1.heap.objs.size g cdg)) (.call (.ref f) ⟨[], []⟩) (CR (L2.CX X.prog X.w) (envOfC qg sg s1.heap.objs.size g cdg :: X.stack) X.prog X.w HZ s2 Q E) s2 := by
    refine PySem.W.kla_callFunE hr.depth ob rfl L.co L.gen rfl (codeO_at J.hok isC) (bto _ _ _ _ ?_)
    refine wpAny_newFunctionEnv (fun y hy => (L.own y hy).1) bl (fun h1 ns sb => ⟨J.nolimit.fresh _ sb, ?_⟩) L.kind
    have grow : ∀ b o, s2.heap.get? b = some o → h1.get? b = some o := fun b o e => sb.extBut b o (Nat.ne_of_lt (Heap.lt_size e)) (Heap.get?_push_of_some _ e)
    have start : Inv (lamCx X (X.A.deeper (envOfC qg sg s1.heap.objs.size g cdg)) (envOfC qg sg s1.heap.objs.size g cdg :: X.stack) s2 HZ E F.scope f F.c) [] sl HZ { s2 with heap := h1, toks := s2.toks + bs.length } :=
      enter inv L J.env0 hr.hd kept2 ns grow
    show codeAny _ _ (.expr F.body (PySem.W.envX F.qual F.scope s2.heap.objs.size f (.ref F.c) F.cl)) _ _
    rw [eq, ec]
    refine PySem.W.kla_codeExpr (wpAny_mono ((hbody _ _ s2 HZ (hr.deeper _)).run [] _ _ HZ Q start go) (fun v s' q => ?_) fun e s' q => q)
    obtain ⟨u', H', J', rv', q'⟩ := q
    exact ⟨u', H', J'.os, J'.bare, J'.base, J'.hok, rv', q'⟩
  have ps : Passes (L2.CX X.prog X.w) ((cxOf CXg X.prog X.w X.K X.mg X.base Ng qg sg g cdg X.A X.stack s1 H1 Eg).tr pn xe) E := passes_call tk hW
  refine wpAny_call (codeAny_mono rc fun r s' q => ?_)
  match r, q with
  | .error e, q => exact ps pinsZ σZ HZ s2 e s' J q
  | .ok (.ret u), q => exact J.after q
  | .ok .next, q => exact False.elim q
  | .ok .brk, q => exact False.elim q
  | .ok .cont, q => exact False.elim q
/-- the def that calls what it got, at the first slot: TT tells what it makes of the lambda's reading -/
def Gives (X : Cx) (Ng : List Str) (x : Str) (sg : Scope) (g : Addr) (cdg : Value) (bg : List Stmt) (a : Str) (TT : (XK → Hp → VK → Prop) → Hp → VK → Prop) : Prop :=
  ∀ (f : Addr) (is : Hp → Prop) (s : Shared) (H : Hp) (Q : VK) (tl : XK → Hp → VK → Prop),
    (∀ (W : WX) (pn : List (Addr × Obj)) (xe : Value → Shared → Prop) (E : XK) (p1 p2 : Pos), Takes ((cxOf CX0 X.prog X.w X.K X.mg X.base Ng x sg g cdg X.A X.stack s H E0).tr pn xe) W → (∀ cls d σ' H', E cls d H' → W cls d σ' H') →
      PE ((cxOf CX0 X.prog X.w X.K X.mg X.base Ng x sg g cdg X.A X.stack s H E0).tr pn xe) (.Call (.Name a p1) [] [] p2) (fun σZ HZ Q => σZ[0]? = some (some (.ref f)) ∧ is HZ ∧ tl E HZ Q)) →
    is H → TT tl H Q →
    ∃ t, PSs (cxOf CX0 X.prog X.w X.K X.mg X.base Ng x sg g cdg X.A X.stack s H E0).nox bg t ∧ t { nx := fun _ H' => Q .non H', rt := Q } (L2.start Ng [.ref f]) H
/-- a written lambda's place in the maker's frame: its words, and its body's reading -/
structure Form where
  params : Arguments
  body : Expr
  scope : Scope
  t : XK → TE
def LF.is (F : LF) (f : Addr) (D : Hp → Prop) (HZ : Hp) : Prop := HZ f = some (LamO f F) ∧ HZ F.c = some (CodeO F.c F.qual) ∧ D HZ
/-- F is the lambda of these words, made here -/
structure LF.Of (F : LF) (X : Cx) (o : Form) (D : Hp → Prop) (k : Nat) : Prop where
  qual : F.qual = X.env.qual ++ "<lambda>"
  body : F.body = o.body
  scope : F.scope = o.scope
  cl : F.cl = cloFrom X.env.cells F.scope.names []
  names : LamN X.N X.env.scope F.scope
  bound : Bound X.prog X.w F D
  reads : ∀ (A : Around) (outer : List Env) (s : Shared) (H : Hp) (E : XK) (f c' : Addr), Room k (A.deeper (lamEnv X o.scope s.heap.objs.size f c')) → PE (lamCx X A outer s H E o.scope f c') o.body (o.t E)
theorem code_give {x a : Str} {g f : Addr} {k : Nat} {pg : Arguments} {bg : List Stmt} {sg : Scope} {dV kV doc pm cdv ct oc : Value} {an od : Option Addr} {osl : Array (Option Value)} {Ng : List Str} {TT : (XK → Hp → VK → Prop) → Hp → VK → Prop}
    {F : LF} {o : Form} {D : Hp → Prop} {H1 : Hp} {Q : VK} (inv : Inv X pins sl H st) (of : F.Of X o D k)
    (lk : X.K.lookup g = some ⟨oc, od, .func (PySem.W.fnOf x x pg bg sg dV kV doc pm an cdv ct), osl⟩) (hcg : PySem.W.codeIn X.K cdv x = true) (hb : L2.Binds X.K (PySem.W.fnOf x x pg bg sg dV kV doc pm an cdv ct) [a] []) (Sg : FnScope Ng [a] sg) (hNg : Ng[0]? = some a) (hva : Vis sg a)
    (hG : Gives X Ng x sg g cdv bg a TT) (hr : Room (k + 2) X.A) (e0 : Env0 X.prog X.w X.K X.mg X.base X.A X.stack s1 H1) (kept : Kept X st.heap H1 s1.heap) (is : F.is f D H1) (go : TT (fun E H' Q' => o.t E sl H' Q') H1 Q)
    (hd : (a == ("__debug__" : Str)) = false := by decide) (hcd : (a == ("__classdict__" : Str)) = false := by decide) :
    codeAny (model X.prog X.w) X.A (.call (.ref g) ⟨[.ref f], []⟩) (CR CX0 X.stack X.prog X.w H1 s1 Q E0) s1 := by
  refine run_ofS (N := Ng) (ps := [a]) (us := [.ref f]) (vs := [.ref f]) lk hcg Sg hr e0 (hb s1 [.ref f] (e0.mod.kin.keeps fun b o e => (e0.bs b o e).1) rfl) (.cons rfl .nil) rfl fun hr' => ?_
  obtain ⟨eq, eb, es, ec, L, bd, hbody⟩ := of
  have hb' : ∀ (E : XK) (A : Around) (outer : List Env) (s : Shared) (H : Hp), Room k (A.deeper (lamEnv X F.scope s.heap.objs.size f F.c)) → PE (lamCx X A outer s H E F.scope f F.c) F.body (o.t E) := by
    rw [es, eb]
    exact fun E A outer s H r => hbody A outer s H E f F.c r
  obtain ⟨t', ht', hq'⟩ := hG f (F.is f D) s1 H1 Q (fun E H' Q' => o.t E sl H' Q') (fun W pn xe E p1 p2 tk hW => ⟨fun pinsZ sZ σZ HZ Q' IZ h =>
    (pe_act (i := 0) inv eq ec L bd kept tk hW hr' (hb' E) hNg hva hd hcd).run pinsZ sZ σZ HZ Q' IZ ⟨h.1, h.2.1.1, h.2.1.2.1, h.2.1.2.2, h.2.2⟩⟩) is go
  exact ⟨t', ht'.nox, hq'⟩
theorem Kept.here (inv : Inv X pins sl H st) : Kept X st.heap H st.heap := fun y c q => ⟨inv.freeC y c q, fun o ho => ⟨o.slots, ho⟩⟩
/-- back from the call -/
theorem back {Y : Cx} {pinsY : List (Addr × Obj)} {slY : L2.St} {HY : Hp} {sY : Shared} {Q : VK} {v : Value} {args : Args} (J : Inv Y pinsY slY HY sY)
    (rc : codeAny (model Y.prog Y.w) Y.A (.call v args) (CR CX0 Y.stack Y.prog Y.w HY sY Q E0) sY) : wpAny (model Y.prog Y.w) Y.A (call v args.pos args.kw) (EP Y pinsY slY Q) Y.xe sY := by
  refine wpAny_call (codeAny_mono rc fun r s' q => ?_)
  match r, q with
  | .ok (.ret u), q => exact J.after q
  | .error e, q => exact False.elim q
  | .ok .brk, q => exact False.elim q
  | .ok .cont, q => exact False.elim q
  | .ok .next, q => exact False.elim q
/-- the reading of x(e), e a lambda made in the frame of X at the slots sl -/
def tGive (X : Cx) (k : Nat) (TT : (XK → Hp → VK → Prop) → Hp → VK → Prop) (ta : TA) (sl : L2.St) : TE := fun slY H Q => ta slY H fun vs H1 =>
  ∃ (f : Addr) (F : LF) (o : Form) (D : Hp → Prop), vs = [.ref f] ∧ F.Of X o D k ∧ F.is f D H1 ∧ TT (fun E H' Q' => o.t E sl H' Q') H1 Q
theorem pe_give {x a : Str} {g : Addr} {k : Nat} {pg : Arguments} {bg : List Stmt} {sg : Scope} {dV kV doc pm cdv ct oc : Value} {an od : Option Addr} {osl : Array (Option Value)} {Ng : List Str} {TT : (XK → Hp → VK → Prop) → Hp → VK → Prop} {e : Expr} {ta : TA} {p pos : Pos}
    (hg : Gl X x) (hm : X.mg x = some (.ref g)) (hk : PySem.W.keepIn X.K (.ref g) = true)
    (lk : X.K.lookup g = some ⟨oc, od, .func (PySem.W.fnOf x x pg bg sg dV kV doc pm an cdv ct), osl⟩) (hcg : PySem.W.codeIn X.K cdv x = true) (hb : L2.Binds X.K (PySem.W.fnOf x x pg bg sg dV kV doc pm an cdv ct) [a] []) (Sg : FnScope Ng [a] sg) (hNg : Ng[0]? = some a) (hva : Vis sg a)
    (hG : Gives X Ng x sg g cdv bg a TT) (hr : Room (k + 2) X.A) (ha : PA X [e] ta) (he : starEach [e] X.env = [(false, eval e X.env)] := by rfl)
    (hdb : (x == ("__debug__" : Str)) = false := by decide) (hd : (a == ("__debug__" : Str)) = false := by decide) (hcd : (a == ("__classdict__" : Str)) = false := by decide) :
    PE X (.Call (.Name x p) [e] [] pos) (fun sl H Q => tGive X k TT ta sl sl H Q) := by
  refine ⟨fun pins st sl H Q inv h => wpAny_Call_Name_kw (ld_glob inv hg hm ?_ hdb)⟩
  refine PySem.W.callWith_K (h₀ := X.base) inv.ok.mod.kin hk (thn (ha.run pos pins st sl H _ inv h) fun us s1 ⟨vs, H1, J, r, q⟩ => ⟨J.kIn, ?_⟩) he (by rfl)
  obtain ⟨f, F, o, D, rfl, of, is, go⟩ := q
  obtain ⟨u, rfl, ru⟩ : ∃ u, us = [u] ∧ RelV (.ref f) u := by
    cases r with
    | cons a b => cases b; exact ⟨_, rfl, a⟩
  obtain rfl : u = .ref f := ru
  exact back (args := ⟨[.ref f], []⟩) J (code_give J of lk hcg hb Sg hNg hva hG hr J.env0 (Kept.here J) is go hd hcd)
/-- .. in a block of the frame of X -/
theorem pe_giveB {x a : Str} {g : Addr} {k : Nat} {pg : Arguments} {bg : List Stmt} {sg : Scope} {dV kV doc pm cdv ct oc : Value} {an od : Option Addr} {osl : Array (Option Value)} {Ng : List Str} {TT : (XK → Hp → VK → Prop) → Hp → VK → Prop} {e : Expr} {ta : TA} {p pos : Pos}
    {scope : Scope} {cenv : Env} {fp : List Addr} (inv : Inv X pins sl H st) (nfp : ∀ b ∈ fp, ∀ y c, X.env.cells.lookup y = some c → c ≠ b) (hg : Gl (X.blk st H scope cenv fp) x) (hm : X.mg x = some (.ref g)) (hk : PySem.W.keepIn X.K (.ref g) = true)
    (lk : X.K.lookup g = some ⟨oc, od, .func (PySem.W.fnOf x x pg bg sg dV kV doc pm an cdv ct), osl⟩) (hcg : PySem.W.codeIn X.K cdv x = true) (hb : L2.Binds X.K (PySem.W.fnOf x x pg bg sg dV kV doc pm an cdv ct) [a] []) (Sg : FnScope Ng [a] sg) (hNg : Ng[0]? = some a) (hva : Vis sg a)
    (hG : Gives X Ng x sg g cdv bg a TT) (hr : Room (k + 2) X.A) (ha : PA (X.blk st H scope cenv fp) [e] ta) (he : starEach [e] cenv = [(false, eval e cenv)] := by rfl)
    (hdb : (x == ("__debug__" : Str)) = false := by decide) (hd : (a == ("__debug__" : Str)) = false := by decide) (hcd : (a == ("__classdict__" : Str)) = false := by decide) :
    PE (X.blk st H scope cenv fp) (.Call (.Name x p) [e] [] pos) (tGive X k TT ta sl) := by
  refine ⟨fun pinsY sY slY HY Q invY h => wpAny_Call_Name_kw (ld_glob invY hg hm ?_ hdb)⟩
  refine PySem.W.callWith_K (h₀ := X.base) invY.ok.mod.kin hk (thn (ha.run pos pinsY sY slY HY _ invY h) fun us s1 ⟨vs, H1, J, r, q⟩ => ⟨J.kIn, ?_⟩) he (by rfl)
  obtain ⟨f, F, o, D, rfl, of, is, go⟩ := q
  obtain ⟨u, rfl, ru⟩ : ∃ u, us = [u] ∧ RelV (.ref f) u := by
    cases r with
    | cons a b => cases b; exact ⟨_, rfl, a⟩
  obtain rfl : u = .ref f := ru
  have un := J.base
  have kept : Kept X st.heap H1 s1.heap := fun y c q => by
    have out : c ∉ fp := fun z => nfp c z y c q rfl
    obtain ⟨v0, o0, ho0, _⟩ := inv.cell y c q
    have n0 := inv.freeC y c q
    exact ⟨un.free c _ ho0 n0 out, fun o ho => un.any ho n0 out⟩
  exact back (Y := X.blk st H scope cenv fp) (args := ⟨[.ref f], []⟩) J (code_give (X := X) inv of lk hcg hb Sg hNg hva hG hr J.env0 kept is go hd hcd)
/-! ### a comprehension that keeps nothing, its test told of the frame as it stands -/
def tNone (wi : TI) (g : TG) (tt : L2.St → TT) (vs : List Nat) : TE := fun sl H Q => wi sl H fun J H1 => ∀ D, H1 D = none → ∃ W : Nat → Nat → Hp → Prop, (∃ m, W 0 m (upd H1 D (.lst []))) ∧
  ∀ i m G, W i m G → (J.stop i G ∧ Q (.ref D) G) ∨ (J.go i G ∧ ∀ x G1, J.yld i G x G1 → g x (wipe sl vs) G1 fun s2 G2 => wipe s2 vs = wipe sl vs ∧ tt sl s2 G2 fun b G3 => b = false ∧ ∃ m', m' < m ∧ W (i + 1) m' G3)
theorem pe_none {elt tg iter : Expr} {ifs : List Expr} {scope : Scope} {own : List (Str × Nat)} {pos : Pos} {wi : TI} {g : TG} {tt : L2.St → TT} (calm : X.calm = true) (nd : X.N.Nodup) (hi : PI X tg iter wi) (ok : BlkOk X.N X.env.scope scope own)
    (hg : ∀ (s : Shared) (H : Hp) (C : Addr) (cl : List (Str × Addr)) (fp : List Addr), PG (X.blk s H scope (compEnvC scope cl C X.env) fp) tg g)
    (ht : ∀ (pins : List (Addr × Obj)) (st : Shared) (sl : L2.St) (H : Hp) (C : Addr) (cl : List (Str × Addr)) (fp : List Addr), Inv X pins sl H st → (∀ b ∈ fp, ∀ y c, X.env.cells.lookup y = some c → c ≠ b) → PTs (X.blk st H scope (compEnvC scope cl C X.env) fp) ifs (tt sl))
    (hs : ∀ x, foldedSetIterable iter X.env x = pure x := by intro _; rfl) : PE X (.ListComp elt [⟨tg, iter, ifs, 0⟩] scope pos) (tNone wi g tt (own.map (·.2))) := by
  refine ⟨fun pins st sl H Q inv h => ?_⟩
  rw [eval_ListComp]
  have frees : ∀ y ∈ scope.names, y.2 = .free → ∃ c, X.env.cells.lookup y.1 = some c := fun y hy e => (ok.free y hy e).elim (fun z => inv.ok.has _ (.inl z)) fun z => inv.ok.has _ (.inr z)
  refine wpAny_comprehension_free (use := none) rfl hs (closure_ok frees) ok.kind (fun y hy e => (ok.uniq y hy).trans (by rw [e])) (thn (hi.run pins st sl H _ inv h) fun _ _ go => thn go fun _ sa found => ?_)
  obtain ⟨it, fp, tn, J, H1, rfl, ia, T, ta, fa, more⟩ := found
  refine wpAny_newObj_type (newEnv_comp ?_) (by show 0 ≤ sizeLine; decide)
  have nD : H1 sa.heap.objs.size = none := ia.hok.fresh (Nat.le_refl _)
  obtain ⟨W, ⟨m0, w0⟩, each⟩ := more _ nD
  generalize eD : sa.heap.objs.size = D at nD w0 each ⊢
  have small : ∀ b ∈ fp, b < sa.heap.objs.size := fun b hb => let ⟨_, e, _⟩ := T.obj _ _ ta b hb; Heap.lt_size e
  -- the new list is laid
  obtain ⟨sb, esb⟩ : ∃ sb : Shared, sb = { sa with heap := sa.heap.push { cls := .type "list", data := .seq ([] : List Value).toArray } } := ⟨_, rfl⟩
  have grow1 : ∀ b o, sa.heap.get? b = some o → sb.heap.get? b = some o := fun b o e => by rw [esb]; exact Heap.get?_push_of_some _ e
  have ib : Inv X pins sl (upd H1 D (.lst [])) sb := by
    rw [esb, ← eD]
    exact ia.laid (t' := sa.toks) (fun _ _ e => Heap.get?_push_of_some _ e) (Nat.le_refl _) ⟨Nat.zero_le _, [], 0, .nil, Heap.get?_push_size _ rfl⟩
  have fb : ∀ b ∈ fp, FpOk X pins (upd H1 D (.lst [])) b ∧ b < sb.heap.objs.size := fun b hb => by
    have lt := small b hb
    refine ⟨⟨(upd_ne (by rw [← eD]; exact Nat.ne_of_lt lt)).trans (fa b hb).1, (fa b hb).2⟩, ?_⟩
    rw [esb, Heap.size_push]
    exact Nat.lt_succ_of_lt lt
  rw [← esb]
  -- the block
  have ic := block_start ib ok nd fb
  generalize eC : sb.heap.objs.size = C at ic ⊢
  generalize eG : upd H1 D (.lst []) = G at ib fb ic w0
  have pg := hg sb G C (cellsFrom (C + 1) scope.names (cloFrom X.env.cells scope.names [])) fp
  have pt := ht pins sb sl G C (cellsFrom (C + 1) scope.names (cloFrom X.env.cells scope.names [])) fp ib fun b hb y c e => (fb b hb).1.2.2.2.2.1 y c e
  generalize eE : compEnvC scope (cellsFrom (C + 1) scope.names (cloFrom X.env.cells scope.names [])) C X.env = ce at ic pg pt
  have lE : ce.locals = C := by rw [← eE]; rfl
  generalize esc : ({ sb with heap := pushCells (sb.heap.push { cls := .type "dict", data := .dict #[] }) scope.names } : Shared) = sc at ic
  have tc : tn 0 sc.heap := T.keep _ _ _ ta fun b _ o e => by rw [← esc]; exact pushCells_keeps _ _ _ _ (Heap.get?_push_of_some _ (grow1 b o e))
  have held : ∀ {s2 : L2.St} {G2 : Hp} {t2 : Shared}, Inv (X.blk sb G scope ce fp) [] s2 G2 t2 → (∀ b ∈ fp, G2 b = none) → ∀ b ∈ fp, FpOk (X.blk sb G scope ce fp) [] G2 b := fun iv nb b hb =>
    ⟨nb b hb, (iv.ok.exf b hb).1, iv.ok.exfs b hb, .inl hb, fun y c e => (iv.ok.exf b hb).2 y c e, fun p hp => absurd (show p ∈ ([] : List (Addr × Obj)) ++ [] from hp) (by simp)⟩
  have turns : codeAny (model X.prog X.w) X.A (.compLoop (.ListComp elt [⟨tg, iter, ifs, 0⟩] scope pos) 0 (.ref it) (.ref D) ce) (compPost (model X.prog X.w) X.A X.xe none (EP X pins sl Q) (.ref D) C) sc := by
    refine compLoop_any (fun m t => ∃ i G2, Inv (X.blk sb G scope ce fp) [] (wipe sl (own.map (·.2))) G2 t ∧ tn i t.heap ∧ (∀ b ∈ fp, G2 b = none) ∧ W i m G2) ?_ m0 ⟨0, G, ic, tc, fun b hb => (fb b hb).1.1, w0⟩
    rintro m t ⟨i, G2, i2, t2, n2, w2⟩
    cases each i m G2 w2 with
    | inl stop =>
      refine thnF (T.done (X.blk sb G scope ce fp) rfl rfl rfl calm i [] t _ G2 (fun _ _ => False) i2 (held i2 n2) t2 stop.1) fun r t3 done => ?_
      obtain ⟨rfl, i3⟩ := done
      have i4 : Inv X pins sl G2 t3 := ib.call' (ch := fp) i3.os i3.base i3.hok i3.bare fun b hb => ⟨(fb b hb).1.2.2.2.1, (fb b hb).1.2.1, (fb b hb).1.2.2.2.2.1, (fb b hb).1.2.2.2.2.2⟩
      have nC : G2 C = none := by rw [← lE]; exact i3.free
      obtain ⟨names, hn, _⟩ := i3.loc
      have hn : t3.heap.Ns ce.locals names := hn
      rw [lE] at hn
      obtain ⟨f0, f1, f2, f3, f4, f5⟩ := ib.fpOk (Nat.le_of_eq eC) nC
      exact ⟨names, hn, fun hp sbt => ⟨.ref D, G2, i4.turned (t' := t3.toks) (fun b o nb e => (sbt.2 b nb).trans e) f0 f1 f3 f4 f5, rfl, stop.2⟩⟩
    | inr next =>
      refine thnF (T.item (X.blk sb G scope ce fp) rfl rfl rfl calm i [] t _ G2 (fun _ _ => False) i2 (held i2 n2) t2 next.1) fun r t3 came => ?_
      obtain ⟨u, rfl, kept⟩ := came
      refine thnF kept fun _ t4 got => ?_
      obtain ⟨x, G4, i4, r4, y4, tn4, n4⟩ := got
      refine thnF (pg.run _ t4 _ G4 x u _ (i4.pinned (held i4 n4) (T.obj _ _ tn4)) r4 (next.2 x G4 y4)) fun _ t5 put => ?_
      obtain ⟨s5, G5, i5, e5, q5⟩ := put
      refine thnF (pt.run _ t5 s5 G5 _ i5 q5) fun b t6 told => ?_
      obtain ⟨G6, i6, eb, m', lt, w6⟩ := told
      subst eb
      have pin : ∀ b ∈ fp, ∀ o, t4.heap.get? b = some o → t6.heap.get? b = some o ∧ G6 b = none := fun b hb o e =>
        have z := i6.pin (b, o) (List.mem_append_right _ (List.mem_append_right _ (mem_pinsAt hb e)))
        ⟨z.1, z.2.1⟩
      simp only [Bool.false_eq_true, if_false]
      refine ⟨m', lt, i + 1, G6, (i6.unpinned (pins := [])).weak (by rw [← e5, wipe_length]) (fun j v e => ?_), T.keep _ _ _ tn4 fun b hb o e => (pin b hb o e).1, fun b hb => ?_, w6⟩
      · rw [← e5] at e
        exact (wipe_some e).1
      · obtain ⟨o, e, _⟩ := T.obj _ _ tn4 b hb
        exact (pin b hb o e).2
  have fine := codeAny_compStart_list turns (T.self X.A 0 _ _ _ tc turns)
  rw [← eE] at fine
  subst eC
  exact fine
end
end LamV

namespace LamV
open PySem PySem.Spec PyProof.Rows L2
/-! ### list.count over nested data, isinstance of a caught exception with or without fields -/
def rCountD (K : PySem.W.Frag) : V → List V → Hp → VK → Prop := fun x xs H Q => ∃ (a : Addr) (y : V) (d : PyData) (ds : List PyData), x = .ref a ∧ xs = [y] ∧ Dp K H (.ref a) (.list ds) ∧ Dp K H y d ∧ SeqAt.shaped (.list ds) = true ∧ SeqAt.shaped d = true ∧ Q (.int (ds.countP fun z => PyData.eqv z d : Nat)) H
section
variable {X : Cx}
theorem mt_countD (hu : X.A.units + 65 < cLine) : MtR X "list.count" (rCountD X.K) := by
  intro pins st sl H x xs v us Q inv rx rxs h
  obtain ⟨a, y, d, ds, rfl, rfl, dl, dy, sh, sd, q⟩ := h
  obtain rfl : v = .ref a := rx
  obtain ⟨uy, rfl, ry⟩ := rxs.one
  obtain ⟨bs, r1⟩ := Dp.reads inv d y uy dy ry
  have lay : PyData.canLayAll0 ds = true := SeqAt.canLay_of_shaped sh
  cases dl with
  | lst hs ha =>
    obtain ⟨its, rv, ⟨⟨cls, dd, data, sls⟩, n, ho, hc, _, hdt⟩, _⟩ := inv.list hs
    simp only at hc hdt
    subst hc hdt
    obtain ⟨as, reads⟩ := Dp.readsAll inv ds _ its ha rv
    have em : its.map (SeqAt.readOf st.heap) = ds := SeqAt.readsAll_map ds its as lay reads
    refine call_meets PySem.F.slot_list_count ⟨_, ho, rfl⟩ PySem.F.entry_list_count (PySem.F.args_list_count_2 _ _) (SeqAt.list_countAt a its.toArray n dd sls uy (fun u => PyData.eqv (SeqAt.readOf st.heap u) d)) ⟨ho, SeqAt.items_eqAt (vs := its.toArray) reads r1 lay (SeqAt.canLay_of_shaped sd) (room_in_shaped sd hu), ?_⟩
    refine ⟨.int (ds.countP fun z => PyData.eqv z d : Nat), H, inv.tok _, ⟨st.toks, ?_⟩, q⟩
    rw [← em, List.countP_map]
    rfl
/-- isinstance(e, c), e the caught exception of the class D, its dict at d if it has one -/
def rIsD (K : PySem.W.Frag) (D a : Addr) (d : Option Addr) : List V → Hp → VK → Prop := fun xs H Q => ∃ (c : V) (cv : Value) (b : Bool), xs = [.ref a, c] ∧ (∀ u, RelV c u → u = cv) ∧ PySem.W.kitOne K (.ref D) cv = some b ∧ (∀ dd, d = some dd → ∃ fs, H dd = some (.xd fs)) ∧ Q (.bl b) H
theorem call_isD {a D : Addr} {oe : Obj} {d : Option Addr} {pn : List (Addr × Obj)} (C : ExcC X.K D) (hz : Zc (.ref D) d oe) (hf : ∃ vs, oe.data = .fields vs) : CallR (X.suite a ((a, oe) :: pn)) (.builtin "isinstance") (rIsD X.K D a d) := by
  intro pins st sl H xs us Q inv r h
  obtain ⟨c, cv, b, rfl, one, is, dict, q⟩ := h
  cases r with
  | cons rx rr =>
    obtain ⟨ut, rfl, rt⟩ := Vals.one rr
    obtain rfl := one _ rt
    obtain rfl := (show _ = Value.ref a from rx)
    obtain ⟨got, _⟩ := inv.pin (a, oe) (List.mem_append.mpr (.inl List.mem_cons_self))
    obtain ⟨vs, hv⟩ := hf
    have fin : ∀ tk, EP (X.suite a ((a, oe) :: pn)) pins sl Q (.bool b) { st with toks := tk } := fun tk => ⟨.bl b, H, inv.kept (t' := tk) fun _ _ z => z, rfl, q⟩
    have nc : PySem.W.notCls oe = true := by
      unfold PySem.W.notCls
      rw [hv] <;> rfl
    cases d with
    | none => exact PySem.W.kia_one (PySem.W.handS_kitx_exc C.hg C.hk C.hs C.hd C.ha C.hn C.ht C.hm) inv.kIn (show PySem.W.InstAt st.heap a oe D none from ⟨got, hz.1, nc, by rw [hz.2]; trivial⟩) is (fun z => nomatch z) fin
    | some dd =>
      obtain ⟨fs, ed⟩ := dict dd rfl
      obtain ⟨mA, ns, _⟩ := (show ObjOk X.prog X.w H st.heap dd (.xd fs) from inv.hok dd _ ed)
      obtain ⟨od, ho, _⟩ := lookIn_ns ns
      exact PySem.W.kia_one (PySem.W.kitx_exc (by obtain ⟨cd, e, _⟩ := PySem.W.any_some C.hd; rw [e]; rfl) C.hg C.hk C.hs C.ha C.hn C.ht C.hm) inv.kIn (show PySem.W.InstAt st.heap a oe D (some od) from ⟨got, hz.1, nc, by rw [hz.2]; exact ho⟩) is (fun z => nomatch z) fin
end
end LamV

/-! x != y and x == y of instances whose class has its own __eq__ alone. -/
namespace Own
open PySem PySem.Spec PyProof.Rows L2
section
variable {prog : Program} {w : World} {A : Around} {E : Value → Shared → Prop} {s : Shared} {K : PySem.W.Frag} {x y C g : Addr} {ox oy : Obj} {od od' : Option Obj}
/-- object.__ne__ asks __eq__ -/
theorem ne_body {Q : Fin → Shared → Prop} (hu : A.units < cLine) (KX : K.In s.heap) (I : PySem.W.InstAt s.heap x ox C od) (hs : PySem.W.findIn K (.ref C) "__eq__" = some (some (.ref g))) (hf : PySem.W.isFn K (.ref g) = true)
    (h : wpAny (model prog w) A (call (.ref g) [.ref x, .ref y]) (fun v s' => ∃ b, v = .bool b ∧ Q (.done (.ret (.bool !b))) s') E s) : wpAny (model prog w) A (Builtin.«object.__ne__» ⟨[.ref x, .ref y], []⟩) Q E s := by
  unfold Builtin.«object.__ne__»
  refine wpAny_bind (wpAny_of_eq (a := ((Value.ref x : Value), [Value.ref y])) (by first | rfl | (simp only [slotArgs]; rfl)) ?_)
  refine wpAny_bind (wpAny_cRoomFor hu ?_)
  refine wpAny_bind (PySem.W.ifBound_K (args := [.ref y]) KX I hs hf (wpAny_mono h (fun v s' z => ?_) fun _ _ z => z))
  obtain ⟨b, rfl, q⟩ := z
  exact wpAny_bind (wpAny_pure (wpAny_pure q))
theorem rich_ne {Q : Value → Shared → Prop} (hu : A.units + 1 < cLine) (KX : K.In s.heap) (I : PySem.W.InstAt s.heap x ox C od) (J : PySem.W.InstAt s.heap y oy C od') (hn : PySem.W.findIn K (.ref C) "__ne__" = some (some (.builtin "object.__ne__")))
    (ho : PySem.W.subIn K (.ref C) (.type "object") = some true) (hs : PySem.W.findIn K (.ref C) "__eq__" = some (some (.ref g))) (hf : PySem.W.isFn K (.ref g) = true)
    (h : wpAny (model prog w) A.in1 (call (.ref g) [.ref x, .ref y]) (fun v s' => ∃ b, v = .bool b ∧ Q (.bool !b) s') E s) : wpAny (model prog w) A (richCompare .NotEq (.ref x) (.ref y)) Q E s := by
  have one : wpAny (model prog w) A (tryCompare (.ref x) "__ne__" (.ref y)) (fun r s' => ∃ v, r = some v ∧ Q v s') E s := by
    unfold tryCompare
    have sub : PySem.W.Looks (model prog w) s.heap (isInstance (.ref x) (.type "object")) true := (I.type).andThen (PySem.W.looks_subIn KX ho)
    have run : wpAny (model prog w) A (call (.builtin "object.__ne__") [.ref x, .ref y]) (fun v s' => ∃ b, v = .bool b ∧ Q (.bool b) s') E s := by
      refine wpAny_call (codeAny_call_builtin PySem.F.cmp_object.ne.plain PySem.F.cmpEntry_ne (PySem.W.check_slot PySem.F.cmpKind_ne PySem.F.cmpSplit_ne sub (PySem.F.cmpArgs_ne _ _) ?_))
      refine ne_body (A := A.in1) (by show A.units + 1 < cLine; exact hu) KX I hs hf (wpAny_mono h (fun v s' z => ?_) fun _ _ z => z)
      obtain ⟨b, rfl, q⟩ := z
      exact ⟨b, rfl, _, rfl, q⟩
    refine wpAny_bind ?_
    simp only [callSpecialIfBound?, bindSpecialIfBound?]
    refine wpAny_holding (wpAny_bind (wpAny_bind (wpAny_bind (I.type.here ((PySem.W.looks_findIn KX hn).here ?_)))))
    refine wpAny_bind (wpAny_askSetting (wpAny_ite ?_))
    have fin : wpAny (model prog w) A (call (.builtin "object.__ne__") ([.ref x] ++ [.ref y]) >>= fun v => pure (some v)) (fun r s' => wpAny (model prog w) A (match r with | some .notImplemented | none => pure none | some v => pure (some v) : Sem (Option Value)) (fun r s' => ∃ v, r = some v ∧ Q v s') E s') E s :=
      wpAny_bind (wpAny_mono run (fun v s' z => by obtain ⟨b, rfl, q⟩ := z; exact wpAny_pure (wpAny_pure ⟨_, rfl, q⟩)) fun _ _ z => z)
    split
    · rw [PySem.F.cmp_object.ne.bind (.ref x)]
      exact wpAny_bind (wpAny_pure (wpAny_pure fin))
    · rw [PySem.F.cmp_object.ne.bind (.ref x)]
      exact wpAny_tryCatch (wpAny_bind (wpAny_pure (wpAny_pure fin)))
  unfold richCompare
  simp only [PySem.oneThing_ref]
  refine wpAny_holding (wpAny_bind (wpAny_cRoomFor (by omega) (wpAny_bind (I.type.here (wpAny_bind (J.type.here ?_))))))
  rw [if_neg (by simp)]
  refine wpAny_bind (wpAny_pure ?_)
  simp only [Bool.false_eq_true, if_false]
  refine wpAny_bind (wpAny_mono one (fun r s' z => ?_) fun _ _ e => e)
  obtain ⟨v, rfl, q⟩ := z
  exact wpAny_pure q
end
section
variable {X : Cx} {CX : CXT} {n : Nat} {C g : Addr} {sp : Sp} {E : XK}
/-- x == y, x != y: instances of C that hold attributes; the own __eq__ answers with a truth value -/
def rOwnEq (neg : Bool) (C : Addr) (sp : Sp) (E : XK) : R2 := fun x y H Q => ∃ a dx fs b dy gs, x = .ref a ∧ y = .ref b ∧ H a = some (.ins C dx fs) ∧ H b = some (.ins C dy gs) ∧ sp [x, y] H (fun v H' => ∃ r, v = .bl r ∧ Q (.bl (if neg then !r else r)) H') E
theorem op_neOwn (hn : PySem.W.findIn X.K (.ref C) "__ne__" = some (some (.builtin "object.__ne__"))) (ho : PySem.W.subIn X.K (.ref C) (.type "object") = some true) (hs : PySem.W.findIn X.K (.ref C) "__eq__" = some (some (.ref g))) (hf : PySem.W.isFn X.K (.ref g) = true)
    (F : FnR X.prog X.w X.K X.mg X.base CX n g sp) (hr : Room (n + 1) X.A) (hx : Passes CX X E) : OpR X (compareOp .NotEq) (rOwnEq true C sp E) := by
  intro pins st sl H x y v u Q inv rx ry h
  obtain ⟨a, dx, fs, b, dy, gs, rfl, rfl, ea, eb, q⟩ := h
  obtain rfl := (show v = Value.ref a from rx)
  obtain rfl := (show u = Value.ref b from ry)
  obtain ⟨oa, ia⟩ := insAt inv ea
  obtain ⟨ob, ib⟩ := insAt inv eb
  show wpAny _ _ (richCompare .NotEq (.ref a) (.ref b)) _ _ _
  refine rich_ne (hu_of hr) inv.kIn ia ib hn ho hs hf (wpAny_mono (wpAny_call (SlX.run_at (us := [.ref a, .ref b]) (ws := [.ref a, .ref b]) F (Room.in1 hr) inv.env0.in1 hx inv (.cons rfl (.cons rfl .nil)) q)) (fun w s' z => ?_) fun _ _ z => z)
  obtain ⟨z', H', inv', rz, r, ez, qz⟩ := z
  subst ez
  obtain rfl := (show w = Value.bool r from rz)
  exact ⟨r, rfl, .bl (!r), H', inv', rfl, qz⟩
/-- o.m(), m a def with a star -/
theorem pe_methR0 {k : Nat} {f : Addr} {m : Str} {o : Expr} {ta : TE} {apos pos : Pos} {pl : Sem Bool} (he : PE X o ta) (c : Cls X.K C) (hm : Meth X.K C m f) (F : FnR X.prog X.w X.K X.mg X.base CX k f sp) (hr : Room k X.A) (hx : Passes CX X E)
    (ht : eval (.Call (.Attribute o m apos) [] [] pos) X.env = (do let ov ← eval o X.env; standAt apos.atName; let (f, first) ← holding [ov] (getMethod ov m pl); callWith pos f first (backTo pos (starEach [] X.env)) (backToKw pos (keywordEach [] X.env))) := by rfl) :
    PE X (.Call (.Attribute o m apos) [] [] pos) (tMethR C m sp E ta tNil) := by
  refine ⟨fun pins st sl H Q inv h => PySem.W.methodCall_KW (pl := pl) (thn (he.run pins st sl H _ inv h) fun u s1 got => ?_) ht⟩
  obtain ⟨x, H1, i1, rx, a, dx, fs, rfl, ea, lk, q⟩ := got
  obtain rfl := (show u = Value.ref a from rx)
  refine getmeth_ok i1 ea c hm lk ?_
  exact PySem.W.callWith_K0 (first := [.ref a]) i1.kIn hm.kp (wpAny_call (run_fnR (us := [.ref a]) (vs := [.ref a]) F hr hx i1 (.cons rfl .nil) q))
end
end Own

/-! Dicts with int keys: sorted, min, max of them; sorted(d.items()) of ints; x not in a tuple of data. -/
namespace DictI
open PySem PySem.Spec PyProof.Rows L2
section
variable {X : Cx}
theorem keyInt {knd : Bool} {i : Int} {v : Value} (h : keyIs (Sum.inl i : Key) v = true) : ∃ t, v = .int i t := by
  have r : RelV (.int i) v := relV_key h
  exact r
theorem ints_at {vs : List (Key × Value)} {acc : List Value} {ns : List Int} (hkeys : vs.map (·.1) = ns.map Sum.inl) (hal : acc.length = ns.length)
    (hv : ∀ (j : Nat) (v : Value), acc[j]? = some v → ∃ k x, vs[j]? = some (k, x) ∧ keyIs k v = true) : IntsAre acc ns := by
  have each : ∀ v ∈ acc, ∃ i t, v = Value.int i t := fun v hv' => by
    obtain ⟨j, hj⟩ := List.mem_iff_getElem?.mp hv'
    obtain ⟨k, x, e1, e2⟩ := hv j v hj
    have e3 : (vs.map (·.1))[j]? = some k := by rw [List.getElem?_map, e1]; rfl
    rw [hkeys, List.getElem?_map] at e3
    cases e4 : ns[j]? with
    | none => rw [e4] at e3; cases e3
    | some i =>
      rw [e4] at e3
      obtain rfl : Sum.inl i = k := Option.some.inj e3
      obtain ⟨t, rfl⟩ := keyInt (knd := true) e2
      exact ⟨i, t, rfl⟩
  have e : acc.map SrtO.iv = ns := by
    apply List.ext_getElem?
    intro j
    rw [List.getElem?_map]
    cases ha : acc[j]? with
    | none =>
      have : ns.length ≤ j := by rw [← hal]; exact List.getElem?_eq_none_iff.mp ha
      rw [List.getElem?_eq_none_iff.mpr this]
      rfl
    | some v =>
      obtain ⟨k, x, e1, e2⟩ := hv j v ha
      have e3 : (vs.map (·.1))[j]? = some k := by rw [List.getElem?_map, e1]; rfl
      rw [hkeys, List.getElem?_map] at e3
      cases e4 : ns[j]? with
      | none => rw [e4] at e3; cases e3
      | some i =>
        rw [e4] at e3
        obtain rfl : Sum.inl i = k := Option.some.inj e3
        obtain ⟨t, rfl⟩ := keyInt (knd := true) e2
        rfl
  have := SrtO.ints_iv each
  rwa [e] at this
def rSortedDI : List V → Hp → VK → Prop := fun xs H Q => ∃ (a : Addr) (kvs : List (Key × V)) (ns : List Int), xs = [.ref a] ∧ Rd H a (.dK kvs) ∧ kvs.map (·.1) = ns.map Sum.inl ∧
    ∀ (ys : List Int) (p : Addr), ys.Perm ns → ys.Pairwise (· ≤ ·) → H p = none → Q (.ref p) (upd H p (.lst (ys.map V.int)))
/-- sorted(d), d's keys ints -/
theorem cr_sortedDI (hcalm : X.calm = true) : CallR X (.builtin "sorted") rSortedDI := by
  intro pins s σ H xs us Q I r q
  obtain ⟨a, kvs, ns, ex, hd, hks, q⟩ := q
  subst ex
  obtain ⟨u, eu, rx⟩ := vals1 r
  subst eu
  cases rx
  obtain ⟨z, lo, vs, rel, dd⟩ := dk_rd I.hok hd
  obtain ⟨ep, hat⟩ := dd.dictAt
  have hkeys : vs.map (·.1) = ns.map Sum.inl := rel.keys.symm.trans hks
  have hl : vs.length = ns.length := by
    have e := congrArg List.length hkeys
    rw [List.length_map, List.length_map] at e
    exact e
  have h16 : vs.length ≤ sizeLine := by rw [← Paired.length rel]; exact z
  refine Calls.call_function_entry PyProof.Rows.kind_sorted PyProof.Rows.plain_sorted PyProof.Rows.entry_sorted (PyProof.Rows.args_sorted1 _) ?_
  unfold Builtin.«sorted»
  refine wpAny_bind (m := checkCount "sorted" 1 1 _) (wpAny_pure ?_)
  refine wpAny_bind (PySem.W.kdu_collect (A := X.A.in1) (PySem.W.kdl_dict (knd := mixKind X.prog X.w) (kvs := vs) (ep := ep) lo) (I.ok.hd hcalm) hat h16 fun h' tk acc hk hacc => ?_)
  have hal : acc.toList.length = ns.length := by rw [Array.length_toList, hacc.1, hl]
  have hi : IntsAre acc.toList ns := ints_at hkeys hal fun j v e => hacc.2 j v (by rw [← Array.getElem?_toList]; exact e)
  have I1 : Inv X pins σ H { s with heap := h', toks := tk } := I.kept hk
  have hz : acc.toList.length ≤ sizeLine := by rw [hal, ← hl]; exact h16
  refine wpAny_bind (wpAny_newList ?_ hz)
  have hoL : (h'.push (seqObj "list" acc.toList.toArray 0)).get? h'.objs.size = some (seqObj "list" acc.toList.toArray 0) := Heap.get?_push_size _ rfl
  show wpAny _ _ _ _ _ { s with heap := h'.push (seqObj "list" acc.toList.toArray 0), toks := tk }
  refine wpAny_bind (wpAny_holding (wpAny_call_entry PyProof.Rows.slot_list_sort ⟨_, hoL, rfl⟩ PyProof.Rows.entry_list_sort
    (SrtO.list_sort_ord SrtO.swo_int hoL hz (fun h2 => SrtO.ints_sortable hi h2) fun out h1 h2 => ⟨_, rfl, ?_⟩) (PyProof.Rows.args_list_sort _)))
  obtain ⟨k1, k2, k3⟩ := SrtO.ints_out hi h1 h2
  obtain ⟨e', he'⟩ := PyProof.Rows.sortedHeap_at (vs := acc.toList) (out := out.toArray) hoL
  have hlen : ((out.map SrtO.iv).map V.int).length ≤ sizeLine := by
    rw [List.length_map, k2.length_eq, ← hl]
    exact h16
  refine wpAny_pure ⟨_, rfl, .ref h'.objs.size, upd H h'.objs.size (.lst ((out.map SrtO.iv).map V.int)), I1.laid (t' := tk) (fun b u e => ?_) (Nat.le_refl _)
    (show ObjOk X.prog X.w _ _ _ (.lst ((out.map SrtO.iv).map V.int)) from ⟨hlen, out, e', vals_of_ints k1, he'⟩), rfl, q _ _ k2 k3 (I1.hok.fresh (Nat.le_refl _))⟩
  have hb : b < h'.objs.size := Heap.lt_size e
  rw [PyProof.Rows.sortedHeap_old (Nat.ne_of_lt hb) (by rw [size_push']; exact Nat.lt_succ_of_lt hb)]
  exact Heap.get?_push_of_some _ e
def rBestDI (le : Int → Int → Prop) : List V → Hp → VK → Prop := fun xs H Q => ∃ (a : Addr) (kvs : List (Key × V)) (ns : List Int), xs = [.ref a] ∧ Rd H a (.dK kvs) ∧ kvs.map (·.1) = ns.map Sum.inl ∧ 0 < ns.length ∧
    ∀ m, m ∈ ns → (∀ y ∈ ns, le m y) → Q (.int m) H
theorem key_at {vs : List (Key × Value)} {ns : List Int} (hkeys : vs.map (·.1) = ns.map Sum.inl) {i : Nat} {v : Value} (h : ∃ k x, vs[i]? = some (k, x) ∧ keyIs k v = true) : ∃ t, v = .int (ns.getD i 0) t := by
  obtain ⟨k, x, e1, e2⟩ := h
  have e3 : (vs.map (·.1))[i]? = some k := by rw [List.getElem?_map, e1]; rfl
  rw [hkeys, List.getElem?_map] at e3
  cases e4 : ns[i]? with
  | none => rw [e4] at e3; cases e3
  | some j =>
    rw [e4] at e3
    obtain rfl : Sum.inl j = k := Option.some.inj e3
    rw [List.getD_eq_getElem?_getD, e4]
    exact keyInt (knd := true) e2
theorem getD_in {ns : List Int} {i : Nat} (h : i < ns.length) : ns.getD i 0 ∈ ns := by
  rw [List.getD_eq_getElem?_getD, List.getElem?_eq_getElem h]
  exact List.getElem_mem h
theorem in_getD {ns : List Int} {y : Int} (h : y ∈ ns) : ∃ j, j < ns.length ∧ ns.getD j 0 = y := by
  obtain ⟨j, hj, e⟩ := List.mem_iff_getElem.mp h
  exact ⟨j, hj, by rw [List.getD_eq_getElem?_getD, List.getElem?_eq_getElem hj]; exact e⟩
/-- min(d), d's keys ints -/
theorem cr_minDI (hc : X.calm = true) : CallR X (.builtin "min") (rBestDI (· ≤ ·)) := by
  intro pins s σ H xs us Q I r h
  obtain ⟨a, kvs, ns, rfl, hd, hks, hne, q⟩ := h
  rw [Vals.ref1 r]
  obtain ⟨z, lo, vs, rel, dd⟩ := dk_rd I.hok hd
  obtain ⟨ep, hat⟩ := dd.dictAt
  have hkeys : vs.map (·.1) = ns.map Sum.inl := rel.keys.symm.trans hks
  have hl : vs.length = ns.length := by
    have e := congrArg List.length hkeys
    rw [List.length_map, List.length_map] at e
    exact e
  have ha : a < s.heap.objs.size := hat.lt_size
  refine call_min_walk (wpAny_pyIter_dict lo hat ?_)
  refine ⟨_, _, _, _, _, _, fun i j => decide (ns.getD i 0 < ns.getD j 0), rfl, Walks.dictKeys (A := X.A.in1) (I.ok.hd hc) _ a (Nat.ne_of_lt ha) vs ep, ⟨⟨_, Heap.get?_push_size _ rfl, rfl, rfl⟩, hat.push _⟩, fun b hb => ?_, by omega, CmpOf.ints_lt (fun i => ns.getD i 0) (fun i v z => key_at hkeys z), fun v h' tk hv' hk => ?_⟩
  · show b < (s.heap.push _).objs.size
    rw [size_push']
    rcases List.mem_cons.mp hb with z | z
    · rw [z]
      exact Nat.lt_succ_self _
    · rw [List.mem_singleton.mp z]
      exact Nat.lt_succ_of_lt ha
  · obtain ⟨t, rfl⟩ := key_at hkeys hv'
    obtain ⟨m1', m2'⟩ := argBest_lt (fun i => ns.getD i 0) (vs.length - 1)
    refine ⟨.int _, H, I.kept fun b o e => hk b o (fun z => ?_) (Heap.get?_push_of_some _ e), ⟨t, rfl⟩, q _ (getD_in (by omega)) fun y hy => ?_⟩
    · rw [List.mem_singleton.mp z] at e
      exact absurd (Heap.lt_size e) (Nat.lt_irrefl _)
    · obtain ⟨j, hj, rfl⟩ := in_getD hy
      exact m2' j (by omega)
/-- max(d), d's keys ints -/
theorem cr_maxDI (hc : X.calm = true) : CallR X (.builtin "max") (rBestDI (· ≥ ·)) := by
  intro pins s σ H xs us Q I r h
  obtain ⟨a, kvs, ns, rfl, hd, hks, hne, q⟩ := h
  rw [Vals.ref1 r]
  obtain ⟨z, lo, vs, rel, dd⟩ := dk_rd I.hok hd
  obtain ⟨ep, hat⟩ := dd.dictAt
  have hkeys : vs.map (·.1) = ns.map Sum.inl := rel.keys.symm.trans hks
  have hl : vs.length = ns.length := by
    have e := congrArg List.length hkeys
    rw [List.length_map, List.length_map] at e
    exact e
  have ha : a < s.heap.objs.size := hat.lt_size
  refine call_max_walk (wpAny_pyIter_dict lo hat ?_)
  refine ⟨_, _, _, _, _, _, fun i j => decide (ns.getD i 0 > ns.getD j 0), rfl, Walks.dictKeys (A := X.A.in1) (I.ok.hd hc) _ a (Nat.ne_of_lt ha) vs ep, ⟨⟨_, Heap.get?_push_size _ rfl, rfl, rfl⟩, hat.push _⟩, fun b hb => ?_, by omega, CmpOf.ints_gt (fun i => ns.getD i 0) (fun i v z => key_at hkeys z), fun v h' tk hv' hk => ?_⟩
  · show b < (s.heap.push _).objs.size
    rw [size_push']
    rcases List.mem_cons.mp hb with z | z
    · rw [z]
      exact Nat.lt_succ_self _
    · rw [List.mem_singleton.mp z]
      exact Nat.lt_succ_of_lt ha
  · obtain ⟨t, rfl⟩ := key_at hkeys hv'
    obtain ⟨m1', m2'⟩ := argBest_gt (fun i => ns.getD i 0) (vs.length - 1)
    refine ⟨.int _, H, I.kept fun b o e => hk b o (fun z => ?_) (Heap.get?_push_of_some _ e), ⟨t, rfl⟩, q _ (getD_in (by omega)) fun y hy => ?_⟩
    · rw [List.mem_singleton.mp z] at e
      exact absurd (Heap.lt_size e) (Nat.lt_irrefl _)
    · obtain ⟨j, hj, rfl⟩ := in_getD hy
      exact m2' j (by omega)
/-- x not in a tuple of data -/
def rNotInT (K : PySem.W.Frag) : R2 := fun x y H Q => ∃ d ds, Dp K H x d ∧ Dp K H y (.tuple ds) ∧ SeqAt.shaped d = true ∧ SeqAt.shaped (.list ds) = true ∧ Q (.bl (!ds.any fun z => PyData.eqv z d)) H
theorem op_notInT (hu : X.A.units + 65 < cLine) : OpR X (compareOp .NotIn) (rNotInT X.K) := by
  intro pins s σ H x y v u Q I rx ry h
  obtain ⟨d, ds, hd, he, sd, se, q⟩ := h
  obtain ⟨as, r1⟩ := Dp.reads I d x v hd rx
  obtain ⟨bs, r2⟩ := Dp.reads I (.tuple ds) y u he ry
  exact SeqAt.notIn_tuple_reads r2 r1 (SeqAt.canLay_of_shaped se) (SeqAt.canLay_of_shaped sd) (room_in_shaped sd hu) ⟨.bl _, H, I, rfl, q⟩
/-- d.items() as a value, d's keys ints or texts -/
def rItemsK : V → List V → Hp → VK → Prop := fun x xs H Q => ∃ (a : Addr) (kvs : List (Key × V)), x = .ref a ∧ xs = [] ∧ H a = some (.dK kvs) ∧ ∀ p, H p = none → Q (.ref p) (upd H p (DX.itemsO p a))
theorem mt_itemsK : MtR X "dict.items" rItemsK := by
  intro pins s σ H x xs v us Q I rx rxs h
  obtain ⟨a, kvs, rfl, rfl, ha, q⟩ := h
  cases rx
  cases rxs
  obtain ⟨z, hs0, vs, kv, hdo⟩ := I.hok a _ ha
  refine call_meetsIn F.slot_dict_items hdo.typeIs F.entry_dict_items (F.args_dict_items_1 _) (meets_dict_items (mixKind X.prog X.w) a hs0) ⟨⟨vs, hdo⟩, ?_⟩
  have hf : H s.heap.objs.size = none := I.hok.fresh (Nat.le_refl _)
  exact ⟨.ref s.heap.objs.size, upd H s.heap.objs.size (DX.itemsO s.heap.objs.size a), I.laid (t' := s.toks) (fun b u e => Heap.get?_push_of_some _ e) (Nat.le_refl _) (DX.itemsO_ok (Heap.get?_push_size _ rfl)), rfl, q _ hf⟩
abbrev entI (e : Int × Int) : Key × V := (Sum.inl e.1, V.int e.2)
def addrV : Value → Addr
  | .ref b => b
  | _ => 0
/-- sorted(d.items()), keys and values ints -/
def rSortIK : List V → Hp → VK → Prop := fun vs H Q => ∃ (p a : Addr) (fs : List (Int × Int)), vs = [.ref p] ∧ H p = some (DX.itemsO p a) ∧ H a = some (.dK (fs.map entI)) ∧
  ∀ (H' : Hp) (l : Addr) (ts : List Addr) (ys : List (Int × Int)), (∀ b o, H b = some o → H' b = some o) → H l = none → ys.Perm fs → ys.Pairwise (fun x y => SrtO.lexB y x = false) → H' l = some (.lst (ts.map V.ref)) →
    Paired (fun (t : Addr) (y : Int × Int) => H' t = some (.tup [.int y.1, .int y.2])) ts ys → Q (.ref l) H'
theorem paired_map {α β γ : Type} {F : α → β → Prop} (f : γ → α) (g : γ → β) : ∀ {l : List γ}, (∀ x ∈ l, F (f x) (g x)) → Paired F (l.map f) (l.map g)
  | [], _ => .nil
  | x :: l, h => .cons (h x (by simp)) (paired_map f g fun z hz => h z (by simp [hz]))
theorem cr_sortedIK (hc : X.calm = true) : CallR X (.builtin "sorted") rSortIK := by
  intro pins s σ H xs us Q I r h
  obtain ⟨p, a, fs, rfl, hp, ha, q⟩ := h
  obtain rfl := Vals.ref1 r
  have view : s.heap.IsItemsView p a := (show ObjOk X.prog X.w H s.heap p (DX.itemsO p a) from I.hok p _ hp).1
  obtain ⟨z, lo, vs, rel, dd⟩ := dk_of I.hok ha
  obtain ⟨ep, hat⟩ := dd.dictAt
  have l1 : (fs.map entI).length = vs.length := Paired.length rel
  rw [List.length_map] at l1 z
  have hh : X.A.handled = none := I.ok.hd hc
  refine Calls.call_function_entry PyProof.Rows.kind_sorted PyProof.Rows.plain_sorted PyProof.Rows.entry_sorted (PyProof.Rows.args_sorted1 _) ?_
  unfold Builtin.«sorted»
  refine wpAny_bind (m := checkCount "sorted" 1 1 _) (wpAny_pure ?_)
  obtain ⟨es, ep', raw, esz, eat⟩ := dd.raw
  refine wpAny_bind (DT.collectI (A := X.A.in1) (es := es) (ep := ep') hh view raw (by omega) fun h' tk as hk hlt0 hl hG => ?_)
  have hz : (as.map Value.ref).length ≤ sizeLine := by rw [List.length_map, hl]; omega
  refine wpAny_bind (wpAny_newList ?_ hz)
  have laf : as.length = fs.length := by omega
  have nd : as.Nodup := hG.rise.imp (fun h => Nat.ne_of_lt h)
  -- the pairs that were made
  have pr : ∀ (j : Nat) (b : Addr), as[j]? = some b → ∃ (e : Int × Int) (t u : Tok), fs[j]? = some e ∧ h'.get? b = some { cls := .type "tuple", data := .seq #[Value.int e.1 t, Value.int e.2 u] } := by
    intro j b hj
    obtain ⟨en, he, f3⟩ := hG.pairs j b hj
    obtain ⟨hjs, rfl⟩ := Array.getElem?_eq_some_iff.mp he
    obtain ⟨⟨k, x⟩, f1⟩ : ∃ p, vs[j]? = some p := ⟨vs[j]'(by omega), by simp⟩
    obtain ⟨f2, fx⟩ := eat j hjs k x f1
    obtain ⟨qv, g1, g2, g3⟩ := DX.pget rel f1
    have g3 : RelV qv.2 x := g3
    rw [← fx] at g3
    rw [List.getElem?_map] at g1
    cases hfj : fs[j]? with
    | none => rw [hfj] at g1; cases g1
    | some e =>
      rw [hfj] at g1
      obtain rfl : entI e = qv := Option.some.inj g1
      have f2' : keyIs (Sum.inl e.1 : Key) es[j].key = true := by
        have : (entI e).1 = k := g2
        rw [← this] at f2
        exact f2
      obtain ⟨t, et⟩ := keyInt (knd := true) f2'
      obtain ⟨u, eu⟩ : ∃ u, es[j].val = Value.int e.2 u := g3
      rw [et, eu] at f3
      exact ⟨e, t, u, rfl, f3⟩
  -- each pair's ints
  let k : Value → Int × Int := fun v => fs.getD (as.idxOf (addrV v)) (0, 0)
  have k_at : ∀ (j : Nat) (b : Addr) (e : Int × Int), as[j]? = some b → fs[j]? = some e → k (.ref b) = e := fun j b e hj he => by
    obtain ⟨hlt, rfl⟩ := List.getElem?_eq_some_iff.mp hj
    show fs.getD (as.idxOf as[j]) (0, 0) = e
    rw [nd.idxOf_getElem, List.getD_eq_getElem?_getD, he]
    rfl
  -- the heap of the sort
  have hoL : (h'.push (seqObj "list" (as.map Value.ref).toArray 0)).get? h'.objs.size = some (seqObj "list" (as.map Value.ref).toArray 0) := Heap.get?_push_size _ rfl
  have ka : ∀ b o, h'.get? b = some o → (h'.push (seqObj "list" (as.map Value.ref).toArray 0)).get? b = some o := fun b o e => Heap.get?_push_of_some _ e
  have ne0 : ∀ b o, h'.get? b = some o → b ≠ h'.objs.size := fun b o e => Nat.ne_of_lt (Heap.lt_size e)
  have hls : h'.objs.size < (h'.push (seqObj "list" (as.map Value.ref).toArray 0)).objs.size := by rw [size_push']; exact Nat.lt_succ_self _
  show wpAny _ _ _ _ _ { s with heap := h'.push (seqObj "list" (as.map Value.ref).toArray 0), toks := tk }
  generalize h'.push (seqObj "list" (as.map Value.ref).toArray 0) = h2 at hoL ka hls ⊢
  have hp2 : ∀ v ∈ as.map Value.ref, Srt.IsPair h2 v (k v).1 (k v).2 := fun v hv => by
    obtain ⟨b, hb, rfl⟩ := List.mem_map.mp hv
    obtain ⟨j, hj⟩ := List.mem_iff_getElem?.mp hb
    obtain ⟨e, t, u, he, hg⟩ := pr j b hj
    rw [k_at j b e hj he]
    exact ⟨b, _, t, u, 0, rfl, ka _ _ hg, rfl, rfl⟩
  refine wpAny_bind (wpAny_holding (wpAny_call_entry PyProof.Rows.slot_list_sort ⟨_, hoL, rfl⟩ PyProof.Rows.entry_list_sort
    (SrtO.list_sort_ord (s := { s with heap := h2, toks := tk }) (SrtO.swo_lex k) hoL hz (fun hlen => SrtO.pairs_sortableO (by omega) hp2 fun o e => ?_) fun out o1 o2 => ⟨_, rfl, ?_⟩) (PyProof.Rows.args_list_sort _)))
  · have e' : some o = some (seqObj "list" (as.map Value.ref).toArray 0) := e.symm.trans hoL
    cases e'
    intro c
    exact absurd (Value.type.inj c) (by decide)
  -- what came out
  have back : ∀ l : List Addr, (l.map Value.ref).map addrV = l := fun l => by rw [List.map_map]; exact List.map_id _
  have tsp : (out.map addrV).Perm as := by
    have := o2.perm.map addrV
    rwa [back] at this
  have outE : out = (out.map addrV).map Value.ref := by
    rw [List.map_map]
    refine ((List.map_id _).symm).trans (List.map_congr_left fun v hv => ?_)
    obtain ⟨b, _, rfl⟩ := List.mem_map.mp (o2.perm.mem_iff.mp hv)
    rfl
  generalize out.map addrV = ts at tsp outE
  subst outE
  have hperm : (ts.map fun b => k (.ref b)).Perm fs := by
    refine (tsp.map fun b => k (.ref b)).trans (.of_eq ?_)
    apply List.ext_getElem?
    intro j
    rw [List.getElem?_map]
    cases hj : as[j]? with
    | none =>
      have : fs.length ≤ j := by rw [← laf]; exact List.getElem?_eq_none_iff.mp hj
      rw [List.getElem?_eq_none_iff.mpr this]
      rfl
    | some b =>
      obtain ⟨e, _, _, he, _⟩ := pr j b hj
      rw [he]
      exact congrArg some (k_at j b e hj he)
  have hsort : (ts.map fun b => k (.ref b)).Pairwise (fun x y => SrtO.lexB y x = false) := by
    rw [List.pairwise_map]
    have := o1
    unfold SrtO.Srtd at this
    rw [List.pairwise_map] at this
    exact this
  have kF : ∀ b o, b ≠ h'.objs.size → h2.get? b = some o → (sortedHeap h2 h'.objs.size (as.map Value.ref) (ts.map Value.ref).toArray).get? b = some o := fun b o hb e => (PyProof.Rows.sortedHeap_old hb (Heap.lt_size e)).trans e
  have kS : ∀ b o, s.heap.get? b = some o → (sortedHeap h2 h'.objs.size (as.map Value.ref) (ts.map Value.ref).toArray).get? b = some o := fun b o e => kF b o (ne0 _ _ (hk b o e)) (ka _ _ (hk b o e))
  obtain ⟨eF, heF⟩ := PyProof.Rows.sortedHeap_at (vs := as.map Value.ref) (out := (ts.map Value.ref).toArray) hoL
  have I1 : Inv X pins σ H { s with heap := sortedHeap h2 h'.objs.size (as.map Value.ref) (ts.map Value.ref).toArray, toks := tk } := I.kept (t' := tk) kS
  have hlt : s.heap.objs.size ≤ h'.objs.size := Nat.le_of_lt hlt0
  have hn0 : H h'.objs.size = none := I.hok.fresh hlt
  have hlen : (ts.map V.ref).length ≤ sizeLine := by rw [List.length_map, tsp.length_eq, ← List.length_map (f := Value.ref)]; exact hz
  have I2 : Inv X pins σ (upd H h'.objs.size (.lst (ts.map V.ref))) { s with heap := sortedHeap h2 h'.objs.size (as.map Value.ref) (ts.map Value.ref).toArray, toks := tk } :=
    I1.take (h' := sortedHeap h2 h'.objs.size (as.map Value.ref) (ts.map Value.ref).toArray) (t' := tk) (fun b ob _ e => e) (I.fpOk hlt hn0) ⟨hlen, ts.map Value.ref, eF, LiI.vals_refs ts, heF⟩
  obtain ⟨H2, I3, g, qt⟩ := DX.takeT (P := fun b vs => vs = [.int (k (.ref b)).1, .int (k (.ref b)).2]) I as _ I2 nd fun b hb => by
    obtain ⟨j, hj⟩ := List.mem_iff_getElem?.mp hb
    obtain ⟨e, t, u, he, hg⟩ := pr j b hj
    have hbl : s.heap.objs.size ≤ b := Nat.le_of_lt (hG.above b hb)
    refine ⟨hbl, ?_, _, rfl, fun H3 => ⟨(by rw [sizeLine_eq]; show 2 ≤ 16777216; omega), [Value.int e.1 t, Value.int e.2 u], ?_, ⟨_, kF _ _ (ne0 _ _ hg) (ka _ _ hg), rfl, 0, rfl⟩⟩⟩
    · rw [upd_ne (ne0 _ _ hg)]
      exact I.hok.fresh hbl
    · rw [k_at j b e hj he]
      exact .cons ⟨_, rfl⟩ (.cons ⟨_, rfl⟩ .nil)
  have gr : ∀ b o, H b = some o → H2 b = some o := fun b o e => g b o (by rw [upd_ne (ne_of_none e hn0)]; exact e)
  refine wpAny_pure ⟨_, rfl, .ref h'.objs.size, H2, I3, rfl, q H2 h'.objs.size ts (ts.map fun b => k (.ref b)) gr hn0 hperm hsort (g _ _ upd_same) ?_⟩
  have := paired_map (F := fun (t : Addr) (y : Int × Int) => H2 t = some (.tup [.int y.1, .int y.2])) (fun b : Addr => b) (fun b => k (.ref b)) (l := ts) fun b hb => by
    obtain ⟨vs, rfl, hv⟩ := qt b (tsp.mem_iff.mp hb)
    exact hv
  rwa [List.map_id'] at this
end
/-- {k: v for x in ..}: over whatever is walked -/
theorem dc_it {J : It} {n : Nat} {G : Hp → Prop} {Y : Nat → Hp → V → Hp → Prop} (w : Walk J n G Y) {g : TG} {tt : TT} {tk tv : TE} {vs : List Nat} {σ : L2.St} {H1 : Hp} {D : Addr} {Qd : Hp → Prop} (Pv : Nat → Hp → Prop) (h0 : Pv 0 (upd H1 D (.dK []))) (hG : ∀ i H, i ≤ n → Pv i H → G H)
    (hs : ∀ i x H H', i < n → Pv i H → Y i H x H' → g x (wipe σ vs) H' fun σ2 H2 => wipe σ2 vs = wipe σ vs ∧ tt σ2 H2 fun b H3 =>
      if b = true then tk σ2 H3 fun y H4 => tv σ2 H4 fun z H5 => ∃ kvs k, y = kV k ∧ H5 D = some (.dK kvs) ∧ kvs.length < sizeLine ∧ Pv (i + 1) (upd H5 D (.dK (putK kvs k z))) else Pv (i + 1) H3) (hd : ∀ H, Pv n H → Qd H) :
    ∃ W : Nat → Nat → Hp → Prop, (∃ m, W 0 m (upd H1 D (.dK []))) ∧ ∀ i m H, W i m H →
      (J.stop i H ∧ Qd H) ∨ (J.go i H ∧ ∃ Nx : Hp → Prop, (∀ H', Nx H' → ∃ m', m' < m ∧ W (i + 1) m' H') ∧ ∀ x H', J.yld i H x H' → g x (wipe σ vs) H' fun σ2 H2 => wipe σ2 vs = wipe σ vs ∧ tt σ2 H2 fun b H3 =>
        if b = true then tk σ2 H3 fun y H4 => tv σ2 H4 fun z H5 => ∃ kvs k, y = kV k ∧ H5 D = some (.dK kvs) ∧ kvs.length < sizeLine ∧ Nx (upd H5 D (.dK (putK kvs k z))) else Nx H3) := by
  refine ⟨fun i m H => m = n - i ∧ i ≤ n ∧ Pv i H, ⟨n, by simp, Nat.zero_le _, h0⟩, ?_⟩
  rintro i m H ⟨rfl, hi, p⟩
  have q := hG i H hi p
  by_cases hlt : i < n
  · exact .inr ⟨w.goes i H hlt q, Pv (i + 1), fun H' p' => ⟨n - (i + 1), by omega, rfl, hlt, p'⟩, fun x H' y => hs i x H H' hlt p (w.yields i H x H' hlt q y)⟩
  · have e : i = n := by omega
    subst e
    exact .inl ⟨w.stops H q, hd H p⟩
section
variable {X : Cx} {a b c d : Expr} {ta tb tc td : TE} {pos : Pos}
/-- a op1 b op2 c op3 d, as a test -/
def tChain3 (r r' r'' : R2) (ta tb tc td : TE) : TT := fun σ H Q => ta σ H fun x H1 => tb σ H1 fun y H2 => r x y H2 fun e H3 => ∃ k, e = .bl k ∧
  (if k = true then tc σ H3 fun z H4 => r' y z H4 fun e' H5 => ∃ k', e' = .bl k' ∧ (if k' = true then td σ H5 fun u H6 => r'' z u H6 fun e'' H7 => ∃ k'', e'' = .bl k'' ∧ Q k'' H7 else Q false H5) else Q false H3)
theorem pt_chain3 {op op' op'' : CmpOp} {r r' r'' : R2} (ho : OpR X (compareOp op) r) (ho' : OpR X (compareOp op') r') (ho'' : OpR X (compareOp op'') r'') (ha : PE X a ta) (hb : PE X b tb) (hc : PE X c tc) (hd : PE X d td)
    (hm : lastMarks [op, op', op''] [b, c, d] = false := by with_unfolding_all rfl) : PT X (.Compare a [op, op', op''] [b, c, d] pos) (tChain3 r r' r'' ta tb tc td) := by
  refine ⟨fun pins s σ H Q I h => ?_⟩
  refine isTrue_chain (thn (ha.run pins s σ H _ I h) fun v s1 ⟨x, H1, I1, r1, q1⟩ => test_link (thn (hb.run pins s1 σ H1 _ I1 q1) fun u s2 ⟨y, H2, I2, r2, q2⟩ =>
    thn (ho pins s2 σ H2 x y v u _ I2 r1 r2 q2) fun d s3 ⟨z, H3, I3, r3, k, e, q3⟩ => ?_)) hm
  subst e
  cases r3
  refine wpAny_truthy_bool ?_
  cases k with
  | false => exact ite_ff ⟨H3, I3, q3⟩
  | true =>
    refine ite_tt (test_link (thn (hc.run pins s3 σ H3 _ I3 q3) fun w' s4 ⟨z', H4, I4, r4, q4⟩ => thn (ho' pins s4 σ H4 y z' u w' _ I4 r2 r4 q4) fun d' s5 ⟨z2, H5, I5, r5, k2, e2, q5⟩ => ?_))
    subst e2
    cases r5
    refine wpAny_truthy_bool ?_
    cases k2 with
    | false => exact ite_ff ⟨H5, I5, q5⟩
    | true =>
      refine ite_tt (test_last (thn (hd.run pins s5 σ H5 _ I5 q5) fun w'' s6 ⟨z'', H6, I6, r6, q6⟩ => thn (ho'' pins s6 σ H6 z' z'' w' w'' _ I6 r4 r6 q6) fun d'' s7 ⟨z3, H7, I7, r7, k3, e3, q7⟩ => ?_))
      subst e3
      cases r7
      exact wpAny_truthy_bool ⟨H7, I7, q7⟩
end
end DictI

/-! # own subscripts, and ranges kept in a name (own work) -/
open PySem PyProof PyProof.Rows L2
namespace Cut
section
variable {X : Cx} {CX : CXT} {n : Nat} {C g : Addr} {sp : Sp} {E : XK}
/-- x[y]: the class of x has __getitem__ -/
def rSub (C : Addr) (sp : Sp) (E : XK) : R2 := fun x y H Q => ∃ a dx fs, x = .ref a ∧ H a = some (.ins C dx fs) ∧ sp [x, y] H Q E
theorem pe_sub {a b : Expr} {ta tb : TE} {pos : Pos} (hs : PySem.W.findIn X.K (.ref C) "__getitem__" = some (some (.ref g))) (hf : PySem.W.fnIn X.K g = true) (hfn : PySem.W.isFn X.K (.ref g) = true)
    (F : FnR X.prog X.w X.K X.mg X.base CX n g sp) (hr : Room (n + 1) X.A) (hx : Passes CX X E) (ha : PE X a ta) (hb : PE X b tb)
    (hsl : ∀ x i, subscripted b true (.ref x) i = runValue (.builtin "lifetime.subscript" ⟨[.ref x, i], []⟩)) : PE X (.Subscript a b pos) (tOp (rSub C sp E) ta tb) := by
  refine ⟨fun pins s σ H Q I h => ?_⟩
  refine Subscript_ (binT ha hb I h fun v u s2 x y H2 I2 rx ry q => ?_)
  obtain ⟨a', dx, fs, rfl, ea, q⟩ := q
  obtain rfl : v = Value.ref a' := rx
  obtain ⟨_, ja⟩ := Own.insAt I2 ea
  obtain ⟨_, fr⟩ := I2.fr
  have go := wpAny_call (SlX.run_at (A := X.A.in1) (us := [.ref a', u]) (ws := [.ref a', y]) F hr.in1 I2.env0.in1 hx I2 (.cons rfl (.cons ry .nil)) q)
  exact PySem.W.sub_K fr I2.ok.mod.kin ja hs hf hfn (wpAny_mono go (fun v st' z => z) fun _ _ z => z) (hsl _ _)
/-- a range that stands in a name, walked -/
def iRngO (te : TE) : TI := fun sl H R => te sl H fun x H1 => ∃ a lo hi, x = .ref a ∧ H1 a = some (.rng lo hi) ∧ (-(2 ^ 62) ≤ lo ∧ lo < 2 ^ 62 ∧ -(2 ^ 62) ≤ hi ∧ hi < 2 ^ 62) ∧ R (Itr lo (hi - lo).toNat) H1
theorem pi_rngO {tg l : Expr} {tl : TE} (hl : PE X l tl) : PI X tg l (iRngO tl) := by
  refine ⟨fun pins s σ H R I h => ?_⟩
  refine thn (hl.run pins s σ H _ I h) fun v s1 ⟨x, H1, I1, r1, q1⟩ => ?_
  obtain ⟨a, lo, hi, rfl, ha, ⟨h1, h2, h3, h4⟩, q⟩ := q1
  obtain rfl : v = Value.ref a := r1
  obtain ⟨t, u, w', ho⟩ := I1.hok a _ ha
  refine wpAny_pyIter_range (a := lo) (b := hi) (c := 1) ho (small_one h1 h2 h3 h4) ?_
  refine ⟨s1.heap.objs.size, [s1.heap.objs.size], _, _, H1, rfl, I1.kept (t' := s1.toks) fun b o e => Heap.get?_push_of_some _ e, turn_range _ lo (hi - lo).toNat, ?_, fun b hb => ?_, q⟩
  · have e1 : lo + ((0 : Nat) : Int) * 1 = lo := by simp
    have e2 : (((hi - lo).toNat : Nat) : Int) - ((0 : Nat) : Int) = Builtin.Range.rangeSize lo hi 1 := by rw [rangeSize_one]; split <;> omega
    show IsRangeIter _ _ (lo + ((0 : Nat) : Int) * 1) ((((hi - lo).toNat : Nat) : Int) - ((0 : Nat) : Int)) 1
    rw [e1, e2]
    exact Heap.get?_push_size _ rfl
  · have e : b = s1.heap.objs.size := by simpa using hb
    subst e
    exact I1.fpOk (Nat.le_refl _) (I1.hok.fresh (Nat.le_refl _))
end
end Cut

/-! # set(xs), xs a list of ints (own work) -/
open PySem PySem.Spec PyProof.Rows L2
namespace SetL
abbrev frO (w : World) : Obj := { cls := .type "set", dict := none, data := .set #[] 0 (.fresh 0 0 (!w.params.followText "set-order")) }
section
variable {P : Program} {w : World} {A : Around} {E : Value → Shared → Prop} {s : Shared}
theorem init_list {l : Addr} {items : Array Value} (ns : List Int) {R : Value → Shared → Prop} (hh : A.handled = none) (hl : s.heap.IsList l items) (hit : IntsAre items.toList ns) (few : ns.length + 1 < scanBound)
    (hR : ∀ (h' : Heap) (tk c : Nat), SetR w h' s.heap.objs.size (fun j => decide (j ∈ ns)) c → c ≤ ns.length → (∀ b o, s.heap.get? b = some o → h'.get? b = some o) → R .none { s with heap := h', toks := tk }) :
    codeAny (model P w) A (.call (.builtin "set.__init__") ⟨[.ref s.heap.objs.size, .ref l], []⟩) (wants R E) { s with heap := s.heap.push (frO w) } := by
  have eS : (s.heap.push (frO w)).get? s.heap.objs.size = some (frO w) := Heap.get?_push_size _ rfl
  have tS : Shared.TypeIs { s with heap := s.heap.push (frO w) } (.ref s.heap.objs.size) "set" := ⟨_, eS, rfl⟩
  have el : items.size = ns.length := by have z := IntsAre.length hit; rwa [Array.length_toList] at z
  refine codeAny_call_builtin F.called_set.init.plain F.entry_set_init (check_set_init_1 tS ?_)
  obtain ⟨⟨k1, k2, k3, k4⟩, gl, ck, kn, dk⟩ := hl
  dsimp only at ck dk
  subst ck
  subst dk
  have gl2 : (s.heap.push (frO w)).get? l = some ⟨.type "list", k2, .seq items kn, k4⟩ := Heap.get?_push_of_some _ gl
  have ll : (s.heap.push (frO w)).IsList l items := ⟨_, gl2, rfl, kn, rfl⟩
  have lt : l < s.heap.objs.size := Heap.lt_size gl
  have sz : (s.heap.push (frO w)).objs.size = s.heap.objs.size + 1 := Heap.size_push ..
  have q1 := F.sub_list_set
  have q2 := F.sub_list_frozenset
  have q3 : (Value.type "list" == Value.type "dict") = false := by decide
  unfold Builtin.«set.__init__» noKeywords Builtin.Frozenset.updateFrom
  generalize hp : pyIter = it
  wp_walk
  subst hp
  refine wpAny_pyIter_list ll (wpAny_bind (wpAny_runValue ?_))
  have nfp : s.heap.objs.size ∉ [(s.heap.push (frO w)).objs.size, l] := fun hm => by
    rcases List.mem_cons.mp hm with e | e
    · rw [sz] at e
      exact Nat.ne_of_lt (Nat.lt_succ_self _) e
    · exact Nat.ne_of_gt lt (List.mem_singleton.mp e)
  have nI : l ≠ (s.heap.push (frO w)).objs.size := by
    rw [sz]
    exact Nat.ne_of_lt (Nat.lt_succ_of_lt lt)
  refine set_update_ints (Walks.list (by simp [hh]) _ l nI items).toS s.heap.objs.size nfp ns el few (fun i v hv => ?val) _ 0 _ rfl (Nat.zero_le _) ⟨⟨_, Heap.get?_push_size _ rfl, rfl, rfl⟩, ll.push _⟩ ⟨0, Nat.le_refl 0, setR_new_at (Heap.get?_push_of_some _ eS)⟩ fun s' c mv hc hS => ?fin
  case val =>
    have hi : i < items.size := (Array.getElem?_eq_some_iff.mp hv).1
    obtain ⟨t, e⟩ := IntsAre.int_at hit i v (by rw [Array.getElem?_toList]; exact hv)
    exact ⟨ns.getD i 0, t, by simp [List.getD, show i < ns.length by omega], e⟩
  case fin =>
    have e1 : s' = { s with heap := s'.heap, toks := s'.toks } := by
      have a1 := mv.gens
      have a2 := mv.drawn
      have a3 := mv.os
      cases s'
      cases s
      simp only at a1 a2 a3
      subst a1 a2 a3
      rfl
    show wpAny _ _ (pure ()) _ _ s'
    refine wpAny_pure ?_
    show wpAny _ _ (ret Value.none) _ _ s'
    rw [e1]
    refine wpAny_pure (hR s'.heap s'.toks c hS (by omega) fun b o e => ?_)
    have hb : b < s.heap.objs.size := Heap.lt_size e
    refine mv.heap b o ?_ (Heap.get?_push_of_some _ (Heap.get?_push_of_some _ e))
    intro hm
    rcases List.mem_cons.mp hm with q | q
    · exact Nat.ne_of_lt hb q
    · have q := List.mem_singleton.mp q
      rw [sz] at q
      exact Nat.ne_of_lt (Nat.lt_succ_of_lt hb) q
theorem call_setL {l : Addr} {items : Array Value} (ns : List Int) {Q : Value → Shared → Prop} (hh : A.handled = none) (hl : s.heap.IsList l items) (hit : IntsAre items.toList ns) (few : ns.length + 1 < scanBound)
    (hQ : ∀ (h' : Heap) (tk c : Nat), SetR w h' s.heap.objs.size (fun j => decide (j ∈ ns)) c → c ≤ ns.length → (∀ b o, s.heap.get? b = some o → h'.get? b = some o) → Q (.ref s.heap.objs.size) { s with heap := h', toks := tk }) :
    wpAny (model P w) A (call (.type "set") [.ref l]) Q E s := by
  obtain ⟨c, tl, m1⟩ := F.called_set.mro
  have m2 := F.called_set.made
  have m3 := F.called_set.sub
  have m4 := F.called_set.notType
  have m5 := F.called_set.canCreate
  have m6 := F.typeCall_set_1 (.ref l)
  refine wpAny_call (codeAny_of_tree (show wpAny _ _ (callAny (.type "set") _) _ _ _ from wpAny_pure ⟨Code.quiet_builtin _ (by decide +kernel), codeAny_builtin F.entry_type_call ?_⟩))
  rw [Around.under_plain (weight_type_call_type "set" [.ref l] []) rfl]
  repeat any_goals first | assumption | wp_step
  refine codeAny_mono (code_set_led1 (.ref l) (E := E) (Q₁ := fun v u => v = .ref s.heap.objs.size ∧ u = { s with heap := s.heap.push (frO w) }) ⟨rfl, rfl⟩) fun r u hr => ?_
  match r, hr with
  | .error e, hr => exact hr
  | .ok (.ret v), hr =>
    obtain ⟨rfl, rfl⟩ := hr
    have tS : Shared.TypeIs { s with heap := s.heap.push (frO w) } (.ref s.heap.objs.size) "set" := ⟨_, Heap.get?_push_size _ rfl, rfl⟩
    have m7 := F.called_set.init.lookup
    have m8 := F.called_set.init.bind (.ref s.heap.objs.size)
    repeat any_goals first | assumption | wp_step
    refine codeAny_mono (init_list (E := E) (R := fun v u => v = .none ∧ Q (.ref s.heap.objs.size) u) ns ?_ hl hit few fun h' tk c a b d => ⟨rfl, hQ h' tk c a b d⟩) fun r2 u2 hr2 => ?_
    · simp [hh]
    match r2, hr2 with
    | .error e, hr2 => exact hr2
    | .ok (.ret v2), hr2 =>
      obtain ⟨rfl, q⟩ := hr2
      repeat any_goals first | assumption | wp_step
end
section
variable {X : Cx}
/-- set(xs), xs a list of ints -/
def rSetL (K : PySem.W.Frag) (w : World) : List V → Hp → VK → Prop := fun xs H Q => ∃ (l : Addr) (ns : List Int), xs = [V.ref l] ∧ SqL K H l (ns.map V.int) ∧ ns.length ≤ 1000 ∧ ∀ a c, H a = none → c ≤ ns.length → Q (.ref a) (upd H a (SetO w a (fun j => decide (j ∈ ns)) c))
theorem cr_setL (hc : X.calm = true) : CallR X (.type "set") (rSetL X.K X.w) := by
  intro pins s sl H xs us Q inv r h
  obtain ⟨l, ns, rfl, hl, few, q⟩ := h
  rw [Vals.ref1 r]
  obtain ⟨its, rv, pl, _⟩ := inv.list hl
  have fresh : H s.heap.objs.size = none := inv.hok.fresh (Nat.le_refl _)
  refine call_setL ns (inv.ok.hd hc) pl.isList (ints_of_vals rv) (by unfold scanBound; omega) fun h' tk c R lc k => ?_
  exact ⟨.ref s.heap.objs.size, upd H s.heap.objs.size (SetO X.w s.heap.objs.size (fun j => decide (j ∈ ns)) c), inv.laid (t' := tk) k (Nat.le_refl _) (setO_new R), rfl, q _ c fresh lc⟩
end
end SetL

/-! ~x of instances whose class has its own __invert__. -/
namespace Own
open PySem PySem.Spec PyProof.Rows L2
section
variable {X : Cx} {CX : CXT} {n : Nat} {C g : Addr} {sp : Sp} {E : XK}
def rInvO (C : Addr) (sp : Sp) (E : XK) : V → Hp → VK → Prop := fun x H Q => ∃ a dx fs, x = .ref a ∧ H a = some (.ins C dx fs) ∧ sp [x] H Q E
theorem un_invO (hs : PySem.W.findIn X.K (.ref C) "__invert__" = some (some (.ref g))) (hf : PySem.W.isFn X.K (.ref g) = true) (F : FnR X.prog X.w X.K X.mg X.base CX n g sp) (hr : Room n X.A) (hx : Passes CX X E) : UnR X (unaryOp .Invert) (rInvO C sp E) := by
  intro pins st sl H x v Q inv rx h
  obtain ⟨a, dx, fs, rfl, ea, h⟩ := h
  obtain rfl : v = Value.ref a := rx
  obtain ⟨_, ja⟩ := insAt inv ea
  have go := wpAny_call (run_fnR (us := [.ref a]) (vs := [.ref a]) F hr hx inv (.cons rfl .nil) h)
  unfold unaryOp
  refine wpAny_holding ?_
  show wpAny _ _ (callSpecial? (.ref a) "__invert__" >>= fun r => match r with | some r => pure r | none => _) _ _ _
  refine wpAny_bind (PySem.W.special_fn inv.kIn ja hs (beq_iff_eq.mp hf) (wpAny_mono go (fun v st' z => ?_) fun _ _ z => z))
  exact wpAny_pure z
end
end Own

/-! t[::-1], t a tuple. -/
namespace TRev
open PySem PySem.Spec PyProof PyProof.Rows L2 HT
open PySem.SeqAt
open PySem.AutoSeq1 (wpAny_loadPart')
open PySem.MeetsSeq PySem.MeetsSeq2 PySem.MeetsSeq3
theorem fm_congr {α β : Type} {f g : α → Option β} : ∀ {l : List α}, (∀ x ∈ l, f x = g x) → l.filterMap f = l.filterMap g
  | [], _ => rfl
  | x :: l, h => by
    rw [List.filterMap_cons, List.filterMap_cons, h x List.mem_cons_self, fm_congr fun y hy => h y (List.mem_cons_of_mem _ hy)]
section
variable {prog : Program} {w : World} {A : Around} {E : Value → Shared → Prop} {s : Shared}
theorem applied_rev {sl : Addr} {vl vu vs : Value} {n : Nat} {Q : Int × Int × Nat → Shared → Prop} (hs : s.heap.IsSliceOf sl vl vu vs) (pl : IsPart vl none) (pu : IsPart vu none) (ps : IsPart vs (some (-1)))
    (h : Q ((n : Int) - 1, -1, n) s) : wpAny (model prog w) A (Builtin.Slice.sliceApplied (.ref sl) (pure (n : Int))) Q E s := by
  obtain ⟨os, hos, hcs, hds⟩ := id hs
  unfold Builtin.Slice.sliceApplied Builtin.Slice.sliceFields
  refine wpAny_bind (wpAny_bind (wpAny_field hos hds (x := vl) rfl (wpAny_bind (wpAny_field hos hds (x := vu) rfl (wpAny_bind (wpAny_field hos hds (x := vs) rfl (wpAny_pure ?_)))))))
  refine wpAny_bind (slicePart_ ps ?_)
  show wpAny _ _ (if ((-1 : Int) == 0) = true then _ else _) _ _ s
  rw [if_neg (by decide)]
  refine wpAny_bind (slicePart_ pl (wpAny_bind (slicePart_ pu (wpAny_bind (wpAny_pure ?_)))))
  show wpAny _ _ (pure ((n : Int) - 1, (-1 : Int), Builtin.Slice.slicePlaces ((n : Int) - 1) (-1) (-1))) _ _ s
  have e : Builtin.Slice.slicePlaces ((n : Int) - 1) (-1) (-1) = n := by
    unfold Builtin.Slice.slicePlaces
    rw [if_neg (by decide)]
    split
    · have : (-(-1) : Int) = 1 := by decide
      rw [this, Int.ediv_one]
      omega
    · omega
  rw [e]
  exact wpAny_pure h
theorem pick_rev (xs : Array Value) : ((List.range xs.size).filterMap fun (m : Nat) => xs[((xs.size : Int) - 1 + (m : Int) * (-1)).toNat]?).toArray = xs.toList.reverse.toArray := by
  congr 1
  have e : (List.range xs.size).filterMap (fun (m : Nat) => xs[((xs.size : Int) - 1 + (m : Int) * (-1)).toNat]?) = (List.range xs.size).filterMap (fun (m : Nat) => xs.toList.reverse[m]?) := by
    refine fm_congr fun m hm => ?_
    have hm := List.mem_range.mp hm
    rw [List.getElem?_reverse (by rw [Array.length_toList]; exact hm), Array.getElem?_toList, Array.length_toList]
    congr 1
    omega
  rw [e]
  have l : xs.size = xs.toList.reverse.length := by simp
  rw [l]
  generalize xs.toList.reverse = ys
  refine List.ext_getElem? fun k => ?_
  have : (List.range ys.length).filterMap (fun m => ys[m]?) = ys := by
    induction ys with
    | nil => rfl
    | cons y ys ih =>
      rw [List.length_cons, List.range_succ_eq_map, List.filterMap_cons]
      simp only [List.getElem?_cons_zero]
      rw [List.filterMap_map]
      congr 1
  rw [this]
theorem getItem_rev {t sl : Addr} {items : Array Value} {vl vu vs : Value} {Q : Value → Shared → Prop} (ht : IsTup s.heap t items) (hs : s.heap.IsSliceOf sl vl vu vs) (pl : IsPart vl none) (pu : IsPart vu none) (ps : IsPart vs (some (-1)))
    (h : Q (.ref s.heap.objs.size) { s with heap := s.heap.push { cls := .type "tuple", data := .seq items.toList.reverse.toArray } })
    (hsz : items.size ≤ sizeLine) : wpAny (model prog w) A (getItem (.ref t) (.ref sl)) Q E s := by
  have htake : sizeOk (.seq items.toList.reverse.toArray) := by
    show items.toList.reverse.toArray.size ≤ sizeLine
    rw [List.size_toArray, List.length_reverse, Array.length_toList]
    omega
  obtain ⟨os, hos, hcs, hds⟩ := id hs
  have hTs : s.TypeIs (.ref sl) "slice" := ⟨os, hos, hcs⟩
  unfold getItem
  try with_reducible refine wpAny_holding ?_
  first | refine wpAny_bind (wpAny_pure ?_) | skip
  refine wpAny_bind (wpAny_sequenceKey ht.typeIs (by decide) ?_)
  refine wpAny_bind (wpAny_callSpecial?_slot (name := Str.ofString "__getitem__") ht.typeIs PyProof.Rows.slot_tuple_getitem
    (wpAny_call_entry PyProof.Rows.slot_tuple_getitem ht.typeIs entry_tuple_getitem ?_ (args_tuple_getitem _ _)))
  show wpAny _ _ (Builtin.Tuple.tupleItemsOf (.ref t) >>= _) _ _ s
  refine wpAny_bind (tupleItemsOf_ ht ?_)
  refine wpAny_bind (wpAny_typeOf hTs ?_)
  rw [if_pos (by decide)]
  refine wpAny_bind (applied_rev hs pl pu ps ?_)
  show wpAny _ _ (if (((items.size : Int) - 1) == 0 && (-1 : Int) == 1 && items.size == items.size) = true then _ else _) _ _ s
  rw [if_neg (by rw [show ((-1 : Int) == 1) = false from rfl, Bool.and_false, Bool.false_and]; exact Bool.false_ne_true), pick_rev]
  first
    | exact wpAny_bind (m := Builtin.Tuple.tupleExact _) (wpAny_newObj_type (wpAny_pure ⟨_, rfl, wpAny_pure h⟩) htake)
    | exact wpAny_bind (m := Builtin.Tuple.tupleExact _) (wpAny_newObj_type (wpAny_bind (wpAny_pure (wpAny_pure ⟨_, rfl, wpAny_pure h⟩))) htake)
    | exact wpAny_bind (wpAny_bind (m := Builtin.Tuple.tupleExact _) (wpAny_newObj_type (wpAny_pure (wpAny_pure ⟨_, rfl, wpAny_pure h⟩)) htake))
    | exact wpAny_bind (wpAny_bind (m := Builtin.Tuple.tupleExact _) (wpAny_newObj_type (wpAny_pure ⟨_, rfl, wpAny_pure h⟩) htake))
end
section
variable {X : Cx}
def tRevT (K : PySem.W.Frag) (te : TE) : TE := fun σ H Q => te σ H fun x H1 => ∃ a xs, x = .ref a ∧ SqT K H1 a xs ∧ ∀ p, H1 p = none → Q (.ref p) (upd H1 p (.tup xs.reverse))
theorem pe_revT {e : Expr} {te : TE} {k : Nat} {p1 p2 p3 pos : Pos} (he : PE X e te) : PE X (.Subscript e (.Slice none none (some (.UnaryOp .USub (.Constant (.int 1) k p1) p2)) p3) pos) (tRevT X.K te) := by
  refine ⟨fun pins s σ H Q I h => ?_⟩
  refine Subscript_ (thn (he.run pins s σ H _ I h) fun v s1 ⟨x, H1, I1, r1, q1⟩ => ?_)
  obtain ⟨a, xs, ex, hx, q⟩ := q1
  subst ex
  cases r1
  have hst : PO X (some (.UnaryOp .USub (.Constant (.int 1) k p1) p2)) (tPart (tUn (rU fun i => .int (-i)) (tC (.int 1)))) := po_some (pe_un un_neg pe_int)
  refine wpAny_Slice (thn (po_none.run pins s1 σ H1 (fun o H2 => o = none ∧ H2 = H1) I1 ⟨rfl, rfl⟩) fun vl s2 ⟨l, H2, I2, pl, el, e2⟩ => ?_)
  subst el e2
  refine thn (po_none.run pins s2 σ H2 (fun o H3 => o = none ∧ H3 = H2) I2 ⟨rfl, rfl⟩) fun vu s3 ⟨u, H3, I3, pu, eu, e3⟩ => ?_
  subst eu e3
  refine thn (hst.run pins s3 σ H3 (fun o H4 => o = some (-1) ∧ H4 = H3) I3 ⟨1, rfl, -1, rfl, rfl, rfl⟩) fun vs s4 ⟨o, H4, I4, ps, eo, e4⟩ => ?_
  subst eo e4
  have I5 : Inv X pins σ H4 { s4 with heap := s4.heap.push { cls := .type "slice", data := .fields #[vl, vu, vs] } } := I4.kept (t' := s4.toks) fun b ob q => Heap.get?_push_of_some _ q
  obtain ⟨its, r, ht, hz⟩ := I5.tuple hx
  show wpAny (model X.prog X.w) X.A (subscriptTail e (.Slice none none (some (.UnaryOp .USub (.Constant (.int 1) k p1) p2)) p3) (.ref a) (.ref s4.heap.objs.size)) (EP X pins σ Q) X.xe _
  refine tail_any (ops := [.ref a, .ref s4.heap.objs.size]) ht.typeIs PyProof.Rows.slot_tuple_getitem.lookup ?_ (by with_unfolding_all rfl)
  have hlen : its.toArray.size = xs.length := by rw [List.size_toArray]; exact r.length.symm
  refine getItem_rev ht (Heap.IsSliceOf.new _ vl vu vs) pl pu ps ?_ (by rw [hlen]; exact hz)
  refine ⟨.ref _, _, I5.laid (t' := s4.toks) (o := .tup xs.reverse) (fun b ob q => Heap.get?_push_of_some _ q) (Nat.le_refl _) ?_, rfl, q _ (I5.hok.fresh (Nat.le_refl _))⟩
  exact ⟨by rw [List.length_reverse]; exact hz, _, r.reverse, IsTup.new _ _⟩
end
end TRev

/-! x op y: the class of x has the sign's def and no reflected one, y is an int. -/
namespace Own
open PySem PySem.Spec PyProof.Rows L2
section
variable {prog : Program} {w : World} {A : Around} {E : Value → Shared → Prop} {s : Shared} {K : PySem.W.Frag} {x C L f : Addr} {h₀ : Heap} {m : Str → Option Value} {ox : Obj} {od : Option Obj}
theorem binop_I {op : Operator} {i : Int} {t : Tok} {fo ro : Value} {Q : Value → Shared → Prop} (X : K.In s.heap) (I : PySem.W.InstAt s.heap x ox C od) (hc : PySem.W.selfFirst K C = true)
    (hs : PySem.W.findIn K (.ref C) (PySem.dunder op.info.2) = some (some (.ref f))) (hf : PySem.W.isFn K (.ref f) = true) (hr : PySem.W.findIn K (.ref C) (PySem.dunderR op.info.2) = some none) (ho : PySem.W.subIn K (.type "int") (.ref C) = some false)
    (h1 : PySem.W.findIn K (.type "int") (PySem.dunder op.info.2) = some (some fo)) (h2 : PySem.W.findIn K (.type "int") (PySem.dunderR op.info.2) = some (some ro)) (n1 : isSeqSlot (some fo) = false)
    (h : wpAny (model prog w) A (call (.ref f) [.ref x, .int i t]) (PySem.W.CmpBack Q) E s) : wpAny (model prog w) A (binaryOp op (.ref x) (.int i t)) Q E s := by
  obtain ⟨cd, hcd, hm⟩ := PySem.W.any_some hc
  obtain ⟨rest, hm⟩ : ∃ rest, cd.mro = .ref C :: rest := by
    cases q : cd.mro with
    | nil => rw [q] at hm; cases hm
    | cons a r => rw [q] at hm; exact ⟨r, by rw [List.head?_cons] at hm; cases (beq_iff_eq.mp hm); rfl⟩
  unfold binaryOp
  refine wpAny_holding (wpAny_bind ?_)
  unfold binaryOp1
  refine wpAny_bind (I.type.here (wpAny_bind ?_))
  show wpAny _ _ (pure (Value.type "int") : Sem Value) _ _ _
  refine wpAny_pure (wpAny_bind ((PySem.W.fills_K X hcd hm hs).here ?_))
  have ne : ((Value.ref C) == (Value.type "int")) = false := rfl
  rw [ne]
  simp only [Bool.false_eq_true, if_false, if_true]
  refine wpAny_bind ?_
  have right : PySem.W.Looks (model prog w) s.heap (fillsNumberSlot (.type "int") op.info.2) true := by
    intro A Q E s k q
    unfold fillsNumberSlot
    refine wpAny_bind (PySem.W.looks_findIn X h1 A _ E s k ?_)
    refine wpAny_bind (PySem.W.looks_findIn X h2 A _ E s k ?_)
    refine wpAny_pure ?_
    rw [n1]
    exact q
  refine right.here ?_
  simp only [Bool.and_self, if_true]
  refine wpAny_bind ((PySem.W.looks_subIn X ho).here ?_)
  simp only [Bool.false_eq_true, if_false]
  have mine : PySem.W.Looks (model prog w) s.heap (numberSlotInPython (.ref C) op.info.2) true := by
    intro A Q E s k q
    unfold numberSlotInPython
    refine wpAny_bind (PySem.W.looks_findIn X hs A _ E s k ?_)
    refine wpAny_bind (m := calledByName _ _ _) ?_
    unfold calledByName
    refine wpAny_pure ?_
    refine wpAny_bind (PySem.W.looks_findIn X hr A _ E s k ?_)
    refine wpAny_bind (wpAny_pure ?_)
    exact wpAny_pure q
  refine wpAny_bind (mine.here ?_)
  simp only [if_true]
  refine wpAny_bind (m := numberSlotInPython (.type "int") _) ?_
  unfold numberSlotInPython
  refine wpAny_pure ?_
  simp only [Bool.not_false, if_true]
  refine wpAny_bind ((PySem.W.looks_findIn X h2).here ?_)
  refine wpAny_bind (m := tryMethod (.ref x) _ (.int i t)) ?_
  unfold tryMethod
  refine wpAny_bind (PySem.W.special_fn X I hs (beq_iff_eq.mp hf) (wpAny_mono h (fun v s' hv => ?_) fun _ _ e => e))
  cases v <;> first | exact hv.elim | exact wpAny_pure (wpAny_pure (wpAny_pure hv))
end
section
variable {X : Cx} {CX : CXT} {n : Nat} {C g : Addr} {sp : Sp} {E : XK}
def rBinI (C : Addr) (sp : Sp) (E : XK) : R2 := fun x y H Q => ∃ a dx fs i, x = .ref a ∧ y = .int i ∧ H a = some (.ins C dx fs) ∧ sp [x, y] H Q E
theorem op_binI {op : Operator} {fo ro : Value} (hc : PySem.W.selfFirst X.K C = true) (hs : PySem.W.findIn X.K (.ref C) (PySem.dunder op.info.2) = some (some (.ref g))) (hf : PySem.W.isFn X.K (.ref g) = true) (hr' : PySem.W.findIn X.K (.ref C) (PySem.dunderR op.info.2) = some none)
    (ho : PySem.W.subIn X.K (.type "int") (.ref C) = some false) (h1 : PySem.W.findIn X.K (.type "int") (PySem.dunder op.info.2) = some (some fo)) (h2 : PySem.W.findIn X.K (.type "int") (PySem.dunderR op.info.2) = some (some ro)) (n1 : isSeqSlot (some fo) = false)
    (F : FnR X.prog X.w X.K X.mg X.base CX n g sp) (hr : Room n X.A) (hx : Passes CX X E) : OpR X (binaryOp op) (rBinI C sp E) := by
  intro pins st sl H x y v u Q inv rx ry h
  obtain ⟨a, dx, fs, i, rfl, rfl, ea, h⟩ := h
  obtain rfl : v = Value.ref a := rx
  obtain ⟨t, rfl⟩ := ry
  obtain ⟨_, ja⟩ := insAt inv ea
  exact binop_I inv.kIn ja hc hs hf hr' ho h1 h2 n1 (run2 (y := .int i) F hr hx inv ⟨t, rfl⟩ h)
end
end Own

/-! list(d.values()). -/
namespace LiV
open PySem PySem.Spec PyProof.Rows L2
def tListVals (te : TE) : TE := fun σ H Q => te σ H fun x H1 => ∃ (d : Addr) (kvs : List (Key × V)), x = .ref d ∧ H1 d = some (.dK kvs) ∧ ∀ p, H1 p = none → Q (.ref p) (upd H1 p (.lst (kvs.map (·.2))))
theorem vals_get {kvs : List (Key × V)} {vs : List (Key × Value)} {acc : List Value} (kv : KV kvs vs) (hl : acc.length = vs.length) (h : ∀ (j : Nat) (v : Value), acc[j]? = some v → ∃ k, vs[j]? = some (k, v)) : Vals (kvs.map (·.2)) acc := by
  induction kv generalizing acc with
  | nil => cases acc with
    | nil => exact .nil
    | cons _ _ => cases hl
  | @cons a b l1 l2 r t ih =>
    cases acc with
    | nil => cases hl
    | cons x acc =>
      obtain ⟨k, e⟩ := h 0 x rfl
      have e : b = (k, x) := by simpa using e
      subst e
      refine .cons r.2 (ih (by simpa using hl) fun j v q => ?_)
      obtain ⟨k', e'⟩ := h (j + 1) v (by simpa using q)
      exact ⟨k', by simpa using e'⟩
section
variable {X : Cx} {e : Expr} {te : TE} {p apos cpos pos : Pos}
theorem pe_listVals (hc : X.calm = true) (he : PE X e te) (hg : Gl X "list") (hm : X.mg "list" = none) (hv : bootBuiltins "list" = some (.type "list")) (hbase : attributeBase e "values" X.env (eval e X.env) = eval e X.env := by rfl) (hline : (apos.endLine == cpos.line) = true := by rfl)
    (hs : starEach [.Call (.Attribute e "values" apos) [] [] cpos] X.env = (false, eval (.Call (.Attribute e "values" apos) [] [] cpos) X.env) :: starEach [] X.env := by rfl) :
    PE X (.Call (.Name "list" p) [.Call (.Attribute e "values" apos) [] [] cpos] [] pos) (tListVals te) := by
  refine ⟨fun pins s σ H Q I hq => ?_⟩
  refine wpAny_Call_Name_kw (ld_blt I hg hm hv ?_)
  refine PyProof.Rows.callWith_type1 ?_ hs rfl
  rw [hs]
  show wpAny _ _ (spliced ((false, eval (.Call (.Attribute e "values" apos) [] [] cpos) X.env) :: backTo pos (starEach [] X.env))) _ _ s
  refine Calls.spliced_cons ?_
  refine wpAny_Call_method (T := "dict") (id := "dict.values") hbase rfl hline F.plainAttrs_dict F.slot_dict_values F.type_dict_values (thn (he.run pins s σ H _ I hq) fun u s1 ⟨x, H1, I1, rx, d, kvs, ex, hd, q⟩ => ?_)
  subst ex
  obtain rfl : u = Value.ref d := rx
  obtain ⟨hz, hs0, vs, kv, hdo⟩ := I1.hok d _ hd
  obtain ⟨ep, hat⟩ := hdo.dictAt
  have lk : kvs.length = vs.length := Paired.length kv
  have I2 : Inv X pins σ H1 { s1 with heap := s1.heap.push { cls := .type "dict_values", data := .fields #[.ref d] } } := I1.kept (t' := s1.toks) fun b ob q => Heap.get?_push_of_some _ q
  refine ⟨hdo.typeIs, hdo.mapOf.noDict, ?_⟩
  show wpAny _ _ (callWith cpos (.builtin "dict.values") [.ref d] [] []) _ X.xe s1
  refine method_meetsIn F.slot_dict_values F.entry_dict_values rfl (PySem.evalArgs_none ⟨rfl, hdo.typeIs, F.args_dict_values_1 _, _, meets_dict_values (mixKind X.prog X.w) d hs0, ⟨vs, hdo⟩, ?_⟩)
  refine Calls.spliced_nil ?_
  refine PySem.W.kdl_call (PySem.W.kdl_values (knd := mixKind X.prog X.w) (d := d) (kvs := vs) (ep := ep)) (I1.ok.hd hc) ⟨⟨_, Heap.get?_push_size _ rfl, rfl, rfl⟩, hat.push _⟩ (by omega) fun h' tk acc c' hk hD hacc => ?_
  have hvv : Vals (kvs.map (·.2)) acc.toList := vals_get kv (by rw [Array.length_toList]; exact hacc.1) fun j v e => hacc.2 j v (by rw [← Array.getElem?_toList]; exact e)
  exact ⟨.ref _, upd H1 _ (.lst (kvs.map (·.2))), I2.laid (t' := tk) hk (Nat.le_refl _) (show ObjOk X.prog X.w _ _ _ (.lst (kvs.map (·.2))) from ⟨by rw [List.length_map]; exact hz, acc.toList, c', hvv, by rw [Array.toArray_toList]; exact hD⟩), rfl, q _ (I2.hok.fresh (Nat.le_refl _))⟩
end
end LiV

/-! (v,) * k, k from 0 on. -/
namespace TOne
open PySem PySem.Spec PyProof.Rows L2
open PySem.AutoSeq1 (wpAny_loadPart')
theorem mul_one (l : Addr) (items : Array Value) (n : Nat) (dd : Option Addr) (sl : Array (Option Value)) (u : Tok) :
    Meets (Builtin.«tuple.__mul__» ⟨[.ref l, .int 1 u], []⟩) (fun _ R s => s.heap.get? l = some { cls := .type "tuple", dict := dd, data := .seq items n, slots := sl } ∧ R (.ok (.ret (.ref l))) s) :=
  .of_wp fun prog w A R s h => by
    obtain ⟨hp, g, d, tk, os⟩ := s
    obtain ⟨hl, h⟩ := h
    have f1 := AutoSeq1.idx_int
    have c1 : (items.isEmpty || (1 : Int) == 1) = true := by simp
    wp_walk using wpAny_loadPart' hl
    exact ⟨_, rfl, h⟩
theorem mul_zero (l : Addr) (items : Array Value) (n : Nat) (dd : Option Addr) (sl : Array (Option Value)) (u : Tok) (hi : items.isEmpty = false) :
    Meets (Builtin.«tuple.__mul__» ⟨[.ref l, .int 0 u], []⟩) (fun _ R s => s.heap.get? l = some { cls := .type "tuple", dict := dd, data := .seq items n, slots := sl } ∧
      R (.ok (.ret (Value.ref s.heap.objs.size))) { s with heap := s.heap.push { cls := Value.type "tuple", data := Data.seq #[] }, toks := s.toks }) :=
  .of_wp fun prog w A R s h => by
    obtain ⟨hp, g, d, tk, os⟩ := s
    obtain ⟨hl, h⟩ := h
    have f1 := AutoSeq1.idx_int
    have c1 : (items.isEmpty || (0 : Int) == 1) = false := by rw [hi]; rfl
    have c2 : (decide ((0 : Int) ≤ 0) || items.isEmpty) = true := by simp
    wp_walk using wpAny_loadPart' hl
    repeat (first
      | (refine wpAny_ite_false (decide_eq_false (by rw [c1]; exact Bool.false_ne_true)) ?_; wp_walk using wpAny_loadPart' hl)
      | (refine wpAny_ite_true (decide_eq_true c2) ?_; wp_walk using wpAny_loadPart' hl))
    exact ⟨_, rfl, h⟩
def rRep1 (K : PySem.W.Frag) : R2 := fun x y H Q => ∃ (l : Addr) (k : Nat) (v : V), x = .ref l ∧ y = .int (k : Nat) ∧ SqT K H l [v] ∧ k ≤ 1000 ∧ ∀ p H', Same H H' → SqT K H' p (List.replicate k v) → Q (.ref p) H'
section
variable {X : Cx}
theorem op_rep1 : OpR X (binaryOp .Mult) (rRep1 X.K) := by
  intro pins s σ H x y v u Q I rx ry h
  obtain ⟨l, k, v0, rfl, rfl, hT, hz, q⟩ := h
  by_cases h2 : 2 ≤ k
  · refine op_repT pins s σ H _ _ v u Q I rx ry ⟨l, (k : Nat), [v0], rfl, rfl, hT, (fun z => nomatch z), by omega, by omega, by simp, fun p hp => q p _ (fun b o e => by rw [upd_ne (fun z => by rw [z, hp] at e; cases e)]; exact e) (SqT.of ?_)⟩
    rw [upd_same, Int.toNat_natCast]
    congr 2
    clear h2 q hz ry
    induction k with
    | zero => rfl
    | succ k ih => rw [List.replicate_succ, List.flatten_cons, ih, List.replicate_succ]; rfl
  · cases rx
    obtain ⟨t, rfl⟩ := ry
    obtain ⟨its, r, ⟨⟨cls, dd, data, sl⟩, ho, hc, n, hd⟩, hs⟩ := I.tuple hT
    simp only at hc hd
    subst hc hd
    have hle : its.length = 1 := r.length.symm
    have hi : its.toArray.isEmpty = false := by
      cases its with
      | nil => cases hle
      | cons a b => rfl
    match k, h2, q with
    | 1, _, q =>
      refine wpAny_binaryOp_repeat_ref (T := "tuple") (U := "int") (by decide) ⟨_, ho, rfl⟩ (fun s' => typeIs_int s' 1 t) noFill_tuple_mul F.fills_int_mul F.slot_int_rmul repeat_tuple F.slot_int_index.lookup
        (call_meets F.slot_int_rmul (typeIs_int s 1 t) F.entry_int_rmul (F.args_int_rmul_2 _ _) (int_rmul_tuple 1 t l its.toArray n dd sl)
          ⟨ho, rfl, ⟨_, ho, rfl⟩, call_meets F.slot_tuple_mul ⟨_, ho, rfl⟩ F.entry_tuple_mul (F.args_tuple_mul_2 _ _) (mul_one l its.toArray n dd sl t) ⟨ho, ?_⟩⟩)
      exact ⟨.ref l, _, I, rfl, q l H (fun _ _ e => e) hT⟩
    | 0, _, q =>
      refine wpAny_binaryOp_repeat_ref (T := "tuple") (U := "int") (by decide) ⟨_, ho, rfl⟩ (fun s' => typeIs_int s' 0 t) noFill_tuple_mul F.fills_int_mul F.slot_int_rmul repeat_tuple F.slot_int_index.lookup
        (call_meets F.slot_int_rmul (typeIs_int s 0 t) F.entry_int_rmul (F.args_int_rmul_2 _ _) (int_rmul_tuple 0 t l its.toArray n dd sl)
          ⟨ho, rfl, ⟨_, ho, rfl⟩, call_meets F.slot_tuple_mul ⟨_, ho, rfl⟩ F.entry_tuple_mul (F.args_tuple_mul_2 _ _) (mul_zero l its.toArray n dd sl t hi) ⟨ho, ?_⟩⟩)
      have np : H s.heap.objs.size = none := I.hok.fresh (Nat.le_refl _)
      refine ⟨.ref s.heap.objs.size, _, I.laid (t' := s.toks) (o := .tup []) (fun b ob e => Heap.get?_push_of_some _ e) (Nat.le_refl _) ?_, rfl, q _ _ (fun b o e => by rw [upd_ne (fun z => by rw [z, np] at e; cases e)]; exact e) (SqT.of upd_same)⟩
      exact ⟨by show 0 ≤ sizeLine; decide, _, .nil, IsTup.new _ _⟩
    | k + 2, h2, _ => exact absurd (Nat.le_add_left 2 k) h2
end
end TOne

/-! x in o, x not in o: o an instance whose class has its own __contains__ that gives a bool. -/
namespace Own
open PySem PySem.Spec PyProof.Rows L2
section
variable {M : Model} {A : Around} {E : Value → Shared → Prop} {s : Shared} {K : PySem.W.Frag} {a C g : Addr} {ox : Obj} {od : Option Obj} {v : Value}
theorem contains_own {Q : Bool → Shared → Prop} (X : K.In s.heap) (I : PySem.W.InstAt s.heap a ox C od) (hs : PySem.W.findIn K (.ref C) "__contains__" = some (some (.ref g))) (hf : PySem.W.isFn K (.ref g) = true)
    (h : wpAny M A (call (.ref g) [.ref a, v]) (fun r s' => ∃ b, r = .bool b ∧ Q b s') E s) : wpAny M A (contains (.ref a) v) Q E s := by
  have sp : ∀ {R : Option Value → Shared → Prop}, R (some (.ref g)) s → wpAny M A (specialOf (.ref a) "__contains__") R E s := fun {R} r => wpAny_bind (I.type.here ((PySem.W.looks_findIn X hs).here r))
  unfold contains
  refine wpAny_holding ?_
  refine wpAny_bind (sp ?_)
  rw [if_neg (show ¬ ((some (Value.ref g) == some Value.none) = true) from Bool.false_ne_true)]
  have call' : wpAny M A (callSpecialUnlessNone? (.ref a) "__contains__" [v] (do rule "in.none"; raiseError "TypeError" s!"'{← typeNameOf (.ref a)}' object is not a container")) (fun r s' => ∃ b, r = some (Value.bool b) ∧ Q b s') E s := by
    simp only [callSpecialUnlessNone?]
    refine wpAny_bind (sp ?_)
    refine wpAny_holding ?_
    refine wpAny_bind ((PySem.W.bind_fn X _ (beq_iff_eq.mp hf)).here ?_)
    show wpAny _ _ (if (Value.ref g == Value.none) = true then _ else _) _ _ _
    rw [if_neg (show ¬ ((Value.ref g == Value.none) = true) from Bool.false_ne_true)]
    refine wpAny_bind (wpAny_mono h (fun r s' z => ?_) fun _ _ z => z)
    obtain ⟨b, rfl, q⟩ := z
    exact wpAny_pure ⟨b, rfl, q⟩
  show wpAny M A (callSpecialUnlessNone? (.ref a) "__contains__" [v] _ >>= _) Q E s
  refine wpAny_bind (wpAny_mono call' (fun r s' z => ?_) fun _ _ z => z)
  obtain ⟨b, rfl, q⟩ := z
  exact wpAny_truthy_bool q
end
section
variable {X : Cx} {CX : CXT} {n : Nat} {C g : Addr} {sp : Sp} {E : XK}
def rInO (neg : Bool) (C : Addr) (sp : Sp) (E : XK) : V → V → Hp → VK → Prop := fun x y H Q => ∃ a dx fs, y = .ref a ∧ H a = some (.ins C dx fs) ∧ sp [y, x] H (fun v H' => ∃ b, v = .bl b ∧ Q (.bl (if neg then !b else b)) H') E
theorem in_run (hs : PySem.W.findIn X.K (.ref C) "__contains__" = some (some (.ref g))) (hf : PySem.W.isFn X.K (.ref g) = true) (F : FnR X.prog X.w X.K X.mg X.base CX n g sp) (hr : Room n X.A) (hx : Passes CX X E)
    {pins : List (Addr × Obj)} {st : Shared} {sl : L2.St} {H : Hp} {x : V} {a dx : Addr} {fs : List (Str × V)} {u : Value} {Q : Bool → Hp → Prop} {R : Bool → Shared → Prop} (inv : Inv X pins sl H st) (rx : RelV x u) (ea : H a = some (.ins C dx fs))
    (h : sp [.ref a, x] H (fun v H' => ∃ b, v = .bl b ∧ Q b H') E) (go : ∀ b st' H', Inv X pins sl H' st' → Q b H' → R b st') : wpAny (model X.prog X.w) X.A (contains (.ref a) u) R X.xe st := by
  obtain ⟨_, ja⟩ := insAt inv ea
  refine contains_own inv.kIn ja hs hf (wpAny_mono (wpAny_call (run_fnR (us := [.ref a, u]) (vs := [.ref a, x]) F hr hx inv (.cons rfl (.cons rx .nil)) h)) (fun r st' z => ?_) fun _ _ z => z)
  obtain ⟨y, H', inv', ry, b, rfl, q⟩ := z
  obtain rfl : r = Value.bool b := ry
  exact ⟨b, rfl, go b st' H' inv' q⟩
theorem op_inO (hs : PySem.W.findIn X.K (.ref C) "__contains__" = some (some (.ref g))) (hf : PySem.W.isFn X.K (.ref g) = true) (F : FnR X.prog X.w X.K X.mg X.base CX n g sp) (hr : Room n X.A) (hx : Passes CX X E) : OpR X (compareOp .In) (rInO false C sp E) := by
  intro pins st sl H x y v u Q inv rx ry h
  obtain ⟨a, dx, fs, rfl, ea, h⟩ := h
  obtain rfl : u = Value.ref a := ry
  show wpAny _ _ (contains (.ref a) v >>= fun b => pure (Value.bool b)) _ _ _
  refine wpAny_bind (in_run hs hf F hr hx inv rx ea h fun b st' H' inv' q => wpAny_pure ⟨.bl b, H', inv', rfl, q⟩)
theorem op_notInO (hs : PySem.W.findIn X.K (.ref C) "__contains__" = some (some (.ref g))) (hf : PySem.W.isFn X.K (.ref g) = true) (F : FnR X.prog X.w X.K X.mg X.base CX n g sp) (hr : Room n X.A) (hx : Passes CX X E) : OpR X (compareOp .NotIn) (rInO true C sp E) := by
  intro pins st sl H x y v u Q inv rx ry h
  obtain ⟨a, dx, fs, rfl, ea, h⟩ := h
  obtain rfl : u = Value.ref a := ry
  show wpAny _ _ (contains (.ref a) v >>= fun b => pure (Value.bool (!b))) _ _ _
  refine wpAny_bind (in_run hs hf F hr hx inv rx ea h fun b st' H' inv' q => wpAny_pure ⟨.bl (!b), H', inv', rfl, q⟩)
end
end Own

/-! GenFor: for in a generator def's body. -/
namespace GenW2
open PySem
section
variable {M : Model} {A : Around} {R : GenEnd} {Y : Protocol} {n : Nat} {s₀ : Shared} {c : Code} {fs : List Frame} {s : Shared} {env : Env}
  {K : Flow → Sem Fin} {H : Value → Sem Fin} {gd : Bool → Bool} {lv : List Value → List Value}
theorem seg_For {target iter : Expr} {body : List Stmt} {pos : Pos}
    (h : wpAny M (A.over c fs) (eval iter env) (fun x s₁ => wpAny M (A.over c fs) (pyIter x) (fun it s₂ => ∀ p, Seg M A R Y n s₀ (.forLoop target it body [] env) (M.den (.forLoop target it body [] env))
      (.ret (fun r => ((match r with | .ok f => (.pure f : Sem Flow) | .error e => .raise e).onRaise fun (x : Value) => do
        if (← field x 1) == Value.none then unsupported "frame.own-activation:exception-without-traceback"
        setFlight x env.frame).wrap K H gd lv) none (gd false) (lv []) c p [] :: fs) s₂) (fun e s' => Seg M A R Y n s₀ c (H e) fs s') s₁) (fun e s' => Seg M A R Y n s₀ c (H e) fs s') s)
    (hs : ∀ x, foldedSetIterable iter env x = pure x := by intro _; rfl) :
    Seg M A R Y n s₀ c ((exec (.For target iter body [] pos) env).wrap K H gd lv) fs s := by
  rw [exec_For]
  refine seg_bind_wrap (wpAny_standAt ?_)
  refine seg_bind_wrap (wpAny_mono h (fun x s₁ h₁ => ?_) (fun e s' he => he))
  refine seg_bind_wrap (wpAny_of_eq (hs x) ?_)
  refine seg_bind_wrap (wpAny_standAt ?_)
  refine seg_bind_wrap (wpAny_holding (wpAny_mono h₁ (fun it s₂ h₂ => ?_) fun _ _ z => z))
  exact seg_call h₂
end
section
variable {prog : Program} {w : World} {A : Around} {R : GenEnd} {Y : Protocol} {n : Nat} {s₀ : Shared} {fs : List Frame} {s : Shared} {env : Env}
theorem seg_forLoop {target : Expr} {it : Value} {body : List Stmt}
    (h : wpAny (model prog w) (A.over (.forLoop target it body [] env) fs) (pyNext it) (fun r s' => match r with
        | none => Seg (model prog w) A R Y n s₀ (.block [] env) ((model prog w).den (.block [] env)) fs s'
        | some v => wpAny (model prog w) (A.over (.forLoop target it body [] env) fs) (letOwnedTupleGo target it v) (fun _ s₁ => wpAny (model prog w) (A.over (.forLoop target it body [] env) fs) (assign target env v) (fun _ s₂ =>
          Seg (model prog w) A R Y n s₀ (.forLoop target it body [] env) ((execs body env).wrap (fun f => match f with
            | .next | .cont => .pure (.again (.forLoop target it body [] env))
            | .brk => .pure (.done .next)
            | .ret v => .pure (.done (.ret v))) (fun e => (do noteFrame e env; theTreesLotGoes e : Sem Unit).wrap (fun _ => .raise e) .raise id id) id id) fs s₂)
            (fun x s' => Seg (model prog w) A R Y n s₀ (.forLoop target it body [] env) ((do noteFrame x env; theTreesLotGoes x : Sem Unit).wrap (fun _ => .raise x) .raise id id) fs s') s₁)
            (fun x s' => Seg (model prog w) A R Y n s₀ (.forLoop target it body [] env) ((do noteFrame x env; theTreesLotGoes x : Sem Unit).wrap (fun _ => .raise x) .raise id id) fs s') s')
      (fun x s' => Seg (model prog w) A R Y n s₀ (.forLoop target it body [] env) ((do noteFrame x env; theTreesLotGoes x : Sem Unit).wrap (fun _ => .raise x) .raise id id) fs s') s) :
    Seg (model prog w) A R Y n s₀ (.forLoop target it body [] env) ((model prog w).den (.forLoop target it body [] env)) fs s := by
  show Seg _ A R Y n s₀ _ ((forTurn target it body [] env).onRaise (fun x => do noteFrame x env; theTreesLotGoes x)) fs s
  have ex : ∀ {x s'}, Seg (model prog w) A R Y n s₀ (.forLoop target it body [] env) ((do noteFrame x env; theTreesLotGoes x : Sem Unit).wrap (fun _ => .raise x) .raise id id) fs s' →
      Seg (model prog w) A R Y n s₀ (.forLoop target it body [] env) ((do noteFrame x env; theTreesLotGoes x : Sem Unit).bind fun _ => (.raise x : Sem Fin)) fs s' := fun {x s'} hx => by
    rw [Sem.bind_eq_wrap]; exact hx
  unfold forTurn
  rw [Sem.onRaise_eq_wrap]
  refine seg_bind_wrap (wpAny_standAt ?_)
  refine seg_bind_wrap (wpAny_onRaise (wpAny_mono h (fun r s₁ h₁ => ?_) fun e s' he => wpAny_standAt (ex he)))
  cases r with
  | none => exact seg_again rfl h₁
  | some v =>
    refine seg_bind_wrap (wpAny_mono h₁ (fun _ s₂ h₂ => ?_) fun e s' he => ex he)
    refine seg_bind_wrap (wpAny_mono h₂ (fun _ s₃ h₃ => ?_) fun e s' he => ex he)
    rw [Sem.bind_eq_wrap', Sem.wrap_wrap]
    rw [Sem.wrap_congr (execs body env) _ _ (K' := fun f => match f with
            | .next | .cont => .pure (.again (.forLoop target it body [] env))
            | .brk => .pure (.done .next)
            | .ret v => .pure (.done (.ret v))) (H' := (fun e => (do noteFrame e env; theTreesLotGoes e : Sem Unit).wrap (fun _ => .raise e) .raise id id))
        (fun f => by cases f <;> rfl)
        (fun e => by first | exact Sem.bind_eq_wrap _ _ | (show (do noteFrame e env; theTreesLotGoes e : Sem Unit).bind (fun _ => .raise e) = _; rw [Sem.bind_eq_wrap]))]
    exact h₃
end
end GenW2
namespace L2
open PySem PySem.Spec PyProof.Rows GenW
section
variable {X : Cx}
/-- the reading of a generator's for: W tells what is out too -/
def tGFor (wi : TI) (g : TG) (tb : TGn) : TGn := fun D ys σ H => wi σ H fun J H1 => ∃ W : Nat → Nat → List V → St → Hp → Prop, (∃ m, W 0 m ys σ H1) ∧ ∀ i m ys σ H, W i m ys σ H →
  (J.stop i H ∧ D.nx ys σ H) ∨ (J.go i H ∧ ∃ N : List V → St → Hp → Prop, (∀ ys' σ' H', N ys' σ' H' → ∃ m', m' < m ∧ W (i + 1) m' ys' σ' H') ∧ ∀ x H', J.yld i H x H' → g x σ H' fun σ2 H2 => tb { D with nx := N, ct := N, bk := D.nx } ys σ2 H2)
theorem gs_for {tg iter : Expr} {body : List Stmt} {wi : TI} {g : TG} {tb : TGn} {pos : Pos} (hp : PassesOwn (model X.prog X.w) X.A X.env X.xe) (hc : X.calm = true) (hi : PI X tg iter wi) (hg : PG X tg g) (hb : GSs X body tb)
    (hs : ∀ x, foldedSetIterable iter X.env x = pure x := by intro _; rfl) : GS X (.For tg iter body [] pos) (tGFor wi g tb) := by
  refine ⟨fun A S ip R n ys s₀ c fs K J0 gd lv s σ H D gc hn k hI ht => ?_⟩
  obtain ⟨acc0, cc0, r0, I⟩ := hI
  refine GenW2.seg_For ?_ hs
  rw [gc.over]
  refine wpAny_mono (hi.run _ s σ H _ I ht) (fun v s1 h1 => wpAny_mono h1 (fun itv s2 h2 => ?_) fun x s' hx => k.exc n s₀ x s' hx) fun x s' hx => k.exc n s₀ x s' hx
  obtain ⟨it, fp, tn, J, H2, e, I2, T, st2, f2, W, ⟨m0, w0⟩, turn⟩ := h2
  subst e
  intro p
  have hS : ∀ b ∈ fp, b ≠ S := fun b hb z => (f2 b hb).2.2.2.2.2 (S, lstObj acc0 cc0) (List.mem_append_right _ List.mem_cons_self) z.symm
  have stat : ∀ {H' : Hp} (acc : Array Value) (cc : Nat), (∀ b ∈ fp, H' b = none) → ∀ b ∈ fp, FpOk X ((S, lstObj acc cc) :: ip) H' b := fun acc cc hn b hb => by
    obtain ⟨_, a1, a2, a3, a4, a5⟩ := f2 b hb
    refine ⟨hn b hb, a1, a2, a3, a4, fun q hq => ?_⟩
    rcases List.mem_append.mp hq with hq | hq
    · exact a5 q (List.mem_append_left _ hq)
    · rcases List.mem_cons.mp hq with hq | hq
      · rw [hq]
        exact fun z => hS b hb z.symm
      · exact a5 q (List.mem_append_right _ (List.mem_cons_of_mem _ hq))
  have gl := fun (kk : Result → Sem PySem.Fin) => gc_loop (k := kk) (c' := .forLoop tg (.ref it) body [] X.env) (l := lv []) (kp := []) (p := p) gc rfl rfl
  have gb := fun (kk : Result → Sem PySem.Fin) => gc_loop (k := kk) (c' := .block [] X.env) (l := lv []) (kp := []) (p := p) gc rfl rfl
  have loop : ∀ (m i n : Nat) (ys : List V) (s₀ s : Shared) (σ : St) (H : Hp), n + ys.length = sizeLine → W i m ys σ H → GI X S ip ys σ H s → tn i s.heap → (∀ b ∈ fp, H b = none) →
      Seg (model X.prog X.w) A R (GY X S) n s₀ (.forLoop tg (.ref it) body [] X.env) ((model X.prog X.w).den (.forLoop tg (.ref it) body [] X.env))
        (.ret (fun r => ((match r with | .ok f => (.pure f : Sem Flow) | .error e => .raise e).onRaise (cameBack X.env)).wrap K J0 gd lv) none (gd false) (lv []) c p [] :: fs) s := by
    intro m
    induction m using Nat.strongRecOn with
    | ind m ih =>
      intro i n ys s₀ s3 σ3 H3 hn w3 hI st3 fr3
      have ee : ∀ (n : Nat) (s₀ : Shared) (x : Value) (s' : Shared), X.xe x s' → Seg (model X.prog X.w) A R (GY X S) n s₀ (.forLoop tg (.ref it) body [] X.env)
          ((do noteFrame x X.env; theTreesLotGoes x : Sem Unit).wrap (fun _ => .raise x) .raise id id)
          (.ret (fun r => ((match r with | .ok f => (.pure f : Sem Flow) | .error e => .raise e).onRaise (cameBack X.env)).wrap K J0 gd lv) none (gd false) (lv []) c p [] :: fs) s' := fun n s₀ x s' hx => by
        refine seg_wrap ?_
        rw [(gl _).over]
        refine wpAny_bind (wpAny_mono (hp x s' hx) (fun _ s'' hcb => wpAny_theTreesLotGoes ?_) fun y s'' hcb => ?_)
        · exact seg_leaf (.error x) (seg_cameBack gc k hcb)
        · exact seg_leaf (.error y) (seg_cameBack gc k hcb)
      refine GenW2.seg_forLoop ?_
      rw [(gl _).over]
      obtain ⟨acc, cc, r, I3⟩ := hI
      rcases turn i m ys σ3 H3 w3 with ⟨stop, qn⟩ | ⟨go, N, hN, step⟩
      · refine wpAny_mono (T.done X rfl rfl rfl hc i _ s3 σ3 H3 X.xe I3 (stat acc cc fr3) st3 stop) (fun r0 s4 ⟨hr, I4⟩ => ?_) fun x s' hx => ee n s₀ x s' hx
        subst hr
        exact seg_leaf (.ok .next) (k.ok n ys s₀ s4 .next hn ⟨σ3, H3, ⟨acc, cc, r, I4⟩, qn⟩)
      · refine wpAny_mono (T.item X rfl rfl rfl hc i _ s3 σ3 H3 X.xe I3 (stat acc cc fr3) st3 go) (fun r0 s4 ⟨u, hr, h4⟩ => ?_) fun x s' hx => ee n s₀ x s' hx
        subst hr
        refine wpAny_mono h4 (fun _ s5 ⟨x, H5, I5, r5, y5, st5, fr5⟩ => ?_) fun x s' hx => ee n s₀ x s' hx
        have I5' := I5.pinned (stat acc cc fr5) (T.obj _ _ st5)
        refine wpAny_mono (hg.run _ s5 σ3 H5 x u _ I5' r5 (step x H5 y5)) (fun _ s6 ⟨σ6, H6, I6, q6⟩ => ?_) fun x s' hx => ee n s₀ x s' hx
        have gcb : GC X S (ip ++ pinsAt fp s5.heap) A (.forLoop tg (.ref it) body [] X.env) (.ret (fun r => ((match r with | .ok f => (.pure f : Sem Flow) | .error e => .raise e).onRaise (cameBack X.env)).wrap K J0 gd lv) none (gd false) (lv []) c p [] :: fs) id :=
          { gl _ with ip := fun q hq => (List.mem_append.mp hq).elim (fun z => gc.ip q z) fun z => hS _ (of_pinsAt z).1 }
        have back : ∀ {ys7 : List V} {σ7 : St} {H7 : Hp} {s7 : Shared}, GI X S (ip ++ pinsAt fp s5.heap) ys7 σ7 H7 s7 → GI X S ip ys7 σ7 H7 s7 := fun {ys7 σ7 H7 s7} ⟨a7, c7, r7, I7⟩ => ⟨a7, c7, r7, Inv.unpinned (pins := (S, lstObj a7 c7) :: ip) I7⟩
        have again : ∀ {n' : Nat} {s₀' : Shared} {ys7 : List V} {σ7 : St} {H7 : Hp} {s7 : Shared}, n' + ys7.length = sizeLine → GI X S (ip ++ pinsAt fp s5.heap) ys7 σ7 H7 s7 → N ys7 σ7 H7 →
            Seg (model X.prog X.w) A R (GY X S) n' s₀' (.forLoop tg (.ref it) body [] X.env) ((model X.prog X.w).den (.forLoop tg (.ref it) body [] X.env))
              (.ret (fun r => ((match r with | .ok f => (.pure f : Sem Flow) | .error e => .raise e).onRaise (cameBack X.env)).wrap K J0 gd lv) none (gd false) (lv []) c p [] :: fs) s7 := fun {n' s₀' ys7 σ7 H7 s7} hn7 g7 n7 => by
          obtain ⟨m', hm, w7⟩ := hN ys7 σ7 H7 n7
          obtain ⟨a7, c7, r7, I7⟩ := g7
          refine ih m' hm (i + 1) n' ys7 s₀' s7 σ7 H7 hn7 w7 (back ⟨a7, c7, r7, I7⟩) (T.keep _ _ _ st5 fun b hb o e => (I7.pin (b, o) (List.mem_append_right _ (List.mem_cons_of_mem _ (List.mem_append_right _ (mem_pinsAt hb e))))).1) fun b hb => ?_
          obtain ⟨o, e, d⟩ := T.obj _ _ st5 b hb
          exact (I7.pin (b, o) (List.mem_append_right _ (List.mem_cons_of_mem _ (List.mem_append_right _ (mem_pinsAt hb e))))).2.1
        refine hb.run A S (ip ++ pinsAt fp s5.heap) R n ys s₀ _ _ _ _ id id s6 σ6 H6 { D with nx := N, ct := N, bk := D.nx } gcb hn ⟨fun n' ys' s₀' s7 f hn' hs => ?_, fun n' s₀' x s7 hx => ee n' s₀' x s7 hx⟩ ⟨acc, cc, r, I6⟩ q6
        cases f with
        | next =>
          obtain ⟨σ7, H7, I7, n7⟩ := hs
          exact seg_again rfl (again hn' I7 n7)
        | cont =>
          obtain ⟨σ7, H7, I7, n7⟩ := hs
          exact seg_again rfl (again hn' I7 n7)
        | brk =>
          obtain ⟨σ7, H7, I7, n7⟩ := hs
          exact seg_leaf (.ok .next) (k.ok n' ys' s₀' s7 .next hn' ⟨σ7, H7, back I7, n7⟩)
        | ret v =>
          obtain ⟨v7, σ7, H7, I7, r7, n7⟩ := hs
          exact seg_leaf (.ok (.ret v)) (k.ok n' ys' s₀' s7 (.ret v) hn' ⟨v7, σ7, H7, back I7, r7, n7⟩)
  exact loop m0 0 n ys s₀ s2 σ H2 hn w0 ⟨acc0, cc0, r0, I2⟩ st2 fun b hb => (f2 b hb).1
end
end L2

/-! GenStar: a generator def with a star. -/
namespace GSt
open PySem PySem.Spec PyProof.Rows GenW L2
section
variable {P : Program} {w : World} {K : PySem.W.Frag} {mg : Str → Option Value} {base : Heap} {k : Nat} {f : Addr} {name qual : Str} {params : Arguments} {body : List Stmt} {scope : Scope} {dV kV doc pm cdv ct oc : Value} {an od : Option Addr}
  {osl : Array (Option Value)} {N ps : List Str} {A : Around} {outer : List Env} {s s1 s2 : Shared} {H : Hp} {E : XK} {us : List Value} {vs : List V} {Q : List V → Hp → Prop} {go : Obj} {S : Addr}
abbrev Made (s s1 : Shared) (qual : Str) (scope : Scope) (f : Addr) (cdv : Value) (ps : List Str) (us : List Value) : Prop :=
  InCallC s s.heap.objs.size (bindL (envOfC qual scope s.heap.objs.size f cdv).kindOf (ps.zip us) fun _ => none) (cellsFrom (s.heap.objs.size + 1) scope.names []) (bindC (envOfC qual scope s.heap.objs.size f cdv).kindOf (ps.zip us) fun _ => none) s1
/-- what is laid after the frame is none of the frame's -/
theorem young {pn : List (Addr × Obj)} (I : Inv (gcxOf P w K mg base N qual scope f cdv A outer s H E pn) [] (start N vs) H s1) {b : Addr} (hb : s1.heap.objs.size ≤ b) :
    H b = none ∧ b ≠ s.heap.objs.size ∧ b ∉ frs outer ∧ s.heap.objs.size ≤ b ∧ ∀ y c, (cellsFrom (s.heap.objs.size + 1) scope.names []).lookup y = some c → c ≠ b := by
  have lt : s.heap.objs.size < s1.heap.objs.size := I.lt
  refine ⟨I.hok.fresh hb, Nat.ne_of_gt (Nat.lt_of_lt_of_le lt hb), I.nofs hb, Nat.le_of_lt (Nat.lt_of_lt_of_le lt hb), fun y c e z => ?_⟩
  obtain ⟨v, q⟩ := I.cell y c e
  exact absurd (Nat.lt_of_lt_of_le q.lt (z ▸ hb)) (Nat.lt_irrefl _)
/-- the body begins: the generator's own object is pinned, the consumer's list is empty -/
theorem gi_begin (S0 : GScope N ps scope) (hd : A.handled = none) (e0 : Env0 P w K mg base A outer s H) (hl : vs.length = ps.length) (r : Vals vs us) (x : Made s s1 qual scope f cdv ps us) (hos : s2.os = s.os) (hba : AllBare s2.gens)
    (kp : ∀ b o, s1.heap.get? b = some o → s2.heap.get? b = some o) (hS : s1.heap.objs.size < S) (hSo : ∃ c, s2.heap.get? S = some (lstObj #[] c)) (hg : s2.heap.get? s1.heap.objs.size = some go) (hgd : ∀ v, go.data ≠ .cell v) :
    GI (gcxOf P w K mg base N qual scope f cdv A outer s H E [(s1.heap.objs.size, go)]) S [] [] (start N vs) H s2 ∧ Apart (gcxOf P w K mg base N qual scope f cdv A outer s H E [(s1.heap.objs.size, go)]) S := by
  have I1 := inv_startG (E := E) S0 hd e0 hl r x
  obtain ⟨h1, tk, es1, hk1⟩ := x.done
  have I2 : Inv (gcxOf P w K mg base N qual scope f cdv A outer s H E []) [] (start N vs) H s2 :=
    I1.call' (ch := []) (by rw [hos, es1]) (Un.kept kp) (I1.hok.kept kp) hba fun b z => absurd z (by simp)
  obtain ⟨c, hSo⟩ := hSo
  have yg := young I1 (Nat.le_refl _)
  have yS := young I1 (Nat.le_of_lt hS)
  refine ⟨⟨#[], c, .nil, Inv.pinnedG I2 fun p hp => ?_⟩, yS.2.2.2.1, yS.2.1, yS.2.2.2.2⟩
  have hp : p = (s1.heap.objs.size, go) ∨ p = (S, lstObj #[] c) := by simpa using hp
  rcases hp with rfl | rfl
  · exact ⟨hg, yg.1, yg.2.1, yg.2.2.1, hgd⟩
  · exact ⟨hSo, yS.1, yS.2.1, yS.2.2.1, fun v q => nomatch q⟩
theorem gi_pin {a : Addr} {ip : List (Addr × Obj)} {ys : List V} {σ : L2.St} {H' : Hp} {s' : Shared} (h : GI (gcxOf P w K mg base N qual scope f cdv A outer s H E [(a, go)]) S ip ys σ H' s') : s'.heap.get? a = some go ∧ s'.os = s.os ∧ AllBare s'.gens ∧ s'.heap.NoLimit := by
  obtain ⟨acc, c, _, J⟩ := h
  exact ⟨(J.pin (a, go) (List.mem_append_left _ (List.mem_singleton.mpr rfl))).1, J.os, J.bare, J.nolimit⟩
/-- the body run to its end -/
theorem seg_body {a g : Nat} {t : TGn} (hgen : ∀ h : Heap, h.get? a = some go → h.IsGen a g) (hne : a ≠ S) (hG : GI (gcxOf P w K mg base N qual scope f cdv A outer s H E [(a, go)]) S [] [] (start N vs) H s2)
    (hA : Apart (gcxOf P w K mg base N qual scope f cdv A outer s H E [(a, go)]) S) (ht : GSs (gcxOf P w K mg base N qual scope f cdv A outer s H E [(a, go)]) body t)
    (hq : t { nx := fun ys _ H' => Q ys H', rt := fun ys v H' => v = .non ∧ Q ys H' } [] (start N vs) H) :
    Seg (model P w) A (REnd P w outer H s [] S a g Q E) (YItem s S a g) sizeLine s2 (.func body (envOfC qual scope s.heap.objs.size f cdv)) ((model P w).den (.func body (envOfC qual scope s.heap.objs.size f cdv))) [] s2 := by
  refine seg_func (seg_imp (R := GR (gcxOf P w K mg base N qual scope f cdv A outer s H E [(a, go)]) S (fun ys v H' => v = .non ∧ Q ys H') fun e s' => CX P w outer H s E e s' ∧ s'.heap.get? a = some go)
    (Y := GY (gcxOf P w K mg base N qual scope f cdv A outer s H E [(a, go)]) S) (fun n s₀ r s1' hR => ?_) (fun n s₀ v s1' kap kap' hkk hY => ?_) sizeLine ?_)
  · cases r with
    | error e => exact .inr ⟨e, rfl, hR.1, hgen _ hR.2⟩
    | ok fl =>
      cases fl with
      | next => exact hR.elim
      | brk => exact hR.elim
      | cont => exact hR.elim
      | ret u =>
        obtain ⟨ys, v, ip, σ', H', hn, hI, rv, rfl, hQ⟩ := hR
        obtain rfl : u = Value.none := rv
        obtain ⟨h1, _, _, acc, cc, ra, ea⟩ := hI.at
        have hp := gi_pin hI
        obtain ⟨_, _, _, J⟩ := hI
        exact .inl ⟨.inl rfl, H', ys, acc, cc, hp.2.1, hp.2.2.1, J.base, J.hok, h1, ea, ra, by omega, hQ⟩
  · obtain ⟨ys, xx, ip, σ', H', hn, rx, hI, h3⟩ := hY
    obtain ⟨_, _, _, acc, cc, ra, ea⟩ := hI.at
    have hp := gi_pin hI
    have e1 : ys.length = acc.size := by rw [ra.length]; simp
    exact ⟨hp.2.1, hp.2.2.1, hp.2.2.2, hgen _ hp.1, ⟨acc, cc, ea, by omega⟩, fun s' z => hkk _ _ (h3 s' z)⟩
  · refine ht.run A S [] _ sizeLine [] s2 _ [] _ _ id id s2 (start N vs) H _ ⟨fun p hp => ?_, fun p hp => absurd hp (by simp), hA, over_func, rfl, rfl, rfl⟩ rfl ⟨fun n ys s₀ s' fl hn hs => ?_, fun n s₀ e s' hx => ?_⟩ hG hq
    · rw [List.mem_singleton.mp hp]
      exact hne
    · cases fl with
      | next =>
        obtain ⟨σ', H', hI, hQ⟩ := hs
        exact seg_end (.ok (.ret .none)) ⟨ys, .non, [], σ', H', hn, hI, rfl, rfl, hQ⟩
      | brk => exact hs.choose_spec.choose_spec.2.elim
      | cont => exact hs.choose_spec.choose_spec.2.elim
      | ret u =>
        obtain ⟨v, σ', H', hI, rv, rfl, hQ⟩ := hs
        exact seg_end (.ok (.ret u)) ⟨ys, .non, [], σ', H', hn, hI, rv, rfl, hQ⟩
    · refine seg_wrap ?_
      rw [over_func]
      refine wpAny_mono (show wpAny (model P w) (A.deeper (envOfC qual scope s.heap.objs.size f cdv)) (leaving (envOfC qual scope s.heap.objs.size f cdv) e) (fun _ s'' => CX P w outer H s E e s'' ∧ ∀ p ∈ [(a, go)], s''.heap.get? p.1 = some p.2) (fun _ _ => False) s' from hx) (fun _ s'' q => ?_) fun _ s'' q => q.elim
      exact seg_end (.error e) ⟨q.1, q.2 (a, go) (List.mem_singleton.mpr rfl)⟩
/-- what a call of a generator def gives, once its arguments are bound -/
theorem gmade {t : ∀ (A : Around) (pn : List (Addr × Obj)), TGn} (S0 : GScope N ps scope) (mod : Mod K mg base) (bs : ∀ b o, base.get? b = some o → s.heap.get? b = some o ∧ H b = none) (bsz : base.objs.size ≤ s.heap.objs.size) (funs : s.heap.FunFrames base outer) (frf : ∀ b ∈ frs outer, H b = none) (hok : HOk P w H s.heap) (bare : AllBare s.gens) (lim : s.heap.NoLimit)
    (hl : vs.length = ps.length) (r : Vals vs us) (x : Made s s1 qual scope f cdv ps us) (n0 q0 : Value) (tk2 : Nat) (eg : go = { cls := .type "generator", data := .fields #[.int s1.gens.size 0, n0, q0] })
    (hbody : ∀ (A : Around) (pn : List (Addr × Obj)), Room k (A.deeper (envOfC qual scope s.heap.objs.size f cdv)) → GSs (gcxOf P w K mg base N qual scope f cdv A outer s H E pn) body (t A pn) ∧ t A pn { nx := fun ys _ H' => Q ys H', rt := fun ys v H' => v = .non ∧ Q ys H' } [] (start N vs) H) :
    GMade P w (k + 1) outer H s [] Q E (.ref s1.heap.objs.size) { s1 with gens := s1.gens.push (.fresh (.func body (envOfC qual scope s.heap.objs.size f cdv))), toks := tk2, heap := s1.heap.push go } := by
  have lim1 : s1.heap.NoLimit := lim.keeps x.toInCall.keep
  have lt1 : s.heap.objs.size < s1.heap.objs.size := x.toInCall.ns.lt
  have kp1 : ∀ b o, s.heap.get? b = some o → s1.heap.get? b = some o := x.toInCall.keep
  obtain ⟨h1, tk, es1, hk1⟩ := id x.done
  have hp : (s1.heap.push go).get? s1.heap.objs.size = some go := Heap.get?_push_size _ (by rw [eg]; rfl)
  have hgen : ∀ h : Heap, h.get? s1.heap.objs.size = some go → h.IsGen s1.heap.objs.size s1.gens.size := fun h e => ⟨go, n0, q0, e, by rw [eg], by rw [eg], by rw [eg]⟩
  have hsz : (s1.heap.push go).objs.size = s1.heap.objs.size + 1 := Heap.size_push ..
  refine ⟨s1.heap.objs.size, s1.gens.size, _, rfl, Nat.le_of_lt lt1, by rw [hsz]; exact Nat.lt_succ_self _, hgen _ hp, Array.getElem?_push_size .., by rw [es1], AllBare.push (by rw [es1]; exact bare) rfl, lim1.keeps fun b o e => Heap.get?_push_of_some _ e, fun b o e => Heap.get?_push_of_some _ (kp1 b o e), ?_⟩
  intro Aw Sx s2 hrw hfr hSx hk2 hSo hos hba
  have hS : s1.heap.objs.size < Sx := by
    have hSx : (s1.heap.push go).objs.size ≤ Sx := hSx
    rw [hsz] at hSx
    exact hSx
  have e0 : Env0 P w K mg base Aw outer s H := ⟨hfr, mod, bs, bsz, funs, frf, hok, bare⟩
  obtain ⟨ht, hq⟩ := hbody Aw [(s1.heap.objs.size, go)] (hrw.deeper _)
  obtain ⟨hG, hA⟩ := gi_begin (E := E) S0 hrw.hd e0 hl r x hos hba (fun b o e => hk2 b o (Heap.get?_push_of_some _ e)) hS hSo (hk2 _ _ hp) (fun v q => by rw [eg] at q; cases q)
  exact seg_body hgen (Nat.ne_of_lt hS) hG hA ht hq
end
/-- a generator def's promise by positional values: its own tuple may have been laid -/
def GFnR (P : Program) (w : World) (K : PySem.W.Frag) (mg : Str → Option Value) (base : Heap) (k : Nat) (f : Addr) (sp : SpG) : Prop :=
  ∀ (A : Around) (outer : List Env) (s : Shared) (H : Hp) (us : List Value) (vs : List V) (Q : List V → Hp → Prop) (E : XK), Room k A → Env0 P w K mg base A outer s H → Vals vs us → sp vs H Q E →
    codeAny (model P w) A (.call (.ref f) ⟨us, []⟩) (fun r s' => match r with | .ok (.ret u) => ∃ (H2 : Hp) (s2 : Shared), (∀ (X : Cx) (pins : List (Addr × Obj)) (σ : L2.St), X.prog = P → X.w = w → Inv X pins σ H s → Inv X pins σ H2 s2) ∧ GMade P w k outer H2 s2 [] Q E u s' | _ => False) s
section
variable {P : Program} {w : World} {K : PySem.W.Frag} {mg : Str → Option Value} {base : Heap} {k : Nat} {f : Addr} {name qual : Str} {params : Arguments} {body : List Stmt} {scope : Scope} {dV kV doc pm cdv ct oc : Value} {an od : Option Addr}
  {osl : Array (Option Value)} {N ps : List Str} {sp : SpG}
/-- THE RULE: a generator def with a star, by its body -/
theorem gfn_star {pv : Str} (lk : K.lookup f = some ⟨oc, od, .func (PySem.W.fnOf name qual params body scope dV kV doc pm an cdv ct), osl⟩) (hcd : PySem.W.codeIn K cdv qual = true) (S : GScope N (ps ++ [pv]) scope)
    (hb : ∀ us rest : List Value, us.length = ps.length → bindArgs (PySem.W.fnOf name qual params body scope dV kV doc pm an cdv ct) ⟨us ++ rest, []⟩ = (newTuple rest >>= fun t => pure (ps.zip us ++ [(pv, t)])))
    (hbody : ∀ (A : Around) (outer : List Env) (s : Shared) (H : Hp) (vs : List V) (Q : List V → Hp → Prop) (E : XK) (pn : List (Addr × Obj)), Room k (A.deeper (envOfC qual scope s.heap.objs.size f cdv)) → sp vs H Q E →
      ∃ t, GSs (gcxOf P w K mg base N qual scope f cdv A outer s H E pn) body t ∧ t { nx := fun ys _ H' => Q ys H', rt := fun ys v H' => v = .non ∧ Q ys H' } [] (start N vs) H) :
    GFnR P w K mg base (k + 1) f (fun vs H Q E => ∃ ws rest, vs = ws ++ rest ∧ ws.length = ps.length ∧ rest.length ≤ sizeLine ∧ ∀ p, H p = Option.none → sp (ws ++ [V.ref p]) (upd H p (.tup rest)) Q E) := by
  intro A outer s H us vs Q E hr e0 r hsp
  obtain ⟨ws, rest, ev, hl, hz, hq⟩ := hsp
  subst ev
  obtain ⟨u1, u2, eu, r1, r2⟩ := StX.vals_split r
  subst eu
  have hn : H s.heap.objs.size = Option.none := e0.hok.fresh (Nat.le_refl _)
  have hl1 : u1.length = ps.length := by rw [← r1.length]; exact hl
  have hl2 : u2.length ≤ sizeLine := by rw [← r2.length]; exact hz
  have KX : K.In s.heap := e0.mod.kin.keeps fun b o e => (e0.bs b o e).1
  refine codeAny_call_generator hr.depth (KX _ _ lk) rfl S.co S.gen rfl (PySem.W.codeRec_of KX hcd) ?_
  rw [hb u1 u2 hl1]
  refine wpAny_bind (wpAny_newTuple (wpAny_pure ?_) hl2)
  have new : ObjOk P w (upd H s.heap.objs.size (.tup rest)) (s.heap.push ({ cls := .type "tuple", data := .seq u2.toArray } : Obj)) s.heap.objs.size (.tup rest) := ⟨hz, u2, r2, ⟨_, Heap.get?_push_size _ rfl, rfl, _, rfl⟩⟩
  have e2 := StX.env0_laid e0 new
  have conv : ∀ (X : Cx) (pins : List (Addr × Obj)) (σ : L2.St), X.prog = P → X.w = w → Inv X pins σ H s → Inv X pins σ (upd H s.heap.objs.size (.tup rest)) { s with heap := s.heap.push ({ cls := .type "tuple", data := .seq u2.toArray } : Obj) } := fun X pins σ eP ew I => by
    subst eP ew
    exact I.laid (t' := s.toks) (fun b o q => Heap.get?_push_of_some _ q) (Nat.le_refl _) new
  have hq := hq _ hn
  have rr : Vals (ws ++ [V.ref s.heap.objs.size]) (u1 ++ [Value.ref s.heap.objs.size]) := r1.append (.cons rfl .nil)
  have ll : (ws ++ [V.ref s.heap.objs.size]).length = (ps ++ [pv]).length := by rw [List.length_append, List.length_append, hl] <;> rfl
  have ez : ps.zip u1 ++ [(pv, Value.ref s.heap.objs.size)] = (ps ++ [pv]).zip (u1 ++ [Value.ref s.heap.objs.size]) := by rw [List.zip_append hl1.symm] <;> rfl
  rw [ez]
  generalize hs2 : ({ s with heap := s.heap.push ({ cls := .type "tuple", data := .seq u2.toArray } : Obj) } : Shared) = s2 at e2 conv
  have hkind : ∀ y ∈ (ps ++ [pv]).zip (u1 ++ [Value.ref s.heap.objs.size]), scope.names.lookup y.1 = some .local ∨ (scope.names.lookup y.1 = some .cell ∧ ((cellsFrom (s2.heap.objs.size + 1) scope.names []).lookup y.1).isSome = true) := fun y hy => by
    rcases S.par y.1 (List.of_mem_zip hy).1 with q | q
    · exact .inl q
    · exact .inr ⟨q, PySem.W.cellsFrom_some _ _ _ (.inl q)⟩
  have lim2 : s2.heap.NoLimit := e2.mod.nolimit.keeps fun b o e => (e2.bs b o e).1
  refine wpAny_newFunctionEnv_cells (s := s2) S.kind hkind fun env he s1 x => ?_
  subst he
  refine ⟨lim2.keeps x.toInCall.keep, _, s2, conv, ?_⟩
  classical
  refine gmade (t := fun A' pn => if h : Room k (A'.deeper (envOfC qual scope s2.heap.objs.size f cdv)) then (hbody A' outer s2 _ _ Q E pn h hq).choose else fun _ _ _ _ => True) S e2.mod e2.bs e2.bsz e2.funs e2.frf e2.hok e2.bare lim2 ll rr x _ _ _ rfl fun A' pn h => ?_
  rw [dif_pos h]
  exact (hbody A' outer s2 _ _ Q E pn h hq).choose_spec
end
section
variable {X : Cx} {k : Nat} {f : Addr} {sp : SpG} {E : XK} {e : Expr} {es : List Expr} {t : TA} {x : Str} {p pos' : Pos}
/-- f(e, ..) of a generator def with a star -/
theorem pgen_callR (F : GFnR X.prog X.w X.K X.mg X.base k f sp) (hr : Room k X.A) (hg : Gl X x) (hm : X.mg x = some (.ref f)) (hk : PySem.W.keepIn X.K (.ref f) = true)
    (ha : PA X (e :: es) t) (hdb : (x == ("__debug__" : Str)) = false := by decide) (he : starEach (e :: es) X.env = (false, eval e X.env) :: starEach es X.env := by rfl) (hpl : (backTo pos' (starEach es X.env)).any (·.1) = false := by rfl) :
    PGen X k (.Call (.Name x p) (e :: es) [] pos') (tCallG sp [] E t) E := by
  refine ⟨fun pins s σ H cont I h => ?_⟩
  refine wpAny_Call_Name_kw (ld_glob I hg hm ?_ hdb)
  refine PySem.W.callWith_K (h₀ := X.base) I.ok.mod.kin hk (thn (ha.run pos' pins s σ H _ I h) fun us s1 ⟨vs, H1, I1, r, q⟩ => ⟨I1.kIn, ?_⟩) he hpl
  have q : sp (vs ++ []) H1 cont E := q
  rw [List.append_nil] at q
  refine wpAny_call (codeAny_mono (F X.A X.stack s1 H1 us vs cont E hr I1.env0 r q) fun r s' hq => ?_)
  cases r with
  | error e => exact False.elim hq
  | ok fl =>
    cases fl with
    | ret u =>
      obtain ⟨H2, s2, conv, hG⟩ := hq
      exact ⟨H2, s2, [], conv X pins σ rfl rfl I1, .nil, hG⟩
    | next => exact False.elim hq
    | brk => exact False.elim hq
    | cont => exact False.elim hq
end
/-- a generator's for over what walks: Pv by the turn, what is out, the slots and the heap -/
theorem gfor_it {J : It} {n : Nat} {G : Hp → Prop} {Y : Nat → Hp → V → Hp → Prop} (w : Walk J n G Y) {g : TG} {tb : TGn} {D : GEnds} {ys : List V} {σ : L2.St} {H : Hp} (Pv : Nat → List V → L2.St → Hp → Prop) (h0 : Pv 0 ys σ H) (hG : ∀ i ys σ H, i ≤ n → Pv i ys σ H → G H)
    (hs : ∀ i x ys σ H H', i < n → Pv i ys σ H → Y i H x H' → g x σ H' fun σ2 H2 => tb { D with nx := Pv (i + 1), ct := Pv (i + 1), bk := D.nx } ys σ2 H2) (hd : ∀ ys σ H, Pv n ys σ H → D.nx ys σ H) :
    ∃ W : Nat → Nat → List V → L2.St → Hp → Prop, (∃ m, W 0 m ys σ H) ∧ ∀ i m ys σ H, W i m ys σ H →
      (J.stop i H ∧ D.nx ys σ H) ∨ (J.go i H ∧ ∃ N : List V → L2.St → Hp → Prop, (∀ ys' σ' H', N ys' σ' H' → ∃ m', m' < m ∧ W (i + 1) m' ys' σ' H') ∧ ∀ x H', J.yld i H x H' → g x σ H' fun σ2 H2 => tb { D with nx := N, ct := N, bk := D.nx } ys σ2 H2) := by
  refine ⟨fun i m ys σ H => m = n - i ∧ i ≤ n ∧ Pv i ys σ H, ⟨n, rfl, Nat.zero_le _, h0⟩, ?_⟩
  rintro i m ys σ H ⟨rfl, hi, p⟩
  have q := hG i ys σ H hi p
  rcases Nat.lt_or_ge i n with hlt | hge
  · exact .inr ⟨w.goes i H hlt q, Pv (i + 1), fun ys' σ' H' p' => ⟨n - (i + 1), by omega, rfl, hlt, p'⟩, fun x H' y => hs i x ys σ H H' hlt p (w.yields i H x H' hlt q y)⟩
  · obtain rfl : i = n := by omega
    exact .inl ⟨w.stops H q, hd ys σ H p⟩
end GSt

namespace RD
open PySem PySem.Spec PyProof.Rows L2
def top (i : Nat) : Stmt := PySem.Challenge.pw_rowdominoes_k11_repeated_calls.main.body.getD i (.Pass ⟨0, 0, 0, 0⟩)
abbrev s_InvalidRow_init : Stmt := inClass (top 3) 0
abbrev s_AlreadyFallen_init : Stmt := inClass (top 7) 0
abbrev s_is_number : Stmt := top 10
abbrev s_check_number : Stmt := top 11
abbrev s_check_stone : Stmt := top 12
abbrev s_check_side : Stmt := top 13
abbrev s_stones_beside : Stmt := top 17
abbrev s_felled_by : Stmt := top 18
abbrev s_is_stone : Stmt := top 19
abbrev s_Row_init : Stmt := inClass (top 20) 1
abbrev s_Row_stones : Stmt := inClass (top 20) 3
abbrev s_Row_places : Stmt := inClass (top 20) 4
abbrev s_Row_len : Stmt := inClass (top 20) 5
abbrev s_Row_getitem : Stmt := inClass (top 20) 6
abbrev s_Row_iter : Stmt := inClass (top 20) 7
abbrev s_Row_contains : Stmt := inClass (top 20) 8
abbrev s_Row_add : Stmt := inClass (top 20) 9
abbrev s_Row_rshift : Stmt := inClass (top 20) 10
abbrev s_Row_invert : Stmt := inClass (top 20) 11
abbrev s_Row_eq : Stmt := inClass (top 20) 12
abbrev s_Row_call : Stmt := inClass (top 20) 13
abbrev s_fall_ticks : Stmt := top 22
abbrev s_reaches : Stmt := top 23
abbrev s_greatest_runs : Stmt := top 25
abbrev s_is_within_another : Stmt := top 26
abbrev s_fewest_to_side : Stmt := top 27
abbrev s_spared_without : Stmt := top 28
abbrev s_felled_without : Stmt := top 29
abbrev s_falls_by : Stmt := top 30
abbrev s_fewest_pushes : Stmt := top 31
abbrev s_fewest_up_to : Stmt := top 32
abbrev s_distance : Stmt := top 34
abbrev s_reaches2 : Stmt := top 35
abbrev s_fewest_taken : Stmt := top 37
abbrev s_reaching_between : Stmt := top 38
abbrev s_least_heights : Stmt := top 39
abbrev s_height_for_run : Stmt := top 40
abbrev s_run_end : Stmt := top 41
abbrev s_last_hit : Stmt := top 46
abbrev s_next_front : Stmt := top 47
abbrev s_fronts_of_wave : Stmt := top 48
abbrev s_first_repeat : Stmt := top 49
abbrev s_EndlessRow_init : Stmt := inClass (top 50) 0
abbrev s_EndlessRow_row : Stmt := inClass (top 50) 1
abbrev s_EndlessRow_period : Stmt := inClass (top 50) 2
abbrev s_EndlessRow_wave : Stmt := inClass (top 50) 3
abbrev s_Wave_init : Stmt := inClass (top 51) 0
abbrev s_Wave_is_endless : Stmt := inClass (top 51) 1
abbrev s_Wave_last_fallen : Stmt := inClass (top 51) 2
abbrev s_Wave_count_after : Stmt := inClass (top 51) 3
abbrev s_Wave_front_after : Stmt := inClass (top 51) 4
abbrev s_Wave_tick_of : Stmt := inClass (top 51) 5
abbrev s_Wave_first_tick : Stmt := inClass (top 51) 6
abbrev s_law_taken : Stmt := top 53
abbrev s_law_alike : Stmt := top 54
abbrev s_law_stones : Stmt := top 55
abbrev s_law_row : Stmt := top 56
abbrev s_law_told : Stmt := top 57
abbrev s_law_kept : Stmt := top 58
abbrev s_law : Stmt := top 59
abbrev n_is_number : List Str := ["value", "least", "greatest"]
theorem sc_is_number : FnScope ["value", "least", "greatest"] ["value", "least", "greatest"] (defScope s_is_number) := ⟨rfl, rfl, rfl, by decide +kernel, rfl, by decide +kernel, by decide +kernel⟩
abbrev n_check_number : List Str := ["value", "least", "greatest"]
theorem sc_check_number : FnScope ["value", "least", "greatest"] ["value", "least", "greatest"] (defScope s_check_number) := ⟨rfl, rfl, rfl, by decide +kernel, rfl, by decide +kernel, by decide +kernel⟩
abbrev n_check_stone : List Str := ["stone", "count"]
theorem sc_check_stone : FnScope ["stone", "count"] ["stone", "count"] (defScope s_check_stone) := ⟨rfl, rfl, rfl, by decide +kernel, rfl, by decide +kernel, by decide +kernel⟩
abbrev n_check_side : List Str := ["side"]
theorem sc_check_side : FnScope ["side"] ["side"] (defScope s_check_side) := ⟨rfl, rfl, rfl, by decide +kernel, rfl, by decide +kernel, by decide +kernel⟩
abbrev n_stones_beside : List Str := ["stone", "side", "count"]
theorem sc_stones_beside : FnScope ["stone", "side", "count"] ["stone", "side", "count"] (defScope s_stones_beside) := ⟨rfl, rfl, rfl, by decide +kernel, rfl, by decide +kernel, by decide +kernel⟩
abbrev n_felled_by : List Str := ["stones", "standing", "stone", "side", "start", "reach", "felled", "other", "place", "height", "distance"]
theorem sc_felled_by : FnScope ["stones", "standing", "stone", "side", "start", "reach", "felled", "other", "place", "height", "distance"] ["stones", "standing", "stone", "side"] (defScope s_felled_by) := ⟨rfl, rfl, rfl, by decide +kernel, rfl, by decide +kernel, by decide +kernel⟩
abbrev n_is_stone : List Str := ["stone", "least_place", "place", "height"]
theorem sc_is_stone : FnScope ["stone", "least_place", "place", "height"] ["stone", "least_place"] (defScope s_is_stone) := ⟨rfl, rfl, rfl, by decide +kernel, rfl, by decide +kernel, by decide +kernel⟩
abbrev n_Row_init : List Str := ["self", "stones", "least_place", "index", "stone"]
theorem sc_Row_init : FnScope ["self", "stones", "least_place", "index", "stone"] ["self", "stones"] (defScope s_Row_init) := ⟨rfl, rfl, rfl, by decide +kernel, rfl, by decide +kernel, by decide +kernel⟩
abbrev n_Row_stones : List Str := ["self"]
theorem sc_Row_stones : FnScope ["self"] ["self"] (defScope s_Row_stones) := ⟨rfl, rfl, rfl, by decide +kernel, rfl, by decide +kernel, by decide +kernel⟩
abbrev n_Row_places : List Str := ["self", "place", "_"]
theorem sc_Row_places : FnScope ["self", "place", "_"] ["self"] (defScope s_Row_places) := ⟨rfl, rfl, rfl, by decide +kernel, rfl, by decide +kernel, by decide +kernel⟩
abbrev n_Row_len : List Str := ["self"]
theorem sc_Row_len : FnScope ["self"] ["self"] (defScope s_Row_len) := ⟨rfl, rfl, rfl, by decide +kernel, rfl, by decide +kernel, by decide +kernel⟩
abbrev n_Row_getitem : List Str := ["self", "stone"]
theorem sc_Row_getitem : FnScope ["self", "stone"] ["self", "stone"] (defScope s_Row_getitem) := ⟨rfl, rfl, rfl, by decide +kernel, rfl, by decide +kernel, by decide +kernel⟩
abbrev n_Row_iter : List Str := ["self"]
theorem sc_Row_iter : FnScope ["self"] ["self"] (defScope s_Row_iter) := ⟨rfl, rfl, rfl, by decide +kernel, rfl, by decide +kernel, by decide +kernel⟩
abbrev n_Row_contains : List Str := ["self", "place"]
theorem sc_Row_contains : FnScope ["self", "place"] ["self", "place"] (defScope s_Row_contains) := ⟨rfl, rfl, rfl, by decide +kernel, rfl, by decide +kernel, by decide +kernel⟩
abbrev n_Row_add : List Str := ["self", "other", "stones"]
theorem sc_Row_add : FnScope ["self", "other", "stones"] ["self", "other"] (defScope s_Row_add) := ⟨rfl, rfl, rfl, by decide +kernel, rfl, by decide +kernel, by decide +kernel⟩
abbrev n_Row_rshift : List Str := ["self", "distance", "stones", "place", "height"]
theorem sc_Row_rshift : FnScope ["self", "distance", "stones", "place", "height"] ["self", "distance"] (defScope s_Row_rshift) := ⟨rfl, rfl, rfl, by decide +kernel, rfl, by decide +kernel, by decide +kernel⟩
abbrev n_Row_invert : List Str := ["self", "places", "stones", "place", "height"]
theorem sc_Row_invert : FnScope ["self", "places", "stones", "place", "height"] ["self"] (defScope s_Row_invert) := ⟨rfl, rfl, rfl, by decide +kernel, rfl, by decide +kernel, by decide +kernel⟩
abbrev n_Row_eq : List Str := ["self", "other"]
theorem sc_Row_eq : FnScope ["self", "other"] ["self", "other"] (defScope s_Row_eq) := ⟨rfl, rfl, rfl, by decide +kernel, rfl, by decide +kernel, by decide +kernel⟩
abbrev n_Row_call : List Str := ["self", "stone", "side", "standing", "felled"]
theorem sc_Row_call : FnScope ["self", "stone", "side", "standing", "felled"] ["self", "stone", "side"] (defScope s_Row_call) := ⟨rfl, rfl, rfl, by decide +kernel, rfl, by decide +kernel, by decide +kernel⟩
abbrev n_fall_ticks : List Str := ["row", "stone", "side", "stones", "ticks", "other", "hits", "fallen"]
theorem sc_fall_ticks : FnScope ["row", "stone", "side", "stones", "ticks", "other", "hits", "fallen"] ["row", "stone", "side"] (defScope s_fall_ticks) := ⟨rfl, rfl, rfl, by decide +kernel, rfl, by decide +kernel, by decide +kernel⟩
abbrev n_reaches : List Str := ["stone", "other", "place", "height"]
theorem sc_reaches : FnScope ["stone", "other", "place", "height"] ["stone", "other"] (defScope s_reaches) := ⟨rfl, rfl, rfl, by decide +kernel, rfl, by decide +kernel, by decide +kernel⟩
abbrev n_greatest_runs : List Str := ["row", "side", "runs", "stone", "run"]
theorem sc_greatest_runs : FnScope ["row", "side", "runs", "stone", "run"] ["row", "side"] (defScope s_greatest_runs) := ⟨rfl, rfl, rfl, by decide +kernel, rfl, by decide +kernel, by decide +kernel⟩
abbrev n_is_within_another : List Str := ["run", "runs", "first", "last", "other"]
theorem sc_is_within_another : FnScope ["run", "runs", "first", "last", "other"] ["run", "runs"] (defScope s_is_within_another) := ⟨rfl, rfl, rfl, by decide +kernel, rfl, by decide +kernel, by decide +kernel⟩
abbrev n_fewest_to_side : List Str := ["row", "side", "runs", "first", "_", "last"]
theorem sc_fewest_to_side : FnScope ["row", "side", "runs", "first", "_", "last"] ["row", "side"] (defScope s_fewest_to_side) := ⟨rfl, rfl, rfl, by decide +kernel, rfl, by decide +kernel, by decide +kernel⟩
abbrev n_spared_without : List Str := ["row", "stone", "side", "other", "first", "last", "felled", "spared"]
theorem sc_spared_without : FnScope ["row", "stone", "side", "other", "first", "last", "felled", "spared"] ["row", "stone", "side", "other"] (defScope s_spared_without) := ⟨rfl, rfl, rfl, by decide +kernel, rfl, by decide +kernel, by decide +kernel⟩
abbrev n_felled_without : List Str := ["row", "stone", "side", "other", "standing", "number"]
theorem sc_felled_without : FnScope ["row", "stone", "side", "other", "standing", "number"] ["row", "stone", "side", "other"] (defScope s_felled_without) := ⟨rfl, rfl, rfl, by decide +kernel, rfl, by decide +kernel, by decide +kernel⟩
abbrev n_falls_by : List Str := ["row", "pushes", "stones", "standing", "index", "stone", "side", "felled", "fallen"]
theorem sc_falls_by : GScope ["row", "pushes", "stones", "standing", "index", "stone", "side", "felled", "fallen"] ["row", "pushes"] (defScope s_falls_by) := ⟨rfl, rfl, rfl, by decide +kernel, rfl, by decide +kernel, by decide +kernel⟩
abbrev n_fewest_pushes : List Str := ["row", "pushes_for", "last"]
theorem sc_fewest_pushes : FnScope ["row", "pushes_for", "last"] ["row"] (defScope s_fewest_pushes) := ⟨rfl, rfl, rfl, by decide +kernel, rfl, by decide +kernel, by decide +kernel⟩
abbrev n_fewest_up_to : List Str := ["row", "last", "pushes_for", "first", "_", "best", "stone", "pushes"]
theorem sc_fewest_up_to : FnScope ["row", "last", "pushes_for", "first", "_", "best", "stone", "pushes"] ["row", "last", "pushes_for"] (defScope s_fewest_up_to) := ⟨rfl, rfl, rfl, by decide +kernel, rfl, by decide +kernel, by decide +kernel⟩
abbrev n_distance : List Str := ["row", "stone", "other"]
theorem sc_distance : FnScope ["row", "stone", "other"] ["row", "stone", "other"] (defScope s_distance) := ⟨rfl, rfl, rfl, by decide +kernel, rfl, by decide +kernel, by decide +kernel⟩
abbrev n_reaches2 : List Str := ["row", "stone", "other", "_", "height"]
theorem sc_reaches2 : FnScope ["row", "stone", "other", "_", "height"] ["row", "stone", "other"] (defScope s_reaches2) := ⟨rfl, rfl, rfl, by decide +kernel, rfl, by decide +kernel, by decide +kernel⟩
abbrev n_fewest_taken : List Str := ["row", "stone", "side", "goal", "first", "last", "fewest", "spared", "taken"]
theorem sc_fewest_taken : FnScope ["row", "stone", "side", "goal", "first", "last", "fewest", "spared", "taken"] ["row", "stone", "side", "goal"] (defScope s_fewest_taken) := ⟨rfl, rfl, rfl, by decide +kernel, rfl, by decide +kernel, by decide +kernel⟩
abbrev n_reaching_between : List Str := ["row", "stone", "spared", "between", "other"]
theorem sc_reaching_between : FnScope ["row", "stone", "spared", "between", "other"] ["row", "stone", "spared"] (defScope s_reaching_between) := ⟨rfl, rfl, rfl, by decide +kernel, rfl, by decide +kernel, by decide +kernel⟩
abbrev n_least_heights : List Str := ["row", "side", "stone"]
theorem sc_least_heights : FnScope ["row", "side", "stone"] ["row"] (defScope s_least_heights) := ⟨rfl, rfl, rfl, by decide +kernel, rfl, by decide +kernel, by decide +kernel⟩
abbrev n_height_for_run : List Str := ["row", "stone", "side", "other"]
theorem sc_height_for_run : FnScope ["row", "stone", "side", "other"] ["row", "stone", "side"] (defScope s_height_for_run) := ⟨rfl, rfl, rfl, by decide +kernel, rfl, by decide +kernel, by decide +kernel⟩
abbrev n_run_end : List Str := ["row", "stone", "side", "first", "last"]
theorem sc_run_end : FnScope ["row", "stone", "side", "first", "last"] ["row", "stone", "side"] (defScope s_run_end) := ⟨rfl, rfl, rfl, by decide +kernel, rfl, by decide +kernel, by decide +kernel⟩
abbrev n_last_hit : List Str := ["row", "period", "stone", "place", "height", "start", "rounds", "rest", "reached", "other"]
theorem sc_last_hit : FnScope ["row", "period", "stone", "place", "height", "start", "rounds", "rest", "reached", "other"] ["row", "period", "stone"] (defScope s_last_hit) := ⟨rfl, rfl, rfl, by decide +kernel, rfl, by decide +kernel, by decide +kernel⟩
abbrev n_next_front : List Str := ["hits", "first", "front", "count", "reached", "ordinal", "number", "stone"]
theorem sc_next_front : FnScope ["hits", "first", "front", "count", "reached", "ordinal", "number", "stone"] ["hits", "first", "front"] (defScope s_next_front) := ⟨rfl, rfl, rfl, by decide +kernel, rfl, by decide +kernel, by decide +kernel⟩
abbrev n_fronts_of_wave : List Str := ["hits", "first", "fronts", "_", "front"]
theorem sc_fronts_of_wave : FnScope ["hits", "first", "fronts", "_", "front"] ["hits", "first"] (defScope s_fronts_of_wave) := ⟨rfl, rfl, rfl, by decide +kernel, rfl, by decide +kernel, by decide +kernel⟩
abbrev n_first_repeat : List Str := ["fronts", "count", "tick_with", "tick", "front", "_", "stone", "earlier"]
theorem sc_first_repeat : FnScope ["fronts", "count", "tick_with", "tick", "front", "_", "stone", "earlier"] ["fronts", "count"] (defScope s_first_repeat) := ⟨rfl, rfl, rfl, by decide +kernel, rfl, by decide +kernel, by decide +kernel⟩
abbrev n_EndlessRow_init : List Str := ["self", "row", "period"]
theorem sc_EndlessRow_init : FnScope ["self", "row", "period"] ["self", "row", "period"] (defScope s_EndlessRow_init) := ⟨rfl, rfl, rfl, by decide +kernel, rfl, by decide +kernel, by decide +kernel⟩
abbrev n_EndlessRow_row : List Str := ["self"]
theorem sc_EndlessRow_row : FnScope ["self"] ["self"] (defScope s_EndlessRow_row) := ⟨rfl, rfl, rfl, by decide +kernel, rfl, by decide +kernel, by decide +kernel⟩
abbrev n_EndlessRow_period : List Str := ["self"]
theorem sc_EndlessRow_period : FnScope ["self"] ["self"] (defScope s_EndlessRow_period) := ⟨rfl, rfl, rfl, by decide +kernel, rfl, by decide +kernel, by decide +kernel⟩
abbrev n_EndlessRow_wave : List Str := ["self", "stone"]
theorem sc_EndlessRow_wave : FnScope ["self", "stone"] ["self", "stone"] (defScope s_EndlessRow_wave) := ⟨rfl, rfl, rfl, by decide +kernel, rfl, by decide +kernel, by decide +kernel⟩
abbrev n_Wave_init : List Str := ["self", "row", "period", "stone", "hits", "other"]
theorem sc_Wave_init : FnScope ["self", "row", "period", "stone", "hits", "other"] ["self", "row", "period", "stone"] (defScope s_Wave_init) := ⟨rfl, rfl, rfl, by decide +kernel, rfl, by decide +kernel, by decide +kernel⟩
abbrev n_Wave_is_endless : List Str := ["self"]
theorem sc_Wave_is_endless : FnScope ["self"] ["self"] (defScope s_Wave_is_endless) := ⟨rfl, rfl, rfl, by decide +kernel, rfl, by decide +kernel, by decide +kernel⟩
abbrev n_Wave_last_fallen : List Str := ["self"]
theorem sc_Wave_last_fallen : FnScope ["self"] ["self"] (defScope s_Wave_last_fallen) := ⟨rfl, rfl, rfl, by decide +kernel, rfl, by decide +kernel, by decide +kernel⟩
abbrev n_Wave_count_after : List Str := ["self", "tick"]
theorem sc_Wave_count_after : FnScope ["self", "tick"] ["self", "tick"] (defScope s_Wave_count_after) := ⟨rfl, rfl, rfl, by decide +kernel, rfl, by decide +kernel, by decide +kernel⟩
abbrev n_Wave_front_after : List Str := ["self", "tick", "start", "ticks", "stones", "times", "rest"]
theorem sc_Wave_front_after : FnScope ["self", "tick", "start", "ticks", "stones", "times", "rest"] ["self", "tick"] (defScope s_Wave_front_after) := ⟨rfl, rfl, rfl, by decide +kernel, rfl, by decide +kernel, by decide +kernel⟩
abbrev n_Wave_tick_of : List Str := ["self", "number", "stone", "ordinal", "start", "ticks", "stones", "times"]
theorem sc_Wave_tick_of : FnScope ["self", "number", "stone", "ordinal", "start", "ticks", "stones", "times"] ["self", "number", "stone"] (defScope s_Wave_tick_of) := ⟨rfl, rfl, rfl, by decide +kernel, rfl, by decide +kernel, by decide +kernel⟩
abbrev n_Wave_first_tick : List Str := ["self", "ordinal", "tick", "front"]
theorem sc_Wave_first_tick : FnScope ["self", "ordinal", "tick", "front"] ["self", "ordinal"] (defScope s_Wave_first_tick) := ⟨rfl, rfl, rfl, by decide +kernel, rfl, by decide +kernel, by decide +kernel⟩
abbrev n_law_taken : List Str := ["_law_row_here", "_law_many", "_law_found", "_law_cell"]
theorem sc_law_taken : FnScope ["_law_row_here", "_law_many", "_law_found", "_law_cell"] ["_law_row_here", "_law_many"] (defScope s_law_taken) := ⟨rfl, rfl, rfl, by decide +kernel, rfl, by decide +kernel, by decide +kernel⟩
abbrev n_law_alike : List Str := ["_law_one", "_law_due", "_law_k"]
theorem sc_law_alike : FnScope ["_law_one", "_law_due", "_law_k"] ["_law_one", "_law_due"] (defScope s_law_alike) := ⟨rfl, rfl, rfl, by decide +kernel, rfl, by decide +kernel, by decide +kernel⟩
abbrev n_law_stones : List Str := ["_law_row_here", "_law_most", "_law_found", "_law_place", "_law_k"]
theorem sc_law_stones : FnScope ["_law_row_here", "_law_most", "_law_found", "_law_place", "_law_k"] ["_law_row_here", "_law_most"] (defScope s_law_stones) := ⟨rfl, rfl, rfl, by decide +kernel, rfl, by decide +kernel, by decide +kernel⟩
abbrev n_law_row : List Str := ["_law_stones_here", "_law_row_here", "_law_stone"]
theorem sc_law_row : FnScope ["_law_stones_here", "_law_row_here", "_law_stone"] ["_law_stones_here"] (defScope s_law_row) := ⟨rfl, rfl, rfl, by decide +kernel, rfl, by decide +kernel, by decide +kernel⟩
abbrev n_law_told : List Str := ["_law_one", "_law_last", "_law_told_here", "_law_wave"]
theorem sc_law_told : FnScope ["_law_one", "_law_last", "_law_told_here", "_law_wave"] ["_law_one"] (defScope s_law_told) := ⟨rfl, rfl, rfl, by decide +kernel, rfl, by decide +kernel, by decide +kernel⟩
abbrev n_law_kept : List Str := ["_law_thing", "_law_part"]
theorem sc_law_kept : FnScope ["_law_thing", "_law_part"] ["_law_thing"] (defScope s_law_kept) := ⟨rfl, rfl, rfl, by decide +kernel, rfl, by decide +kernel, by decide +kernel⟩
abbrev n_law : List Str := ["_law_script", "_law_row_here", "_law_rows", "_law_p", "_law_h", "_law_k", "_law_kept_here", "_law_one", "_law_turn", "_law_told_here", "_law_thing"]
theorem sc_law : FnScope ["_law_script", "_law_row_here", "_law_rows", "_law_p", "_law_h", "_law_k", "_law_kept_here", "_law_one", "_law_turn", "_law_told_here", "_law_thing"] ["_law_script"] (defScope s_law) := ⟨rfl, rfl, rfl, by decide +kernel, rfl, by decide +kernel, by decide +kernel⟩
/-! ### the built-in names that the program leaves as they are -/
structure Blt (mg : Str → Option Value) : Prop where
  isinstance : mg "isinstance" = none
  int : mg "int" = none
  bool : mg "bool" = none
  len : mg "len" = none
  tuple : mg "tuple" = none
  list : mg "list" = none
  range : mg "range" = none
  enumerate : mg "enumerate" = none
  abs : mg "abs" = none
  max : mg "max" = none
  min : mg "min" = none
  sorted : mg "sorted" = none
/-! ### numbers and checks -/
/-- values whose kind is known -/
def Known (K : PySem.W.Frag) (H : Hp) : V → Prop
  | .int _ => True
  | .bl _ => True
  | .non => True
  | .str _ => True
  | .ref a => TyX K H (.ref a) (.type "tuple") ∨ TyX K H (.ref a) (.type "list")
  | _ => False
def numB : V → Int → Int → Bool
  | .int i, lo, hi => decide (lo ≤ i) && decide (i ≤ hi)
  | _, _, _ => false
def spNum (K : PySem.W.Frag) : Sp := fun vs H Q _ => ∃ v lo hi, vs = [v, .int lo, .int hi] ∧ Known K H v ∧ Q (.bl (numB v lo hi)) H
theorem known_ty {K : PySem.W.Frag} {H : Hp} {v : V} (h : Known K H v) : ∃ (t : String) (b c : Bool), TyX K H v (.type t) ∧ PySem.W.kitOne K (.type t) (.type "int") = some b ∧ PySem.W.kitOne K (.type t) (.type "bool") = some c ∧
    ((b = true ∧ c = false ∧ ∃ i, v = .int i) ∨ ((b = false ∨ c = true) ∧ ∀ i, v ≠ .int i)) := by
  cases v with
  | int i => exact ⟨"int", true, false, .base (.int i), kit_ty (by decide +kernel), kit_ty (by decide +kernel), .inl ⟨rfl, rfl, i, rfl⟩⟩
  | bl i => exact ⟨"bool", true, true, .base (.bl i), kit_ty (by decide +kernel), kit_ty (by decide +kernel), .inr ⟨.inr rfl, fun i z => nomatch z⟩⟩
  | non => exact ⟨"NoneType", false, false, .base .non, kit_ty (by decide +kernel), kit_ty (by decide +kernel), .inr ⟨.inl rfl, fun i z => nomatch z⟩⟩
  | str i => exact ⟨"str", false, false, .base (.str i), kit_ty (by decide +kernel), kit_ty (by decide +kernel), .inr ⟨.inl rfl, fun i z => nomatch z⟩⟩
  | ref a =>
    rcases h with h | h
    · exact ⟨"tuple", false, false, h, kit_ty (by decide +kernel), kit_ty (by decide +kernel), .inr ⟨.inl rfl, fun i z => nomatch z⟩⟩
    · exact ⟨"list", false, false, h, kit_ty (by decide +kernel), kit_ty (by decide +kernel), .inr ⟨.inl rfl, fun i z => nomatch z⟩⟩
  | byt _ => exact h.elim
  | flt _ => exact h.elim
  | ty _ => exact h.elim
theorem numB_no {v : V} {lo hi : Int} (h : ∀ i, v ≠ .int i) : numB v lo hi = false := by
  cases v with
  | int i => exact absurd rfl (h i)
  | _ => rfl
section
variable {P : Program} {w : World} {K : PySem.W.Frag} {mg : Str → Option Value} {base : Heap}
theorem ok_num {f : Addr} {fd : FuncData} (F : Fun K "is_number" "is_number" s_is_number f fd) (B : Blt mg) : FnOk P w K mg base CX0 1 f fd ["value", "least", "greatest"] (spNum K) := by
  refine F.ok sc_is_number (fun vs H Q E h => ?_) (fun cdv A outer s H vs Q E hr h => ?_)
  · obtain ⟨v, lo, hi, rfl, _⟩ := h
    rfl
  · obtain ⟨v, lo, hi, rfl, kn, h⟩ := h
    refine ⟨_, pss_one (ps_ret (pe_and (pe_callB call_isi (by rfl) B.isinstance boot_isinstance (pa_cons (pv 0) (pa_cons (pe_bltn (v := .ty "int") (by rfl) B.int boot_int rfl) pa_nil)))
      (pe_and (pe_not (pe_callB call_isi (by rfl) B.isinstance boot_isinstance (pa_cons (pv 0) (pa_cons (pe_bltn (v := .ty "bool") (by rfl) B.bool boot_bool rfl) pa_nil))))
      (pe_one (pe_chain op_le op_le (pv 1) (pv 0) (pv 2)))))), ?_⟩
    obtain ⟨t, b, c, ty, k1, k2, alt⟩ := known_ty kn
    refine ⟨_, rfl, _, _, _, _, b, rfl, .ty "int", ty, k1, b, rfl, ?_⟩
    rcases alt with ⟨rfl, rfl, i, rfl⟩ | ⟨alt, no⟩
    · refine iteT ⟨_, rfl, _, _, _, _, false, rfl, .ty "bool", ty, k2, false, rfl, true, rfl, ?_⟩
      refine iteT ⟨_, rfl, _, rfl, lo, i, rfl, rfl, _, rfl, ?_⟩
      refine ite2 (fun q => ?_) (fun q => ?_)
      · refine ⟨_, rfl, i, hi, rfl, rfl, ?_⟩
        have e : numB (.int i) lo hi = decide (i ≤ hi) := by
          show (decide (lo ≤ i) && decide (i ≤ hi)) = _
          rw [q, Bool.true_and]
        rw [e] at h
        exact h
      · have e : numB (.int i) lo hi = false := by
          show (decide (lo ≤ i) && decide (i ≤ hi)) = _
          rw [Bool.eq_false_iff.mpr q, Bool.false_and]
        rw [e] at h
        exact h
    · rw [numB_no no] at h
      cases b with
      | false => exact iteF h
      | true =>
        rcases alt with z | rfl
        · cases z
        · refine iteT ⟨_, rfl, _, _, _, _, true, rfl, .ty "bool", ty, k2, true, rfl, false, rfl, ?_⟩
          exact iteF h
end
/-! ### defs as they stand, and how they are called -/
structure DefAt (K : PySem.W.Frag) (mg : Str → Option Value) (x : Str) (st : Stmt) (ps : List Str) (f : Addr) (fd : FuncData) : Prop where
  fn : Fun K x x st f fd
  m : mg x = some (.ref f)
  b : Binds K fd ps []
structure At (P : Program) (w : World) (K : PySem.W.Frag) (mg : Str → Option Value) (base : Heap) (CX : CXT) (k : Nat) (x : Str) (ps : List Str) (sp : Sp) (f : Addr) (fd : FuncData) : Prop where
  ok : FnOk P w K mg base CX k f fd ps sp
  m : mg x = some (.ref f)
  kp : PySem.W.keepIn K (.ref f) = true
  b : Binds K fd ps []
theorem DefAt.at {P : Program} {w : World} {K : PySem.W.Frag} {mg : Str → Option Value} {base : Heap} {CX : CXT} {k : Nat} {x : Str} {st : Stmt} {ps : List Str} {sp : Sp} {f : Addr} {fd : FuncData} (D : DefAt K mg x st ps f fd)
    (ok : FnOk P w K mg base CX k f fd ps sp) : At P w K mg base CX k x ps sp f fd := ⟨ok, D.m, D.fn.kp, D.b⟩
section
variable {X : Cx} {k : Nat} {x : Str} {ps : List Str} {sp : Sp} {f : Addr} {fd : FuncData} {p pos : Pos} {e : Expr} {es : List Expr} {t : TA}
theorem pe_at (G : At X.prog X.w X.K X.mg X.base CX0 k x ps sp f fd) (hr : Room k X.A) (ha : PA X (e :: es) t) (hg : Gl X x := by rfl) (hdb : (x == ("__debug__" : Str)) = false := by decide)
    (he : starEach (e :: es) X.env = (false, eval e X.env) :: starEach es X.env := by rfl) (hpl : (backTo pos (starEach es X.env)).any (·.1) = false := by rfl) :
    PE X (.Call (.Name x p) (e :: es) [] pos) (tCall sp [] E0 t) := pe_call G.ok hr hg G.m G.kp G.b .nil pass0 ha hdb he hpl
end
/-! ### heaps that only grow -/
theorem sqT_same {K : PySem.W.Frag} {H H' : Hp} {a : Addr} {xs : List V} (h : SqT K H a xs) (e : Same H H') : SqT K H' a xs := SqT.ext h e
theorem same_new {H : Hp} {p : Addr} {o : HO} (h : H p = none) : Same H (upd H p o) := fun b u e => by rw [upd_ne (ne_of_none e h)]; exact e
/-- all but what stands at l is as it was -/
def But (l : Addr) (H H' : Hp) : Prop := ∀ b o, b ≠ l → H b = some o → H' b = some o
theorem Same.but {H H' : Hp} (e : Same H H') (l : Addr) : But l H H' := fun b o _ h => e b o h
theorem But.trans {l : Addr} {H H1 H2 : Hp} (a : But l H H1) (b : But l H1 H2) : But l H H2 := fun c o n h => b c o n (a c o n h)
theorem but_upd {H : Hp} {l : Addr} {o : HO} : But l H (upd H l o) := fun b u n e => by rw [upd_ne n]; exact e
theorem But.new {H H1 : Hp} {l p : Addr} {o : HO} (a : But l H H1) (h : H1 p = none) : But l H (upd H1 p o) := a.trans (Same.but (same_new h) l)
/-- laid ahead of which the heap was as H -/
theorem But.same {H H1 : Hp} {l : Addr} (a : But l H H1) (h : H l = none) : Same H H1 := fun b o e => a b o (ne_of_none e h) e

/-! ### stones: pairs of a place and a height -/
def StonesAt (K : PySem.W.Frag) (H : Hp) (vs : List V) (xs : List (Int × Int)) : Prop :=
  vs.length = xs.length ∧ ∀ (k : Nat) (x : Int × Int), xs[k]? = some x → ∃ a : Addr, vs[k]? = some (V.ref a) ∧ SqT K H a [.int x.1, .int x.2]
theorem StonesAt.same {K : PySem.W.Frag} {H H' : Hp} {vs : List V} {xs : List (Int × Int)} (h : StonesAt K H vs xs) (e : Same H H') : StonesAt K H' vs xs :=
  ⟨h.1, fun k x q => let ⟨a, q1, q2⟩ := h.2 k x q; ⟨a, q1, sqT_same q2 e⟩⟩
theorem StonesAt.nil {K : PySem.W.Frag} {H : Hp} : StonesAt K H [] [] := ⟨rfl, fun k x q => by simp at q⟩
theorem StonesAt.append {K : PySem.W.Frag} {H : Hp} {vs us : List V} {xs ys : List (Int × Int)} (h : StonesAt K H vs xs) (g : StonesAt K H us ys) : StonesAt K H (vs ++ us) (xs ++ ys) := by
  refine ⟨by rw [List.length_append, List.length_append, h.1, g.1], fun k x q => ?_⟩
  by_cases hk : k < xs.length
  · rw [List.getElem?_append_left hk] at q
    rw [List.getElem?_append_left (by rw [h.1]; exact hk)]
    exact h.2 k x q
  · rw [List.getElem?_append_right (by omega)] at q
    rw [List.getElem?_append_right (by rw [h.1]; omega), h.1]
    exact g.2 _ x q
theorem StonesAt.one {K : PySem.W.Frag} {H : Hp} {a : Addr} {x : Int × Int} (h : SqT K H a [.int x.1, .int x.2]) : StonesAt K H [.ref a] [x] := by
  refine ⟨rfl, fun k y q => ?_⟩
  cases k with
  | zero => simp at q; subst q; exact ⟨a, rfl, h⟩
  | succ k => simp at q
/-! ### sides -/
def sideS : Bool → Str
  | true => "right"
  | false => "left"
/-- the numbers beside a stone, the nearest one first -/
def beside (r : Bool) (i n : Nat) : List Nat := if r then (List.range (n - (i + 1))).map (fun k => i + 1 + k) else (List.range i).map (fun k => i - 1 - k)
def ivs (ns : List Nat) : List V := ns.map fun (k : Nat) => V.int (k : Int)
def spBeside : Sp := fun vs H Q _ => ∃ (i n : Nat) (r : Bool), vs = [.int i, .str (sideS r), .int n] ∧ i < n ∧ n ≤ 100 ∧ ∀ q, H q = none → Q (.ref q) (upd H q (.lst (ivs (beside r i n))))
def spCheckStone : Sp := fun vs H Q _ => ∃ (i n : Nat), vs = [.int i, .int n] ∧ i < n ∧ Q .non H
def spCheckSide : Sp := fun vs H Q _ => ∃ r : Bool, vs = [.str (sideS r)] ∧ Q .non H
section
variable {P : Program} {w : World} {K : PySem.W.Frag} {mg : Str → Option Value} {base : Heap}
theorem ok_checkStone {f g : Addr} {fd gd : FuncData} (F : Fun K "check_stone" "check_stone" s_check_stone f fd) (N : At P w K mg base CX0 1 "is_number" ["value", "least", "greatest"] (spNum K) g gd) :
    FnOk P w K mg base CX0 2 f fd ["stone", "count"] spCheckStone := by
  refine F.ok sc_check_stone (fun vs H Q E h => ?_) (fun cdv A outer s H vs Q E hr h => ?_)
  · obtain ⟨i, n, rfl, _⟩ := h
    rfl
  · obtain ⟨i, n, rfl, hi, h⟩ := h
    refine ⟨_, pss_one (ps_if (pt_not (pt_val (pe_at N hr (pa_cons (pv 0) (pa_cons (pe_int) (pa_cons (pe_op op_sub (pv 1) (pe_int)) pa_nil)))))) (pss_one ps_never) pss_nil), ?_⟩
    refine ⟨_, rfl, _, rfl, _, _, rfl, rfl, _, _, _, rfl, True.intro, _, rfl, ?_⟩
    have e : numB (.int (i : Int)) 0 ((n : Int) - 1) = true := by
      show (decide (0 ≤ (i : Int)) && decide ((i : Int) ≤ (n : Int) - 1)) = true
      simp; omega
    rw [e]
    exact iteF h
theorem sides_in {r : Bool} {ys : List V} (h : ys = [V.str "left", V.str "right"]) : inV (.str (sideS r)) ys = true := by
  subst h
  cases r <;> decide +kernel
theorem ok_checkSide {f S : Addr} {fd : FuncData} (F : Fun K "check_side" "check_side" s_check_side f fd) (mS : mg "SIDES" = some (.ref S)) (hS : ∀ H, SqT K H S [.str "left", .str "right"]) : FnOk P w K mg base CX0 1 f fd ["side"] spCheckSide := by
  refine F.ok sc_check_side (fun vs H Q E h => ?_) (fun cdv A outer s H vs Q E hr h => ?_)
  · obtain ⟨r, rfl, _⟩ := h
    rfl
  · obtain ⟨r, rfl, h⟩ := h
    refine ⟨_, pss_one (ps_if (pt_cmpR (op_notIn_seq) (pv 0) (pe_glob (v := .ref S) (by rfl) mS rfl) (by rfl)) (pss_one ps_never) pss_nil), ?_⟩
    refine ⟨_, rfl, S, _, rfl, .inr (hS H), rfl, rfl, _, rfl, ?_⟩
    rw [if_pos rfl, sides_in rfl]
    exact iteF h
theorem right_eq {r : Bool} : decide (V.str (sideS r) = V.str "right") = r := by cases r <;> decide +kernel
theorem beside_right {i n : Nat} (h : i < n) : Own.dnV 0 0 = [] ∧ rgV ((i : Int) + 1) (n : Int) = ivs (beside true i n) := by
  refine ⟨rfl, ?_⟩
  unfold rgV ivs beside
  rw [if_pos rfl, List.map_map]
  have e : ((n : Int) - ((i : Int) + 1)).toNat = n - (i + 1) := by omega
  rw [e]
  exact List.map_congr_left fun k _ => congrArg V.int (show (i : Int) + 1 + (k : Int) = ((i + 1 + k : Nat) : Int) by omega)
theorem beside_left {i n : Nat} : Own.dnV ((i : Int) - 1) (-1) = ivs (beside false i n) := by
  unfold Own.dnV ivs beside
  rw [if_neg (by decide), List.map_map]
  have e : ((i : Int) - 1 - (-1)).toNat = i := by omega
  rw [e]
  exact List.map_congr_left fun k hk => by have := List.mem_range.mp hk; exact congrArg V.int (show (i : Int) - 1 - (k : Int) = ((i - 1 - k : Nat) : Int) by omega)
theorem ok_beside {f : Addr} {fd : FuncData} (F : Fun K "stones_beside" "stones_beside" s_stones_beside f fd) (B : Blt mg) : FnOk P w K mg base CX0 1 f fd ["stone", "side", "count"] spBeside := by
  refine F.ok sc_stones_beside (fun vs H Q E h => ?_) (fun cdv A outer s H vs Q E hr h => ?_)
  · obtain ⟨i, n, r, rfl, _⟩ := h
    rfl
  · obtain ⟨i, n, r, rfl, hi, hn, h⟩ := h
    refine ⟨_, pss_cons (ps_if (pt_cmpR (op_eq) (pv 1) (pe_str) (nomark _)) (pss_one (ps_ret (pe_listRg rfl (by rfl) B.list (prg_2 (by rfl) B.range (pe_op op_add (pv 0) (pe_int)) (pv 2))))) pss_nil)
      (pss_one (ps_ret (Own.pe_listDown rfl (by rfl) B.list (by rfl) B.range (pa_cons (pe_op op_sub (pv 0) (pe_int)) (pa_cons (pe_un un_neg pe_int) (pa_cons (pe_un un_neg pe_int) pa_nil)))))), ?_⟩
    refine ⟨_, rfl, rfl, _, rfl, ?_⟩
    rw [right_eq]
    cases r with
    | true =>
      refine iteT ⟨_, rfl, _, _, rfl, rfl, _, rfl, _, _, rfl, rfl, ⟨by omega, by omega, by omega, by omega, by omega⟩, fun q hq => ?_⟩
      rw [(beside_right hi).2]
      exact h q hq
    | false =>
      refine iteF ⟨_, rfl, _, _, rfl, rfl, _, rfl, _, rfl, (i : Int) - 1, -1, rfl, by omega, by omega, by omega, by omega, fun q hq => ?_⟩
      rw [beside_left (n := n)]
      exact h q hq
end
/-! ### which stones a push fells -/
def ab (z : Int) : Int := if z < 0 then -z else z
def mx (i j : Int) : Int := if j > i then j else i
/-- one stone after another, as far as the reach goes -/
def scan (xs : List (Int × Int)) (sd : List Bool) (p0 : Int) : Int → List Nat → List Nat
  | _, [] => []
  | r, o :: os => match xs[o]? with
    | none => []
    | some x => if ab (x.1 - p0) > r then [] else if sd[o]? = some true then o :: scan xs sd p0 (mx r (ab (x.1 - p0) + x.2)) os else scan xs sd p0 r os
def felled (xs : List (Int × Int)) (sd : List Bool) (i : Nat) (r : Bool) : List Nat := match xs[i]? with
  | none => []
  | some x => i :: scan xs sd x.1 x.2 (beside r i xs.length)
theorem beside_lt {r : Bool} {i n : Nat} (hi : i < n) : ∀ k ∈ beside r i n, k < n := by
  intro k hk
  cases r with
  | true =>
    simp [beside] at hk
    obtain ⟨j, h1, h2⟩ := hk
    omega
  | false =>
    simp [beside] at hk
    obtain ⟨j, h1, h2⟩ := hk
    omega
theorem beside_len {r : Bool} {i n : Nat} (hi : i < n) : (beside r i n).length ≤ n := by
  cases r <;> simp [beside] <;> omega
theorem scan_len (xs : List (Int × Int)) (sd : List Bool) (p0 : Int) : ∀ (os : List Nat) (r : Int), (scan xs sd p0 r os).length ≤ os.length
  | [], r => by simp [scan]
  | o :: os, r => by
    unfold scan
    split
    · simp
    · rename_i x hx
      split
      · simp
      · split
        · have := scan_len xs sd p0 os (mx r (ab (x.1 - p0) + x.2)); simp; exact this
        · have := scan_len xs sd p0 os r; simp; omega
def spFelled (K : PySem.W.Frag) : Sp := fun vs H Q _ => ∃ (t b : Addr) (us : List V) (xs : List (Int × Int)) (sd : List Bool) (i : Nat) (r : Bool), vs = [.ref t, .ref b, .int i, .str (sideS r)] ∧ SqT K H t us ∧ StonesAt K H us xs ∧ SqL K H b (sd.map V.bl) ∧ sd.length = xs.length ∧ i < xs.length ∧ xs.length ≤ 40 ∧
  ∀ (ns : List Int) (p : Addr) (H' : Hp), ns.Perm ((felled xs sd i r).map fun (k : Nat) => (k : Int)) → ns.Pairwise (· ≤ ·) → Same H H' → H p = none → H' p = some (.lst (ns.map V.int)) → Q (.ref p) H'
theorem sqL_same {K : PySem.W.Frag} {H H' : Hp} {a : Addr} {xs : List V} (e : Same H H') (h : SqL K H a xs) : SqL K H' a xs := e.seq h
theorem ivs_get {ns : List Nat} {k : Nat} {v : V} (h : (ivs ns)[k]? = some v) : ∃ o, ns[k]? = some o ∧ v = V.int (o : Int) := by
  unfold ivs at h
  rw [List.getElem?_map] at h
  cases e : ns[k]? with
  | none => rw [e] at h; cases h
  | some o => rw [e] at h; exact ⟨o, rfl, (Option.some.inj h).symm⟩
theorem drop_get {α : Type} {l : List α} {k : Nat} {o : α} (h : l[k]? = some o) : l.drop k = o :: l.drop (k + 1) := by
  obtain ⟨h1, h2⟩ := List.getElem?_eq_some_iff.mp h
  rw [List.drop_eq_getElem_cons h1, h2]
section
variable {P : Program} {w : World} {K : PySem.W.Frag} {mg : Str → Option Value} {base : Heap}
theorem ok_felled {f g : Addr} {fd gd : FuncData} (F : Fun K "felled_by" "felled_by" s_felled_by f fd) (B : Blt mg) (N : At P w K mg base CX0 1 "stones_beside" ["stone", "side", "count"] spBeside g gd) :
    FnOk P w K mg base CX0 2 f fd ["stones", "standing", "stone", "side"] (spFelled K) := by
  refine F.ok sc_felled_by (fun vs H Q E h => ?_) (fun cdv A outer s H vs Q E hr h => ?_)
  · obtain ⟨t, b, us, xs, sd, i, r, rfl, _⟩ := h
    rfl
  · obtain ⟨t, b, us, xs, sd, i, r, rfl, hT, hS, hB, hl, hi, hn, k⟩ := h
    refine ⟨_, pss_cons (ps_asg (pe_ix ix_tup (pv 0) (pv 2) (fun _ _ => rfl)) (pg_tup rfl (pgs_cons (pg_name (i := 4) sc_felled_by.nd rfl (Or.inl rfl)) (pgs_cons (pg_name (i := 5) sc_felled_by.nd rfl (Or.inl rfl)) pgs_nil))))
      (pss_cons (ps_set (i := 6) sc_felled_by.nd rfl (Or.inl rfl) (pe_lst (pa_cons (pv 2) pa_nil)))
      (pss_cons (ps_for PassesOwn.never rfl (pi_list (pe_at N hr (pa_cons (pv 2) (pa_cons (pv 3) (pa_cons (pe_callB call_len_seq (by rfl) B.len PySem.boot_len (pa_cons (pv 0) pa_nil)) pa_nil))))) (pg_name (i := 7) sc_felled_by.nd rfl (Or.inl rfl))
        (pss_cons (ps_asg (pe_ix ix_tup (pv 0) (pv 7) (fun _ _ => rfl)) (pg_tup rfl (pgs_cons (pg_name (i := 8) sc_felled_by.nd rfl (Or.inl rfl)) (pgs_cons (pg_name (i := 9) sc_felled_by.nd rfl (Or.inl rfl)) pgs_nil))))
        (pss_cons (ps_set (i := 10) sc_felled_by.nd rfl (Or.inl rfl) (pe_callB (call_abs) (by rfl) B.abs boot_abs (pa_cons (pe_op op_sub (pv 8) (pv 4)) pa_nil)))
        (pss_cons (ps_if (pt_cmpR (op_gt) (pv 10) (pv 5) (nomark _)) (pss_one ps_break) pss_nil)
        (pss_one (ps_if (pt_val (pe_ix ix_list (pv 1) (pv 7) (fun _ _ => rfl))) (pss_cons (ps_expr (pe_bm PySem.F.plainAttrs_list PySem.F.slot_list_append PySem.F.type_list_append mt_append (pv 6) (pa_cons (pv 7) pa_nil))) (pss_one (ps_set (i := 5) sc_felled_by.nd rfl (Or.inl rfl) (pe_callB ((call_max2 rfl)) (by rfl) B.max boot_max (pa_cons (pv 5) (pa_cons (pe_op op_add (pv 10) (pv 9)) pa_nil)))))) pss_nil))))))
      (pss_one (ps_ret (pe_callB (cr_sortedI) (by rfl) B.sorted boot_sorted (pa_cons (pv 6) pa_nil)))))), ?_⟩
    obtain ⟨x, hx⟩ : ∃ x, xs[i]? = some x := ⟨xs[i], by simp [hi]⟩
    obtain ⟨a, ha, hsa⟩ := hS.2 i x hx
    -- start, reach = stones[stone]
    refine ⟨_, rfl, _, rfl, t, us, _, _, rfl, rfl, hT, atI_nat ha, a, _, rfl, hsa, rfl, _, _, rfl, _, _, rfl, rfl, ?_⟩
    -- felled = [stone]
    refine ⟨_, rfl, (by show 1 ≤ sizeLine; decide), fun pf nf => ?_⟩
    have s1 := same_new (o := .lst [V.int (i : Int)]) nf
    -- the stones beside
    refine ⟨_, rfl, _, rfl, _, rfl, t, us, rfl, .inr (sqT_same hT s1), ?_⟩
    refine ⟨i, xs.length, r, by rw [hS.1]; rfl, hi, by omega, fun q nq => ?_⟩
    have s2 := same_new (o := .lst (ivs (beside r i xs.length))) nq
    have hpq : pf ≠ q := ne_of_none upd_same nq
    have nf2 : H q = none := Same.free s1 nq
    have fin : ∀ (acc : List Nat) (H3 : Hp), felled xs sd i r = i :: acc → But pf H H3 → H3 pf = some (.lst (ivs (i :: acc))) → ∀ (s7 s8 s9 s10 : Option V) (rr : V),
        tRet (tCB (rSortedI K) (tCons (tVar 6) tNil)) { nx := fun _ H' => Q .non H', rt := Q } [some (.ref t), some (.ref b), some (.int i), some (.str (sideS r)), some (.int x.1), some rr, some (.ref pf), s7, s8, s9, s10] H3 := by
      intro acc H3 e1 e2 e3 s7 s8 s9 s10 rr
      refine ⟨_, rfl, pf, (i :: acc).map fun (k : Nat) => (k : Int), rfl, SqL.of (by rw [e3]; unfold ivs; rw [List.map_map]; rfl), fun ns' p pm rs np => ?_⟩
      have sm : Same H H3 := But.same e2 nf
      exact k ns' p _ (by rw [e1]; exact pm) rs (sm.trans (same_new np)) (Same.free sm np) upd_same
    refine ⟨q, rfl, ⟨_, SqL.of upd_same⟩, for_list (K := K) (a := q) (xs := ivs (beside r i xs.length)) (fun j σ H3 => ∃ (acc : List Nat) (rr : Int) (s7 s8 s9 s10 : Option V),
        σ = [some (.ref t), some (.ref b), some (.int i), some (.str (sideS r)), some (.int x.1), some (.int rr), some (.ref pf), s7, s8, s9, s10] ∧
        felled xs sd i r = i :: acc ++ scan xs sd x.1 rr ((beside r i xs.length).drop j) ∧ But pf H H3 ∧ H3 pf = some (.lst (ivs (i :: acc))) ∧ H3 q = some (.lst (ivs (beside r i xs.length))) ∧ acc.length ≤ j) ?_ ?_ ?_ ?_⟩
    · refine ⟨[], x.2, none, none, none, none, rfl, ?_, (Same.but s1 pf).trans (Same.but s2 pf), ?_, upd_same, Nat.le_refl _⟩
      · unfold felled
        rw [hx]
        rfl
      · rw [upd_ne hpq]
        exact upd_same
    · rintro j σ H3 _ ⟨_, _, _, _, _, _, _, _, _, _, e, _⟩
      exact SqL.of e
    · rintro j y σ H3 hy ⟨acc, rr, s7, s8, s9, s10, rfl, ef, bt, e1, e2, hacc⟩
      obtain ⟨o, ho, rfl⟩ := ivs_get hy
      have hj : j < (beside r i xs.length).length := (List.getElem?_eq_some_iff.mp ho).1
      have holt : o < xs.length := beside_lt hi o (List.mem_of_getElem? ho)
      obtain ⟨z, hz⟩ : ∃ z, xs[o]? = some z := ⟨xs[o], by simp [holt]⟩
      obtain ⟨c, hc, hsc⟩ := hS.2 o z hz
      have sm : Same H H3 := But.same bt nf
      -- place, height = stones[other]
      refine ⟨_, rfl, _, rfl, t, us, _, _, rfl, rfl, sqT_same hT sm, atI_nat hc, c, _, rfl, sqT_same hsc sm, rfl, _, _, rfl, _, _, rfl, rfl, ?_⟩
      -- distance = abs(place - start)
      refine ⟨_, rfl, _, rfl, _, _, rfl, rfl, _, rfl, ?_⟩
      -- if distance > reach: break
      refine ⟨_, rfl, _, rfl, _, _, rfl, rfl, _, rfl, ?_⟩
      rw [drop_get ho] at ef
      refine ite2 (fun hgt => ?_) (fun hgt => ?_)
      · have hgt' : ab (z.1 - x.1) > rr := of_decide_eq_true hgt
        have e0 : felled xs sd i r = i :: acc := by
          rw [ef]
          unfold scan
          rw [hz]
          simp only [hgt', if_true, List.append_nil]
        exact fin acc H3 e0 bt e1 _ _ _ _ _
      · have hgt' : ¬ ab (z.1 - x.1) > rr := fun z => hgt (decide_eq_true z)
        obtain ⟨d, hd⟩ : ∃ d, sd[o]? = some d := ⟨sd[o]'(by omega), by simp⟩
        have hd2 : (sd.map V.bl)[o]? = some (.bl d) := by rw [List.getElem?_map, hd]; rfl
        refine ⟨_, rfl, _, rfl, b, _, _, _, rfl, rfl, sqL_same sm hB, atI_nat hd2, d, rfl, ?_⟩
        cases d with
        | true =>
          refine iteT ⟨_, rfl, .inl ⟨rfl, _, SqL.of e1⟩, _, rfl, pf, _, _, rfl, rfl, e1, ?_, ?_⟩
          · unfold ivs
            rw [List.length_map, List.length_cons, sizeLine_eq]
            have := beside_len (r := r) hi
            omega
          refine ⟨_, rfl, _, rfl, _, rfl, _, _, rfl, rfl, _, _, rfl, ?_⟩
          refine ⟨acc ++ [o], mx rr (ab (z.1 - x.1) + z.2), _, _, _, _, rfl, ?_, bt.trans but_upd, ?_, ?_, ?_⟩
          · rw [ef]
            conv => lhs; unfold scan
            rw [hz]
            simp only [hgt', if_false, hd, if_true, List.cons_append, List.append_assoc, List.nil_append]
          · rw [upd_same]
            unfold ivs
            simp
          · rw [upd_ne hpq.symm]
            exact e2
          · simp; omega
        | false =>
          refine iteF ⟨acc, rr, _, _, _, _, rfl, ?_, bt, e1, e2, by omega⟩
          rw [ef]
          conv => lhs; unfold scan
          rw [hz]
          simp only [hgt', if_false, hd, Option.some.injEq, Bool.false_eq_true]
    · rintro σ H3 ⟨acc, rr, s7, s8, s9, s10, rfl, ef, bt, e1, e2, hacc⟩
      have e0 : felled xs sd i r = i :: acc := by
        rw [ef, List.drop_of_length_le (by unfold ivs; simp)]
        simp [scan]
      exact fin acc H3 e0 bt e1 _ _ _ _ _
end
/-! ### a stone of a row -/
theorem tyT {K : PySem.W.Frag} {H : Hp} {a : Addr} {xs : List V} (h : SqT K H a xs) : TyX K H (.ref a) (.type "tuple") := by
  rcases h with (h | ⟨o, h⟩) | ⟨o, its, n, h, c, _⟩
  · exact .base (.tup h)
  · exact .fTuple h
  · exact .kTuple h c
theorem tyL {K : PySem.W.Frag} {H : Hp} {a : Addr} {xs : List V} (h : SqL K H a xs) : TyX K H (.ref a) (.type "list") := by
  rcases h with (h | ⟨o, h⟩) | ⟨o, its, n, h, c, _⟩
  · exact .base (.lst h)
  · exact .base (.frz h)
  · exact .kList h c
/-- what a value is as a stone of a place from lo on -/
inductive StoneV (K : PySem.W.Frag) (H : Hp) (lo : Int) : V → Bool → Prop where
  | no {v : V} (k : Known K H v) (n : ∀ a, v = .ref a → TyX K H (.ref a) (.type "list")) : StoneV K H lo v false
  | len {a : Addr} {xs : List V} (h : SqT K H a xs) (n : xs.length ≠ 2) : StoneV K H lo (.ref a) false
  | two {a : Addr} {p h : V} (q : SqT K H a [p, h]) (kp : Known K H p) (kh : Known K H h) : StoneV K H lo (.ref a) (numB p lo 1000000000 && numB h 1 1000000000)
def spIsStone (K : PySem.W.Frag) : Sp := fun vs H Q _ => ∃ v lo b, vs = [v, .int lo] ∧ StoneV K H lo v b ∧ Q (.bl b) H
structure Lims (mg : Str → Option Value) : Prop where
  place : ∃ t, mg "GREATEST_PLACE" = some (.int 1000000000 t)
  height : ∃ t, mg "GREATEST_HEIGHT" = some (.int 1000000000 t)
/-- the class Row as the top has made it -/
structure RowC (K : PySem.W.Frag) (mg : Str → Option Value) (C : Addr) : Prop where
  cl : Cls K C
  nS : NoAttr K C "_stones"
  max : ∃ u, Con K C "MAX_STONES" (.int 40) u
  mgC : mg "Row" = some (.ref C)
  first : PySem.W.selfFirst K C = true
  ca : PySem.W.findIn K (.ref C) "__class__" = some (some (.builtin "object.__class__"))
  cn : PySem.W.specialIn K (.builtin "object.__class__") "__get__" = some (some (.builtin "getset_descriptor.__get__"))
  ct : PySem.W.takesIn K (.builtin "object.__class__") = some true
  cm : PySem.W.mroIn K C (.type "object") = some true
theorem RowC.ty {K : PySem.W.Frag} {mg : Str → Option Value} {C : Addr} (R : RowC K mg C) {H : Hp} {a dx : Addr} {fs : List (Str × V)} (h : H a = some (.ins C dx fs)) : TyX K H (.ref a) (.ref C) := .base (.ins h R.cl R.ca R.cn R.ct R.cm)
theorem kit_self {K : PySem.W.Frag} {C : Addr} : PySem.W.kitOne K (.ref C) (.ref C) = some true := by
  unfold PySem.W.kitOne
  rw [if_pos (by simp)]
/-- places that rise from lo on, heights that stones can have -/
def Wf : Int → List (Int × Int) → Prop
  | _, [] => True
  | lo, x :: xs => lo ≤ x.1 ∧ x.1 ≤ 1000000000 ∧ 1 ≤ x.2 ∧ x.2 ≤ 1000000000 ∧ Wf (x.1 + 1) xs
theorem Wf.get : ∀ {xs : List (Int × Int)} {lo : Int} {k : Nat} {x : Int × Int}, Wf lo xs → xs[k]? = some x → (k = 0 → lo ≤ x.1) ∧ (∀ y, 0 < k → xs[k - 1]? = some y → y.1 + 1 ≤ x.1) ∧ x.1 ≤ 1000000000 ∧ 1 ≤ x.2 ∧ x.2 ≤ 1000000000
  | [], _, _, _, _, e => by simp at e
  | z :: xs, lo, 0, x, w, e => by
    simp at e
    subst e
    exact ⟨fun _ => w.1, fun y h => absurd h (by decide), w.2.1, w.2.2.1, w.2.2.2.1⟩
  | z :: xs, lo, k + 1, x, w, e => by
    simp at e
    have ih := Wf.get w.2.2.2.2 e
    refine ⟨fun h => by omega, fun y _ hy => ?_, ih.2.2⟩
    cases k with
    | zero => simp at hy; subst hy; exact ih.1 rfl
    | succ k => simp at hy; exact ih.2.1 y (Nat.succ_pos _) (by simpa using hy)
def rowF (t : Addr) : List (Str × V) := [("_stones", .ref t)]
def RowAt (K : PySem.W.Frag) (C : Addr) (H : Hp) (p : Addr) (xs : List (Int × Int)) : Prop := ∃ dx t us, H p = some (.ins C dx (rowF t)) ∧ SqT K H t us ∧ StonesAt K H us xs
theorem RowAt.same {K : PySem.W.Frag} {C : Addr} {H H' : Hp} {p : Addr} {xs : List (Int × Int)} (h : RowAt K C H p xs) (e : Same H H') : RowAt K C H' p xs :=
  let ⟨dx, t, us, h1, h2, h3⟩ := h; ⟨dx, t, us, e _ _ h1, sqT_same h2 e, h3.same e⟩
def spInitB (K : PySem.W.Frag) (C : Addr) : Sp := fun vs H Q _ => ∃ (p dx t : Addr) (us : List V) (xs : List (Int × Int)), vs = [.ref p, .ref t] ∧ H p = some (.ins C dx []) ∧ SqT K H t us ∧ StonesAt K H us xs ∧ Wf 0 xs ∧ xs.length ≤ 40 ∧
  ∀ H', But p H H' → H' p = some (.ins C dx (rowF t)) → Q .non H'
section
variable {P : Program} {w : World} {K : PySem.W.Frag} {mg : Str → Option Value} {base : Heap}
/-- a def with one parameter and a star -/
theorem star1 {x qual p1 pv' : Str} {st : Stmt} {f : Addr} {fd : FuncData} {N : List Str} {k : Nat} {sp : Sp} (F : Fun K x qual st f fd) (S : FnScope N ([p1] ++ [pv']) (defScope st))
    (h0 : ∀ (kV doc pm : Value) (an : Option Addr) (cdv ct a : Value), bindArgs (PySem.W.fnOf x qual (defArgs st) (defBody st) (defScope st) .none kV doc pm an cdv ct) ⟨[a], []⟩ = (newTuple [] >>= fun t => pure [(p1, a), (pv', t)]))
    (h1 : ∀ (kV doc pm : Value) (an : Option Addr) (cdv ct a r : Value) (rs : List Value), bindArgs (PySem.W.fnOf x qual (defArgs st) (defBody st) (defScope st) .none kV doc pm an cdv ct) ⟨a :: r :: rs, []⟩ = (newTuple (r :: rs) >>= fun t => pure [(p1, a), (pv', t)]))
    (hbody : ∀ (cdv : Value) (A : Around) (outer : List Env) (s : Shared) (H : Hp) (vs : List V) (Q : VK) (E : XK), Room k (A.deeper (envOfC qual (defScope st) s.heap.objs.size f cdv)) → sp vs H Q E →
      ∃ t, PSs (cxOf CX0 P w K mg base N qual (defScope st) f cdv A outer s H E).nox (defBody st) t ∧ t { nx := fun _ H' => Q .non H', rt := Q } (start N vs) H) :
    FnR P w K mg base CX0 (k + 1) f (fun vs H Q E => ∃ w0 rest, vs = w0 :: rest ∧ rest.length ≤ 1000 ∧ ∀ p, H p = none → sp [w0, V.ref p] (upd H p (.tup rest)) Q E) := by
  obtain ⟨oc, od, kV, doc, pm, an, cdv, ct, osl, rfl, lk, hcd⟩ := F.ex
  have base := StX.fn_star (CX := CX0) (P := P) (w := w) (mg := mg) (base := base) (k := k) (ps := [p1]) (sp := sp) lk hcd S (fun _ _ _ _ _ _ _ _ _ _ _ z => z)
    (StX.bind_star1 (B := fun us => bindArgs (PySem.W.fnOf x qual (defArgs st) (defBody st) (defScope st) .none kV doc pm an cdv ct) ⟨us, []⟩) (fun a => h0 kV doc pm an cdv ct a) (fun a r rs => h1 kV doc pm an cdv ct a r rs))
    (fun A outer s H vs Q E hr hsp => by
      obtain ⟨t, h, q⟩ := hbody cdv A outer s H vs Q E hr hsp
      exact ⟨t, h.nox, q⟩)
  refine base.imp fun vs H Q E h => ?_
  obtain ⟨w0, rest, rfl, hz, h⟩ := h
  exact ⟨[w0], rest, rfl, rfl, by rw [sizeLine_eq]; omega, fun p hp => h p hp⟩
theorem ok_isStone {f g : Addr} {fd gd : FuncData} (F : Fun K "_is_stone" "_is_stone" s_is_stone f fd) (B : Blt mg) (L : Lims mg) (N : At P w K mg base CX0 1 "is_number" ["value", "least", "greatest"] (spNum K) g gd) :
    FnOk P w K mg base CX0 2 f fd ["stone", "least_place"] (spIsStone K) := by
  obtain ⟨⟨tp, mp⟩, ⟨th, mh⟩⟩ := id L
  refine F.ok sc_is_stone (fun vs H Q E h => ?_) (fun cdv A outer s H vs Q E hr h => ?_)
  · obtain ⟨v, lo, b, rfl, _⟩ := h
    rfl
  · obtain ⟨v, lo, b, rfl, sv, k⟩ := h
    refine ⟨_, pss_cons (ps_if (PW.pt (pw_or (pt_not (pt_val (pe_callB (call_isi) (by rfl) B.isinstance boot_isinstance (pa_cons (pv 0) (pa_cons (pe_bltn (v := .ty "tuple") (by rfl) B.tuple boot_tuple rfl) pa_nil))))) (pw_or1 (pt_cmpR (op_ne) (pe_callB call_len_seq (by rfl) B.len PySem.boot_len (pa_cons (pv 0) pa_nil)) (pe_int) (nomark _))))) (pss_one (ps_ret pe_bl)) pss_nil)
      (pss_cons (ps_asg (pv 0) (pg_tup rfl (pgs_cons (pg_name (i := 2) sc_is_stone.nd rfl (Or.inl rfl)) (pgs_cons (pg_name (i := 3) sc_is_stone.nd rfl (Or.inl rfl)) pgs_nil))))
      (pss_one (ps_ret (pe_and (pe_at N hr (pa_cons (pv 2) (pa_cons (pv 1) (pa_cons (pe_glob (v := .int 1000000000) (by rfl) mp ⟨_, rfl⟩) pa_nil)))) (pe_one (pe_at N hr (pa_cons (pv 3) (pa_cons (pe_int) (pa_cons (pe_glob (v := .int 1000000000) (by rfl) mh ⟨_, rfl⟩) pa_nil))))))))), ?_⟩
    cases sv with
    | no kn n =>
      have ty : ∃ t : String, TyX K H v (.type t) ∧ PySem.W.kitOne K (.type t) (.type "tuple") = some false := by
        cases v with
        | int i => exact ⟨_, .base (.int i), kit_ty (by decide +kernel)⟩
        | bl i => exact ⟨_, .base (.bl i), kit_ty (by decide +kernel)⟩
        | non => exact ⟨_, .base .non, kit_ty (by decide +kernel)⟩
        | str i => exact ⟨_, .base (.str i), kit_ty (by decide +kernel)⟩
        | ref a => exact ⟨_, n a rfl, kit_ty (by decide +kernel)⟩
        | byt _ => exact kn.elim
        | flt _ => exact kn.elim
        | ty _ => exact kn.elim
      obtain ⟨t, ty, kt⟩ := ty
      refine ⟨_, rfl, v, .ty "tuple", _, _, false, rfl, .ty _, ty, kt, false, rfl, ?_⟩
      refine iteT ?_
      exact iteT k
    | @len a xs hx n =>
      refine ⟨_, rfl, _, .ty "tuple", _, _, true, rfl, .ty _, tyT hx, kit_ty (by decide +kernel), true, rfl, ?_⟩
      refine iteF ?_
      refine ⟨_, rfl, a, xs, rfl, .inr hx, rfl, _, rfl, ?_⟩
      have e : (!decide (V.int (xs.length : Int) = V.int 2)) = true := by
        rw [dec_int]; simp; omega
      rw [e]
      exact iteT k
    | @two a p h q kp kh =>
      refine ⟨_, rfl, _, .ty "tuple", _, _, true, rfl, .ty _, tyT q, kit_ty (by decide +kernel), true, rfl, ?_⟩
      refine iteF ?_
      refine ⟨_, rfl, a, [p, h], rfl, .inr q, rfl, _, rfl, ?_⟩
      refine iteF ?_
      refine ⟨_, rfl, a, [p, h], rfl, q, rfl, _, _, rfl, _, _, rfl, rfl, ?_⟩
      refine ⟨_, rfl, _, rfl, _, _, _, rfl, kp, _, rfl, ?_⟩
      cases e : numB p lo 1000000000 with
      | true =>
        refine iteT ⟨_, rfl, _, _, _, rfl, kh, ?_⟩
        rw [e, Bool.true_and] at k
        exact k
      | false =>
        rw [e, Bool.false_and] at k
        exact iteF k
theorem numB_int {i lo hi : Int} (h1 : lo ≤ i) (h2 : i ≤ hi) : numB (.int i) lo hi = true := by
  show (decide (lo ≤ i) && decide (i ≤ hi)) = true
  rw [decide_eq_true h1, decide_eq_true h2]; rfl
theorem ok_init {f g C : Addr} {fd gd : FuncData} (F : Fun K "__init__" "Row.__init__" s_Row_init f fd) (B : Blt mg) (R : RowC K mg C) (N : At P w K mg base CX0 2 "_is_stone" ["stone", "least_place"] (spIsStone K) g gd) :
    FnR P w K mg base CX0 3 f (fun vs H Q E => ∃ w0 rest, vs = w0 :: rest ∧ rest.length ≤ 1000 ∧ ∀ p, H p = none → spInitB K C [w0, V.ref p] (upd H p (.tup rest)) Q E) := by
  refine star1 F sc_Row_init (fun _ _ _ _ _ _ _ => rfl) (fun _ _ _ _ _ _ _ _ _ => rfl) (fun cdv A outer s H vs Q E hr h => ?_)
  obtain ⟨p, dx, t, us, xs, rfl, hp, hT, hS, hw, hz, k⟩ := h
  obtain ⟨um, cm⟩ := R.max
  refine ⟨_, pss_cons (ps_set (i := 2) sc_Row_init.nd rfl (Or.inl rfl) (pe_int)) (pss_cons (ps_for PassesOwn.never rfl (Own.pi_enumT (by rfl) B.enumerate (pa_cons (pv 1) pa_nil)) (pg_tup rfl (pgs_cons (pg_name (i := 3) sc_Row_init.nd rfl (Or.inl rfl)) (pgs_cons (pg_name (i := 4) sc_Row_init.nd rfl (Or.inl rfl)) pgs_nil)))
      (pss_cons (ps_if (PW.pt (pw_or (pt_cmpR (op_eq) (pv 3) (pe_con (pv 0) rfl) (nomark _)) (pw_or1 (pt_not (pt_val (pe_at N hr (pa_cons (pv 4) (pa_cons (pv 2) pa_nil)))))))) (pss_one ps_never) pss_nil)
      (pss_one (ps_set (i := 2) sc_Row_init.nd rfl (Or.inl rfl) (pe_op op_add (pe_ix ix_tup (pv 4) (pe_int) (fun _ _ => rfl)) (pe_int))))))
    (pss_one (ps_fld (pv 0) (pv 1) rfl))), ?_⟩
  refine ⟨_, rfl, t, us, rfl, hT, for_it (Own.walk_item (K := K) (a := t) (xs := us)) (fun j σ H1 => ∃ (lo : Int) (s3 s4 : Option V), σ = [some (.ref p), some (.ref t), some (.int lo), s3, s4] ∧ Same H H1 ∧ (∀ x, xs[j]? = some x → lo ≤ x.1) ∧ 0 ≤ lo) ?_ ?_ ?_ ?_⟩
  · exact ⟨0, none, none, rfl, Same.refl _, fun x hx => (hw.get hx).1 rfl, Int.le_refl _⟩
  · rintro j σ H1 _ ⟨_, _, _, _, sm, _⟩
    exact sqT_same hT sm
  · rintro j v σ H1 H2 hj ⟨lo, s3, s4, rfl, sm, hlo, h0⟩ ⟨T, y, z, rfl, nT, rfl, e1, e2⟩
    obtain rfl : y = V.int (j : Int) := (Option.some.inj e1).symm
    have hjx : j < xs.length := by rw [← hS.1]; exact hj
    obtain ⟨x, hx⟩ : ∃ x, xs[j]? = some x := ⟨xs[j], by simp [hjx]⟩
    obtain ⟨c, hc, hsc⟩ := hS.2 j x hx
    obtain rfl : z = V.ref c := Option.some.inj (e2.symm.trans hc)
    have sm2 : Same H (upd H1 T (.tup [.int (j : Int), .ref c])) := sm.trans (same_new nT)
    obtain ⟨_, g2, g3, g4, g5⟩ := hw.get hx
    -- index, stone = the pair
    refine ⟨T, _, rfl, SqT.of upd_same, rfl, _, _, rfl, _, _, rfl, rfl, ?_⟩
    -- index == self.MAX_STONES
    refine ⟨_, rfl, _, rfl, p, C, dx, [], _, _, rfl, sm2 _ _ hp, R.cl, cm, rfl, rfl, _, rfl, ?_⟩
    have e40 : decide (V.int (j : Int) = V.int 40) = false := by rw [dec_int]; simp; omega
    rw [e40]
    refine iteF ?_
    -- not _is_stone(stone, least_place)
    refine ⟨_, rfl, _, rfl, _, _, _, rfl, StoneV.two (sqT_same hsc sm2) True.intro True.intro, _, rfl, ?_⟩
    rw [numB_int (hlo x hx) g3, numB_int g4 g5]
    refine iteF ?_
    -- least_place = stone[0] + 1
    refine ⟨_, rfl, c, _, (0 : Nat), _, rfl, rfl, sqT_same hsc sm2, atI_nat (j := 0) rfl, _, _, rfl, rfl, ?_⟩
    refine ⟨x.1 + 1, _, _, rfl, sm2, fun y hy => (hw.get hy).2.1 x (Nat.succ_pos _) (by simpa using hx), ?_⟩
    have := hlo x hx
    omega
  · rintro σ H1 ⟨lo, s3, s4, rfl, sm, _, _⟩
    refine ⟨_, rfl, _, rfl, p, C, dx, [], rfl, sm _ _ hp, R.cl, R.nS, (by show 0 < 1000; decide), ?_⟩
    exact k _ ((Same.but sm p).trans but_upd) upd_same
end
/-! ### a run: what a push fells while all stand -/
def allUp (n : Nat) : List Bool := List.replicate n true
def reachN (xs : List (Int × Int)) (i : Nat) (r : Bool) : Nat := (felled xs (allUp xs.length) i r).length - 1
def run (xs : List (Int × Int)) (i : Nat) (r : Bool) : Nat × Nat := if r then (i, i + reachN xs i r) else (i - reachN xs i r, i)
theorem scan_take {xs : List (Int × Int)} {sd : List Bool} {p0 : Int} (up : ∀ o, o < xs.length → sd[o]? = some true) : ∀ (os : List Nat) (r : Int), (∀ o ∈ os, o < xs.length) → scan xs sd p0 r os = os.take (scan xs sd p0 r os).length
  | [], r, _ => by simp [scan]
  | o :: os, r, h => by
    have ho := h o (by simp)
    unfold scan
    split
    · simp
    · rename_i x hx
      split
      · simp
      · rw [if_pos (up o ho)]
        rw [List.length_cons, List.take_succ_cons, ← scan_take up os _ fun z hz => h z (by simp [hz])]
theorem allUp_get {n o : Nat} (h : o < n) : (allUp n)[o]? = some true := by
  unfold allUp
  rw [List.getElem?_replicate, if_pos h]
theorem felled_take {xs : List (Int × Int)} {i : Nat} {r : Bool} (hi : i < xs.length) : felled xs (allUp xs.length) i r = i :: (beside r i xs.length).take (reachN xs i r) := by
  have hx : xs[i]? = some xs[i] := by simp [hi]
  have e : felled xs (allUp xs.length) i r = i :: scan xs (allUp xs.length) (xs[i]).1 (xs[i]).2 (beside r i xs.length) := by
    unfold felled
    rw [hx]
  have st := scan_take (xs := xs) (sd := allUp xs.length) (p0 := (xs[i]).1) (fun o ho => allUp_get ho) (beside r i xs.length) (xs[i]).2 (beside_lt hi)
  unfold reachN
  rw [e, List.length_cons, Nat.add_sub_cancel]
  exact congrArg (List.cons i) st
theorem reach_le {xs : List (Int × Int)} {i : Nat} {r : Bool} (hi : i < xs.length) : reachN xs i r ≤ (beside r i xs.length).length := by
  have hx : xs[i]? = some xs[i] := by simp [hi]
  unfold reachN felled
  rw [hx, List.length_cons, Nat.add_sub_cancel]
  exact scan_len _ _ _ _ _
theorem besideR_len {i n : Nat} : (beside true i n).length = n - (i + 1) := by simp [beside]
theorem besideL_len {i n : Nat} : (beside false i n).length = i := by simp [beside]
/-- first, first + 1, .. (c + 1 of them) -/
def rise (a c : Nat) : List Int := (List.range (c + 1)).map fun k => ((a + k : Nat) : Int)
theorem rise_le (a c : Nat) : (rise a c).Pairwise (· ≤ ·) := by
  unfold rise
  refine List.Pairwise.map _ (fun x y h => ?_) (List.pairwise_lt_range (n := c + 1))
  show ((a + x : Nat) : Int) ≤ ((a + y : Nat) : Int)
  have : x < y := h
  omega
theorem felled_perm {xs : List (Int × Int)} {i : Nat} {r : Bool} (hi : i < xs.length) : ((felled xs (allUp xs.length) i r).map fun (k : Nat) => (k : Int)).Perm (rise (run xs i r).1 (reachN xs i r)) := by
  rw [felled_take hi]
  have hle := reach_le (r := r) hi
  cases r with
  | true =>
    rw [besideR_len] at hle
    show (List.map _ _).Perm (rise i (reachN xs i true))
    generalize reachN xs i true = c at hle
    refine .of_eq ?_
    unfold rise beside
    rw [if_pos rfl, List.range_succ_eq_map, List.map_cons, List.map_cons, List.map_map, ← List.map_take, List.map_map, List.take_range]
    have e : min c (xs.length - (i + 1)) = c := by omega
    rw [e]
    refine congr (congrArg _ (by simp)) (List.map_congr_left fun k _ => ?_)
    show ((i + 1 + k : Nat) : Int) = ((i + (k + 1) : Nat) : Int)
    omega
  | false =>
    rw [besideL_len] at hle
    show (List.map _ _).Perm (rise (i - reachN xs i false) (reachN xs i false))
    generalize reachN xs i false = c at hle
    have e : List.map (fun (k : Nat) => (k : Int)) (i :: (beside false i xs.length).take c) = (rise (i - c) c).reverse := by
      unfold rise beside
      rw [if_neg (by decide), ← List.map_take, List.take_range]
      have e : min c i = c := by omega
      rw [e]
      apply List.ext_getElem
      · simp
      · intro j h1 h2
        have hj : j < c + 1 := by simpa using h1
        rw [List.getElem_reverse]
        cases j with
        | zero => simp; omega
        | succ j => simp; omega
    rw [e]
    exact List.reverse_perm _
theorem felled_sorted {xs : List (Int × Int)} {i : Nat} {r : Bool} {ns : List Int} (hi : i < xs.length) (p : ns.Perm ((felled xs (allUp xs.length) i r).map fun (k : Nat) => (k : Int))) (s : ns.Pairwise (· ≤ ·)) :
    ns = rise (run xs i r).1 (reachN xs i r) :=
  (p.trans (felled_perm hi)).eq_of_pairwise (fun x y _ _ h1 h2 => Int.le_antisymm h1 h2) s (rise_le _ _)
theorem run_last {xs : List (Int × Int)} {i : Nat} {r : Bool} (hi : i < xs.length) : (run xs i r).1 + reachN xs i r = (run xs i r).2 := by
  have hle := reach_le (r := r) hi
  unfold run
  cases r with
  | true => rfl
  | false =>
    rw [besideL_len] at hle
    show i - reachN xs i false + reachN xs i false = i
    omega
/-! ### Row's methods -/
def spLen (K : PySem.W.Frag) (C : Addr) : Sp := fun vs H Q _ => ∃ p xs, vs = [.ref p] ∧ RowAt K C H p xs ∧ Q (.int (xs.length : Int)) H
def spAdd (K : PySem.W.Frag) (C : Addr) : Sp := fun vs H Q _ => ∃ p q xs ys, vs = [.ref p, .ref q] ∧ RowAt K C H p xs ∧ RowAt K C H q ys ∧ Wf 0 (xs ++ ys) ∧ (xs ++ ys).length ≤ 40 ∧
  ∀ z H', Same H H' → H z = none → RowAt K C H' z (xs ++ ys) → Q (.ref z) H'
def spCall (K : PySem.W.Frag) (C : Addr) : Sp := fun vs H Q _ => ∃ p xs i r, vs = [.ref p, .int (i : Nat), .str (sideS r)] ∧ RowAt K C H p xs ∧ i < xs.length ∧ xs.length ≤ 40 ∧
  ∀ z H', Same H H' → H z = none → H' z = some (.tup [.int ((run xs i r).1 : Nat), .int ((run xs i r).2 : Nat)]) → Q (.ref z) H'
def spMake (K : PySem.W.Frag) (C : Addr) : Sp := fun vs H Q E => ∃ w0 rest, vs = w0 :: rest ∧ rest.length ≤ 1000 ∧ ∀ p, H p = none → spInitB K C [w0, V.ref p] (upd H p (.tup rest)) Q E
section
variable {P : Program} {w : World} {K : PySem.W.Frag} {mg : Str → Option Value} {base : Heap}
/-- what a new row's reading asks, once and for all -/
theorem make_row {C : Addr} {H : Hp} {us : List V} {xs : List (Int × Int)} {Q : VK} {E : XK} (hS : StonesAt K H us xs) (hw : Wf 0 xs) (hz : xs.length ≤ 40) (k : ∀ z H', Same H H' → H z = none → RowAt K C H' z xs → Q (.ref z) H') :
    ∀ z dz, H z = Option.none → H dz = Option.none → dz ≠ z → spMake K C (V.ref z :: us) (upd (upd H dz (.own z)) z (.ins C dz [])) (fun v H2 => v = .non ∧ Q (.ref z) H2) E := by
  intro z dz nz ndz ne
  have s0 : Same H (upd (upd H dz (.own z)) z (.ins C dz [])) := (same_new ndz).trans (same_new (by rw [upd_ne (Ne.symm ne)]; exact nz))
  refine ⟨_, us, rfl, by rw [hS.1]; omega, fun t nt => ?_⟩
  have s1 : Same H (upd (upd (upd H dz (.own z)) z (.ins C dz [])) t (.tup us)) := s0.trans (same_new nt)
  have ntz : z ≠ t := ne_of_none upd_same nt
  refine ⟨z, dz, t, us, xs, rfl, by rw [upd_ne ntz]; exact upd_same, SqT.of upd_same, hS.same s1, hw, hz, fun H' b e => ⟨rfl, ?_⟩⟩
  have sm : Same H H' := But.same ((Same.but s1 z).trans b) nz
  exact k z H' sm nz ⟨dz, t, us, e, SqT.of (b t _ (Ne.symm ntz) upd_same), hS.same sm⟩
theorem ok_len {f C : Addr} {fd : FuncData} (F : Fun K "__len__" "Row.__len__" s_Row_len f fd) (B : Blt mg) (R : RowC K mg C) : FnOk P w K mg base CX0 1 f fd ["self"] (spLen K C) := by
  refine F.ok sc_Row_len (fun vs H Q E h => ?_) (fun cdv A outer s H vs Q E hr h => ?_)
  · obtain ⟨p, xs, rfl, _⟩ := h
    rfl
  · obtain ⟨p, xs, rfl, ⟨dx, t, us, hp, hT, hS⟩, k⟩ := h
    refine ⟨_, pss_one (ps_ret (pe_callB call_len_seq (by rfl) B.len PySem.boot_len (pa_cons (pe_fld (pv 0) rfl) pa_nil))), ?_⟩
    refine ⟨_, rfl, p, C, dx, _, _, rfl, hp, R.cl, R.nS, rfl, t, us, rfl, .inr hT, ?_⟩
    rw [hS.1]
    exact k
theorem ok_add {f g C : Addr} {fd : FuncData} (F : Fun K "__add__" "Row.__add__" s_Row_add f fd) (B : Blt mg) (R : RowC K mg C) (M : Mk K C g)
    (G : FnR P w K mg base CX0 3 g (spMake K C)) : FnOk P w K mg base CX0 5 f fd ["self", "other"] (spAdd K C) := by
  refine F.ok sc_Row_add (fun vs H Q E h => ?_) (fun cdv A outer s H vs Q E hr h => ?_)
  · obtain ⟨p, q, xs, ys, rfl, _⟩ := h
    rfl
  · obtain ⟨p, q, xs, ys, rfl, hp, hq, hw, hz, k⟩ := h
    obtain ⟨dx, t, us, ep, hT, hS⟩ := id hp
    obtain ⟨dy, t', us', eq', hT', hS'⟩ := id hq
    refine ⟨_, pss_cons (ps_if (pt_not (pt_val (pe_callB (call_isi) (by rfl) B.isinstance boot_isinstance (pa_cons (pv 1) (pa_cons (pe_glob (v := .ref C) (by rfl) R.mgC rfl) pa_nil))))) (pss_one ps_never) pss_nil)
      (pss_cons (ps_set (i := 2) sc_Row_add.nd rfl (Or.inl rfl) (pe_op op_catA (pe_fld (pv 0) rfl) (pe_fld (pv 1) rfl)))
      (pss_one (ps_ret (Own.pe_makeS M G hr (by rfl) R.mgC pass0 (pv 2))))), ?_⟩
    refine ⟨_, rfl, _, .ref C, _, _, true, rfl, .own C, R.ty eq', kit_self, true, rfl, ?_⟩
    refine iteF ?_
    refine ⟨_, rfl, p, C, dx, _, _, rfl, ep, R.cl, R.nS, rfl, _, rfl, q, C, dy, _, _, rfl, eq', R.cl, R.nS, rfl, t, t', us, us', rfl, rfl, hT, hT', ?_, fun e => ?_, fun n e => ?_, fun n n' y ny => ?_⟩
    · rw [hS.1, hS'.1, ← List.length_append, sizeLine_eq]; omega
    · refine ⟨_, rfl, t', us', rfl, .inl hT', make_row (xs := xs ++ ys) ?_ hw hz k⟩
      have := hS.append hS'
      rw [e] at this
      exact this
    · refine ⟨_, rfl, t, us, rfl, .inl hT, make_row (xs := xs ++ ys) ?_ hw hz k⟩
      have := hS.append hS'
      rw [e, List.append_nil] at this
      exact this
    · have s1 := same_new (o := .tup (us ++ us')) ny
      refine ⟨_, rfl, y, _, rfl, .inl (SqT.of upd_same), make_row ((hS.append hS').same s1) hw hz fun z H' sm nz ra => k z H' (s1.trans sm) (Same.free s1 nz) ra⟩
theorem ok_call {f C g1 g2 g3 : Addr} {fd d1 d2 d3 : FuncData} (F : Fun K "__call__" "Row.__call__" s_Row_call f fd) (B : Blt mg) (R : RowC K mg C) (N1 : At P w K mg base CX0 2 "check_stone" ["stone", "count"] spCheckStone g1 d1)
    (N2 : At P w K mg base CX0 1 "check_side" ["side"] spCheckSide g2 d2) (N3 : At P w K mg base CX0 2 "felled_by" ["stones", "standing", "stone", "side"] (spFelled K) g3 d3) :
    FnOk P w K mg base CX0 3 f fd ["self", "stone", "side"] (spCall K C) := by
  refine F.ok sc_Row_call (fun vs H Q E h => ?_) (fun cdv A outer s H vs Q E hr h => ?_)
  · obtain ⟨p, xs, i, r, rfl, _⟩ := h
    rfl
  · obtain ⟨p, xs, i, r, rfl, ⟨dx, t, us, ep, hT, hS⟩, hi, hz, k⟩ := h
    refine ⟨_, pss_cons (ps_expr (pe_at N1 hr (pa_cons (pv 1) (pa_cons (pe_callB call_len_seq (by rfl) B.len PySem.boot_len (pa_cons (pe_fld (pv 0) rfl) pa_nil)) pa_nil))))
      (pss_cons (ps_expr (pe_at N2 (hr.mono (by decide)) (pa_cons (pv 2) pa_nil)))
      (pss_cons (ps_set (i := 3) sc_Row_call.nd rfl (Or.inl rfl) (pe_op op_rep (pe_lst (pa_cons (pe_bl) pa_nil)) (pe_callB call_len_seq (by rfl) B.len PySem.boot_len (pa_cons (pe_fld (pv 0) rfl) pa_nil))))
      (pss_cons (ps_set (i := 4) sc_Row_call.nd rfl (Or.inl rfl) (pe_at N3 hr (pa_cons (pe_fld (pv 0) rfl) (pa_cons (pv 3) (pa_cons (pv 1) (pa_cons (pv 2) pa_nil))))))
      (pss_one (ps_ret (pe_tup (pa_cons (pe_ix ix_list (pv 4) (pe_int) (fun _ _ => rfl)) (pa_cons (pe_ix ix_list (pv 4) (pe_un un_neg pe_int) (fun _ _ => rfl)) pa_nil)))))))), ?_⟩
    refine ⟨_, rfl, _, rfl, p, C, dx, _, _, rfl, ep, R.cl, R.nS, rfl, t, us, rfl, .inr hT, ?_⟩
    refine ⟨i, xs.length, by rw [hS.1]; rfl, hi, ?_⟩
    refine ⟨_, rfl, r, rfl, ?_⟩
    -- standing
    refine ⟨by show 1 ≤ sizeLine; decide, fun a na => ?_⟩
    have s1 := same_new (o := .lst [V.bl true]) na
    refine ⟨_, rfl, p, C, dx, _, _, rfl, s1 _ _ ep, R.cl, R.nS, rfl, t, us, rfl, .inr (sqT_same hT s1), ?_⟩
    refine ⟨a, _, _, rfl, rfl, upd_same, by omega, by rw [hS.1]; omega, by rw [hS.1, sizeLine_eq]; simp; omega, fun b nb => ?_⟩
    have s2 : Same H _ := s1.trans (same_new (o := .lst (List.replicate ((us.length : Int)).toNat [V.bl true]).flatten) nb)
    -- felled
    refine ⟨_, rfl, p, C, dx, _, _, rfl, s2 _ _ ep, R.cl, R.nS, rfl, _, rfl, _, rfl, _, rfl, ?_⟩
    have eb : (List.replicate ((us.length : Int)).toNat [V.bl true]).flatten = (allUp xs.length).map V.bl := by
      rw [hS.1]
      unfold allUp
      simp
    refine ⟨t, b, us, xs, allUp xs.length, i, r, rfl, sqT_same hT s2, hS.same s2, SqL.of (by rw [upd_same, eb]), by unfold allUp; simp, hi, hz, fun ns q H3 pm so sm nq e3 => ?_⟩
    rw [felled_sorted hi pm so] at e3
    have s3 := s2.trans sm
    have g0 : atI ((rise (run xs i r).1 (reachN xs i r)).map V.int) ((0 : Nat) : Int) = some (.int ((run xs i r).1 : Nat)) := by
      refine atI_nat ?_
      unfold rise
      simp
    have g1 : atI ((rise (run xs i r).1 (reachN xs i r)).map V.int) (-1) = some (.int ((run xs i r).2 : Nat)) := by
      unfold rise
      rw [List.range_succ, List.map_append, List.map_append]
      refine Eq.trans (atI_last _ (V.int (((run xs i r).1 + reachN xs i r : Nat) : Int))) ?_
      rw [run_last hi]
    refine ⟨_, rfl, q, _, _, _, rfl, rfl, SqL.of e3, g0, _, rfl, 1, rfl, q, _, (-1), _, rfl, rfl, SqL.of e3, g1, by show 2 ≤ sizeLine; decide, fun z nz => ?_⟩
    exact k z _ (s3.trans (same_new nz)) (Same.free s3 nz) upd_same
end
/-! ### the law's draws -/
def Drw (K : PySem.W.Frag) (H : Hp) (L a : Addr) (ns : List Int) : Prop := ∃ i s r : Int, H L = some (.lst [.ref a, .int i, .int s, .int r]) ∧ 0 ≤ i ∧ 0 ≤ s ∧ s < 2147483647 ∧ SqL K H a (ns.map V.int)
theorem Drw.up {K : PySem.W.Frag} {H H' : Hp} {L a : Addr} {ns : List Int} (h : Drw K H L a ns) (e : Same H H') : Drw K H' L a ns :=
  let ⟨i, s, r, h1, h2, h3, h4, h5⟩ := h; ⟨i, s, r, e _ _ h1, h2, h3, h4, e.seq h5⟩
theorem script_stays {K : PySem.W.Frag} {H : Hp} {L a : Addr} {ns : List Int} {o : HO} {vs : List V} (h : H L = some (.lst (.ref a :: vs))) (hs : SqL K H a (ns.map V.int)) : SqL K (upd H L o) a (ns.map V.int) := by
  have ne : ∀ u, H a = some u → (u = .lst (ns.map V.int) ∨ ∃ ob, u = .frz ob (.lst (ns.map V.int))) → a ≠ L := by
    intro u hu hk z
    subst z
    rw [h] at hu
    rcases hk with rfl | ⟨ob, rfl⟩
    · injection hu with e
      injection e with e
      cases ns <;> cases e
    · cases hu
  rcases hs with (hs | ⟨ob, hs⟩) | hs
  · exact .inl (.inl (by rw [upd_ne (ne _ hs (.inl rfl))]; exact hs))
  · exact .inl (.inr ⟨ob, by rw [upd_ne (ne _ hs (.inr ⟨ob, rfl⟩))]; exact hs⟩)
  · exact .inr hs
def spTaken (K : PySem.W.Frag) : Sp := fun vs H Q _ => ∃ (L a : Addr) (ns : List Int) (m : Int), vs = [.ref L, .int m] ∧ 0 < m ∧ m < 1073741824 ∧ Drw K H L a ns ∧
  ∀ (n : Int) (H' : Hp), 0 ≤ n → n < m → Drw K H' L a ns → But L H H' → Q (.int n) H'
section
variable {P : Program} {w : World} {K : PySem.W.Frag} {mg : Str → Option Value} {base : Heap}
theorem ok_taken {f : Addr} {fd : FuncData} (F : Fun K "_law_taken" "_law_taken" s_law_taken f fd) (B : Blt mg) : FnOk P w K mg base CX0 1 f fd ["_law_row_here", "_law_many"] (spTaken K) := by
  refine F.ok sc_law_taken (fun vs H Q E h => ?_) (fun cdv A outer s H vs Q E hr h => ?_)
  · obtain ⟨L, a, ns, m, rfl, _⟩ := h
    rfl
  · obtain ⟨L, a, ns, m, rfl, m0, m1, ⟨i, sd, r, hL, i0, sd0, sd1, hs⟩, k⟩ := h
    refine ⟨_, pss_cons (ps_if (pt_cmpR (op_gt) (pe_ix ix_list (pv 0) (pe_int) (fun _ _ => rfl)) (pe_int) (nomark _))
        (pss_cons (ps_set (i := 2) sc_law_taken.nd rfl (Or.inl rfl) (pe_op op_mod (pe_callTy (call_int1) (by rfl) B.int boot_int (pa_cons (pe_ix ix_list (pv 0) (pe_int) (fun _ _ => rfl)) pa_nil)) (pv 1)))
        (pss_cons (ps_asg (pe_op op_fdiv (pe_ix ix_list (pv 0) (pe_int) (fun _ _ => rfl)) (pv 1)) (pg_sub (pv 0) pe_int set_list))
        (pss_one (ps_ret (pv 2))))) pss_nil)
      (pss_cons (ps_asg (pe_op op_add (pe_ix ix_list (pv 0) (pe_int) (fun _ _ => rfl)) (pe_int)) (pg_sub (pv 0) pe_int set_list))
      (pss_cons (ps_if (pt_cmpR (op_gt) (pe_ix ix_list (pv 0) (pe_int) (fun _ _ => rfl)) (pe_callB call_len_seq (by rfl) B.len PySem.boot_len (pa_cons (pe_ix ix_list (pv 0) (pe_int) (fun _ _ => rfl)) pa_nil)) (nomark _))
        (pss_cons (ps_asg (pe_op op_mod (pe_callTy (call_int1) (by rfl) B.int boot_int (pa_cons (pe_op op_add (pe_op op_mul (pe_ix ix_list (pv 0) (pe_int) (fun _ _ => rfl)) pe_int) (pe_int)) pa_nil)) pe_int) (pg_sub (pv 0) pe_int set_list))
        (pss_one (ps_ret (pe_op op_mod (pe_callTy (call_int1) (by rfl) B.int boot_int (pa_cons (pe_op op_fdiv (pe_ix ix_list (pv 0) (pe_int) (fun _ _ => rfl)) pe_int) pa_nil)) (pv 1))))) pss_nil)
      (pss_cons (ps_set (i := 3) sc_law_taken.nd rfl (Or.inl rfl) (pe_ix ix_list (pe_ix ix_list (pv 0) (pe_int) (fun _ _ => rfl)) (pe_op op_sub (pe_ix ix_list (pv 0) (pe_int) (fun _ _ => rfl)) (pe_int)) (fun _ _ => rfl)))
      (pss_cons (ps_asg (pe_op op_mod (pe_callTy (call_int1) (by rfl) B.int boot_int (pa_cons (pe_op op_add (pe_op op_add (pe_op op_mul (pe_ix ix_list (pv 0) (pe_int) (fun _ _ => rfl)) pe_int) (pv 3)) (pe_int)) pa_nil)) pe_int) (pg_sub (pv 0) pe_int set_list))
      (pss_cons (ps_if (pt_cmpR (op_ge) (pv 3) (pe_op op_pow pe_int pe_int) (nomark _)) (pss_one (ps_asg (pe_op op_fdiv (pv 3) (pv 1)) (pg_sub (pv 0) pe_int set_list))) pss_nil)
      (pss_one (ps_ret (pe_op op_mod (pe_callTy (call_int1) (by rfl) B.int boot_int (pa_cons (pv 3) pa_nil)) (pv 1))))))))), ?_⟩
    -- if row[3] > 0
    refine ⟨_, rfl, ⟨L, _, ((3 : Nat) : Int), _, rfl, rfl, SqL.of hL, atI_nat (j := 3) rfl, _, _, rfl, rfl, _, rfl, ?_⟩⟩
    refine ite2 (fun hr3 => ?_) (fun hr3 => ?_)
    · refine ⟨_, rfl, ⟨L, _, ((3 : Nat) : Int), _, rfl, rfl, SqL.of hL, atI_nat (j := 3) rfl, .inl ⟨_, rfl, _, rfl, _, _, rfl, rfl, m0, ?_⟩⟩⟩
      refine ⟨_, rfl, ⟨L, _, ((3 : Nat) : Int), _, rfl, rfl, SqL.of hL, atI_nat (j := 3) rfl, _, rfl, _, _, rfl, rfl, ⟨m0, m1⟩, _, rfl, L, _, _, 3, rfl, rfl, hL, rfl, _, rfl, ?_⟩⟩
      exact k _ _ (Int.emod_nonneg _ (by omega)) (Int.emod_lt_of_pos _ m0) ⟨i, sd, _, upd_same, i0, sd0, sd1, script_stays hL hs⟩ but_upd
    · -- row[1] = row[1] + 1
      refine ⟨_, rfl, ⟨L, _, ((1 : Nat) : Int), _, rfl, rfl, SqL.of hL, atI_nat (j := 1) rfl, _, _, rfl, rfl, _, rfl, L, _, _, 1, rfl, rfl, hL, rfl, ?_⟩⟩
      have hs1 : SqL K (upd H L (.lst [.ref a, .int (i + 1), .int sd, .int r])) a (ns.map V.int) := script_stays hL hs
      have b1 : But L H (upd H L (.lst [.ref a, .int (i + 1), .int sd, .int r])) := but_upd
      have h1 : (upd H L (.lst [.ref a, .int (i + 1), .int sd, .int r])) L = some (.lst [.ref a, .int (i + 1), .int sd, .int r]) := upd_same
      generalize hH1 : upd H L (.lst [.ref a, .int (i + 1), .int sd, .int r]) = H1 at hs1 b1 h1
      rw [show upd H L (.lst ([V.ref a, V.int i, V.int sd, V.int r].set 1 (V.int (i + 1)))) = H1 from hH1]
      refine ⟨_, rfl, ⟨L, _, ((1 : Nat) : Int), _, rfl, rfl, SqL.of h1, atI_nat (j := 1) rfl, _, rfl, ⟨L, _, ((0 : Nat) : Int), _, rfl, rfl, SqL.of h1, atI_nat (j := 0) rfl, a, _, rfl, .inl hs1, _, _, rfl, rfl, _, rfl, ?_⟩⟩⟩
      refine ite2 (fun hgt => ?_) (fun hgt => ?_)
      · refine ⟨_, rfl, ⟨L, _, ((2 : Nat) : Int), _, rfl, rfl, SqL.of h1, atI_nat (j := 2) rfl, _, _, rfl, rfl, .inl ⟨by omega, by omega⟩, _, _, rfl, rfl, .inl ⟨_, rfl, _, _, rfl, rfl, (show (0 : Int) < 2147483647 by decide), _, rfl, L, _, _, 2, rfl, rfl, h1, rfl, ?_⟩⟩⟩
        have h2 : ∀ z : Int, (upd H1 L (.lst [.ref a, .int (i + 1), .int z, .int r])) L = some (.lst [.ref a, .int (i + 1), .int z, .int r]) := fun z => upd_same
        refine ⟨_, rfl, ⟨L, _, ((2 : Nat) : Int), _, rfl, rfl, SqL.of (h2 _), atI_nat (j := 2) rfl, _, _, rfl, rfl, ⟨by decide, by decide⟩, .inl ⟨_, rfl, _, rfl, _, _, rfl, rfl, m0, ?_⟩⟩⟩
        exact k _ _ (Int.emod_nonneg _ (by omega)) (Int.emod_lt_of_pos _ m0) ⟨i + 1, _, r, upd_same, by omega, Int.emod_nonneg _ (by decide), Int.emod_lt_of_pos _ (by decide), script_stays h1 hs1⟩ (b1.trans but_upd)
      · have hle : i + 1 ≤ (ns.length : Int) := by
          have : ¬ i + 1 > ((ns.map V.int).length : Int) := fun z => hgt (decide_eq_true z)
          rw [List.length_map] at this
          omega
        obtain ⟨c, hc⟩ : ∃ c, ns[i.toNat]? = some c := ⟨ns[i.toNat]'(by omega), by simp⟩
        have hc2 : atI (ns.map V.int) (i + 1 - 1) = some (.int c) := at_of (j := i.toNat) (by omega) (by rw [List.getElem?_map, hc]; rfl)
        refine ⟨_, rfl, ⟨L, _, ((0 : Nat) : Int), _, rfl, rfl, SqL.of h1, atI_nat (j := 0) rfl, _, rfl, ⟨L, _, ((1 : Nat) : Int), _, rfl, rfl, SqL.of h1, atI_nat (j := 1) rfl, _, _, rfl, rfl, a, _, _, _, rfl, rfl, hs1, hc2, ?_⟩⟩⟩
        refine ⟨_, rfl, ⟨L, _, ((2 : Nat) : Int), _, rfl, rfl, SqL.of h1, atI_nat (j := 2) rfl, _, _, rfl, rfl, .inl ⟨by omega, by omega⟩, _, rfl, _, _, rfl, rfl, _, _, rfl, rfl, .inl ⟨_, rfl, _, _, rfl, rfl, (show (0 : Int) < 2147483647 by decide), _, rfl, L, _, _, 2, rfl, rfl, h1, rfl, ?_⟩⟩⟩
        refine ⟨_, rfl, 10, 18, rfl, rfl, ⟨by decide, by decide, by decide⟩, _, _, rfl, rfl, _, rfl, ?_⟩
        have h2 : ∀ z : Int, (upd H1 L (.lst [.ref a, .int (i + 1), .int z, .int r])) L = some (.lst [.ref a, .int (i + 1), .int z, .int r]) := fun z => upd_same
        refine ite2 (fun hbig => ?_) (fun hbig => ?_)
        · refine ⟨_, rfl, _, rfl, _, _, rfl, rfl, ⟨m0, m1⟩, _, rfl, L, _, _, 3, rfl, rfl, h2 _, rfl, ?_⟩
          refine ⟨_, rfl, .inl ⟨_, rfl, _, rfl, _, _, rfl, rfl, m0, ?_⟩⟩
          exact k _ _ (Int.emod_nonneg _ (by omega)) (Int.emod_lt_of_pos _ m0) ⟨i + 1, _, _, upd_same, by omega, Int.emod_nonneg _ (by decide), Int.emod_lt_of_pos _ (by decide), script_stays (h2 _) (script_stays h1 hs1)⟩ ((b1.trans but_upd).trans but_upd)
        · refine ⟨_, rfl, .inl ⟨_, rfl, _, rfl, _, _, rfl, rfl, m0, ?_⟩⟩
          exact k _ _ (Int.emod_nonneg _ (by omega)) (Int.emod_lt_of_pos _ m0) ⟨i + 1, _, r, upd_same, by omega, Int.emod_nonneg _ (by decide), Int.emod_lt_of_pos _ (by decide), script_stays h1 hs1⟩ (b1.trans but_upd)
end
/-! ### objects that stay while a list changes -/
theorem sqT_but {K : PySem.W.Frag} {H H' : Hp} {a l : Addr} {xs ys : List V} (h : SqT K H a xs) (hl : H l = some (.lst ys)) (b : But l H H') : SqT K H' a xs := by
  rcases h with (h | ⟨o, h⟩) | h
  · exact .inl (.inl (b _ _ (ne_of h hl (by intro z; cases z)) h))
  · exact .inl (.inr ⟨o, b _ _ (ne_of h hl (by intro z; cases z)) h⟩)
  · exact .inr h
theorem StonesAt.but {K : PySem.W.Frag} {H H' : Hp} {l : Addr} {ys vs : List V} {xs : List (Int × Int)} (h : StonesAt K H vs xs) (hl : H l = some (.lst ys)) (b : But l H H') : StonesAt K H' vs xs :=
  ⟨h.1, fun k x q => let ⟨a, q1, q2⟩ := h.2 k x q; ⟨a, q1, sqT_but q2 hl b⟩⟩
theorem RowAt.but {K : PySem.W.Frag} {C : Addr} {H H' : Hp} {p l : Addr} {ys : List V} {xs : List (Int × Int)} (h : RowAt K C H p xs) (hl : H l = some (.lst ys)) (b : But l H H') : RowAt K C H' p xs :=
  let ⟨dx, t, us, h1, h2, h3⟩ := h; ⟨dx, t, us, b _ _ (ne_of h1 hl (by intro z; cases z)) h1, sqT_but h2 hl b, h3.but hl b⟩
/-- the law's own list: the script, a place in it, a seed, a rest -/
def Cell (H : Hp) (L a : Addr) : Prop := ∃ i s r : Int, H L = some (.lst [.ref a, .int i, .int s, .int r]) ∧ 0 ≤ i ∧ 0 ≤ s ∧ s < 2147483647
theorem Drw.cell {K : PySem.W.Frag} {H : Hp} {L a : Addr} {ns : List Int} (h : Drw K H L a ns) : Cell H L a := let ⟨i, s, r, h1, h2, h3, h4, _⟩ := h; ⟨i, s, r, h1, h2, h3, h4⟩
theorem Cell.list {H : Hp} {L a : Addr} (h : Cell H L a) : ∃ ys, H L = some (.lst ys) := let ⟨_, _, _, h, _⟩ := h; ⟨_, h⟩
theorem Cell.but {H H' : Hp} {L a p : Addr} (h : Cell H L a) (b : But p H H') (ne : L ≠ p) : Cell H' L a := let ⟨i, s, r, h1, h2⟩ := h; ⟨i, s, r, b _ _ ne h1, h2⟩
theorem Cell.same {H H' : Hp} {L a : Addr} (h : Cell H L a) (b : Same H H') : Cell H' L a := let ⟨i, s, r, h1, h2⟩ := h; ⟨i, s, r, b _ _ h1, h2⟩
theorem Drw.next {K : PySem.W.Frag} {H H' : Hp} {L a : Addr} {ns : List Int} (h : Drw K H L a ns) (b : But L H H') (c : Cell H' L a) : Drw K H' L a ns := by
  obtain ⟨i, s, r, h1, h2, h3, h4, hs⟩ := h
  obtain ⟨i', s', r', g1, g2, g3, g4⟩ := c
  refine ⟨i', s', r', g1, g2, g3, g4, ?_⟩
  have ne : ∀ u, H a = some u → (u = .lst (ns.map V.int) ∨ ∃ ob, u = .frz ob (.lst (ns.map V.int))) → a ≠ L := by
    intro u hu hk z
    subst z
    rw [h1] at hu
    rcases hk with rfl | ⟨ob, rfl⟩
    · injection hu with e
      injection e with e
      cases ns <;> cases e
    · cases hu
  rcases hs with (hs | ⟨ob, hs⟩) | hs
  · exact .inl (.inl (b _ _ (ne _ hs (.inl rfl)) hs))
  · exact .inl (.inr ⟨ob, b _ _ (ne _ hs (.inr ⟨ob, rfl⟩)) hs⟩)
  · exact .inr hs
theorem But.sub {H H' : Hp} {p L : Addr} (b : But p H H') (hp : H p = none) : But L H H' := fun c o _ e => b c o (ne_of_none e hp) e
/-- all but l stays; a new p may change, too -/
theorem But.two {H H1 H2 : Hp} {p L : Addr} (a : But L H H1) (hp : H p = none) (b : But p H1 H2) : But L H H2 := fun c o n e => b c o (ne_of_none e hp) (a c o n e)

/-! ### the law's stones -/
/-- stones as the law draws them -/
def Drawn (xs : List (Int × Int)) : Prop := ∀ x ∈ xs, 0 ≤ x.1 ∧ x.1 ≤ 2 + 10 * (xs.length : Int) ∧ 1 ≤ x.2 ∧ x.2 ≤ 40
theorem Wf.snoc : ∀ {xs : List (Int × Int)} {lo : Int} {y : Int × Int}, Wf lo xs → lo ≤ y.1 → (∀ x ∈ xs, x.1 + 1 ≤ y.1) → y.1 ≤ 1000000000 → 1 ≤ y.2 → y.2 ≤ 1000000000 → Wf lo (xs ++ [y])
  | [], lo, y, _, h1, _, h2, h3, h4 => ⟨h1, h2, h3, h4, True.intro⟩
  | x :: xs, lo, y, w, _, h, h2, h3, h4 => ⟨w.1, w.2.1, w.2.2.1, w.2.2.2.1, Wf.snoc w.2.2.2.2 (h x (by simp)) (fun z hz => h z (by simp [hz])) h2 h3 h4⟩
theorem pick {m k : Int} {vs : List Int} (hm : m = (vs.length : Int)) (h0 : 0 ≤ k) (h1 : k < m) : ∃ z ∈ vs, atI (vs.map V.int) k = some (.int z) := by
  have hk : k.toNat < vs.length := by omega
  exact ⟨vs[k.toNat], by simp, at_of (j := k.toNat) (by omega) (by simp [hk])⟩
def spStones (K : PySem.W.Frag) : Sp := fun vs H Q _ => ∃ (L a : Addr) (ns : List Int) (m : Int), vs = [.ref L, .int m] ∧ 0 ≤ m ∧ m ≤ 30 ∧ Drw K H L a ns ∧
  ∀ (p : Addr) (us : List V) (xs : List (Int × Int)) (H' : Hp), Drw K H' L a ns → But L H H' → H p = none → H' p = some (.lst us) → StonesAt K H' us xs → Wf 0 xs → Drawn xs → (xs.length : Int) ≤ m → Q (.ref p) H'
section
variable {P : Program} {w : World} {K : PySem.W.Frag} {mg : Str → Option Value} {base : Heap}
theorem ok_stones {f g : Addr} {fd gd : FuncData} (F : Fun K "_law_stones" "_law_stones" s_law_stones f fd) (B : Blt mg) (N : At P w K mg base CX0 1 "_law_taken" ["_law_row_here", "_law_many"] (spTaken K) g gd) :
    FnOk P w K mg base CX0 2 f fd ["_law_row_here", "_law_most"] (spStones K) := by
  refine F.ok sc_law_stones (fun vs H Q E h => ?_) (fun cdv A outer s H vs Q E hr h => ?_)
  · obtain ⟨L, a, ns, m, rfl, _⟩ := h
    rfl
  · obtain ⟨L, a, ns, m, rfl, m0, m1, D, k⟩ := h
    refine ⟨_, pss_cons (ps_par rfl sc_law_stones.nd (i := 2) (j := 3) rfl rfl (by decide) rfl rfl (pa_cons (pe_lst pa_nil) (pa_cons (pe_at N hr (pa_cons (pv 0) (pa_cons (pe_int) pa_nil))) pa_nil)) (by rfl))
      (pss_cons (ps_for PassesOwn.never rfl (pi_range1 (by rfl) B.range (pa_cons (pe_at N hr (pa_cons (pv 0) (pa_cons (pe_op op_add (pv 1) (pe_int)) pa_nil))) pa_nil)) (pg_name (i := 4) sc_law_stones.nd rfl (Or.inl rfl))
        (pss_cons (ps_expr (pe_bm PySem.F.plainAttrs_list PySem.F.slot_list_append PySem.F.type_list_append mt_append (pv 2) (pa_cons (pe_tup (pa_cons (pv 3) (pa_cons (pe_op op_add (pe_int) (pe_at N hr (pa_cons (pv 0) (pa_cons (pe_ix ix_list (pe_lst (pa_cons (pe_int) (pa_cons (pe_int) (pa_cons (pe_int) (pa_cons (pe_int) pa_nil))))) (pe_at N hr (pa_cons (pv 0) (pa_cons (pe_int) pa_nil))) (fun _ _ => rfl)) pa_nil)))) pa_nil))) pa_nil)))
        (pss_one (ps_set (i := 3) sc_law_stones.nd rfl (Or.inl rfl) (pe_op op_add (pe_op op_add (pv 3) (pe_int)) (pe_at N hr (pa_cons (pv 0) (pa_cons (pe_ix ix_list (pe_lst (pa_cons (pe_int) (pa_cons (pe_int) (pa_cons (pe_int) pa_nil)))) (pe_at N hr (pa_cons (pv 0) (pa_cons (pe_int) pa_nil))) (fun _ _ => rfl)) pa_nil))))))))
      (pss_one (ps_ret (pv 2)))), ?_⟩
    refine ⟨by show 0 ≤ sizeLine; decide, fun p np => ?_⟩
    have c0 := D.cell
    have nLp : L ≠ p := let ⟨ys, e⟩ := c0.list; ne_of_none e np
    -- place
    refine ⟨_, rfl, L, a, ns, 3, rfl, by decide, by decide, D.up (same_new np), fun pl H1 p0 p1 D1 b1 => ?_⟩
    have e1 : H1 p = some (.lst []) := b1 _ _ (Ne.symm nLp) upd_same
    have b1' : But L H H1 := (Same.but (same_new np) L).trans b1
    refine ⟨_, _, rfl, ?_⟩
    -- how many
    refine ⟨_, rfl, _, rfl, _, _, rfl, rfl, L, a, ns, m + 1, rfl, by omega, by omega, D1, fun n H2 n0 n1 D2 b2 => ?_⟩
    refine ⟨n, rfl, by omega, by omega, for_range (lo := 0) (n := n.toNat) (fun j σ H3 => ∃ (us : List V) (xs : List (Int × Int)) (pl : Int) (s4 : Option V), σ = [some (.ref L), some (.int m), some (.ref p), some (.int pl), s4] ∧
      Cell H3 L a ∧ But L H H3 ∧ H3 p = some (.lst us) ∧ StonesAt K H3 us xs ∧ Wf 0 xs ∧ xs.length = j ∧ 0 ≤ pl ∧ pl ≤ 2 + 10 * (j : Int) ∧ Drawn xs ∧ (∀ x ∈ xs, x.1 + 1 ≤ pl)) ?_ ?_ ?_⟩
    · exact ⟨[], [], pl, none, rfl, D2.cell, b1'.trans b2, b2 _ _ (Ne.symm nLp) e1, StonesAt.nil, True.intro, rfl, p0, by omega, fun x h => (nomatch h), fun x h => (nomatch h)⟩
    · rintro j σ H3 hj ⟨us, xs, pl, s4, rfl, cl, b3, ep, hS, hw, hl, q0, q1, hd, hlt⟩
      have hj' : (j : Int) < 30 := by omega
      -- the tuple: place, 1 + ..
      refine ⟨_, rfl, .inl ⟨rfl, _, SqL.of ep⟩, ?_⟩
      refine ⟨_, rfl, _, rfl, ?_⟩
      refine ⟨by show 4 ≤ sizeLine; decide, fun l1 nl1 => ?_⟩
      have s4' := same_new (o := .lst [V.int 2, V.int 5, V.int 12, V.int 40]) nl1
      refine ⟨_, rfl, L, a, ns, 4, rfl, by decide, by decide, (D.next b3 cl).up s4', fun k1 H4 k10 k11 D4 b4 => ?_⟩
      obtain ⟨z1, hz1, ez1⟩ := pick (vs := [2, 5, 12, 40]) rfl k10 k11
      have nl1L : l1 ≠ L := fun e => by obtain ⟨ys, q⟩ := cl.list; rw [← e, nl1] at q; cases q
      refine ⟨l1, _, k1, _, rfl, rfl, SqL.of (b4 _ _ nl1L upd_same), ez1, ?_⟩
      have z1b : 1 ≤ z1 ∧ z1 ≤ 40 := by simp at hz1; omega
      refine ⟨L, a, ns, z1, rfl, by omega, by omega, D4, fun h1 H5 h10 h11 D5 b5 => ?_⟩
      refine ⟨_, _, rfl, rfl, by show 2 ≤ sizeLine; decide, fun T nT => ?_⟩
      have b35 : But L H3 H5 := ((Same.but s4' L).trans b4).trans b5
      have ep5 : H5 p = some (.lst us) := b35 _ _ (Ne.symm nLp) ep
      have epT : (upd H5 T (.tup [V.int pl, V.int (1 + h1)])) p = some (.lst us) := same_new nT _ _ ep5
      obtain ⟨ysL, eL⟩ := cl.list
      have hS5 : StonesAt K (upd H5 T (.tup [V.int pl, V.int (1 + h1)])) us xs := (hS.but eL b35).same (same_new nT)
      refine ⟨p, us, _, rfl, rfl, epT, ?_, ?_⟩
      · rw [hS.1, hl, sizeLine_eq]; omega
      have epN : (upd (upd H5 T (.tup [V.int pl, V.int (1 + h1)])) p (.lst (us ++ [.ref T]))) p = some (.lst (us ++ [.ref T])) := upd_same
      have hT : SqT K (upd (upd H5 T (.tup [V.int pl, V.int (1 + h1)])) p (.lst (us ++ [.ref T]))) T [V.int pl, V.int (1 + h1)] := sqT_but (SqT.of upd_same) epT but_upd
      have hSN : StonesAt K (upd (upd H5 T (.tup [V.int pl, V.int (1 + h1)])) p (.lst (us ++ [.ref T]))) (us ++ [.ref T]) (xs ++ [(pl, 1 + h1)]) := (hS5.but epT but_upd).append (StonesAt.one hT)
      have clN : Cell (upd (upd H5 T (.tup [V.int pl, V.int (1 + h1)])) p (.lst (us ++ [.ref T]))) L a := (D5.cell.same (same_new nT)).but but_upd nLp
      have bN : But L H (upd (upd H5 T (.tup [V.int pl, V.int (1 + h1)])) p (.lst (us ++ [.ref T]))) := ((b3.trans b35).new nT).two np but_upd
      generalize hHN : upd (upd H5 T (.tup [V.int pl, V.int (1 + h1)])) p (.lst (us ++ [.ref T])) = HN at epN hSN clN bN
      -- place = place + 1 + ..
      refine ⟨_, rfl, _, _, rfl, rfl, _, rfl, ?_⟩
      refine ⟨by show 3 ≤ sizeLine; decide, fun l2 nl2 => ?_⟩
      have s6 := same_new (o := .lst [V.int 1, V.int 3, V.int 9]) nl2
      refine ⟨_, rfl, L, a, ns, 3, rfl, by decide, by decide, (D.next bN clN).up s6, fun k2 H6 k20 k21 D6 b6 => ?_⟩
      obtain ⟨z2, hz2, ez2⟩ := pick (vs := [1, 3, 9]) rfl k20 k21
      have nl2L : l2 ≠ L := fun e => by obtain ⟨ys, q⟩ := clN.list; rw [← e, nl2] at q; cases q
      refine ⟨l2, _, k2, _, rfl, rfl, SqL.of (b6 _ _ nl2L upd_same), ez2, ?_⟩
      have z2b : 1 ≤ z2 ∧ z2 ≤ 9 := by simp at hz2; omega
      refine ⟨L, a, ns, z2, rfl, by omega, by omega, D6, fun h2 H7 h20 h21 D7 b7 => ?_⟩
      have bN7 : But L HN H7 := ((Same.but s6 L).trans b6).trans b7
      obtain ⟨ysN, eN⟩ := clN.list
      refine ⟨_, _, rfl, rfl, us ++ [.ref T], xs ++ [(pl, 1 + h1)], pl + 1 + h2, _, rfl, D7.cell, bN.trans bN7, bN7 _ _ (Ne.symm nLp) epN, hSN.but eN bN7, ?_, by simp [hl], by omega, by omega, ?_, ?_⟩
      · exact hw.snoc q0 hlt (by show pl ≤ _; omega) (by show 1 ≤ 1 + h1; omega) (by show 1 + h1 ≤ _; omega)
      · intro x hx
        rcases List.mem_append.mp hx with hx | hx
        · obtain ⟨w1, w2, w3⟩ := hd x hx; exact ⟨w1, by rw [List.length_append]; simp; omega, w3⟩
        · simp at hx; subst hx; exact ⟨q0, by rw [List.length_append]; simp; omega, by show 1 ≤ 1 + h1; omega, by show 1 + h1 ≤ 40; omega⟩
      · intro x hx
        rcases List.mem_append.mp hx with hx | hx
        · have := hlt x hx; omega
        · simp at hx; subst hx; show pl + 1 ≤ _; omega
    · rintro σ H3 ⟨us, xs, pl, s4, rfl, cl, b3, ep, hS, hw, hl, q0, q1, hd, hlt⟩
      exact ⟨_, rfl, k p us xs H3 (D.next b3 cl) b3 np ep hS hw hd (by omega)⟩
end
/-! ### the law's row, put together one by one -/
theorem toR {P : Program} {w : World} {K : PySem.W.Frag} {mg : Str → Option Value} {base : Heap} {CX : CXT} {k : Nat} {f : Addr} {fd : FuncData} {ps : List Str} {sp : Sp} (F : FnOk P w K mg base CX k f fd ps sp) (b : Binds K fd ps []) : FnR P w K mg base CX k f sp :=
  (F.raw b .nil).imp fun vs H Q E h => by rw [List.append_nil]; exact h
theorem Wf.take : ∀ {xs : List (Int × Int)} {lo : Int} (n : Nat), Wf lo xs → Wf lo (xs.take n)
  | [], _, n, _ => by cases n <;> exact True.intro
  | _ :: _, _, 0, _ => True.intro
  | x :: xs, _, n + 1, w => ⟨w.1, w.2.1, w.2.2.1, w.2.2.2.1, Wf.take n w.2.2.2.2⟩
theorem Wf.low : ∀ {xs : List (Int × Int)} {lo : Int} {k : Nat} {x : Int × Int}, Wf lo xs → xs[k]? = some x → lo ≤ x.1
  | [], _, _, _, _, e => by simp at e
  | z :: xs, lo, 0, x, w, e => by simp at e; subst e; exact w.1
  | z :: xs, lo, k + 1, x, w, e => by
    simp at e
    have h1 := w.1
    have h2 := Wf.low w.2.2.2.2 e
    omega
theorem Wf.sub {xs : List (Int × Int)} {lo : Int} {k : Nat} {x : Int × Int} (h0 : 0 ≤ lo) (w : Wf lo xs) (e : xs[k]? = some x) : Wf 0 [x] := by
  obtain ⟨_, _, h3, h4, h5⟩ := w.get e
  exact ⟨Int.le_trans h0 (w.low e), h3, h4, h5, True.intro⟩
def spRow (K : PySem.W.Frag) (C : Addr) : Sp := fun vs H Q _ => ∃ (q : Addr) (us : List V) (xs : List (Int × Int)), vs = [.ref q] ∧ SqL K H q us ∧ StonesAt K H us xs ∧ Wf 0 xs ∧ xs.length ≤ 40 ∧
  ∀ z H', Same H H' → H z = none → RowAt K C H' z xs → Q (.ref z) H'
theorem seq_of {t u : TS} {D : Ends} {σ : L2.St} {H : Hp} (h : t { D with nx := u D } σ H) : tSeq t u D σ H := h
theorem asg_of {te : TE} {g : TG} {D : Ends} {σ : L2.St} {H : Hp} (h : te σ H fun x H1 => g x σ H1 D.nx) : tAsg te g D σ H := h
theorem mk0 {K : PySem.W.Frag} {C : Addr} {E : XK} {σ : L2.St} {H : Hp} {Q : VK} (h : ∀ z H', Same H H' → H z = none → RowAt K C H' z [] → Q (.ref z) H') : StX.tMakeR C (spMake K C) E tNil σ H Q :=
  fun n1 n2 n3 n4 n5 => make_row (Q := Q) (xs := []) StonesAt.nil True.intro (by decide) h n1 n2 n3 n4 n5
theorem mk1 {K : PySem.W.Frag} {C : Addr} {E : XK} {σ : L2.St} {H : Hp} {Q : VK} {i : Nat} {c : Addr} {x : Int × Int} (e : σ[i]? = some (some (.ref c))) (hx : SqT K H c [.int x.1, .int x.2]) (w : Wf 0 [x]) (h : ∀ z H', Same H H' → H z = none → RowAt K C H' z [x] → Q (.ref z) H') :
    StX.tMakeR C (spMake K C) E (tCons (tVar i) tNil) σ H Q :=
  ⟨_, e, fun n1 n2 n3 n4 n5 => make_row (Q := Q) (xs := [x]) (StonesAt.one hx) w (by simp) h n1 n2 n3 n4 n5⟩
/-- how a sign's def stands in the class -/
structure Sign (K : PySem.W.Frag) (C : Addr) (x : Str) (f : Addr) : Prop where
  at_ : PySem.W.findIn K (.ref C) x = some (some (.ref f))
  fn : PySem.W.isFn K (.ref f) = true
section
variable {P : Program} {w : World} {K : PySem.W.Frag} {mg : Str → Option Value} {base : Heap}
theorem ok_row {f g a C : Addr} {fd : FuncData} (F : Fun K "_law_row" "_law_row" s_law_row f fd) (B : Blt mg) (R : RowC K mg C) (M : Mk K C g) (G : FnR P w K mg base CX0 3 g (spMake K C)) (A1 : FnR P w K mg base CX0 5 a (spAdd K C)) (SA : Sign K C "__add__" a) :
    FnOk P w K mg base CX0 6 f fd ["_law_stones_here"] (spRow K C) := by
  refine F.ok sc_law_row (fun vs H Q E h => ?_) (fun cdv A outer s H vs Q E hr h => ?_)
  · obtain ⟨q, us, xs, rfl, _⟩ := h
    rfl
  · obtain ⟨q, us, xs, rfl, hq, hS, hw, hz, k⟩ := h
    refine ⟨_, pss_cons (ps_set (i := 1) sc_law_row.nd rfl (Or.inl rfl) (Own.pe_makeR0 M G (hr.mono (by decide)) (by rfl) R.mgC pass0))
      (pss_cons (ps_for PassesOwn.never rfl (pi_list (pv 0)) (pg_name (i := 2) sc_law_row.nd rfl (Or.inl rfl))
        (pss_one (ps_set (i := 1) sc_law_row.nd rfl (Or.inl rfl) (pe_op (Own.op_bin (op := .Add) (C := C) (g := a) R.first SA.at_ SA.fn A1 hr pass0) (pv 1) (StX.pe_makeR M G (hr.mono (by decide)) (by rfl) R.mgC pass0 (pa_cons (pv 2) pa_nil))))))
      (pss_one (ps_ret (pv 1)))), ?_⟩
    refine seq_of (asg_of (mk0 fun z0 H1 s1 nz0 r0 => ?_))
    refine ⟨_, rfl, q, rfl, ⟨_, s1.seq hq⟩, for_list (K := K) (a := q) (xs := us) (fun j σ H2 => ∃ (z : Addr) (s2 : Option V), σ = [some (.ref q), some (.ref z), s2] ∧ Same H H2 ∧ H z = none ∧ RowAt K C H2 z (xs.take j)) ?_ ?_ ?_ ?_⟩
    · exact ⟨z0, none, rfl, s1, nz0, by rw [List.take_zero]; exact r0⟩
    · rintro j σ H2 _ ⟨_, _, _, sm, _⟩
      exact sm.seq hq
    · rintro j y σ H2 hy ⟨z, s2, rfl, sm, nz, rz⟩
      have hj : j < xs.length := by rw [← hS.1]; exact (List.getElem?_eq_some_iff.mp hy).1
      obtain ⟨x, hx⟩ : ∃ x, xs[j]? = some x := ⟨xs[j], by simp [hj]⟩
      obtain ⟨c, hc, hsc⟩ := hS.2 j x hx
      obtain rfl : y = V.ref c := Option.some.inj (hy.symm.trans hc)
      refine ⟨_, rfl, mk1 (i := 2) (x := x) rfl (sqT_same hsc sm) (hw.sub (Int.le_refl _) hx) fun z2 H3 s3 nz2 r2 => ?_⟩
      obtain ⟨dx, t, ws, e1, g1, g2⟩ := id (rz.same s3)
      obtain ⟨dy, t', ws', e2, g3, g4⟩ := id r2
      have et : xs.take j ++ [x] = xs.take (j + 1) := by rw [List.take_add_one, hx]; rfl
      refine ⟨z, dx, _, z2, dy, _, rfl, rfl, e1, e2, z, z2, _, _, rfl, rz.same s3, r2, by rw [et]; exact hw.take _, by rw [et]; simp; omega, fun z4 H4 s4 nz4 r4 => ?_⟩
      rw [et] at r4
      exact ⟨z4, _, rfl, (sm.trans s3).trans s4, Same.free (sm.trans s3) nz4, r4⟩
    · rintro σ H2 ⟨z, s2, rfl, sm, nz, rz⟩
      rw [show us.length = xs.length from hS.1, List.take_length] at rz
      exact ⟨_, rfl, k z H2 sm nz rz⟩
end
/-! ### lists of tuples -/
def TupsAt {α : Type} (K : PySem.W.Frag) (H : Hp) (f : α → List V) (vs : List V) (xs : List α) : Prop :=
  vs.length = xs.length ∧ ∀ (k : Nat) (x : α), xs[k]? = some x → ∃ a : Addr, vs[k]? = some (V.ref a) ∧ SqT K H a (f x)
section
variable {α : Type} {K : PySem.W.Frag} {H H' : Hp} {f : α → List V} {vs us : List V} {xs ys : List α}
theorem TupsAt.same (h : TupsAt K H f vs xs) (e : Same H H') : TupsAt K H' f vs xs := ⟨h.1, fun k x q => let ⟨a, q1, q2⟩ := h.2 k x q; ⟨a, q1, sqT_same q2 e⟩⟩
theorem TupsAt.but {l : Addr} {zs : List V} (h : TupsAt K H f vs xs) (hl : H l = some (.lst zs)) (b : But l H H') : TupsAt K H' f vs xs := ⟨h.1, fun k x q => let ⟨a, q1, q2⟩ := h.2 k x q; ⟨a, q1, sqT_but q2 hl b⟩⟩
theorem TupsAt.nil : TupsAt K H f [] [] := ⟨rfl, fun k x q => by simp at q⟩
theorem TupsAt.append (h : TupsAt K H f vs xs) (g : TupsAt K H f us ys) : TupsAt K H f (vs ++ us) (xs ++ ys) := by
  refine ⟨by rw [List.length_append, List.length_append, h.1, g.1], fun k x q => ?_⟩
  by_cases hk : k < xs.length
  · rw [List.getElem?_append_left hk] at q
    rw [List.getElem?_append_left (by rw [h.1]; exact hk)]
    exact h.2 k x q
  · rw [List.getElem?_append_right (by omega)] at q
    rw [List.getElem?_append_right (by rw [h.1]; omega), h.1]
    exact g.2 _ x q
theorem TupsAt.one {a : Addr} {x : α} (h : SqT K H a (f x)) : TupsAt K H f [.ref a] [x] := by
  refine ⟨rfl, fun k y q => ?_⟩
  cases k with
  | zero => simp at q; subst q; exact ⟨a, rfl, h⟩
  | succ k => simp at q
end
/-! ### the fewest pushes -/
abbrev Push := Nat × Bool
def pushV (p : Push) : List V := [.int (p.1 : Nat), .str (sideS p.2)]
def better (xs : List (Int × Int)) (pss : List (List Push)) (l : Nat) (best : List Push) (s : Nat) : List Push :=
  if ((s, true) :: pss.getD s []).length < best.length ∧ l ≤ (run xs s true).2 then (s, true) :: pss.getD s [] else best
def first7 (xs : List (Int × Int)) (pss : List (List Push)) (l : Nat) : List Push := (l, false) :: pss.getD (run xs l false).1 []
def upTo (xs : List (Int × Int)) (pss : List (List Push)) (l : Nat) : List Push := (List.range (l + 1)).foldl (better xs pss l) (first7 xs pss l)
def fam (xs : List (Int × Int)) : Nat → List (List Push)
  | 0 => [[]]
  | k + 1 => fam xs k ++ [upTo xs (fam xs k) k]
theorem fam_len (xs : List (Int × Int)) : ∀ k, (fam xs k).length = k + 1
  | 0 => rfl
  | k + 1 => by rw [fam, List.length_append, fam_len xs k]; rfl
theorem run_left_le {xs : List (Int × Int)} {i : Nat} : (run xs i false).1 ≤ i := by
  unfold run
  show i - _ ≤ i
  omega
theorem fam_short (xs : List (Int × Int)) : ∀ k j, j ≤ k → ((fam xs k).getD j []).length ≤ j
  | 0, 0, _ => by simp [fam]
  | k + 1, j, h => by
    unfold fam
    by_cases hj : j ≤ k
    · rw [List.getD_eq_getElem?_getD, List.getElem?_append_left (by rw [fam_len]; omega), ← List.getD_eq_getElem?_getD]
      exact fam_short xs k j hj
    · obtain rfl : j = k + 1 := by omega
      rw [List.getD_eq_getElem?_getD, List.getElem?_append_right (by rw [fam_len]; omega), fam_len, Nat.sub_self]
      show (upTo xs (fam xs k) k).length ≤ k + 1
      have h0 : (first7 xs (fam xs k) k).length ≤ k + 1 := by
        unfold first7
        have := fam_short xs k (run xs k false).1 run_left_le
        have := run_left_le (xs := xs) (i := k)
        rw [List.length_cons]
        omega
      have gen : ∀ (ss : List Nat) (b : List Push), b.length ≤ k + 1 → (ss.foldl (better xs (fam xs k) k) b).length ≤ k + 1 := by
        intro ss
        induction ss with
        | nil => intro b hb; exact hb
        | cons s ss ih =>
          intro b hb
          refine ih _ ?_
          unfold better
          split
          · rename_i hc; omega
          · exact hb
      exact gen _ _ h0
def fewest (xs : List (Int × Int)) : List Push := (fam xs xs.length).getD xs.length []
/-- a list of lists of pushes -/
def FamAt (K : PySem.W.Frag) (G : Addr → Prop) (H : Hp) (pf : Addr) (pss : List (List Push)) : Prop := ∃ us : List V, H pf = some (.lst us) ∧ us.length = pss.length ∧
  ∀ (k : Nat) (ps : List Push), pss[k]? = some ps → ∃ (a : Addr) (vs : List V), us[k]? = some (.ref a) ∧ (G a ∧ a ≠ pf) ∧ H a = some (.lst vs) ∧ TupsAt K H pushV vs ps
theorem FamAt.same {K : PySem.W.Frag} {G : Addr → Prop} {H H' : Hp} {pf : Addr} {pss : List (List Push)} (h : FamAt K G H pf pss) (e : Same H H') : FamAt K G H' pf pss := by
  obtain ⟨us, h1, h2, h3⟩ := h
  refine ⟨us, e _ _ h1, h2, fun k ps q => ?_⟩
  obtain ⟨a, vs, q1, q2, q3, q4⟩ := h3 k ps q
  exact ⟨a, vs, q1, q2, e _ _ q3, q4.same e⟩
def spUpTo (K : PySem.W.Frag) (C : Addr) : Sp := fun vs H Q _ => ∃ (p pf : Addr) (xs : List (Int × Int)) (l : Nat), vs = [.ref p, .int (l : Nat), .ref pf] ∧ RowAt K C H p xs ∧ l < xs.length ∧ xs.length ≤ 40 ∧ (∃ G, FamAt K G H pf (fam xs l)) ∧
  ∀ z us H', Same H H' → H z = none → H' z = some (.lst us) → TupsAt K H' pushV us (upTo xs (fam xs l) l) → Q (.ref z) H'
def spFewest (K : PySem.W.Frag) (C : Addr) : Sp := fun vs H Q _ => ∃ p xs, vs = [.ref p] ∧ RowAt K C H p xs ∧ xs.length ≤ 40 ∧
  ∀ z us H', Same H H' → H z = none → H' z = some (.lst us) → TupsAt K H' pushV us (fewest xs) → Q (.ref z) H'
theorem getD_some {α : Type} {l : List α} {k : Nat} {d : α} (h : k < l.length) : l[k]? = some (l.getD k d) := by
  rw [List.getD_eq_getElem?_getD, List.getElem?_eq_getElem h]
  rfl
/-- [(s, side)] + pushes_for[s], read -/
theorem cat_reads {K : PySem.W.Frag} {σ : L2.St} {H : Hp} {Q : VK} {i j n s l : Nat} {b : Bool} {pf : Addr} {xs : List (Int × Int)} {m : Nat} {G : Addr → Prop} (hi : σ[i]? = some (some (.int (m : Nat)))) (hj : σ[j]? = some (some (.ref pf))) (hn : σ[n]? = some (some (.int (s : Nat))))
    (hF : FamAt K G H pf (fam xs l)) (hs : s ≤ l) (hl : l ≤ 1000) (k : ∀ z us H2, Same H H2 → H z = none → H2 z = some (.lst us) → TupsAt K H2 pushV us ((m, b) :: (fam xs l).getD s []) → Q (.ref z) H2) :
    tOp rCat (tLst (tCons (tTup (tCons (tVar i) (tCons (tC (.str (sideS b))) tNil))) tNil)) (tOp (rIxL K) (tVar j) (tVar n)) σ H Q := by
  refine ⟨_, hi, by show 2 ≤ sizeLine; decide, fun T nT => ⟨by show 1 ≤ sizeLine; decide, fun q nq => ?_⟩⟩
  have s1 := same_new (o := .tup [.int (m : Nat), .str (sideS b)]) nT
  have s2 := s1.trans (same_new (o := .lst [.ref T]) nq)
  obtain ⟨us, h1, h2, h3⟩ := hF
  obtain ⟨a, vs, q1, q2, q3, q4⟩ := h3 s _ (getD_some (d := []) (by rw [fam_len]; omega))
  refine ⟨_, hj, _, hn, pf, us, _, _, rfl, rfl, SqL.of (s2 _ _ h1), atI_nat q1, q, a, [.ref T], vs, rfl, rfl, upd_same, s2 _ _ q3, ?_, fun z nz => ?_⟩
  · rw [q4.1, sizeLine_eq]
    have := fam_short xs l s hs
    show 1 + _ ≤ _
    omega
  · have s3 := s2.trans (same_new (o := .lst ([.ref T] ++ vs)) nz)
    have hT : SqT K (upd (upd (upd H T (.tup [.int (m : Nat), .str (sideS b)])) q (.lst [.ref T])) z (.lst ([.ref T] ++ vs))) T (pushV (m, b)) :=
      sqT_same (sqT_same (SqT.of upd_same) (same_new nq)) (same_new nz)
    exact k z _ _ s3 (Same.free s2 nz) upd_same ((TupsAt.one (x := (m, b)) hT).append (q4.same s3))
section
variable {P : Program} {w : World} {K : PySem.W.Frag} {mg : Str → Option Value} {base : Heap}
theorem ok_upTo {f g C : Addr} {fd : FuncData} (F : Fun K "_fewest_up_to" "_fewest_up_to" s_fewest_up_to f fd) (B : Blt mg) (RC : StX.CallO K C g) (GC : FnR P w K mg base CX0 3 g (spCall K C)) :
    FnOk P w K mg base CX0 4 f fd ["row", "last", "pushes_for"] (spUpTo K C) := by
  refine F.ok sc_fewest_up_to (fun vs H Q E h => ?_) (fun cdv A outer s H vs Q E hr h => ?_)
  · obtain ⟨p, pf, xs, l, rfl, _⟩ := h
    rfl
  · obtain ⟨p, pf, xs, l, rfl, hR, hl, hz, ⟨G, hF⟩, k⟩ := h
    refine ⟨_, pss_cons (ps_asg (StX.pe_callO (pv 0) RC GC hr pass0 (pa_cons (pv 1) (pa_cons (pe_str) pa_nil))) (pg_tup rfl (pgs_cons (pg_name (i := 3) sc_fewest_up_to.nd rfl (Or.inl rfl)) (pgs_cons (pg_name (i := 4) sc_fewest_up_to.nd rfl (Or.inl rfl)) pgs_nil))))
      (pss_cons (ps_set (i := 5) sc_fewest_up_to.nd rfl (Or.inl rfl) (pe_op op_cat (pe_lst (pa_cons (pe_tup (pa_cons (pv 1) (pa_cons (pe_str) pa_nil))) pa_nil)) (pe_ix ix_list (pv 2) (pv 3) (fun _ _ => rfl))))
      (pss_cons (ps_for PassesOwn.never rfl (pi_range1 (by rfl) B.range (pa_cons (pe_op op_add (pv 1) (pe_int)) pa_nil)) (pg_name (i := 6) sc_fewest_up_to.nd rfl (Or.inl rfl))
        (pss_cons (ps_set (i := 7) sc_fewest_up_to.nd rfl (Or.inl rfl) (pe_op op_cat (pe_lst (pa_cons (pe_tup (pa_cons (pv 6) (pa_cons (pe_str) pa_nil))) pa_nil)) (pe_ix ix_list (pv 2) (pv 6) (fun _ _ => rfl))))
        (pss_one (ps_if (PW.pt (pw_and (pt_cmpR (op_lt) (pe_callB call_len_seq (by rfl) B.len PySem.boot_len (pa_cons (pv 7) pa_nil)) (pe_callB call_len_seq (by rfl) B.len PySem.boot_len (pa_cons (pv 5) pa_nil)) (nomark _)) (pw_and1 (pt_cmpR (op_ge) (pe_ix ix_tup (StX.pe_callO (pv 0) RC GC hr pass0 (pa_cons (pv 6) (pa_cons (pe_str) pa_nil))) (pe_int) (fun _ _ => rfl)) (pv 1) (nomark _))))) (pss_one (ps_set (i := 5) sc_fewest_up_to.nd rfl (Or.inl rfl) (pv 7))) pss_nil))))
      (pss_one (ps_ret (pv 5))))), ?_⟩
    have ins : ∀ {H' : Hp}, Same H H' → ∃ dx fs, H' p = some (.ins C dx fs) := fun e => let ⟨dx, t, us, h1, _⟩ := hR; ⟨dx, _, e _ _ h1⟩
    -- first, _ = row(last, "left")
    refine ⟨_, rfl, p, rfl, _, rfl, .inr (ins (Same.refl _)), p, xs, l, false, rfl, hR, hl, hz, fun T1 H1 s1 n1 e1 => ?_⟩
    refine ⟨T1, _, rfl, SqT.of e1, rfl, _, _, rfl, _, _, rfl, rfl, ?_⟩
    -- best
    have hfl : (run xs l false).1 ≤ l := run_left_le
    refine seq_of (asg_of (cat_reads (i := 1) (j := 2) (n := 3) (b := false) rfl rfl rfl (hF.same s1) hfl (by omega) fun z0 u0 H2 s2 n2 e2 t2 => ?_))
    have s12 := s1.trans s2
    refine ⟨_, rfl, _, _, rfl, rfl, (l : Int) + 1, rfl, by omega, by omega, for_range (lo := 0) (n := ((l : Int) + 1).toNat) (fun j σ H3 => ∃ (z : Addr) (us : List V) (s6 s7 : Option V),
      σ = [some (.ref p), some (.int (l : Nat)), some (.ref pf), some (.int ((run xs l false).1 : Nat)), some (.int ((run xs l false).2 : Nat)), some (.ref z), s6, s7] ∧ Same H H3 ∧ H z = none ∧ H3 z = some (.lst us) ∧
      TupsAt K H3 pushV us ((List.range j).foldl (better xs (fam xs l) l) (first7 xs (fam xs l) l))) ?_ ?_ ?_⟩
    · exact ⟨z0, u0, none, none, rfl, s12, Same.free s1 n2, e2, t2⟩
    · rintro j σ H3 hj ⟨z, us, s6, s7, rfl, sm, nz, ez, tz⟩
      have hjl : j ≤ l := by omega
      have ej : (0 : Int) + (j : Nat) = (j : Nat) := by omega
      rw [ej]
      refine seq_of (asg_of (cat_reads (i := 6) (j := 2) (n := 6) (b := true) rfl rfl rfl (hF.same sm) hjl (by omega) fun z1 u1 H4 s4 n4 e4 t4 => ?_))
      have ez4 := s4 _ _ ez
      -- len(pushes) < len(best)
      refine ⟨_, rfl, z1, u1, rfl, .inl (SqL.of e4), _, rfl, z, us, rfl, .inl (SqL.of ez4), _, _, rfl, rfl, _, rfl, ?_⟩
      have el : ∀ b : Bool, (decide ((u1.length : Int) < (us.length : Int)) = b) → (b = true ↔ ((j, true) :: (fam xs l).getD j []).length < ((List.range j).foldl (better xs (fam xs l) l) (first7 xs (fam xs l) l)).length) := by
        intro b hb
        rw [← t4.1, ← tz.1, ← hb, decide_eq_true_eq]
        omega
      rw [List.range_succ, List.foldl_append] at *
      have sm4 : Same H H4 := sm.trans s4
      cases hb : decide ((u1.length : Int) < (us.length : Int)) with
      | false =>
        refine iteF ?_
        refine iteF ⟨z, us, _, _, rfl, sm4, nz, ez4, ?_⟩
        have : ¬ ((j, true) :: (fam xs l).getD j []).length < ((List.range j).foldl (better xs (fam xs l) l) (first7 xs (fam xs l) l)).length := fun q => by
          have := (el false hb).mpr q
          cases this
        show TupsAt K H4 pushV us (better xs (fam xs l) l _ j)
        unfold better
        rw [if_neg (fun q => this q.1)]
        exact tz.same s4
      | true =>
        have lt := (el true hb).mp rfl
        refine iteT ⟨_, rfl, p, rfl, _, rfl, .inr (ins sm4), p, xs, j, true, rfl, hR.same sm4, by omega, hz, fun T5 H5 s5 n5 e5 => ?_⟩
        refine ⟨T5, _, ((1 : Nat) : Int), _, rfl, rfl, SqT.of e5, atI_nat (j := 1) rfl, _, rfl, _, _, rfl, rfl, _, rfl, ?_⟩
        have sm5 : Same H H5 := sm4.trans s5
        refine ite2 (fun q => ?_) (fun q => ?_)
        · have q' : l ≤ (run xs j true).2 := by have := of_decide_eq_true q; omega
          refine ⟨_, rfl, z1, u1, _, _, rfl, sm5, Same.free sm n4, s5 _ _ e4, ?_⟩
          show TupsAt K H5 pushV u1 (better xs (fam xs l) l _ j)
          unfold better
          rw [if_pos ⟨lt, q'⟩]
          exact t4.same s5
        · have q' : ¬ l ≤ (run xs j true).2 := fun z => q (decide_eq_true (by omega))
          refine ⟨z, us, _, _, rfl, sm5, nz, s5 _ _ ez4, ?_⟩
          show TupsAt K H5 pushV us (better xs (fam xs l) l _ j)
          unfold better
          rw [if_neg (fun q => q' q.2)]
          exact (tz.same s4).same s5
    · rintro σ H3 ⟨z, us, s6, s7, rfl, sm, nz, ez, tz⟩
      exact ⟨_, rfl, k z us H3 sm nz ez tz⟩
end
theorem FamAt.snoc {K : PySem.W.Frag} {G : Addr → Prop} {H : Hp} {pf z : Addr} {pss : List (List Push)} {us zs : List V} {ps : List Push} (h : FamAt K G H pf pss) (gz : G z) (hu : H pf = some (.lst us)) (hz : H z = some (.lst zs)) (ne : z ≠ pf) (t : TupsAt K H pushV zs ps) :
    FamAt K G (upd H pf (.lst (us ++ [.ref z]))) pf (pss ++ [ps]) := by
  obtain ⟨us', h1, h2, h3⟩ := h
  rw [hu] at h1
  injection h1 with h1
  injection h1 with h1
  subst h1
  refine ⟨us ++ [.ref z], upd_same, by rw [List.length_append, List.length_append, h2]; rfl, fun k q hk => ?_⟩
  by_cases hlt : k < pss.length
  · rw [List.getElem?_append_left hlt] at hk
    obtain ⟨a, vs, q1, q2, q3, q4⟩ := h3 k q hk
    exact ⟨a, vs, by rw [List.getElem?_append_left (by omega)]; exact q1, q2, by rw [upd_ne q2.2]; exact q3, q4.but hu but_upd⟩
  · have e : k = pss.length := by
      have := (List.getElem?_eq_some_iff.mp hk).1
      simp at this
      omega
    subst e
    rw [List.getElem?_append_right (Nat.le_refl _), Nat.sub_self] at hk
    obtain rfl : ps = q := Option.some.inj hk
    exact ⟨z, zs, by rw [← h2, List.getElem?_append_right (Nat.le_refl _), Nat.sub_self]; rfl, ⟨gz, ne⟩, by rw [upd_ne ne]; exact hz, t.but hu but_upd⟩
theorem lenR {P : Program} {w : World} {K : PySem.W.Frag} {mg : Str → Option Value} {base : Heap} {C f : Addr} {fd : FuncData} (F : FnOk P w K mg base CX0 1 f fd ["self"] (spLen K C)) (b : Binds K fd ["self"] []) : FnR P w K mg base CX0 1 f (spLen K C) := toR F b
section
variable {P : Program} {w : World} {K : PySem.W.Frag} {mg : Str → Option Value} {base : Heap}
theorem ok_fewest {f g gl C : Addr} {fd gd : FuncData} (F : Fun K "fewest_pushes" "fewest_pushes" s_fewest_pushes f fd) (B : Blt mg) (SL : Sign K C "__len__" gl) (GL : FnR P w K mg base CX0 1 gl (spLen K C)) (N : At P w K mg base CX0 4 "_fewest_up_to" ["row", "last", "pushes_for"] (spUpTo K C) g gd) :
    FnOk P w K mg base CX0 5 f fd ["row"] (spFewest K C) := by
  refine F.ok sc_fewest_pushes (fun vs H Q E h => ?_) (fun cdv A outer s H vs Q E hr h => ?_)
  · obtain ⟨p, xs, rfl, _⟩ := h
    rfl
  · obtain ⟨p, xs, rfl, hR, hz, k⟩ := h
    refine ⟨_, pss_cons (ps_set (i := 1) sc_fewest_pushes.nd rfl (Or.inl rfl) (pe_lst (pa_cons (pe_lst pa_nil) pa_nil)))
      (pss_cons (ps_for PassesOwn.never rfl (pi_range1 (by rfl) B.range (pa_cons (pe_callB (Own.call_len SL.at_ SL.fn GL (hr.mono (by decide)) pass0) (by rfl) B.len PySem.boot_len (pa_cons (pv 0) pa_nil)) pa_nil)) (pg_name (i := 2) sc_fewest_pushes.nd rfl (Or.inl rfl))
        (pss_one (ps_expr (pe_bm PySem.F.plainAttrs_list PySem.F.slot_list_append PySem.F.type_list_append mt_append (pv 1) (pa_cons (pe_at N hr (pa_cons (pv 0) (pa_cons (pv 2) (pa_cons (pv 1) pa_nil)))) pa_nil)))))
      (pss_one (ps_ret (pe_ix ix_list (pv 1) (pe_un un_neg pe_int) (fun _ _ => rfl))))), ?_⟩
    refine ⟨by show 0 ≤ sizeLine; decide, fun e0 ne0 => ⟨by show 1 ≤ sizeLine; decide, fun pf npf => ?_⟩⟩
    have s1 := same_new (o := .lst []) ne0
    have s2 := s1.trans (same_new (o := .lst [.ref e0]) npf)
    have nef : e0 ≠ pf := ne_of_none upd_same npf
    have nf : H pf = none := Same.free s1 npf
    obtain ⟨dx, t, us, ep, _⟩ := id hR
    refine ⟨_, rfl, p, dx, _, rfl, s2 _ _ ep, p, xs, rfl, hR.same s2, _, rfl, by omega, by omega, (xs.length : Int), rfl, by omega, by omega, for_range (lo := 0) (n := ((xs.length : Int)).toNat) (fun j σ H3 => ∃ (s3 : Option V),
      σ = [some (.ref p), some (.ref pf), s3] ∧ But pf H H3 ∧ FamAt K (fun a => H a = none) H3 pf (fam xs j)) ?_ ?_ ?_⟩
    · refine ⟨none, rfl, (Same.but s1 pf).trans but_upd, ?_⟩
      refine ⟨[.ref e0], upd_same, rfl, fun k ps hk => ?_⟩
      cases k with
      | zero =>
        obtain rfl : [] = ps := Option.some.inj hk
        exact ⟨e0, [], rfl, ⟨ne0, nef⟩, by rw [upd_ne nef]; exact upd_same, TupsAt.nil⟩
      | succ k => simp [fam] at hk
    · rintro j σ H3 hj ⟨s3, rfl, b, hF⟩
      have hj' : j < xs.length := by omega
      have sm : Same H H3 := But.same b nf
      obtain ⟨us3, eu, lu, _⟩ := id hF
      have ej : (0 : Int) + (j : Nat) = (j : Nat) := by omega
      rw [ej]
      refine ⟨_, rfl, .inl ⟨rfl, _, SqL.of eu⟩, _, rfl, _, rfl, _, rfl, p, pf, xs, j, rfl, hR.same sm, hj', hz, ⟨_, hF⟩, fun z zs H4 s4 nz ez tz => ?_⟩
      have eu4 := s4 _ _ eu
      have nzf : z ≠ pf := fun q => by rw [q, eu] at nz; cases nz
      refine ⟨pf, us3, _, rfl, rfl, eu4, by rw [lu, fam_len, sizeLine_eq]; omega, ?_⟩
      exact ⟨_, rfl, (b.trans (Same.but s4 pf)).trans but_upd, (hF.same s4).snoc (Same.free sm nz) eu4 ez nzf tz⟩
    · rintro σ H3 ⟨s3, rfl, b, hF⟩
      have en : ((xs.length : Int)).toNat = xs.length := by omega
      rw [en] at hF
      obtain ⟨us3, eu, lu, h3⟩ := hF
      obtain ⟨z, zs, q1, q2, q3, q4⟩ := h3 xs.length _ (getD_some (d := []) (by rw [fam_len]; omega))
      have hl : us3.length = xs.length + 1 := by rw [lu, fam_len]
      have last : atI us3 (-1) = some (.ref z) := by
        have e : us3 = us3.take xs.length ++ [.ref z] := by
          conv => lhs; rw [← List.take_append_drop xs.length us3]
          rw [drop_get q1, List.drop_of_length_le (by omega)]
        rw [e]
        exact atI_last _ _
      refine ⟨_, rfl, 1, rfl, pf, us3, -1, _, rfl, rfl, SqL.of eu, last, ?_⟩
      exact k z zs H3 (But.same b nf) q2.1 q3 q4
end
/-! ### hit by hit: mathematics -/
def far (x y : Int × Int) (r : Bool) : Int := if r then y.1 - x.1 else x.1 - y.1
def hitB (xs : List (Int × Int)) (r : Bool) (m o : Nat) : Bool := match xs[m]?, xs[o]? with
  | some x, some y => decide (0 < far x y r) && decide (far x y r ≤ x.2)
  | _, _ => false
abbrev Wave := List (Nat × Nat) × List Nat
def stepIn (xs : List (Int × Int)) (r : Bool) (t m : Nat) (st : Wave) (o : Nat) : Wave := if hitB xs r m o = true ∧ o ∉ st.1.map (·.1) then (st.1 ++ [(o, t)], st.2 ++ [o]) else st
def stepLv (xs : List (Int × Int)) (S : List Nat) (r : Bool) (t : Nat) (st : Wave) (m : Nat) : Wave := S.foldl (stepIn xs r t m) st
def level (xs : List (Int × Int)) (S : List Nat) (r : Bool) (t : Nat) (st : Wave) : Wave := st.2.foldl (stepLv xs S r t) (st.1, [])
def iter (xs : List (Int × Int)) (S : List Nat) (r : Bool) (i : Nat) : Nat → Wave
  | 0 => ([(i, 0)], [i])
  | t + 1 => level xs S r (t + 1) (iter xs S r i t)
structure Prog (xs : List (Int × Int)) (r : Bool) (fs : List (Nat × Nat)) (t : Nat) (D : Nat → Nat → Prop) (st : Wave) : Prop where
  eq : st.1 = fs ++ st.2.map fun o => (o, t)
  nd : (st.1.map (·.1)).Nodup
  wh : ∀ o ∈ st.2, ∃ m, D m o ∧ hitB xs r m o = true
  al : ∀ m o, D m o → hitB xs r m o = true → o ∈ st.1.map (·.1)
theorem Prog.step {xs : List (Int × Int)} {r : Bool} {fs : List (Nat × Nat)} {t m o : Nat} {D : Nat → Nat → Prop} {st : Wave} (h : Prog xs r fs t D st) : Prog xs r fs t (fun m' o' => D m' o' ∨ (m' = m ∧ o' = o)) (stepIn xs r t m st o) := by
  unfold stepIn
  split
  · rename_i hc
    refine ⟨?_, ?_, ?_, ?_⟩
    · show st.1 ++ [(o, t)] = fs ++ (st.2 ++ [o]).map fun o => (o, t)
      rw [h.eq]; simp
    · show ((st.1 ++ [(o, t)]).map (·.1)).Nodup
      rw [List.map_append, List.nodup_append]
      refine ⟨h.nd, by simp, ?_⟩
      intro a ha b hb e
      simp at hb
      subst hb e
      exact hc.2 ha
    · intro o' ho'
      rcases List.mem_append.mp ho' with z | z
      · obtain ⟨m', h1, h2⟩ := h.wh o' z
        exact ⟨m', .inl h1, h2⟩
      · simp at z
        subst z
        exact ⟨m, .inr ⟨rfl, rfl⟩, hc.1⟩
    · intro m' o' hd hh
      show o' ∈ (st.1 ++ [(o, t)]).map (·.1)
      rw [List.map_append]
      rcases hd with hd | ⟨rfl, rfl⟩
      · exact List.mem_append_left _ (h.al m' o' hd hh)
      · exact List.mem_append_right _ (by simp)
  · rename_i hc
    refine ⟨h.eq, h.nd, fun o' ho' => ?_, fun m' o' hd hh => ?_⟩
    · obtain ⟨m', h1, h2⟩ := h.wh o' ho'
      exact ⟨m', .inl h1, h2⟩
    · rcases hd with hd | ⟨rfl, rfl⟩
      · exact h.al m' o' hd hh
      · exact Classical.byContradiction fun z => hc ⟨hh, z⟩
theorem Prog.imp {xs : List (Int × Int)} {r : Bool} {fs : List (Nat × Nat)} {t : Nat} {D D' : Nat → Nat → Prop} {st : Wave} (h : Prog xs r fs t D st) (e : ∀ m o, D m o ↔ D' m o) : Prog xs r fs t D' st :=
  ⟨h.eq, h.nd, fun o ho => let ⟨m, h1, h2⟩ := h.wh o ho; ⟨m, (e m o).mp h1, h2⟩, fun m o hd => h.al m o ((e m o).mpr hd)⟩
theorem Prog.row {xs : List (Int × Int)} {r : Bool} {fs : List (Nat × Nat)} {t m : Nat} : ∀ (S : List Nat) {D : Nat → Nat → Prop} {st : Wave}, Prog xs r fs t D st → Prog xs r fs t (fun m' o' => D m' o' ∨ (m' = m ∧ o' ∈ S)) (S.foldl (stepIn xs r t m) st)
  | [], D, st, h => h.imp fun m' o' => by simp
  | o :: S, D, st, h => (Prog.row S (h.step (m := m) (o := o))).imp fun m' o' => by
      simp only [List.mem_cons]
      constructor
      · rintro ((h | ⟨a, b⟩) | ⟨a, b⟩)
        · exact .inl h
        · exact .inr ⟨a, .inl b⟩
        · exact .inr ⟨a, .inr b⟩
      · rintro (h | ⟨a, b | b⟩)
        · exact .inl (.inl h)
        · exact .inl (.inr ⟨a, b⟩)
        · exact .inr ⟨a, b⟩
theorem Prog.all {xs : List (Int × Int)} {S : List Nat} {r : Bool} {fs : List (Nat × Nat)} {t : Nat} : ∀ (lv : List Nat) {D : Nat → Nat → Prop} {st : Wave}, Prog xs r fs t D st → Prog xs r fs t (fun m' o' => D m' o' ∨ (m' ∈ lv ∧ o' ∈ S)) (lv.foldl (stepLv xs S r t) st)
  | [], D, st, h => h.imp fun m' o' => by simp
  | m :: lv, D, st, h => (Prog.all lv (h.row (m := m) S)).imp fun m' o' => by
      simp only [List.mem_cons]
      constructor
      · rintro ((h | ⟨a, b⟩) | ⟨a, b⟩)
        · exact .inl h
        · exact .inr ⟨.inl a, b⟩
        · exact .inr ⟨.inr a, b⟩
      · rintro (h | ⟨a | a, b⟩)
        · exact .inl (.inl h)
        · exact .inl (.inr ⟨a, b⟩)
        · exact .inr ⟨a, b⟩
theorem level_spec {xs : List (Int × Int)} {S : List Nat} {r : Bool} {fs : List (Nat × Nat)} {lv : List Nat} {t : Nat} (nd : (fs.map (·.1)).Nodup) :
    (level xs S r t (fs, lv)).1 = fs ++ (level xs S r t (fs, lv)).2.map (fun o => (o, t)) ∧ ((level xs S r t (fs, lv)).1.map (·.1)).Nodup ∧
    ∀ o, o ∈ (level xs S r t (fs, lv)).2 ↔ (o ∉ fs.map (·.1) ∧ o ∈ S ∧ ∃ m ∈ lv, hitB xs r m o = true) := by
  have p0 : Prog xs r fs t (fun _ _ => False) (fs, []) := ⟨by simp, nd, fun o h => (nomatch h), fun m o h => h.elim⟩
  have p := (Prog.all (S := S) lv p0)
  have e : lv.foldl (stepLv xs S r t) (fs, []) = level xs S r t (fs, lv) := rfl
  rw [e] at p
  refine ⟨p.eq, p.nd, fun o => ⟨fun h => ?_, fun ⟨h1, h2, m, h3, h4⟩ => ?_⟩⟩
  · obtain ⟨m, hd, hh⟩ := p.wh o h
    rcases hd with hd | ⟨hm, hS⟩
    · exact hd.elim
    · refine ⟨fun hf => ?_, hS, m, hm, hh⟩
      have nd2 := p.nd
      rw [p.eq, List.map_append, List.nodup_append] at nd2
      refine nd2.2.2 o hf o ?_ rfl
      rw [List.map_map]
      exact List.mem_map.mpr ⟨o, h, rfl⟩
  · have := p.al m o (.inr ⟨h3, h2⟩) h4
    rw [p.eq, List.map_append, List.mem_append] at this
    rcases this with z | z
    · exact absurd z h1
    · rw [List.map_map] at z
      obtain ⟨o', z1, z2⟩ := List.mem_map.mp z
      have : o' = o := z2
      rw [← this]
      exact z1
/-- reached within so many ticks -/
def RB (xs : List (Int × Int)) (S : List Nat) (r : Bool) (i : Nat) : Nat → Nat → Prop
  | 0, j => j = i
  | t + 1, j => RB xs S r i t j ∨ ∃ m, RB xs S r i t m ∧ j ∈ S ∧ hitB xs r m j = true
/-- reached first in this tick -/
def Fst (xs : List (Int × Int)) (S : List Nat) (r : Bool) (i u j : Nat) : Prop := RB xs S r i u j ∧ ∀ v, v < u → ¬ RB xs S r i v j
section
variable {xs : List (Int × Int)} {S : List Nat} {r : Bool} {i : Nat}
theorem RB.up {t u j : Nat} (h : RB xs S r i t j) (e : t ≤ u) : RB xs S r i u j := by
  induction u with
  | zero =>
    obtain rfl : t = 0 := by omega
    exact h
  | succ u ih =>
    by_cases q : t = u + 1
    · rw [← q]; exact h
    · exact .inl (ih (by omega))
theorem RB.first {t j : Nat} (h : RB xs S r i t j) : ∃ u, u ≤ t ∧ Fst xs S r i u j := by
  induction t using Nat.strongRecOn with
  | ind t ih =>
    by_cases q : ∃ v, v < t ∧ RB xs S r i v j
    · obtain ⟨v, h1, h2⟩ := q
      obtain ⟨u, h3, h4⟩ := ih v h1 h2
      exact ⟨u, by omega, h4⟩
    · exact ⟨t, Nat.le_refl _, h, fun v hv z => q ⟨v, hv, z⟩⟩
theorem Fst.eq {u v j : Nat} (a : Fst xs S r i u j) (b : Fst xs S r i v j) : u = v := by
  rcases Nat.lt_trichotomy u v with h | h | h
  · exact absurd a.1 (b.2 u h)
  · exact h
  · exact absurd b.1 (a.2 v h)
theorem iter_spec (t : Nat) : ((iter xs S r i t).1.map (·.1)).Nodup ∧ (∀ j u, (j, u) ∈ (iter xs S r i t).1 ↔ u ≤ t ∧ Fst xs S r i u j) ∧ ∀ j, j ∈ (iter xs S r i t).2 ↔ Fst xs S r i t j := by
  induction t with
  | zero =>
    refine ⟨by simp [iter], fun j u => ?_, fun j => ?_⟩
    · show (j, u) ∈ [(i, 0)] ↔ _
      rw [List.mem_singleton, Prod.mk.injEq]
      constructor
      · rintro ⟨rfl, rfl⟩
        exact ⟨Nat.le_refl _, rfl, fun v h => absurd h (Nat.not_lt_zero _)⟩
      · rintro ⟨h, h1, _⟩
        obtain rfl : u = 0 := by omega
        exact ⟨h1, rfl⟩
    · show j ∈ [i] ↔ _
      rw [List.mem_singleton]
      exact ⟨fun h => ⟨h, fun v h => absurd h (Nat.not_lt_zero _)⟩, fun h => h.1⟩
  | succ t ih =>
    obtain ⟨nd, hf, hl⟩ := ih
    have e : iter xs S r i (t + 1) = level xs S r (t + 1) ((iter xs S r i t).1, (iter xs S r i t).2) := rfl
    obtain ⟨q1, q2, q3⟩ := level_spec (xs := xs) (S := S) (r := r) (t := t + 1) (lv := (iter xs S r i t).2) nd
    rw [← e] at q1 q2 q3
    have key : ∀ j, j ∈ (iter xs S r i t).1.map (·.1) ↔ RB xs S r i t j := by
      intro j
      constructor
      · intro h
        obtain ⟨⟨j', u⟩, h1, rfl⟩ := List.mem_map.mp h
        obtain ⟨h2, h3⟩ := (hf j' u).mp h1
        exact h3.1.up h2
      · intro h
        obtain ⟨u, h1, h2⟩ := h.first
        exact List.mem_map.mpr ⟨(j, u), (hf j u).mpr ⟨h1, h2⟩, rfl⟩
    have lv : ∀ j, j ∈ (iter xs S r i (t + 1)).2 ↔ Fst xs S r i (t + 1) j := by
      intro j
      rw [q3 j, key j]
      constructor
      · rintro ⟨h1, h2, m, h3, h4⟩
        exact ⟨.inr ⟨m, ((hl m).mp h3).1, h2, h4⟩, fun v hv z => h1 (z.up (by omega))⟩
      · rintro ⟨h1, h2⟩
        have n := h2 t (Nat.lt_succ_self _)
        rcases h1 with h1 | ⟨m, h3, h4, h5⟩
        · exact absurd h1 n
        · refine ⟨n, h4, m, (hl m).mpr ?_, h5⟩
          obtain ⟨u, h6, h7⟩ := h3.first
          by_cases q : u = t
          · rw [← q]; exact h7
          · exact absurd (RB.up (t := u + 1) (.inr ⟨m, h7.1, h4, h5⟩) (by omega)) n
    refine ⟨q2, fun j u => ?_, lv⟩
    rw [q1, List.mem_append, hf j u]
    constructor
    · rintro (⟨h1, h2⟩ | h)
      · exact ⟨by omega, h2⟩
      · obtain ⟨o, h1, h2⟩ := List.mem_map.mp h
        cases h2
        exact ⟨Nat.le_refl _, (lv _).mp h1⟩
    · rintro ⟨h1, h2⟩
      by_cases q : u = t + 1
      · subst q
        exact .inr (List.mem_map.mpr ⟨j, (lv j).mpr h2, rfl⟩)
      · exact .inl ⟨by omega, h2⟩
theorem iter_sub (t : Nat) : ∀ j ∈ (iter xs S r i t).1.map (·.1), j = i ∨ j ∈ S := by
  intro j hj
  obtain ⟨⟨j', u⟩, h1, rfl⟩ := List.mem_map.mp hj
  obtain ⟨_, h3⟩ := ((iter_spec t).2.1 j' u).mp h1
  have : ∀ n k, RB xs S r i n k → k = i ∨ k ∈ S := by
    intro n
    induction n with
    | zero => intro k h; exact .inl h
    | succ n ih =>
      intro k h
      rcases h with h | ⟨m, _, h, _⟩
      · exact ih k h
      · exact .inr h
  exact this _ _ h3.1
theorem nodup_len {l m : List Nat} (h : l.Nodup) (s : ∀ x ∈ l, x ∈ m) : l.length ≤ m.length := by
  induction l generalizing m with
  | nil => simp
  | cons a l ih =>
    have hm := s a (by simp)
    have hn := List.nodup_cons.mp h
    have := ih (m := m.erase a) hn.2 fun x hx => by
      have : x ≠ a := fun e => hn.1 (e ▸ hx)
      exact (List.mem_erase_of_ne this).mpr (s x (by simp [hx]))
    rw [List.length_erase_of_mem hm] at this
    have : 0 < m.length := List.length_pos_of_mem hm
    simp
    omega
theorem iter_len (t : Nat) : (iter xs S r i t).1.length ≤ S.length + 1 := by
  have := nodup_len (l := (iter xs S r i t).1.map (·.1)) (m := i :: S) (iter_spec t).1 fun x hx => by
    rcases iter_sub t x hx with h | h
    · simp [h]
    · simp [h]
  simpa using this
/-- what falls as the turns go on: each round is longer, or is the last one -/
def meas (cap : Nat) (st : Wave) : Nat := 2 * (cap - st.1.length) + (if st.2 = [] then 0 else 1)
theorem iter_meas (t : Nat) (h : (iter xs S r i t).2 ≠ []) : meas (S.length + 1) (iter xs S r i (t + 1)) < meas (S.length + 1) (iter xs S r i t) := by
  have e : iter xs S r i (t + 1) = level xs S r (t + 1) ((iter xs S r i t).1, (iter xs S r i t).2) := rfl
  obtain ⟨q1, _, _⟩ := level_spec (xs := xs) (S := S) (r := r) (t := t + 1) (lv := (iter xs S r i t).2) (iter_spec t).1
  rw [← e] at q1
  have l1 := congrArg List.length q1
  rw [List.length_append, List.length_map] at l1
  have l2 := iter_len (xs := xs) (S := S) (r := r) (i := i) (t + 1)
  unfold meas
  rw [if_neg h]
  split
  · rename_i z
    rw [z] at l1
    simp at l1
    omega
  · rename_i z
    have : 0 < (iter xs S r i (t + 1)).2.length := List.length_pos_iff.mpr z
    omega
theorem iter_done {t : Nat} (h : (iter xs S r i t).2 = []) : ∀ n j, RB xs S r i n j → RB xs S r i t j := by
  intro n
  induction n with
  | zero => intro j hj; exact RB.up (t := 0) hj (Nat.zero_le _)
  | succ n ih =>
    intro j hj
    rcases hj with hj | ⟨m, h1, h2, h3⟩
    · exact ih j hj
    · obtain ⟨u, h4, h5⟩ := (ih m h1).first
      by_cases q : u = t
      · subst q
        have := ((iter_spec (xs := xs) (S := S) (r := r) (i := i) u).2.2 m).mpr h5
        rw [h] at this
        cases this
      · exact RB.up (t := u + 1) (.inr ⟨m, h5.1, h2, h3⟩) (by omega)
theorem iter_end {t : Nat} (h : (iter xs S r i t).2 = []) (j u : Nat) : (j, u) ∈ (iter xs S r i t).1 ↔ Fst xs S r i u j := by
  rw [(iter_spec t).2.1 j u]
  constructor
  · exact fun z => z.2
  · intro z
    refine ⟨?_, z⟩
    rcases Nat.lt_or_ge t u with q | q
    · exact absurd (iter_done h u j z.1) (z.2 t q)
    · exact q
end
/-! ### runs: mathematics -/
/-- places rise -/
def Inc (xs : List (Int × Int)) : Prop := ∀ (a b : Nat) (x y : Int × Int), a < b → xs[a]? = some x → xs[b]? = some y → x.1 < y.1
theorem Wf.inc : ∀ {xs : List (Int × Int)} {lo : Int}, Wf lo xs → Inc xs
  | [], _, _ => fun a b x y _ h => by simp at h
  | z :: xs, lo, w => fun a b x y hab hx hy => by
    cases b with
    | zero => omega
    | succ b =>
      simp at hy
      cases a with
      | zero =>
        simp at hx
        subst hx
        have := Wf.low w.2.2.2.2 hy
        omega
      | succ a =>
        simp at hx
        exact Wf.inc w.2.2.2.2 a b x y (by omega) hx hy
/-- place and height -/
def pl (xs : List (Int × Int)) (k : Nat) : Int := (xs.getD k (0, 0)).1
def ht (xs : List (Int × Int)) (k : Nat) : Int := (xs.getD k (0, 0)).2
theorem pl_of {xs : List (Int × Int)} {k : Nat} {x : Int × Int} (h : xs[k]? = some x) : pl xs k = x.1 ∧ ht xs k = x.2 := by
  unfold pl ht
  rw [List.getD_eq_getElem?_getD, h]
  exact ⟨rfl, rfl⟩
theorem Inc.pl {xs : List (Int × Int)} (h : Inc xs) {a b : Nat} (hab : a < b) (hb : b < xs.length) : pl xs a < pl xs b := by
  have ha : a < xs.length := by omega
  have e1 : xs[a]? = some xs[a] := by simp [ha]
  have e2 : xs[b]? = some xs[b] := by simp [hb]
  rw [(pl_of e1).1, (pl_of e2).1]
  exact h a b _ _ hab e1 e2
/-- m hits o on the side r -/
def Hit (xs : List (Int × Int)) (r : Bool) (m o : Nat) : Prop := m < xs.length ∧ o < xs.length ∧ (r = true → m < o ∧ pl xs o ≤ pl xs m + ht xs m) ∧ (r = false → o < m ∧ pl xs m ≤ pl xs o + ht xs m)
theorem hit_iff {xs : List (Int × Int)} (h : Inc xs) {r : Bool} {m o : Nat} : hitB xs r m o = true ↔ Hit xs r m o := by
  unfold hitB Hit
  by_cases hm : m < xs.length
  · by_cases ho : o < xs.length
    · have e1 : xs[m]? = some xs[m] := by simp [hm]
      have e2 : xs[o]? = some xs[o] := by simp [ho]
      rw [e1, e2]
      obtain ⟨p1, t1⟩ := pl_of e1
      obtain ⟨p2, _⟩ := pl_of e2
      rw [p1, p2, t1]
      simp only [hm, ho, true_and, Bool.and_eq_true, decide_eq_true_eq]
      have cmp : m < o ↔ (xs[m]).1 < (xs[o]).1 := by
        constructor
        · exact fun q => h m o _ _ q e1 e2
        · intro q
          rcases Nat.lt_trichotomy m o with z | z | z
          · exact z
          · subst z; omega
          · have := h o m _ _ z e2 e1; omega
      have cmp2 : o < m ↔ (xs[o]).1 < (xs[m]).1 := by
        constructor
        · exact fun q => h o m _ _ q e2 e1
        · intro q
          rcases Nat.lt_trichotomy m o with z | z | z
          · have := h m o _ _ z e1 e2; omega
          · subst z; omega
          · exact z
      cases r with
      | true =>
        unfold far
        simp only [if_true, forall_const, Bool.true_eq_false, false_implies, and_true]
        rw [cmp]
        omega
      | false =>
        unfold far
        simp only [Bool.false_eq_true, if_false, false_implies, true_and, forall_const]
        rw [cmp2]
        omega
    · have e2 : xs[o]? = none := by simp; omega
      rw [e2]
      constructor
      · intro q
        cases e1 : xs[m]? <;> rw [e1] at q <;> cases q
      · exact fun q => absurd q.2.1 ho
  · have e1 : xs[m]? = none := by simp; omega
    rw [e1]
    exact ⟨fun q => (nomatch q), fun q => absurd q.1 hm⟩
/-- how far the reach goes, told stone by stone -/
def dst (xs : List (Int × Int)) (p0 : Int) (k : Nat) : Int := ab (pl xs k - p0)
theorem mx_le {a b c : Int} : c ≤ mx a b ↔ c ≤ a ∨ c ≤ b := by unfold mx; split <;> omega
theorem scan_spec {xs : List (Int × Int)} {sd : List Bool} {p0 : Int} (up : ∀ o, o < xs.length → sd[o]? = some true) : ∀ (os : List Nat) (R : Int), (∀ o ∈ os, o < xs.length) →
    (∀ a o, a < (scan xs sd p0 R os).length → os[a]? = some o → dst xs p0 o ≤ R ∨ ∃ b u, b < a ∧ os[b]? = some u ∧ dst xs p0 o ≤ dst xs p0 u + ht xs u) ∧
    (∀ o, os[(scan xs sd p0 R os).length]? = some o → R < dst xs p0 o ∧ ∀ b u, b < (scan xs sd p0 R os).length → os[b]? = some u → dst xs p0 u + ht xs u < dst xs p0 o)
  | [], R, _ => ⟨fun a o _ h => by simp at h, fun o h => by simp at h⟩
  | o :: os, R, hlt => by
    have ho := hlt o (by simp)
    have e1 : xs[o]? = some xs[o] := by simp [ho]
    obtain ⟨p1, t1⟩ := pl_of e1
    have ed : dst xs p0 o = ab ((xs[o]).1 - p0) := by unfold dst; rw [p1]
    have es : scan xs sd p0 R (o :: os) = if ab ((xs[o]).1 - p0) > R then [] else o :: scan xs sd p0 (mx R (ab ((xs[o]).1 - p0) + (xs[o]).2)) os := by
      conv => lhs; unfold scan
      rw [e1]
      simp only [up o ho, if_true]
    rw [es]
    by_cases hg : ab ((xs[o]).1 - p0) > R
    · rw [if_pos hg]
      refine ⟨fun a o' h => absurd h (Nat.not_lt_zero _), fun o' h => ?_⟩
      simp at h
      subst h
      exact ⟨by rw [ed]; exact hg, fun b u h => absurd h (Nat.not_lt_zero _)⟩
    · rw [if_neg hg, ← ed, ← t1]
      obtain ⟨ih1, ih2⟩ := scan_spec (xs := xs) (sd := sd) (p0 := p0) up os (mx R (dst xs p0 o + ht xs o)) fun z hz => hlt z (by simp [hz])
      refine ⟨fun a o' h e => ?_, fun o' e => ?_⟩
      · cases a with
        | zero =>
          simp at e
          subst e
          exact .inl (by rw [ed]; omega)
        | succ a =>
          simp at e h
          rcases ih1 a o' h e with q | ⟨b, u, q1, q2, q3⟩
          · rcases mx_le.mp q with q | q
            · exact .inl q
            · exact .inr ⟨0, o, by omega, rfl, q⟩
          · exact .inr ⟨b + 1, u, by omega, by simpa using q2, q3⟩
      · simp at e
        obtain ⟨q1, q2⟩ := ih2 o' e
        have n1 : ¬ dst xs p0 o' ≤ mx R (dst xs p0 o + ht xs o) := by omega
        rw [mx_le] at n1
        refine ⟨by omega, fun b u h e' => ?_⟩
        cases b with
        | zero =>
          simp at e'
          subst e'
          omega
        | succ b =>
          simp at e' h
          exact q2 b u h e'
structure RunR (xs : List (Int × Int)) (i e : Nat) : Prop where
  le : i ≤ e
  lt : e < xs.length
  by_ : ∀ j, i < j → j ≤ e → ∃ m, i ≤ m ∧ m < j ∧ Hit xs true m j
  no : ∀ m j, i ≤ m → m ≤ e → e < j → ¬ Hit xs true m j
structure RunL (xs : List (Int × Int)) (i f : Nat) : Prop where
  le : f ≤ i
  lt : i < xs.length
  by_ : ∀ j, f ≤ j → j < i → ∃ m, j < m ∧ m ≤ i ∧ Hit xs false m j
  no : ∀ m j, f ≤ m → m ≤ i → j < f → ¬ Hit xs false m j
theorem besideR_get {i n a : Nat} (h : a < n - (i + 1)) : (beside true i n)[a]? = some (i + 1 + a) := by
  unfold beside
  rw [if_pos rfl, List.getElem?_map, List.getElem?_range h]
  rfl
theorem besideL_get {i n a : Nat} (h : a < i) : (beside false i n)[a]? = some (i - 1 - a) := by
  unfold beside
  rw [if_neg (by decide), List.getElem?_map, List.getElem?_range h]
  rfl
theorem reach_eq {xs : List (Int × Int)} {i : Nat} {r : Bool} (hi : i < xs.length) : reachN xs i r = (scan xs (allUp xs.length) (pl xs i) (ht xs i) (beside r i xs.length)).length := by
  have e1 : xs[i]? = some xs[i] := by simp [hi]
  obtain ⟨p1, t1⟩ := pl_of e1
  rw [p1, t1]
  unfold reachN felled
  rw [e1]
  simp
theorem runR {xs : List (Int × Int)} (h : Inc xs) {i : Nat} (hi : i < xs.length) : RunR xs i (run xs i true).2 := by
  have hle := reach_le (r := true) hi
  rw [besideR_len] at hle
  obtain ⟨s1, s2⟩ := scan_spec (xs := xs) (sd := allUp xs.length) (p0 := pl xs i) (fun o ho => allUp_get ho) (beside true i xs.length) (ht xs i) (beside_lt hi)
  rw [← reach_eq hi] at s1 s2
  show RunR xs i (i + reachN xs i true)
  generalize reachN xs i true = c at hle s1 s2
  have dR : ∀ k, i ≤ k → k < xs.length → dst xs (pl xs i) k = pl xs k - pl xs i := by
    intro k h1 h2
    unfold dst ab
    rcases Nat.lt_or_ge i k with q | q
    · have := h.pl q h2
      rw [if_neg (by omega)]
    · obtain rfl : k = i := by omega
      simp
  refine ⟨by omega, by omega, fun j h1 h2 => ?_, fun m j h1 h2 h3 hh => ?_⟩
  · have ej : (beside true i xs.length)[j - (i + 1)]? = some j := by rw [besideR_get (by omega)]; congr 1; omega
    have dj := dR j (by omega) (by omega)
    rcases s1 (j - (i + 1)) j (by omega) ej with q | ⟨b, u, q1, q2, q3⟩
    · exact ⟨i, Nat.le_refl _, h1, hi, by omega, fun _ => ⟨h1, by omega⟩, fun z => nomatch z⟩
    · rw [besideR_get (by omega)] at q2
      obtain rfl : i + 1 + b = u := Option.some.inj q2
      have du := dR (i + 1 + b) (by omega) (by omega)
      exact ⟨i + 1 + b, by omega, by omega, by omega, by omega, fun _ => ⟨by omega, by omega⟩, fun z => nomatch z⟩
  · obtain ⟨hm, hj, hr, _⟩ := hh
    obtain ⟨_, hr⟩ := hr rfl
    obtain ⟨q1, q2⟩ := s2 (i + 1 + c) (besideR_get (by omega))
    have dc := dR (i + 1 + c) (by omega) (by omega)
    have pj : pl xs (i + 1 + c) ≤ pl xs j := by
      rcases Nat.lt_or_ge (i + 1 + c) j with z | z
      · exact Int.le_of_lt (h.pl z hj)
      · obtain rfl : j = i + 1 + c := by omega
        exact Int.le_refl _
    rcases Nat.lt_or_ge i m with z | z
    · have q3 := q2 (m - (i + 1)) m (by omega) (by rw [besideR_get (by omega)]; congr 1; omega)
      have dm := dR m (by omega) (by omega)
      omega
    · obtain rfl : m = i := by omega
      omega
theorem runL {xs : List (Int × Int)} (h : Inc xs) {i : Nat} (hi : i < xs.length) : RunL xs i (run xs i false).1 := by
  have hle := reach_le (r := false) hi
  rw [besideL_len] at hle
  obtain ⟨s1, s2⟩ := scan_spec (xs := xs) (sd := allUp xs.length) (p0 := pl xs i) (fun o ho => allUp_get ho) (beside false i xs.length) (ht xs i) (beside_lt hi)
  rw [← reach_eq hi] at s1 s2
  show RunL xs i (i - reachN xs i false)
  generalize reachN xs i false = c at hle s1 s2
  have dR : ∀ k, k ≤ i → dst xs (pl xs i) k = pl xs i - pl xs k := by
    intro k h1
    unfold dst ab
    rcases Nat.lt_or_ge k i with q | q
    · have := h.pl q hi
      rw [if_pos (by omega)]
      omega
    · obtain rfl : k = i := by omega
      simp
  refine ⟨by omega, hi, fun j h1 h2 => ?_, fun m j h1 h2 h3 hh => ?_⟩
  · have ej : (beside false i xs.length)[i - 1 - j]? = some j := by rw [besideL_get (by omega)]; congr 1; omega
    have dj := dR j (by omega)
    rcases s1 (i - 1 - j) j (by omega) ej with q | ⟨b, u, q1, q2, q3⟩
    · exact ⟨i, h2, Nat.le_refl _, hi, by omega, fun z => (nomatch z), fun _ => ⟨h2, by omega⟩⟩
    · rw [besideL_get (by omega)] at q2
      obtain rfl : i - 1 - b = u := Option.some.inj q2
      have du := dR (i - 1 - b) (by omega)
      exact ⟨i - 1 - b, by omega, by omega, by omega, by omega, fun z => (nomatch z), fun _ => ⟨by omega, by omega⟩⟩
  · obtain ⟨hm, hj, _, hr⟩ := hh
    obtain ⟨_, hr⟩ := hr rfl
    obtain ⟨q1, q2⟩ := s2 (i - 1 - c) (besideL_get (by omega))
    have dc := dR (i - 1 - c) (by omega)
    have pj : pl xs j ≤ pl xs (i - 1 - c) := by
      rcases Nat.lt_or_ge j (i - 1 - c) with z | z
      · exact Int.le_of_lt (h.pl z (by omega))
      · obtain rfl : j = i - 1 - c := by omega
        exact Int.le_refl _
    rcases Nat.lt_or_ge m i with z | z
    · have q3 := q2 (i - 1 - m) m (by omega) (by rw [besideL_get (by omega)]; congr 1; omega)
      have dm := dR m (by omega)
      omega
    · obtain rfl : m = i := by omega
      omega
/-! ### pushes one after another: mathematics -/
def Reach (xs : List (Int × Int)) (S : List Nat) (r : Bool) (i j : Nat) : Prop := ∃ n, RB xs S r i n j
section
variable {xs : List (Int × Int)} {S T : List Nat} {r : Bool} {i : Nat}
theorem Reach.refl : Reach xs S r i i := ⟨0, rfl⟩
theorem Reach.step (hx : Inc xs) {m j : Nat} (h : Reach xs S r i m) (hj : j ∈ S) (hh : Hit xs r m j) : Reach xs S r i j := let ⟨n, h⟩ := h; ⟨n + 1, .inr ⟨m, h, hj, (hit_iff hx).mpr hh⟩⟩
theorem Reach.ind (hx : Inc xs) {P : Nat → Prop} (h0 : P i) (hs : ∀ m j, Reach xs S r i m → P m → j ∈ S → Hit xs r m j → P j) {j : Nat} (h : Reach xs S r i j) : P j := by
  obtain ⟨n, h⟩ := h
  induction n generalizing j with
  | zero => obtain rfl : j = i := h; exact h0
  | succ n ih =>
    rcases h with h | ⟨m, h1, h2, h3⟩
    · exact ih h
    · exact hs m j ⟨n, h1⟩ (ih h1) h2 ((hit_iff hx).mp h3)
theorem Reach.fst {j : Nat} : Reach xs S r i j ↔ ∃ u, Fst xs S r i u j :=
  ⟨fun ⟨_, h⟩ => let ⟨u, _, h2⟩ := h.first; ⟨u, h2⟩, fun ⟨u, h⟩ => ⟨u, h.1⟩⟩
noncomputable def after (xs : List (Int × Int)) (S : List Nat) (r : Bool) (i : Nat) : List Nat := S.filter fun j => @decide (¬ Reach xs S r i j) (Classical.propDecidable _)
theorem mem_after {j : Nat} : j ∈ after xs S r i ↔ j ∈ S ∧ ¬ Reach xs S r i j := by
  unfold after
  rw [List.mem_filter]
  exact ⟨fun h => ⟨h.1, @of_decide_eq_true _ (Classical.propDecidable _) h.2⟩, fun h => ⟨h.1, @decide_eq_true _ (Classical.propDecidable _) h.2⟩⟩
theorem right_ge (hx : Inc xs) {j : Nat} (h : Reach xs S true i j) : i ≤ j :=
  Reach.ind hx (P := fun j => i ≤ j) (Nat.le_refl _) (fun m j _ hm _ hh => Nat.le_trans hm (Nat.le_of_lt (hh.2.2.1 rfl).1)) h
theorem left_le (hx : Inc xs) {j : Nat} (h : Reach xs S false i j) : j ≤ i :=
  Reach.ind hx (P := fun j => j ≤ i) (Nat.le_refl _) (fun m j _ hm _ hh => Nat.le_trans (Nat.le_of_lt (hh.2.2.2 rfl).1) hm) h
theorem in_right (hx : Inc xs) {e j : Nat} (R : RunR xs i e) (h : Reach xs S true i j) : j ≤ e :=
  Reach.ind hx (P := fun j => j ≤ e) R.le (fun m j hr hm _ hh => by
    rcases Nat.lt_or_ge e j with q | q
    · exact absurd hh (R.no m j (right_ge hx hr) hm q)
    · exact q) h
theorem in_left (hx : Inc xs) {l f j : Nat} (R : RunL xs l f) (h1 : f ≤ i) (h2 : i ≤ l) (h : Reach xs S false i j) : f ≤ j :=
  Reach.ind hx (P := fun j => f ≤ j) h1 (fun m j hr hm _ hh => by
    rcases Nat.lt_or_ge j f with q | q
    · exact absurd hh (R.no m j hm (Nat.le_trans (left_le hx hr) h2) q)
    · exact q) h
theorem all_right (hx : Inc xs) {e e' : Nat} (R : RunR xs i e) (he : e' ≤ e) (hS : ∀ j, i < j → j ≤ e' → j ∈ S) : ∀ j, i ≤ j → j ≤ e' → Reach xs S true i j := by
  intro j
  induction j using Nat.strongRecOn with
  | ind j ih =>
    intro h1 h2
    by_cases q : j = i
    · subst q; exact .refl
    · obtain ⟨m, q1, q2, q3⟩ := R.by_ j (by omega) (by omega)
      exact (ih m q2 q1 (by omega)).step hx (hS j (by omega) h2) q3
theorem all_left (hx : Inc xs) {f : Nat} (R : RunL xs i f) (hS : ∀ j, f ≤ j → j < i → j ∈ S) : ∀ d j, f ≤ j → j ≤ i → i - j = d → Reach xs S false i j := by
  intro d
  induction d using Nat.strongRecOn with
  | ind d ih =>
    intro j h1 h2 hd
    by_cases q : j = i
    · subst q; exact .refl
    · obtain ⟨m, q1, q2, q3⟩ := R.by_ j h1 (by omega)
      exact (ih (i - m) (by omega) m (by omega) q2 rfl).step hx (hS j h1 (by omega)) q3
theorem cross_left (hx : Inc xs) {s j : Nat} (hs : s ∈ S) (hi : s ≤ i) (h : Reach xs S false i j) : j < s → Reach xs S false i s :=
  Reach.ind hx (P := fun j => j < s → Reach xs S false i s) (fun q => absurd q (by omega)) (fun m j hr ih _ hh hj => by
    rcases Nat.lt_trichotomy m s with q | q | q
    · exact ih q
    · exact q ▸ hr
    · obtain ⟨h1, h2, _, h3⟩ := hh
      obtain ⟨h3, h4⟩ := h3 rfl
      have := hx.pl hj (by omega)
      exact hr.step hx hs ⟨h1, by omega, fun z => (nomatch z), fun _ => ⟨q, by omega⟩⟩) h
theorem cross_right (hx : Inc xs) {s j : Nat} (hs : s ∈ S) (hi : i ≤ s) (h : Reach xs S true i j) : s ≤ j → Reach xs S true i s :=
  Reach.ind hx (P := fun j => s ≤ j → Reach xs S true i s) (fun q => by
    have e : s = i := by omega
    rw [e]
    exact .refl) (fun m j hr ih _ hh hj => by
    rcases Nat.lt_or_ge m s with q | q
    · obtain ⟨h1, h2, h3, _⟩ := hh
      obtain ⟨h3, h4⟩ := h3 rfl
      have : pl xs s ≤ pl xs j := by
        rcases Nat.lt_or_ge s j with z | z
        · exact Int.le_of_lt (hx.pl z h2)
        · obtain rfl : s = j := by omega
          exact Int.le_refl _
      exact hr.step hx hs ⟨h1, by omega, fun _ => ⟨q, by omega⟩, fun z => (nomatch z)⟩
    · exact ih q) h
end
/-! ### games -/
noncomputable def plays (xs : List (Int × Int)) : List Push → List Nat → List Nat
  | [], T => T
  | p :: ms, T => plays xs ms (after xs T p.2 p.1)
def Valid (xs : List (Int × Int)) : List Push → List Nat → Prop
  | [], _ => True
  | p :: ms, T => p.1 ∈ T ∧ Valid xs ms (after xs T p.2 p.1)
/-- pushes from k on do nothing to the stones ahead of k -/
def VKs (xs : List (Int × Int)) (k : Nat) : List Push → List Nat → Prop
  | [], _ => True
  | p :: ms, T => p.1 ∈ T ∧ (k ≤ p.1 → ∀ j, j < k → j ∈ T → ¬ Reach xs T p.2 p.1 j) ∧ VKs xs k ms (after xs T p.2 p.1)
def cnt (k : Nat) (ms : List Push) : Nat := (ms.filter fun p => decide (p.1 < k)).length
section
variable {xs : List (Int × Int)}
theorem plays_sub : ∀ (ms : List Push) (T : List Nat) (j : Nat), j ∈ plays xs ms T → j ∈ T
  | [], _, _, h => h
  | p :: ms, T, j, h => (mem_after.mp (plays_sub ms _ j h)).1
theorem plays_app : ∀ (ms ms' : List Push) (T : List Nat), plays xs (ms ++ ms') T = plays xs ms' (plays xs ms T)
  | [], _, _ => rfl
  | p :: ms, ms', T => plays_app ms ms' _
theorem valid_app : ∀ (ms ms' : List Push) (T : List Nat), Valid xs (ms ++ ms') T ↔ Valid xs ms T ∧ Valid xs ms' (plays xs ms T)
  | [], _, _ => by simp [Valid, plays]
  | p :: ms, ms', T => by
    simp only [List.cons_append, Valid, plays]
    rw [valid_app ms ms' _, and_assoc]
theorem vk_app {k : Nat} : ∀ (ms ms' : List Push) (T : List Nat), VKs xs k (ms ++ ms') T ↔ VKs xs k ms T ∧ VKs xs k ms' (plays xs ms T)
  | [], _, _ => by simp [VKs, plays]
  | p :: ms, ms', T => by
    simp only [List.cons_append, VKs, plays]
    rw [vk_app ms ms' _, and_assoc, and_assoc]
theorem cnt_app (k : Nat) (ms ms' : List Push) : cnt k (ms ++ ms') = cnt k ms + cnt k ms' := by unfold cnt; rw [List.filter_append, List.length_append]
theorem cnt_le {k k' : Nat} (h : k ≤ k') : ∀ ms : List Push, cnt k ms ≤ cnt k' ms
  | [] => Nat.le_refl _
  | p :: ms => by
    have ih := cnt_le h ms
    unfold cnt at ih ⊢
    rw [List.filter_cons, List.filter_cons]
    by_cases q : p.1 < k
    · have q' : p.1 < k' := by omega
      simp only [q, q', decide_true, if_true, List.length_cons]
      omega
    · by_cases q' : p.1 < k'
      · simp only [q, q', decide_true, decide_false, if_true, Bool.false_eq_true, if_false, List.length_cons]
        omega
      · simp only [q, q', decide_false, Bool.false_eq_true, if_false]
        exact ih
theorem cnt_one_in {k : Nat} {p : Push} (h : p.1 < k) : cnt k [p] = 1 := by unfold cnt; simp [h]
theorem cnt_one_out {k : Nat} {p : Push} (h : k ≤ p.1) : cnt k [p] = 0 := by unfold cnt; simp; omega
/-- the push that fells a stone -/
theorem felling : ∀ (ms : List Push) (T : List Nat) (l : Nat), l ∈ T → l ∉ plays xs ms T → ∃ ms1 p ms2, ms = ms1 ++ p :: ms2 ∧ l ∈ plays xs ms1 T ∧ Reach xs (plays xs ms1 T) p.2 p.1 l
  | [], T, l, h, n => absurd h n
  | p :: ms, T, l, h, n => by
    by_cases q : Reach xs T p.2 p.1 l
    · exact ⟨[], p, ms, rfl, h, q⟩
    · obtain ⟨ms1, p', ms2, e, h1, h2⟩ := felling ms (after xs T p.2 p.1) l (mem_after.mpr ⟨h, q⟩) n
      exact ⟨p :: ms1, p', ms2, by rw [e]; rfl, h1, h2⟩
theorem vk_left (hx : Inc xs) {l f : Nat} (R : RunL xs l f) : ∀ (ms : List Push) (T : List Nat), VKs xs (l + 1) ms T → VKs xs f ms T
  | [], _, _ => True.intro
  | (i, r) :: ms, T, ⟨h1, h2, h3⟩ => by
    refine ⟨h1, fun hf j hj hjT hr => ?_, vk_left hx R ms _ h3⟩
    have hf : f ≤ i := hf
    rcases Nat.lt_or_ge l i with q | q
    · exact h2 q j (by have := R.le; omega) hjT hr
    · cases r with
      | true => have := right_ge hx hr; omega
      | false => have := in_left hx R hf q hr; omega
theorem vk_ahead (hx : Inc xs) {l s : Nat} (hs : s ≤ l) : ∀ (ms : List Push) (T : List Nat), VKs xs (l + 1) ms T → s ∈ plays xs ms T → VKs xs s ms T
  | [], _, _, _ => True.intro
  | (i, r) :: ms, T, ⟨h1, h2, h3⟩, hp => by
    refine ⟨h1, fun hf j hj hjT hr => ?_, vk_ahead hx hs ms _ h3 hp⟩
    have hf : s ≤ i := hf
    rcases Nat.lt_or_ge l i with q | q
    · exact h2 q j (by omega) hjT hr
    · cases r with
      | true => have := right_ge hx hr; omega
      | false =>
        have a := mem_after.mp (plays_sub ms _ s hp)
        exact a.2 (cross_left hx a.1 hf hr hj)
theorem vk_behind {l s : Nat} (hs : s ≤ l) : ∀ (ms : List Push) (T : List Nat), VKs xs (l + 1) ms T → (∀ j ∈ T, j < s ∨ l < j) → VKs xs s ms T
  | [], _, _, _ => True.intro
  | (i, r) :: ms, T, ⟨h1, h2, h3⟩, ht => by
    refine ⟨h1, fun hf j hj hjT hr => ?_, vk_behind hs ms _ h3 fun j hj => ht j (mem_after.mp hj).1⟩
    have hf : s ≤ i := hf
    rcases ht i h1 with q | q
    · omega
    · exact h2 q j (by omega) hjT hr
end
/-! ### the fewest pushes: mathematics -/
noncomputable section
def best (xs : List (Int × Int)) (k : Nat) : List Push := (fam xs k).getD k []
def L (xs : List (Int × Int)) (k : Nat) : Nat := (best xs k).length
section
variable {xs : List (Int × Int)}
theorem fam_pre : ∀ (k j : Nat), j ≤ k → (fam xs k).getD j [] = best xs j
  | 0, j, h => by obtain rfl : j = 0 := by omega
                  rfl
  | k + 1, j, h => by
    by_cases q : j ≤ k
    · unfold fam
      rw [List.getD_eq_getElem?_getD, List.getElem?_append_left (by rw [fam_len]; omega), ← List.getD_eq_getElem?_getD]
      exact fam_pre k j q
    · obtain rfl : j = k + 1 := by omega
      rfl
theorem best_succ (l : Nat) : best xs (l + 1) = upTo xs (fam xs l) l := by
  unfold best
  show (fam xs l ++ [upTo xs (fam xs l) l]).getD (l + 1) [] = _
  rw [List.getD_eq_getElem?_getD, List.getElem?_append_right (by rw [fam_len]; omega), fam_len, Nat.sub_self]
  rfl
theorem better_le (pss : List (List Push)) (l : Nat) : ∀ (ss : List Nat) (b : List Push), (ss.foldl (better xs pss l) b).length ≤ b.length
  | [], b => Nat.le_refl _
  | s :: ss, b => by
    refine Nat.le_trans (better_le pss l ss _) ?_
    unfold better
    split
    · rename_i h; omega
    · exact Nat.le_refl _
theorem better_cand (pss : List (List Push)) (l s : Nat) (h : l ≤ (run xs s true).2) : ∀ (ss : List Nat) (b : List Push), s ∈ ss → (ss.foldl (better xs pss l) b).length ≤ 1 + (pss.getD s []).length
  | [], b, hs => nomatch hs
  | z :: ss, b, hs => by
    rcases List.mem_cons.mp hs with e | hs
    · subst e
      refine Nat.le_trans (better_le pss l ss _) ?_
      unfold better
      split
      · rw [List.length_cons]; omega
      · rename_i q
        rw [List.length_cons] at q
        have : ¬ ((pss.getD s []).length + 1 < b.length) := fun z => q ⟨z, h⟩
        omega
    · exact better_cand pss l s h ss _ hs
theorem better_all {P : List Push → Prop} (pss : List (List Push)) (l : Nat) : ∀ (ss : List Nat) (b : List Push), P b → (∀ s ∈ ss, l ≤ (run xs s true).2 → P ((s, true) :: pss.getD s [])) → P (ss.foldl (better xs pss l) b)
  | [], b, h, _ => h
  | s :: ss, b, h, hs => by
    refine better_all pss l ss _ ?_ fun z hz => hs z (by simp [hz])
    unfold better
    split
    · rename_i q; exact hs s (by simp) q.2
    · exact h
theorem L_zero : L xs 0 = 0 := rfl
theorem L_left (l : Nat) : L xs (l + 1) ≤ 1 + L xs (run xs l false).1 := by
  unfold L
  rw [best_succ]
  refine Nat.le_trans (better_le _ _ _ _) ?_
  unfold first7
  rw [List.length_cons, fam_pre l _ run_left_le]
  omega
theorem L_right {l s : Nat} (hs : s ≤ l) (h : l ≤ (run xs s true).2) : L xs (l + 1) ≤ 1 + L xs s := by
  unfold L
  rw [best_succ]
  refine Nat.le_trans (better_cand (fam xs l) l s h _ _ (List.mem_range.mpr (by omega))) ?_
  rw [fam_pre l s hs]
  exact Nat.le_refl _
theorem lower (hx : Inc xs) : ∀ k, k ≤ xs.length → ∀ (ms : List Push) (T : List Nat), (∀ j ∈ T, j < xs.length) → VKs xs k ms T → (∀ j, j < k → j ∈ T) → (∀ j, j < k → j ∉ plays xs ms T) → L xs k ≤ cnt k ms := by
  intro k
  induction k using Nat.strongRecOn with
  | ind k ih =>
    intro hk ms T hT hv h1 h2
    cases k with
    | zero => exact Nat.zero_le _
    | succ l =>
      obtain ⟨ms1, ⟨s, r⟩, ms2, e, hl, hr⟩ := felling ms T l (h1 l (Nat.lt_succ_self _)) (h2 l (Nat.lt_succ_self _))
      subst e
      obtain ⟨v1, v2, v3, v4⟩ := (vk_app ms1 _ T).mp hv
      have hr : Reach xs (plays xs ms1 T) r s l := hr
      have v2 : s ∈ plays xs ms1 T := v2
      have v3 : l + 1 ≤ s → ∀ j, j < l + 1 → j ∈ plays xs ms1 T → ¬ Reach xs (plays xs ms1 T) r s j := v3
      have v4 : VKs xs (l + 1) ms2 (after xs (plays xs ms1 T) r s) := v4
      have hsl : s ≤ l := by
        rcases Nat.lt_or_ge l s with q | q
        · exact absurd hr (v3 q l (Nat.lt_succ_self _) hl)
        · exact q
      have hlx : l < xs.length := by omega
      cases r with
      | false =>
        obtain rfl : s = l := by have := left_le hx hr; omega
        have R := runL hx hlx
        have := ih _ (by have := R.le; omega) (by have := R.le; omega) (ms1 ++ (s, false) :: ms2) T hT (vk_left hx R _ _ hv) (fun j hj => h1 j (by have := R.le; omega)) (fun j hj => h2 j (by have := R.le; omega))
        have c : cnt (run xs s false).1 (ms1 ++ (s, false) :: ms2) + 1 ≤ cnt (s + 1) (ms1 ++ (s, false) :: ms2) := by
          have e : (s, false) :: ms2 = [(s, false)] ++ ms2 := rfl
          rw [e, cnt_app, cnt_app, cnt_app, cnt_app, cnt_one_in (p := (s, false)) (show s < s + 1 by omega), cnt_one_out (p := (s, false)) (show (run xs s false).1 ≤ s from R.le)]
          have := cnt_le (show (run xs s false).1 ≤ s + 1 by have := R.le; omega) ms1
          have := cnt_le (show (run xs s false).1 ≤ s + 1 by have := R.le; omega) ms2
          omega
        have := L_left (xs := xs) s
        omega
      | true =>
        have hsx : s < xs.length := by omega
        have R := runR hx hsx
        have le : l ≤ (run xs s true).2 := in_right hx R hr
        have gone : ∀ j ∈ after xs (plays xs ms1 T) true s, j < s ∨ l < j := by
          intro j hj
          obtain ⟨q1, q2⟩ := mem_after.mp hj
          rcases Nat.lt_or_ge j s with q | q
          · exact .inl q
          · rcases Nat.lt_or_ge l j with q' | q'
            · exact .inr q'
            · exact absurd (cross_right hx q1 q hr q') q2
        have v : VKs xs s (ms1 ++ (s, true) :: ms2) T := by
          refine (vk_app ms1 _ T).mpr ⟨vk_ahead hx hsl ms1 T v1 v2, v2, fun _ j hj _ hr => ?_, vk_behind hsl ms2 _ v4 gone⟩
          have := right_ge hx hr
          omega
        have := ih s (by omega) (by omega) (ms1 ++ (s, true) :: ms2) T hT v (fun j hj => h1 j (by omega)) (fun j hj => h2 j (by omega))
        have c : cnt s (ms1 ++ (s, true) :: ms2) + 1 ≤ cnt (l + 1) (ms1 ++ (s, true) :: ms2) := by
          have e : (s, true) :: ms2 = [(s, true)] ++ ms2 := rfl
          rw [e, cnt_app, cnt_app, cnt_app, cnt_app, cnt_one_in (p := (s, true)) (show s < l + 1 by omega), cnt_one_out (p := (s, true)) (Nat.le_refl s)]
          have := cnt_le (show s ≤ l + 1 by omega) ms1
          have := cnt_le (show s ≤ l + 1 by omega) ms2
          omega
        have := L_right hsl le
        omega
theorem vk_of_valid {k : Nat} : ∀ (ms : List Push) (T : List Nat), (∀ j ∈ T, j < k) → Valid xs ms T → VKs xs k ms T
  | [], _, _, _ => True.intro
  | p :: ms, T, ht, ⟨h1, h2⟩ => ⟨h1, fun h => absurd (ht _ h1) (by omega), vk_of_valid ms _ (fun j hj => ht j (mem_after.mp hj).1) h2⟩
/-- no pushes fell all stones with fewer -/
theorem lower_all (hx : Inc xs) {ms : List Push} (hv : Valid xs ms (List.range xs.length)) (he : plays xs ms (List.range xs.length) = []) : L xs xs.length ≤ ms.length := by
  have v := vk_of_valid (k := xs.length) ms _ (fun j hj => List.mem_range.mp hj) hv
  refine Nat.le_trans (lower hx xs.length (Nat.le_refl _) ms _ (fun j hj => List.mem_range.mp hj) v (fun j hj => List.mem_range.mpr hj) (fun j _ hj => by rw [he] at hj; cases hj)) ?_
  unfold cnt
  exact List.length_filter_le _ _
theorem filter_range {f : Nat} {p : Nat → Bool} : ∀ n, f ≤ n → (∀ j, j < n → (p j = true ↔ j < f)) → (List.range n).filter p = List.range f
  | 0, h, _ => by obtain rfl : f = 0 := by omega
                  rfl
  | n + 1, h, hp => by
    rw [List.range_succ, List.filter_append]
    by_cases q : f = n + 1
    · subst q
      have hn : p n = true := (hp n (by omega)).mpr (by omega)
      rw [List.range_succ, filter_range n (f := n) (Nat.le_refl _) fun j hj => by rw [hp j (by omega)]; omega]
      simp [hn]
    · have hn : p n = false := by
        rw [Bool.eq_false_iff]
        intro z
        have := (hp n (by omega)).mp z
        omega
      rw [filter_range n (f := f) (by omega) fun j hj => hp j (by omega)]
      simp [hn]
theorem after_range {n f i : Nat} {r : Bool} (h : f ≤ n) (hp : ∀ j, j < n → (¬ Reach xs (List.range n) r i j ↔ j < f)) : after xs (List.range n) r i = List.range f := by
  unfold after
  refine filter_range n h fun j hj => ?_
  rw [← hp j hj]
  exact ⟨fun z => @of_decide_eq_true _ (Classical.propDecidable _) z, fun z => @decide_eq_true _ (Classical.propDecidable _) z⟩
theorem after_left (hx : Inc xs) {l : Nat} (hl : l < xs.length) : after xs (List.range (l + 1)) false l = List.range (run xs l false).1 := by
  have R := runL hx hl
  refine after_range (by have := R.le; omega) fun j hj => ?_
  constructor
  · intro h
    rcases Nat.lt_or_ge j (run xs l false).1 with q | q
    · exact q
    · exact absurd (all_left hx R (fun z h1 h2 => List.mem_range.mpr (by omega)) (l - j) j q (by omega) rfl) h
  · intro h z
    have := in_left hx R R.le (Nat.le_refl _) z
    omega
theorem after_right (hx : Inc xs) {l s : Nat} (hl : l < xs.length) (hs : s ≤ l) (h : l ≤ (run xs s true).2) : after xs (List.range (l + 1)) true s = List.range s := by
  have R := runR hx (show s < xs.length by omega)
  refine after_range (by omega) fun j hj => ?_
  constructor
  · intro z
    rcases Nat.lt_or_ge j s with q | q
    · exact q
    · exact absurd (all_right hx R (e' := l) h (fun z h1 h2 => List.mem_range.mpr (by omega)) j q (by omega)) z
  · intro h z
    have := right_ge hx z
    omega
theorem plan (hx : Inc xs) : ∀ k, k ≤ xs.length → Valid xs (best xs k) (List.range k) ∧ plays xs (best xs k) (List.range k) = [] := by
  intro k
  induction k using Nat.strongRecOn with
  | ind k ih =>
    intro hk
    cases k with
    | zero => exact ⟨True.intro, rfl⟩
    | succ l =>
      rw [best_succ]
      unfold upTo
      refine better_all (P := fun ps => Valid xs ps (List.range (l + 1)) ∧ plays xs ps (List.range (l + 1)) = []) (fam xs l) l _ _ ?_ fun s hs h => ?_
      · unfold first7
        rw [fam_pre l _ run_left_le]
        have e := after_left hx (show l < xs.length by omega)
        have i := ih (run xs l false).1 (by have := run_left_le (xs := xs) (i := l); omega) (by have := run_left_le (xs := xs) (i := l); omega)
        refine ⟨⟨List.mem_range.mpr (by show l < l + 1; omega), ?_⟩, ?_⟩
        · show Valid xs _ (after xs (List.range (l + 1)) false l)
          rw [e]
          exact i.1
        · show plays xs _ (after xs (List.range (l + 1)) false l) = []
          rw [e]
          exact i.2
      · have hs' : s ≤ l := by have := List.mem_range.mp hs; omega
        rw [fam_pre l s hs']
        have e := after_right hx (show l < xs.length by omega) hs' h
        have i := ih s (by omega) (by omega)
        refine ⟨⟨List.mem_range.mpr (by show s < l + 1; omega), ?_⟩, ?_⟩
        · show Valid xs _ (after xs (List.range (l + 1)) true s)
          rw [e]
          exact i.1
        · show plays xs _ (after xs (List.range (l + 1)) true s) = []
          rw [e]
          exact i.2
theorem fewest_best : fewest xs = best xs xs.length := rfl
theorem fewest_plan (hx : Inc xs) : Valid xs (fewest xs) (List.range xs.length) ∧ plays xs (fewest xs) (List.range xs.length) = [] := plan hx _ (Nat.le_refl _)
end
end
/-! ### the law's own wave, stone by stone -/
def kvs (fs : List (Nat × Nat)) : List (Key × V) := fs.map fun p => ((Sum.inl (p.1 : Int) : Key), V.int (p.2 : Int))
theorem kvs_none {fs : List (Nat × Nat)} {o : Nat} : valV (kvs fs) (Sum.inl (o : Int) : Key) = none ↔ o ∉ fs.map (·.1) := by
  induction fs with
  | nil => exact ⟨fun _ h => (nomatch h), fun _ => rfl⟩
  | cons p fs ih =>
    have c : kvs (p :: fs) = ((Sum.inl (p.1 : Int) : Key), V.int (p.2 : Int)) :: kvs fs := rfl
    rw [c]
    by_cases e : p.1 = o
    · rw [valV_pos (by rw [e])]
      simp [e]
    · rw [valV_neg (by intro h; injection h with h; omega), ih]
      simp only [List.map_cons, List.mem_cons, not_or]
      exact ⟨fun h => ⟨fun z => e z.symm, h⟩, fun h => h.2⟩
theorem kvs_put {fs : List (Nat × Nat)} {o t : Nat} (h : o ∉ fs.map (·.1)) : putK (kvs fs) (Sum.inl (o : Int) : Key) (V.int (t : Int)) = kvs (fs ++ [(o, t)]) := by
  rw [putK_new _ (kvs_none.mpr h)]
  unfold kvs
  simp
theorem kvs_len (fs : List (Nat × Nat)) : (kvs fs).length = fs.length := by unfold kvs; simp
/-- lists of ints as data -/
def intD (ns : List Nat) : PyData := .list (ns.map fun (k : Nat) => PyData.int (k : Int))
theorem ints_all {K : PySem.W.Frag} {H : Hp} : ∀ ns : List Nat, DpAll K H (ivs ns) (ns.map fun (k : Nat) => PyData.int (k : Int))
  | [] => .nil
  | k :: ns => .cons (.int k) (ints_all ns)
theorem ints_dp {K : PySem.W.Frag} {H : Hp} {a : Addr} {ns : List Nat} (h : SqL K H a (ivs ns)) : Dp K H (.ref a) (intD ns) := .lst h (ints_all ns)
theorem lay_ints : ∀ ns : List Nat, PyData.canLayAll0 (ns.map fun (k : Nat) => PyData.int (k : Int)) = true
  | [] => by simp [PyData.canLayAll0]
  | k :: ns => by simp [PyData.canLayAll0, PyData.canLay0, lay_ints ns]
theorem deep_ints : ∀ ns : List Nat, PyData.depthAll (ns.map fun (k : Nat) => PyData.int (k : Int)) ≤ 1
  | [] => by simp [PyData.depthAll]
  | k :: ns => by
    have := deep_ints ns
    simp only [List.map_cons, PyData.depthAll, PyData.depth]
    omega
theorem ints_shaped (ns : List Nat) : SeqAt.shaped (intD ns) = true := by
  have h1 := deep_ints ns
  have h2 : PyData.depth (intD ns) ≤ 64 := by unfold intD; simp only [PyData.depth]; omega
  show (PyData.canLay0 (intD ns) && decide (PyData.depth (intD ns) ≤ 64)) = true
  rw [Bool.and_eq_true]
  exact ⟨by unfold intD; simp only [PyData.canLay0]; exact lay_ints ns, decide_eq_true h2⟩
theorem ints_nil (ns : List Nat) : PyData.eqv (intD ns) (intD []) = ns.isEmpty := by
  cases ns with
  | nil => simp [intD, PyData.eqv, PyData.eqvAll]
  | cons k ns => simp [intD, PyData.eqv, PyData.eqvAll]
theorem same_upd {H H1 : Hp} {p : Addr} {o : HO} (e : Same H H1) (h : H p = none) : Same H (upd H1 p o) := fun b u q => by rw [upd_ne (ne_of_none q h)]; exact e _ _ q
/-- A if side == "right" else B, where both come to the same letter -/
theorem if_side {n : Nat} {σ : L2.St} {H : Hp} {Q : VK} {ta tb : TE} {r : Bool} {v : V} (h3 : σ[n]? = some (some (.str (sideS r)))) (ha : r = true → ∀ Q : VK, Q v H → ta σ H Q) (hb : r = false → ∀ Q : VK, Q v H → tb σ H Q) (q : Q v H) :
    tIf (tTest (tOp rEq (tVar n) (tC (.str "right")))) ta tb σ H Q := by
  refine ⟨_, h3, rfl, _, rfl, ?_⟩
  rw [right_eq]
  cases r with
  | true => exact iteT (ha rfl Q q)
  | false => exact iteF (hb rfl Q q)
theorem in_len {xs : List (Int × Int)} {r : Bool} {t m : Nat} : ∀ (L : List Nat) (st : Wave), (L.foldl (stepIn xs r t m) st).1.length ≤ st.1.length + L.length ∧ (L.foldl (stepIn xs r t m) st).2.length ≤ st.2.length + L.length
  | [], st => by simp
  | o :: L, st => by
    have ih := in_len (xs := xs) (r := r) (t := t) (m := m) L (stepIn xs r t m st o)
    have h : (stepIn xs r t m st o).1.length ≤ st.1.length + 1 ∧ (stepIn xs r t m st o).2.length ≤ st.2.length + 1 := by
      unfold stepIn
      split
      · simp
      · omega
    simp only [List.foldl_cons, List.length_cons]
    omega
theorem lv_len {xs : List (Int × Int)} {S : List Nat} {r : Bool} {t : Nat} : ∀ (L : List Nat) (st : Wave), (L.foldl (stepLv xs S r t) st).1.length ≤ st.1.length + L.length * S.length ∧ (L.foldl (stepLv xs S r t) st).2.length ≤ st.2.length + L.length * S.length
  | [], st => by simp
  | m :: L, st => by
    have ih := lv_len (xs := xs) (S := S) (r := r) (t := t) L (stepLv xs S r t st m)
    have h := in_len (xs := xs) (r := r) (t := t) (m := m) S st
    have e : stepLv xs S r t st m = S.foldl (stepIn xs r t m) st := rfl
    rw [e] at ih
    simp only [List.foldl_cons, List.length_cons, e, Nat.add_mul, Nat.one_mul]
    omega
theorem lvl_len {xs : List (Int × Int)} {S : List Nat} {r : Bool} {i : Nat} : ∀ t : Nat, (iter xs S r i t).2.length ≤ (iter xs S r i t).1.length
  | 0 => by simp [iter]
  | t + 1 => by
    have e : iter xs S r i (t + 1) = level xs S r (t + 1) ((iter xs S r i t).1, (iter xs S r i t).2) := rfl
    have q := (level_spec (xs := xs) (S := S) (r := r) (t := t + 1) (lv := (iter xs S r i t).2) (iter_spec (xs := xs) (S := S) (r := r) (i := i) t).1).1
    rw [← e] at q
    have l := congrArg List.length q
    rw [List.length_append, List.length_map] at l
    omega
/-! ### the stones of a row, and rows that are equal -/
def stD (x : Int × Int) : PyData := .tuple [.int x.1, .int x.2]
def stonesD (xs : List (Int × Int)) : PyData := .tuple (xs.map stD)
theorem canLay_stones : ∀ xs : List (Int × Int), PyData.canLayAll0 (xs.map stD) = true
  | [] => rfl
  | x :: xs => by
    show PyData.canLayAll0 (stD x :: xs.map stD) = true
    rw [PyData.canLayAll0, canLay_stones xs]
    simp [stD, PyData.canLay0, PyData.canLayAll0]
theorem depth_stones : ∀ xs : List (Int × Int), PyData.depthAll (xs.map stD) ≤ 2
  | [] => by simp [PyData.depthAll]
  | x :: xs => by
    have := depth_stones xs
    rw [List.map_cons]
    simp only [stD, PyData.depthAll, PyData.depth]
    omega
theorem stones_shaped (xs : List (Int × Int)) : SeqAt.shaped (stonesD xs) = true := by
  unfold SeqAt.shaped stonesD
  rw [Bool.and_eq_true]
  refine ⟨by rw [PyData.canLay0, canLay_stones xs], decide_eq_true ?_⟩
  have := depth_stones xs
  rw [PyData.depth]
  omega
theorem eqv_stones (xs : List (Int × Int)) : PyData.eqv (stonesD xs) (stonesD xs) = true := SeqAt.eqv_refl _ (SeqAt.canLay_of_shaped (stones_shaped xs))
theorem stones_all {K : PySem.W.Frag} {H : Hp} : ∀ {us : List V} {xs : List (Int × Int)}, StonesAt K H us xs → DpAll K H us (xs.map stD)
  | [], [], _ => .nil
  | [], _ :: _, h => by have := h.1; simp at this
  | _ :: _, [], h => by have := h.1; simp at this
  | u :: us, x :: xs, h => by
    obtain ⟨a, ha, sa⟩ := h.2 0 x rfl
    have e : u = .ref a := by simpa using ha
    subst e
    refine .cons (.tup sa (.cons (.int _) (.cons (.int _) .nil))) (stones_all ⟨by have := h.1; simpa using this, fun k y q => ?_⟩)
    obtain ⟨b, hb, sb⟩ := h.2 (k + 1) y (by simpa using q)
    exact ⟨b, by simpa using hb, sb⟩
theorem stones_dp {K : PySem.W.Frag} {H : Hp} {t : Addr} {us : List V} {xs : List (Int × Int)} (hT : SqT K H t us) (hS : StonesAt K H us xs) : Dp K H (.ref t) (stonesD xs) := .tup hT (stones_all hS)
def spGet (K : PySem.W.Frag) (C : Addr) : Sp := fun vs H Q _ => ∃ p xs, vs = [.ref p] ∧ RowAt K C H p xs ∧ ∀ t us, SqT K H t us → StonesAt K H us xs → Q (.ref t) H
/-- of two rows of the same stones -/
def spSame (K : PySem.W.Frag) (C : Addr) : Sp := fun vs H Q _ => ∃ p q xs, vs = [.ref p, .ref q] ∧ RowAt K C H p xs ∧ RowAt K C H q xs ∧ Q (.bl true) H
section
variable {P : Program} {w : World} {K : PySem.W.Frag} {mg : Str → Option Value} {base : Heap}
theorem ok_get {f C : Addr} {fd : FuncData} (F : Fun K "stones" "Row.stones" s_Row_stones f fd) (R : RowC K mg C) : FnOk P w K mg base CX0 1 f fd ["self"] (spGet K C) := by
  refine F.ok sc_Row_stones (fun vs H Q E h => ?_) (fun cdv A outer s H vs Q E hr h => ?_)
  · obtain ⟨p, xs, rfl, _⟩ := h
    rfl
  · obtain ⟨p, xs, rfl, ⟨dx, t, us, hp, hT, hS⟩, k⟩ := h
    refine ⟨_, pss_one (ps_ret (pe_fld (pv 0) rfl)), ?_⟩
    exact ⟨_, rfl, p, C, dx, _, _, rfl, hp, R.cl, R.nS, rfl, k t us hT hS⟩
theorem ok_same {f C : Addr} {fd : FuncData} (F : Fun K "__eq__" "Row.__eq__" s_Row_eq f fd) (B : Blt mg) (R : RowC K mg C) : FnOk P w K mg base CX0 1 f fd ["self", "other"] (spSame K C) := by
  refine F.ok sc_Row_eq (fun vs H Q E h => ?_) (fun cdv A outer s H vs Q E hr h => ?_)
  · obtain ⟨p, q, xs, rfl, _⟩ := h
    rfl
  · obtain ⟨p, q, xs, rfl, ⟨dx, t, us, hp, hT, hS⟩, ⟨dy, t', us', hq, hT', hS'⟩, k⟩ := h
    refine ⟨_, pss_one (ps_ret (pe_and (pe_callB (call_isi) (by rfl) B.isinstance boot_isinstance (pa_cons (pv 1) (pa_cons (pe_glob (v := .ref C) (by rfl) R.mgC rfl) pa_nil))) (pe_one (pe_cmpR (op_eqD hr.units) (pe_fld (pv 0) rfl) (pe_fld (pv 1) rfl) (nomark _))))), ?_⟩
    refine ⟨_, rfl, _, .ref C, _, _, true, rfl, .own C, R.ty hq, kit_self, true, rfl, ?_⟩
    refine iteT ⟨_, rfl, p, C, dx, _, _, rfl, hp, R.cl, R.nS, rfl, _, rfl, q, C, dy, _, _, rfl, hq, R.cl, R.nS, rfl, stonesD xs, stonesD xs, stones_dp hT hS, stones_dp hT' hS', stones_shaped xs, stones_shaped xs, ?_⟩
    rw [eqv_stones]
    exact k
end
/-! ### ticks, one stone after another -/
/-- so many stones beside stone i -/
def bpos (r : Bool) (i d : Nat) : Nat := if r then i + d else i - d
def bmax (r : Bool) (i n : Nat) : Nat := if r then n - (i + 1) else i
theorem beside_at {r : Bool} {i n k : Nat} (h : k < bmax r i n) : (beside r i n)[k]? = some (bpos r i (k + 1)) := by
  cases r with
  | true =>
    have h : k < n - (i + 1) := h
    rw [besideR_get h]
    show some (i + 1 + k) = some (i + (k + 1))
    congr 1; omega
  | false =>
    have h : k < i := h
    rw [besideL_get h]
    show some (i - 1 - k) = some (i - (k + 1))
    congr 1; omega
theorem beside_length (r : Bool) (i n : Nat) : (beside r i n).length = bmax r i n := by cases r <;> simp [beside, bmax]
def touch (xs : List (Int × Int)) (m o : Nat) : Bool := decide (ab (pl xs o - pl xs m) ≤ ht xs m)
theorem touch_hit {xs : List (Int × Int)} (h : Inc xs) {r : Bool} {i d e : Nat} (hi : i < xs.length) (hd : d < e) (he : e ≤ bmax r i xs.length) : touch xs (bpos r i d) (bpos r i e) = true ↔ Hit xs r (bpos r i d) (bpos r i e) := by
  unfold touch
  rw [decide_eq_true_eq]
  cases r with
  | true =>
    have he : e ≤ xs.length - (i + 1) := he
    show ab (pl xs (i + e) - pl xs (i + d)) ≤ ht xs (i + d) ↔ Hit xs true (i + d) (i + e)
    have := h.pl (a := i + d) (b := i + e) (by omega) (by omega)
    constructor
    · intro q
      unfold ab at q
      refine ⟨by omega, by omega, fun _ => ⟨by omega, ?_⟩, fun z => nomatch z⟩
      split at q <;> omega
    · intro q
      have := (q.2.2.1 rfl).2
      unfold ab
      split <;> omega
  | false =>
    have he : e ≤ i := he
    show ab (pl xs (i - e) - pl xs (i - d)) ≤ ht xs (i - d) ↔ Hit xs false (i - d) (i - e)
    have := h.pl (a := i - e) (b := i - d) (by omega) (by omega)
    constructor
    · intro q
      unfold ab at q
      refine ⟨by omega, by omega, (fun z => nomatch z), fun _ => ⟨by omega, ?_⟩⟩
      split at q <;> omega
    · intro q
      have := (q.2.2.2 rfl).2
      unfold ab
      split <;> omega
theorem hit_ahead {xs : List (Int × Int)} {r : Bool} {i m e : Nat} (he : e ≤ bmax r i xs.length) (q : Hit xs r m (bpos r i e)) (hm : ∃ d, d ≤ bmax r i xs.length ∧ m = bpos r i d) : ∃ d, d < e ∧ m = bpos r i d := by
  obtain ⟨d, hd, rfl⟩ := hm
  refine ⟨d, ?_, rfl⟩
  cases r with
  | true =>
    have := (q.2.2.1 rfl).1
    have this : i + d < i + e := this
    omega
  | false =>
    have := (q.2.2.2 rfl).1
    have this : i - e < i - d := this
    omega
theorem rb_pos {xs : List (Int × Int)} (h : Inc xs) {r : Bool} {i t j : Nat} (hi : i < xs.length) (q : RB xs (List.range xs.length) r i t j) : ∃ d, d ≤ bmax r i xs.length ∧ j = bpos r i d := by
  have hr : Reach xs (List.range xs.length) r i j := ⟨t, q⟩
  have hj : j < xs.length := by
    cases t with
    | zero => obtain rfl : j = i := q; exact hi
    | succ t =>
      refine Reach.ind h (P := fun j => j < xs.length) hi (fun m j _ _ hj _ => List.mem_range.mp hj) hr
  cases r with
  | true =>
    have := right_ge h hr
    exact ⟨j - i, by show j - i ≤ xs.length - (i + 1); omega, by show j = i + (j - i); omega⟩
  | false =>
    have := left_le h hr
    exact ⟨i - j, by show i - j ≤ i; omega, by show j = i - (i - j); omega⟩
theorem bpos_lt {r : Bool} {i n d : Nat} (hi : i < n) (hd : d ≤ bmax r i n) : bpos r i d < n := by
  cases r with
  | true => have hd : d ≤ n - (i + 1) := hd; show i + d < n; omega
  | false => show i - d < n; omega
theorem bpos_inj {r : Bool} {i n d e : Nat} (hd : d ≤ bmax r i n) (he : e ≤ bmax r i n) (q : bpos r i d = bpos r i e) : d = e := by
  cases r with
  | true => have q : i + d = i + e := q; omega
  | false => have q : i - d = i - e := q; have hd : d ≤ i := hd; have he : e ≤ i := he; omega
/-- the ticks of so many stones beside the pushed one are known -/
structure TickI (xs : List (Int × Int)) (r : Bool) (i k : Nat) (fs : List (Nat × Nat)) : Prop where
  nd : (fs.map (·.1)).Nodup
  has : ∀ j u, (j, u) ∈ fs ↔ (∃ d, d ≤ k ∧ j = bpos r i d) ∧ Fst xs (List.range xs.length) r i u j
  len : fs.length ≤ k + 1
def nearT (xs : List (Int × Int)) (fs : List (Nat × Nat)) (o : Nat) : List Nat := (fs.filter fun p => touch xs p.1 o).map (·.2)
theorem fst_zero {xs : List (Int × Int)} {r : Bool} {i u : Nat} {S : List Nat} : Fst xs S r i u i ↔ u = 0 := by
  constructor
  · intro h
    refine Nat.eq_zero_of_not_pos fun q => h.2 0 q rfl
  · rintro rfl
    exact ⟨rfl, fun v h => absurd h (Nat.not_lt_zero _)⟩
theorem TickI.start {xs : List (Int × Int)} {r : Bool} {i : Nat} : TickI xs r i 0 [(i, 0)] := by
  refine ⟨by simp, fun j u => ?_, Nat.le_refl _⟩
  rw [List.mem_singleton, Prod.mk.injEq]
  constructor
  · rintro ⟨rfl, rfl⟩
    exact ⟨⟨0, Nat.le_refl _, by cases r <;> rfl⟩, fst_zero.mpr rfl⟩
  · rintro ⟨⟨d, hd, rfl⟩, h⟩
    obtain rfl : d = 0 := by omega
    have e : bpos r i 0 = i := by cases r <;> rfl
    rw [e] at h ⊢
    exact ⟨rfl, fst_zero.mp h⟩
theorem near_sound {xs : List (Int × Int)} (h : Inc xs) {r : Bool} {i k : Nat} {fs : List (Nat × Nat)} (hi : i < xs.length) (T : TickI xs r i k fs) (hk : k < bmax r i xs.length) {u : Nat} (hu : u ∈ nearT xs fs (bpos r i (k + 1))) :
    RB xs (List.range xs.length) r i (u + 1) (bpos r i (k + 1)) := by
  obtain ⟨⟨m, u'⟩, hm, rfl⟩ := List.mem_map.mp hu
  obtain ⟨hm, ht⟩ := List.mem_filter.mp hm
  obtain ⟨⟨d, hd, rfl⟩, hf⟩ := (T.has m u').mp hm
  refine .inr ⟨bpos r i d, hf.1, List.mem_range.mpr (bpos_lt hi hk), (hit_iff h).mpr ((touch_hit h hi (by omega) hk).mp ht)⟩
theorem near_full {xs : List (Int × Int)} (h : Inc xs) {r : Bool} {i k : Nat} {fs : List (Nat × Nat)} (hi : i < xs.length) (T : TickI xs r i k fs) (hk : k < bmax r i xs.length) :
    ∀ t, RB xs (List.range xs.length) r i t (bpos r i (k + 1)) → ∃ u ∈ nearT xs fs (bpos r i (k + 1)), u + 1 ≤ t
  | 0, q => by
    have q : bpos r i (k + 1) = i := q
    have e : bpos r i 0 = i := by cases r <;> rfl
    have := bpos_inj (r := r) (i := i) (n := xs.length) (d := k + 1) (e := 0) hk (Nat.zero_le _) (q.trans e.symm)
    omega
  | t + 1, .inl q => by
    obtain ⟨u, h1, h2⟩ := near_full h hi T hk t q
    exact ⟨u, h1, by omega⟩
  | t + 1, .inr ⟨m, q1, _, q3⟩ => by
    have hh := (hit_iff h).mp q3
    obtain ⟨d, hd, rfl⟩ := hit_ahead hk hh (rb_pos h hi q1)
    obtain ⟨u, hu, hf⟩ := q1.first
    exact ⟨u, List.mem_map.mpr ⟨(bpos r i d, u), List.mem_filter.mpr ⟨(T.has _ _).mpr ⟨⟨d, by omega, rfl⟩, hf⟩, (touch_hit h hi hd hk).mpr hh⟩, rfl⟩, by omega⟩
theorem TickI.none {xs : List (Int × Int)} (h : Inc xs) {r : Bool} {i k : Nat} {fs : List (Nat × Nat)} (hi : i < xs.length) (T : TickI xs r i k fs) (hk : k < bmax r i xs.length) (e : nearT xs fs (bpos r i (k + 1)) = []) : TickI xs r i (k + 1) fs := by
  refine ⟨T.nd, fun j u => (T.has j u).trans ?_, by have := T.len; omega⟩
  constructor
  · rintro ⟨⟨d, hd, rfl⟩, hf⟩
    exact ⟨⟨d, by omega, rfl⟩, hf⟩
  · rintro ⟨⟨d, hd, rfl⟩, hf⟩
    refine ⟨⟨d, ?_, rfl⟩, hf⟩
    by_cases q : d = k + 1
    · subst q
      obtain ⟨u', h1, _⟩ := near_full h hi T hk u hf.1
      rw [e] at h1
      cases h1
    · omega
theorem TickI.some {xs : List (Int × Int)} (h : Inc xs) {r : Bool} {i k m : Nat} {fs : List (Nat × Nat)} (hi : i < xs.length) (T : TickI xs r i k fs) (hk : k < bmax r i xs.length) (hm : m ∈ nearT xs fs (bpos r i (k + 1))) (hl : ∀ y ∈ nearT xs fs (bpos r i (k + 1)), m ≤ y) :
    (bpos r i (k + 1) ∉ fs.map (·.1)) ∧ TickI xs r i (k + 1) (fs ++ [(bpos r i (k + 1), m + 1)]) := by
  have new : bpos r i (k + 1) ∉ fs.map (·.1) := fun z => by
    obtain ⟨⟨j, u⟩, hj, e⟩ := List.mem_map.mp z
    obtain ⟨⟨d, hd, e2⟩, _⟩ := (T.has j u).mp hj
    have e : j = bpos r i (k + 1) := e
    have := bpos_inj (r := r) (i := i) (n := xs.length) (d := d) (e := k + 1) (by omega) hk (e2.symm.trans e)
    omega
  have hf : Fst xs (List.range xs.length) r i (m + 1) (bpos r i (k + 1)) := ⟨near_sound h hi T hk hm, fun v hv q => by
    obtain ⟨u, h1, h2⟩ := near_full h hi T hk v q
    have := hl u h1
    omega⟩
  refine ⟨new, ?_, fun j u => ?_, by have := T.len; simp; omega⟩
  · rw [List.map_append, List.nodup_append]
    refine ⟨T.nd, by simp, fun a ha b hb e => ?_⟩
    simp at hb
    subst e hb
    exact new ha
  · rw [List.mem_append, T.has, List.mem_singleton, Prod.mk.injEq]
    constructor
    · rintro (⟨⟨d, hd, rfl⟩, q⟩ | ⟨rfl, rfl⟩)
      · exact ⟨⟨d, by omega, rfl⟩, q⟩
      · exact ⟨⟨k + 1, Nat.le_refl _, rfl⟩, hf⟩
    · rintro ⟨⟨d, hd, rfl⟩, q⟩
      by_cases e : d = k + 1
      · subst e
        exact .inr ⟨rfl, q.eq hf⟩
      · exact .inl ⟨⟨d, by omega, rfl⟩, q⟩
theorem TickI.all {xs : List (Int × Int)} (h : Inc xs) {r : Bool} {i : Nat} {fs : List (Nat × Nat)} (hi : i < xs.length) (T : TickI xs r i (bmax r i xs.length) fs) (j u : Nat) : (j, u) ∈ fs ↔ Fst xs (List.range xs.length) r i u j := by
  rw [T.has]
  exact ⟨fun q => q.2, fun q => ⟨rb_pos h hi q.1, q⟩⟩
/-- the ticks of a push, by the stones' numbers -/
structure Ticks (xs : List (Int × Int)) (r : Bool) (i : Nat) (gs : List (Nat × Nat)) : Prop where
  up : gs.Pairwise fun a b => a.1 < b.1
  has : ∀ j u, (j, u) ∈ gs ↔ Fst xs (List.range xs.length) r i u j
  len : gs.length ≤ xs.length
theorem key_one {fs : List (Nat × Nat)} (nd : (fs.map (·.1)).Nodup) {j u v : Nat} (h1 : (j, u) ∈ fs) (h2 : (j, v) ∈ fs) : u = v := by
  induction fs with
  | nil => cases h1
  | cons p fs ih =>
    rw [List.map_cons, List.nodup_cons] at nd
    rcases List.mem_cons.mp h1 with e1 | g1
    · rcases List.mem_cons.mp h2 with e2 | g2
      · exact congrArg Prod.snd (e1.trans e2.symm)
      · rw [← e1] at nd
        exact absurd (show j ∈ fs.map (·.1) from List.mem_map.mpr ⟨(j, v), g2, rfl⟩) nd.1
    · rcases List.mem_cons.mp h2 with e2 | g2
      · rw [← e2] at nd
        exact absurd (show j ∈ fs.map (·.1) from List.mem_map.mpr ⟨(j, u), g1, rfl⟩) nd.1
      · exact ih nd.2 g1 g2
/-! ### comprehensions that filter and map -/
theorem paired_snoc {α β : Type} {F : α → β → Prop} : ∀ {xs : List α} {ys : List β} {x : α} {y : β}, Paired F xs ys → F x y → Paired F (xs ++ [x]) (ys ++ [y])
  | _, _, _, _, .nil, h => .cons h .nil
  | _, _, _, _, .cons a t, h => .cons a (paired_snoc t h)
theorem paired_imp {α β : Type} {F G : α → β → Prop} (i : ∀ x y, F x y → G x y) : ∀ {xs : List α} {ys : List β}, Paired F xs ys → Paired G xs ys
  | _, _, .nil => .nil
  | _, _, .cons a t => .cons (i _ _ a) (paired_imp i t)
theorem paired_at {α β : Type} {F : α → β → Prop} : ∀ {xs : List α} {ys : List β} {i : Nat} {y : β}, Paired F xs ys → ys[i]? = some y → ∃ x, xs[i]? = some x ∧ F x y
  | _, _, _, _, .nil, h => by simp at h
  | _, _, 0, _, .cons a _, h => by simp at h; subst h; exact ⟨_, rfl, a⟩
  | _, _, i + 1, _, .cons _ t, h => by
    obtain ⟨x, h1, h2⟩ := paired_at (i := i) t (by simpa using h)
    exact ⟨x, by simpa using h1, h2⟩
theorem paired_len {α β : Type} {F : α → β → Prop} : ∀ {xs : List α} {ys : List β}, Paired F xs ys → xs.length = ys.length
  | _, _, .nil => rfl
  | _, _, .cons _ t => congrArg (· + 1) (paired_len t)
theorem paired_eq {α β : Type} (f : β → α) : ∀ {xs : List α} {ys : List β}, Paired (fun x y => x = f y) xs ys → xs = ys.map f
  | _, _, .nil => rfl
  | _, _, .cons a t => by rw [List.map_cons, ← paired_eq f t, a]
theorem lc_fm {J : It} {n : Nat} {Gd : Hp → Prop} {Y : Nat → Hp → V → Hp → Prop} (w : Walk J n Gd Y) {g : TG} {tt : TT} {te : TE} {vs : List Nat} {σ : L2.St} {H1 : Hp} {D : Addr} {Qd : Hp → Prop} {α β : Type} (as : List α) (p : α → Bool) (f : α → β) (Rel : Hp → V → β → Prop)
    (hn : as.length = n) (hz : n < 1000000) (nD : H1 D = none) (stab : ∀ H H' v b acc, H D = some (.lst acc) → But D H H' → Rel H v b → Rel H' v b) (hG : ∀ G, Same H1 G → Gd G)
    (step : ∀ (i : Nat) (a : α) (x : V) (G G' : Hp) (N : Hp → Prop) (M : V → Hp → Prop), as[i]? = some a → Same H1 G → G D ≠ none → Y i G x G' → (∀ H3, p a = false → Same G H3 → N H3) → (∀ y H4, p a = true → Same G H4 → Rel H4 y (f a) → M y H4) →
      g x (wipe σ vs) G' fun σ2 H2 => wipe σ2 vs = wipe σ vs ∧ tt σ2 H2 fun b H3 => if b = true then te σ2 H3 M else N H3)
    (hd : ∀ G ys, Same H1 G → G D = some (.lst ys) → Paired (Rel G) ys ((as.filter p).map f) → Qd G) :
    ∃ W : Nat → Nat → Hp → Prop, (∃ m, W 0 m (upd H1 D (.lst []))) ∧ ∀ i m H, W i m H →
      (J.stop i H ∧ Qd H) ∨ (J.go i H ∧ ∃ Nx : Hp → Prop, (∀ H', Nx H' → ∃ m', m' < m ∧ W (i + 1) m' H') ∧ ∀ x H', J.yld i H x H' → g x (wipe σ vs) H' fun σ2 H2 => wipe σ2 vs = wipe σ vs ∧ tt σ2 H2 fun b H3 =>
        if b = true then te σ2 H3 fun y H4 => ∃ acc, H4 D = some (.lst acc) ∧ acc.length < sizeLine ∧ Nx (upd H4 D (.lst (acc ++ [y]))) else Nx H3) := by
  refine lc_it w (fun i G => But D H1 G ∧ ∃ ys, G D = some (.lst ys) ∧ ys.length ≤ i ∧ Paired (Rel G) ys (((as.take i).filter p).map f)) ⟨but_upd, [], upd_same, Nat.le_refl _, .nil⟩ (fun i G _ h => hG G (But.same h.1 nD)) (fun i x G G' hi h y => ?_) fun G h => ?_
  · obtain ⟨b, ys, e, hl, rel⟩ := h
    obtain ⟨a, ha⟩ : ∃ a, as[i]? = some a := ⟨as[i]'(by omega), by simp⟩
    refine step i a x G G' _ _ ha (But.same b nD) (by rw [e]; exact fun z => nomatch z) y (fun H3 hp s => ?_) fun y H4 hp s r => ?_
    · have e3 := s _ _ e
      refine ⟨b.trans (Same.but s D), ys, e3, by omega, ?_⟩
      rw [List.take_add_one, ha, List.filter_append, List.map_append, show (some a).toList = [a] from rfl, List.filter_cons, hp]
      simp only [Bool.false_eq_true, if_false, List.filter_nil, List.map_nil, List.append_nil]
      exact paired_imp (fun v c => stab G H3 v c ys e (Same.but s D)) rel
    · have e4 := s _ _ e
      refine ⟨ys, e4, by rw [sizeLine_eq]; omega, (b.trans (Same.but s D)).trans but_upd, ys ++ [y], upd_same, by rw [List.length_append]; show ys.length + 1 ≤ i + 1; omega, ?_⟩
      rw [List.take_add_one, ha, List.filter_append, List.map_append, show (some a).toList = [a] from rfl, List.filter_cons, hp]
      simp only [if_true, List.filter_nil, List.map_cons, List.map_nil]
      exact paired_snoc (paired_imp (fun v c q => stab H4 _ v c ys e4 but_upd (stab G H4 v c ys e (Same.but s D) q)) rel) (stab H4 _ y (f a) ys e4 but_upd r)
  · obtain ⟨b, ys, e, _, rel⟩ := h
    rw [← hn, List.take_length] at rel
    exact hd G ys (But.same b nD) e rel
/-! pairs of numbers, as tuples in a list -/
def PairV (K : PySem.W.Frag) (H : Hp) (v : V) (p : Nat × Nat) : Prop := ∃ a : Addr, v = .ref a ∧ SqT K H a [.int (p.1 : Nat), .int (p.2 : Nat)]
def PairsAt (K : PySem.W.Frag) (H : Hp) (vs : List V) (ps : List (Nat × Nat)) : Prop := Paired (PairV K H) vs ps
theorem PairV.same {K : PySem.W.Frag} {H H' : Hp} {v : V} {p : Nat × Nat} (e : Same H H') (h : PairV K H v p) : PairV K H' v p := let ⟨a, h1, h2⟩ := h; ⟨a, h1, sqT_same h2 e⟩
theorem PairV.but {K : PySem.W.Frag} {H H' : Hp} {v : V} {p : Nat × Nat} {D : Addr} {acc : List V} (hD : H D = some (.lst acc)) (b : But D H H') (h : PairV K H v p) : PairV K H' v p := let ⟨a, h1, h2⟩ := h; ⟨a, h1, sqT_but h2 hD b⟩
theorem PairsAt.same {K : PySem.W.Frag} {H H' : Hp} {vs : List V} {ps : List (Nat × Nat)} (h : PairsAt K H vs ps) (e : Same H H') : PairsAt K H' vs ps := paired_imp (fun _ _ q => q.same e) h
def prD (p : Nat × Nat) : PyData := .tuple [.int (p.1 : Nat), .int (p.2 : Nat)]
theorem prD_dp {K : PySem.W.Frag} {H : Hp} {v : V} {p : Nat × Nat} (h : PairV K H v p) : Dp K H v (prD p) := by
  obtain ⟨a, rfl, h⟩ := h
  exact .tup h (.cons (.int _) (.cons (.int _) .nil))
theorem prD_shaped (p : Nat × Nat) : SeqAt.shaped (prD p) = true := by simp [prD, SeqAt.shaped, PyData.canLay0, PyData.canLayAll0, PyData.depth, PyData.depthAll]
theorem prD_eqv (p o : Nat × Nat) : PyData.eqv (prD p) (prD o) = decide (p = o) := by
  obtain ⟨a, b⟩ := p
  obtain ⟨c, d⟩ := o
  show ((a : Int) == (c : Int) && ((b : Int) == (d : Int) && true)) = decide ((a, b) = (c, d))
  rw [Bool.and_true]
  by_cases h1 : a = c
  · by_cases h2 : b = d
    · subst h1 h2
      simp
    · have : ¬ (b : Int) = (d : Int) := by omega
      simp [h1, h2, this]
  · have : ¬ (a : Int) = (c : Int) := by omega
    simp [h1, this]
theorem pairs_all {K : PySem.W.Frag} {H : Hp} : ∀ {vs : List V} {ps : List (Nat × Nat)}, PairsAt K H vs ps → DpAll K H vs (ps.map prD)
  | _, _, .nil => .nil
  | _, _, .cons h t => .cons (prD_dp h) (pairs_all t)
/-! ### what fell, sorted -/
theorem run_keys {xs : List (Int × Int)} (hx : Inc xs) {r : Bool} {i j : Nat} (hi : i < xs.length) : Reach xs (List.range xs.length) r i j ↔ (run xs i r).1 ≤ j ∧ j ≤ (run xs i r).2 := by
  cases r with
  | true =>
    have R := runR hx hi
    constructor
    · intro h
      exact ⟨right_ge hx h, in_right hx R h⟩
    · rintro ⟨h1, h2⟩
      exact all_right hx R (Nat.le_refl _) (fun j _ h => List.mem_range.mpr (Nat.lt_of_le_of_lt h R.lt)) j h1 h2
  | false =>
    have R := runL hx hi
    constructor
    · intro h
      exact ⟨in_left hx R R.le (Nat.le_refl _) h, left_le hx h⟩
    · rintro ⟨h1, h2⟩
      exact all_left hx R (fun j _ h => List.mem_range.mpr (Nat.lt_trans h hi)) _ j h1 h2 rfl
theorem run_bounds {xs : List (Int × Int)} (hx : Inc xs) {r : Bool} {i : Nat} (hi : i < xs.length) : (run xs i r).1 ≤ i ∧ i ≤ (run xs i r).2 ∧ (run xs i r).2 < xs.length := by
  cases r with
  | true => have R := runR hx hi; exact ⟨Nat.le_refl _, R.le, R.lt⟩
  | false => have R := runL hx hi; exact ⟨R.le, Nat.le_refl _, hi⟩
section
variable {xs : List (Int × Int)} {r : Bool} {i : Nat} {fs : List (Nat × Nat)}
theorem due_mem (hx : Inc xs) (hi : i < xs.length) (has : ∀ j u, (j, u) ∈ fs ↔ Fst xs (List.range xs.length) r i u j) {j : Nat} : j ∈ fs.map (·.1) ↔ (run xs i r).1 ≤ j ∧ j ≤ (run xs i r).2 := by
  rw [← run_keys hx hi, Reach.fst]
  constructor
  · intro h
    obtain ⟨⟨j', u⟩, h1, rfl⟩ := List.mem_map.mp h
    exact ⟨u, (has _ _).mp h1⟩
  · rintro ⟨u, hu⟩
    exact List.mem_map.mpr ⟨(j, u), (has j u).mpr hu, rfl⟩
theorem due_memI (hx : Inc xs) (hi : i < xs.length) (has : ∀ j u, (j, u) ∈ fs ↔ Fst xs (List.range xs.length) r i u j) {m : Int} : m ∈ fs.map (fun p => (p.1 : Int)) ↔ ((run xs i r).1 : Int) ≤ m ∧ m ≤ ((run xs i r).2 : Int) := by
  constructor
  · intro h
    obtain ⟨⟨j, u⟩, h1, rfl⟩ := List.mem_map.mp h
    have := (due_mem hx hi has).mp (List.mem_map.mpr ⟨(j, u), h1, rfl⟩)
    have this : (run xs i r).1 ≤ j ∧ j ≤ (run xs i r).2 := this
    show ((run xs i r).1 : Int) ≤ (j : Int) ∧ (j : Int) ≤ ((run xs i r).2 : Int)
    omega
  · intro h
    have h2 : m.toNat ∈ fs.map (·.1) := (due_mem hx hi has).mpr (by omega)
    obtain ⟨⟨j, u⟩, h3, e⟩ := List.mem_map.mp h2
    have e : j = m.toNat := e
    exact List.mem_map.mpr ⟨(j, u), h3, show (j : Int) = m by omega⟩
theorem due_min (hx : Inc xs) (hi : i < xs.length) (has : ∀ j u, (j, u) ∈ fs ↔ Fst xs (List.range xs.length) r i u j) {m : Int} (hm : m ∈ fs.map fun p => (p.1 : Int)) (hl : ∀ y ∈ fs.map (fun p => (p.1 : Int)), m ≤ y) : m = ((run xs i r).1 : Int) := by
  have h1 := (due_memI hx hi has).mp hm
  have b := run_bounds hx (r := r) hi
  have h2 := hl _ ((due_memI hx hi has).mpr ⟨Int.le_refl _, by omega⟩)
  omega
theorem due_max (hx : Inc xs) (hi : i < xs.length) (has : ∀ j u, (j, u) ∈ fs ↔ Fst xs (List.range xs.length) r i u j) {m : Int} (hm : m ∈ fs.map fun p => (p.1 : Int)) (hl : ∀ y ∈ fs.map (fun p => (p.1 : Int)), y ≤ m) : m = ((run xs i r).2 : Int) := by
  have h1 := (due_memI hx hi has).mp hm
  have b := run_bounds hx (r := r) hi
  have h2 := hl _ ((due_memI hx hi has).mpr ⟨by omega, Int.le_refl _⟩)
  omega
theorem rise_mem {a c : Nat} {m : Int} : m ∈ rise a c ↔ (a : Int) ≤ m ∧ m ≤ ((a + c : Nat) : Int) := by
  unfold rise
  rw [List.mem_map]
  constructor
  · rintro ⟨k, hk, rfl⟩
    have := List.mem_range.mp hk
    omega
  · intro h
    exact ⟨(m - a).toNat, List.mem_range.mpr (by omega), by omega⟩
theorem rise_nodup (a c : Nat) : (rise a c).Nodup := by
  unfold rise
  refine List.Pairwise.map _ (fun x y h => ?_) (List.pairwise_lt_range (n := c + 1))
  have h : x < y := h
  show ((a + x : Nat) : Int) ≠ ((a + y : Nat) : Int)
  omega
theorem nodup_int {fs : List (Nat × Nat)} (nd : (fs.map (·.1)).Nodup) : (fs.map fun p => (p.1 : Int)).Nodup := by
  have e : (fs.map fun p => (p.1 : Int)) = (fs.map (·.1)).map fun (k : Nat) => (k : Int) := by rw [List.map_map]; rfl
  rw [e]
  refine List.Pairwise.map _ (fun x y h => ?_) nd
  have h : x ≠ y := h
  show (x : Int) ≠ (y : Int)
  omega
theorem due_sorted (hx : Inc xs) (hi : i < xs.length) (nd : (fs.map (·.1)).Nodup) (has : ∀ j u, (j, u) ∈ fs ↔ Fst xs (List.range xs.length) r i u j) {ys : List Int} (p : ys.Perm (fs.map fun p => (p.1 : Int))) (s : ys.Pairwise (· ≤ ·)) :
    ys = rise (run xs i r).1 ((run xs i r).2 - (run xs i r).1) := by
  have b := run_bounds hx (r := r) hi
  have q : (fs.map fun p => (p.1 : Int)).Perm (rise (run xs i r).1 ((run xs i r).2 - (run xs i r).1)) := (List.perm_ext_iff_of_nodup (nodup_int nd) (rise_nodup _ _)).mpr fun m => by
    rw [due_memI hx hi has, rise_mem]
    omega
  exact (p.trans q).eq_of_pairwise (fun x y _ _ h1 h2 => Int.le_antisymm h1 h2) s (rise_le _ _)
end
theorem rgV_rise {f e : Nat} (h : f ≤ e) : rgV (f : Int) ((e : Int) + 1) = (rise f (e - f)).map V.int := by
  unfold rgV rise
  rw [List.map_map]
  have : ((e : Int) + 1 - (f : Int)).toNat = e - f + 1 := by omega
  rw [this]
  exact List.map_congr_left fun k _ => congrArg V.int (show (f : Int) + (k : Int) = ((f + k : Nat) : Int) by omega)
theorem rgV_nat (n : Nat) : rgV 0 (n : Int) = ivs (List.range n) := by
  unfold rgV ivs
  have e : ((n : Int) - 0).toNat = n := by omega
  rw [e]
  exact List.map_congr_left fun k _ => congrArg V.int (by omega)
theorem sideS_inj {r r' : Bool} (h : V.str (sideS r) = V.str (sideS r')) : r = r' := by
  cases r <;> cases r' <;> first | rfl | (exact absurd h (by decide +kernel))
theorem int_inj {i j : Nat} (h : V.int (i : Int) = V.int (j : Int)) : i = j := by injection h with h; omega
theorem numB_idx {i n : Nat} (h : i < n) : numB (.int (i : Int)) 0 ((n : Int) - 1) = true := by
  show (decide (0 ≤ (i : Int)) && decide ((i : Int) ≤ (n : Int) - 1)) = true
  rw [decide_eq_true (by omega), decide_eq_true (by omega)]
  rfl
/-! data of ints, and of pairs -/
def intsD (ns : List Int) : PyData := .list (ns.map PyData.int)
theorem intsD_all {K : PySem.W.Frag} {H : Hp} : ∀ ns : List Int, DpAll K H (ns.map V.int) (ns.map PyData.int)
  | [] => .nil
  | n :: ns => .cons (.int n) (intsD_all ns)
theorem layI : ∀ ns : List Int, PyData.canLayAll0 (ns.map PyData.int) = true
  | [] => by simp [PyData.canLayAll0]
  | n :: ns => by simp [PyData.canLayAll0, PyData.canLay0, layI ns]
theorem deepI : ∀ ns : List Int, PyData.depthAll (ns.map PyData.int) ≤ 1
  | [] => by simp [PyData.depthAll]
  | n :: ns => by
    have := deepI ns
    simp only [List.map_cons, PyData.depthAll, PyData.depth]
    omega
theorem intsD_shaped (ns : List Int) : SeqAt.shaped (intsD ns) = true := by
  show (PyData.canLay0 (intsD ns) && decide (PyData.depth (intsD ns) ≤ 64)) = true
  rw [Bool.and_eq_true]
  have := deepI ns
  refine ⟨by unfold intsD; simp only [PyData.canLay0]; exact layI ns, decide_eq_true ?_⟩
  unfold intsD
  simp only [PyData.depth]
  omega
theorem intsD_eqv (ns : List Int) : PyData.eqv (intsD ns) (intsD ns) = true := SeqAt.eqv_refl _ (SeqAt.canLay_of_shaped (intsD_shaped ns))
def toI (p : Nat × Nat) : Int × Int := ((p.1 : Int), (p.2 : Int))
theorem kvs_entI (fs : List (Nat × Nat)) : kvs fs = (fs.map toI).map DictI.entI := by
  unfold kvs
  rw [List.map_map]
  rfl
theorem pairs_sorted {gs fs : List (Nat × Nat)} (gup : gs.Pairwise fun a b => a.1 < b.1) (fnd : (fs.map (·.1)).Nodup) (same : ∀ q, q ∈ gs ↔ q ∈ fs) {ys : List (Int × Int)} (p : ys.Perm (fs.map toI)) (s : ys.Pairwise fun x y => SrtO.lexB y x = false) : ys = gs.map toI := by
  have ng : gs.Nodup := gup.imp fun {a b} h e => by rw [e] at h; exact Nat.lt_irrefl _ h
  have nf : fs.Nodup := by
    have := List.pairwise_map.mp fnd
    exact this.imp fun {a b} h e => h (by rw [e])
  have pg : fs.Perm gs := (List.perm_ext_iff_of_nodup nf ng).mpr fun q => (same q).symm
  have p2 : ys.Perm (gs.map toI) := p.trans (pg.map toI)
  refine p2.eq_of_pairwise (fun x y _ _ h1 h2 => ?_) s ?_
  · have a := SrtO.lexB_no.mp h1
    have b := SrtO.lexB_no.mp h2
    refine Prod.ext ?_ ?_ <;> omega
  · refine List.pairwise_map.mpr (gup.imp fun {a b} h => SrtO.lexB_no.mpr ?_)
    show ¬ ((b.1 : Int) < (a.1 : Int) ∨ ((b.1 : Int) = (a.1 : Int) ∧ (b.2 : Int) < (a.2 : Int)))
    have h : a.1 < b.1 := h
    omega
theorem pairs_dp {K : PySem.W.Frag} {H : Hp} : ∀ {ts : List Addr} {qs : List (Int × Int)}, Paired (fun (t : Addr) (q : Int × Int) => H t = some (.tup [.int q.1, .int q.2])) ts qs → DpAll K H (ts.map V.ref) (qs.map stD)
  | _, _, .nil => .nil
  | _, _, .cons h t => .cons (.tup (SqT.of h) (.cons (.int _) (.cons (.int _) .nil))) (pairs_dp t)
theorem items_dp {K : PySem.W.Frag} {H : Hp} : ∀ {ts : List Addr} {gs : List (Nat × Nat)}, Paired (fun (t : Addr) (q : Key × V) => H t = some (.tup [kV q.1, q.2])) ts (kvs gs) → DpAll K H (ts.map V.ref) ((gs.map toI).map stD)
  | [], [], _ => .nil
  | [], _ :: _, h => nomatch h
  | _ :: _, [], h => nomatch h
  | t :: ts, g :: gs, .cons h r => .cons (.tup (SqT.of h) (.cons (.int _) (.cons (.int _) .nil))) (items_dp r)
/-! ### which stones fall when some are taken away -/
def dsb (xs : List (Int × Int)) (r : Bool) (i d : Nat) : Int := ab (pl xs (bpos r i d) - pl xs i)
theorem dsb_up {xs : List (Int × Int)} (h : Inc xs) {r : Bool} {i d e : Nat} (hi : i < xs.length) (hd : d < e) (he : e ≤ bmax r i xs.length) : dsb xs r i d < dsb xs r i e := by
  unfold dsb
  cases r with
  | true =>
    have he : e ≤ xs.length - (i + 1) := he
    show ab (pl xs (i + d) - pl xs i) < ab (pl xs (i + e) - pl xs i)
    have h1 := h.pl (a := i + d) (b := i + e) (by omega) (by omega)
    have h2 : pl xs i ≤ pl xs (i + d) := by
      rcases Nat.eq_zero_or_pos d with rfl | hp
      · exact Int.le_refl _
      · have := h.pl (a := i) (b := i + d) (by omega) (by omega); omega
    unfold ab
    split <;> split <;> omega
  | false =>
    have he : e ≤ i := he
    show ab (pl xs (i - d) - pl xs i) < ab (pl xs (i - e) - pl xs i)
    have h1 := h.pl (a := i - e) (b := i - d) (by omega) (by omega)
    have h2 : pl xs (i - d) ≤ pl xs i := by
      rcases Nat.eq_zero_or_pos d with rfl | hp
      · exact Int.le_refl _
      · have := h.pl (a := i - d) (b := i) (by omega) (by omega); omega
    unfold ab
    split <;> split <;> omega
theorem hit_dist {xs : List (Int × Int)} (h : Inc xs) {r : Bool} {i d e : Nat} (hi : i < xs.length) (hd : d < e) (he : e ≤ bmax r i xs.length) : Hit xs r (bpos r i d) (bpos r i e) ↔ dsb xs r i e ≤ dsb xs r i d + ht xs (bpos r i d) := by
  rw [← touch_hit h hi hd he]
  unfold touch
  rw [decide_eq_true_eq]
  have key : ab (pl xs (bpos r i e) - pl xs (bpos r i d)) = dsb xs r i e - dsb xs r i d := by
    unfold dsb
    cases r with
    | true =>
      have he : e ≤ xs.length - (i + 1) := he
      show ab (pl xs (i + e) - pl xs (i + d)) = ab (pl xs (i + e) - pl xs i) - ab (pl xs (i + d) - pl xs i)
      have h1 := h.pl (a := i + d) (b := i + e) (by omega) (by omega)
      have h2 : pl xs i ≤ pl xs (i + d) := by
        rcases Nat.eq_zero_or_pos d with rfl | hp
        · exact Int.le_refl _
        · have := h.pl (a := i) (b := i + d) (by omega) (by omega); omega
      unfold ab
      split <;> split <;> split <;> omega
    | false =>
      have he : e ≤ i := he
      show ab (pl xs (i - e) - pl xs (i - d)) = ab (pl xs (i - e) - pl xs i) - ab (pl xs (i - d) - pl xs i)
      have h1 := h.pl (a := i - e) (b := i - d) (by omega) (by omega)
      have h2 : pl xs (i - d) ≤ pl xs i := by
        rcases Nat.eq_zero_or_pos d with rfl | hp
        · exact Int.le_refl _
        · have := h.pl (a := i - d) (b := i) (by omega) (by omega); omega
      unfold ab
      split <;> split <;> split <;> omega
  rw [key]
  omega
theorem hit_pos {xs : List (Int × Int)} {r : Bool} {i d j : Nat} (hi : i < xs.length) (hd : d ≤ bmax r i xs.length) (q : Hit xs r (bpos r i d) j) : ∃ e, d < e ∧ e ≤ bmax r i xs.length ∧ j = bpos r i e := by
  cases r with
  | true =>
    have h1 : i + d < j := (q.2.2.1 rfl).1
    exact ⟨j - i, by omega, by have := q.2.1; show j - i ≤ xs.length - (i + 1); omega, by show j = i + (j - i); omega⟩
  | false =>
    have h1 : j < i - d := (q.2.2.2 rfl).1
    exact ⟨i - j, by omega, by show i - j ≤ i; omega, by show j = i - (i - j); omega⟩
theorem bpos_zero (r : Bool) (i : Nat) : bpos r i 0 = i := by cases r <;> rfl
theorem reach_pos {xs : List (Int × Int)} (h : Inc xs) {S : List Nat} {r : Bool} {i j : Nat} (hi : i < xs.length) (q : Reach xs S r i j) : ∃ d, d ≤ bmax r i xs.length ∧ j = bpos r i d ∧ (d = 0 ∨ j ∈ S) := by
  refine Reach.ind h (P := fun j => ∃ d, d ≤ bmax r i xs.length ∧ j = bpos r i d ∧ (d = 0 ∨ j ∈ S)) ⟨0, Nat.zero_le _, (bpos_zero r i).symm, .inl rfl⟩ (fun m j _ hm hj hh => ?_) q
  obtain ⟨d, hd, rfl, _⟩ := hm
  obtain ⟨e, _, he, rfl⟩ := hit_pos hi hd hh
  exact ⟨e, he, rfl, .inr hj⟩
theorem scan_sub (xs : List (Int × Int)) (sd : List Bool) (p0 : Int) : ∀ (os : List Nat) (R : Int) (o : Nat), o ∈ scan xs sd p0 R os → o ∈ os
  | [], R, o => by simp [scan]
  | q :: os, R, o => by
    unfold scan
    split
    · intro z; cases z
    · split
      · intro z; cases z
      · split
        · intro z
          rcases List.mem_cons.mp z with rfl | z
          · exact List.mem_cons_self
          · exact List.mem_cons_of_mem _ (scan_sub xs sd p0 os _ o z)
        · exact fun z => List.mem_cons_of_mem _ (scan_sub xs sd p0 os _ o z)
theorem beside_drop {r : Bool} {i n k : Nat} (h : k < bmax r i n) : (beside r i n).drop k = bpos r i (k + 1) :: (beside r i n).drop (k + 1) := drop_get (beside_at h)
theorem mem_drop {r : Bool} {i n k o : Nat} (h : o ∈ (beside r i n).drop k) : ∃ e, k < e ∧ e ≤ bmax r i n ∧ o = bpos r i e := by
  obtain ⟨a, ha⟩ := List.mem_iff_getElem?.mp h
  rw [List.getElem?_drop] at ha
  have hl : k + a < bmax r i n := by
    have := (List.getElem?_eq_some_iff.mp ha).1
    rwa [beside_length] at this
  rw [beside_at hl] at ha
  exact ⟨k + a + 1, by omega, by omega, (Option.some.inj ha).symm⟩
theorem scan_mem {xs : List (Int × Int)} (h : Inc xs) {sd : List Bool} {S : List Nat} {r : Bool} {i : Nat} (hi : i < xs.length) (hS : ∀ o, o < xs.length → (sd[o]? = some true ↔ o ∈ S)) :
    ∀ (f k : Nat) (R : Int), k + f = bmax r i xs.length → (∃ d, d ≤ k ∧ Reach xs S r i (bpos r i d) ∧ dsb xs r i d + ht xs (bpos r i d) = R) → (∀ d, d ≤ k → Reach xs S r i (bpos r i d) → dsb xs r i d + ht xs (bpos r i d) ≤ R) →
      ∀ e, k < e → e ≤ bmax r i xs.length → (bpos r i e ∈ scan xs sd (pl xs i) R ((beside r i xs.length).drop k) ↔ Reach xs S r i (bpos r i e)) := by
  intro f
  induction f with
  | zero => intro k R hk _ _ e h1 h2; omega
  | succ f ih =>
    intro k R hk A B e h1 h2
    have hk1 : k < bmax r i xs.length := by omega
    rw [beside_drop hk1]
    have holt : bpos r i (k + 1) < xs.length := bpos_lt hi (by omega)
    obtain ⟨x, hx⟩ : ∃ x, xs[bpos r i (k + 1)]? = some x := ⟨xs[bpos r i (k + 1)], by simp [holt]⟩
    obtain ⟨ep, eh⟩ := pl_of hx
    have eD : ab (x.1 - pl xs i) = dsb xs r i (k + 1) := by unfold dsb; rw [ep]
    unfold scan
    rw [hx]
    simp only
    rw [eD, ← eh]
    by_cases c1 : dsb xs r i (k + 1) > R
    · rw [if_pos c1]
      refine ⟨fun z => (by cases z), fun q => ?_⟩
      have key : ∃ d, d ≤ k ∧ bpos r i e = bpos r i d := by
        refine Reach.ind h (P := fun j => ∃ d, d ≤ k ∧ j = bpos r i d) ⟨0, Nat.zero_le _, (bpos_zero r i).symm⟩ (fun m j hm hp hj hh => ?_) q
        obtain ⟨d, hd, rfl⟩ := hp
        obtain ⟨e', hde, he', rfl⟩ := hit_pos hi (by omega) hh
        by_cases c : e' ≤ k
        · exact ⟨e', c, rfl⟩
        · have b1 := B d hd hm
          have b2 := (hit_dist h hi hde he').mp hh
          have b3 : dsb xs r i (k + 1) ≤ dsb xs r i e' := by
            rcases Nat.lt_or_ge (k + 1) e' with c' | c'
            · exact Int.le_of_lt (dsb_up h hi c' he')
            · have : e' = k + 1 := by omega
              rw [this]; exact Int.le_refl _
          omega
      obtain ⟨d, hd, q2⟩ := key
      have := bpos_inj h2 (by omega) q2
      omega
    · rw [if_neg c1]
      obtain ⟨d0, hd0, q0, e0⟩ := A
      have hit0 : Hit xs r (bpos r i d0) (bpos r i (k + 1)) := (hit_dist h hi (by omega) (by omega)).mpr (by omega)
      by_cases c2 : sd[bpos r i (k + 1)]? = some true
      · rw [if_pos c2]
        have q1 : Reach xs S r i (bpos r i (k + 1)) := q0.step h ((hS _ holt).mp c2) hit0
        rw [List.mem_cons]
        have IH := ih (k + 1) (mx R (dsb xs r i (k + 1) + ht xs (bpos r i (k + 1)))) (by omega) (by
            by_cases c : dsb xs r i (k + 1) + ht xs (bpos r i (k + 1)) > R
            · exact ⟨k + 1, Nat.le_refl _, q1, by unfold mx; rw [if_pos c]⟩
            · exact ⟨d0, by omega, q0, by unfold mx; rw [if_neg c]; exact e0⟩) (fun d hd qd => by
            by_cases c : d ≤ k
            · have := B d c qd
              unfold mx; split <;> omega
            · have : d = k + 1 := by omega
              subst this
              unfold mx; split <;> omega)
        rcases Nat.lt_or_ge (k + 1) e with c | c
        · rw [← IH e c h2]
          refine ⟨fun z => z.resolve_left fun q => ?_, .inr⟩
          have := bpos_inj h2 (by omega) q
          omega
        · have : e = k + 1 := by omega
          subst this
          exact ⟨fun _ => q1, fun _ => .inl rfl⟩
      · rw [if_neg c2]
        have n1 : ¬ Reach xs S r i (bpos r i (k + 1)) := fun q => by
          obtain ⟨d, hd, e1, z⟩ := reach_pos h hi q
          have := bpos_inj (by omega) hd e1
          rcases z with rfl | z
          · omega
          · exact c2 ((hS _ holt).mpr z)
        have IH := ih (k + 1) R (by omega) ⟨d0, by omega, q0, e0⟩ (fun d hd qd => by
          by_cases c : d ≤ k
          · exact B d c qd
          · have : d = k + 1 := by omega
            subst this
            exact absurd qd n1)
        rcases Nat.lt_or_ge (k + 1) e with c | c
        · exact IH e c h2
        · have : e = k + 1 := by omega
          subst this
          refine ⟨fun z => ?_, fun q => absurd q n1⟩
          obtain ⟨e', h1', h2', e1⟩ := mem_drop (scan_sub _ _ _ _ _ _ z)
          have := bpos_inj h2 h2' e1
          omega
theorem felled_mem {xs : List (Int × Int)} (h : Inc xs) {sd : List Bool} {S : List Nat} {r : Bool} {i j : Nat} (hi : i < xs.length) (hS : ∀ o, o < xs.length → (sd[o]? = some true ↔ o ∈ S)) : j ∈ felled xs sd i r ↔ Reach xs S r i j := by
  obtain ⟨x, hx⟩ : ∃ x, xs[i]? = some x := ⟨xs[i], by simp [hi]⟩
  obtain ⟨ep, eh⟩ := pl_of hx
  have d0 : dsb xs r i 0 = 0 := by unfold dsb; rw [bpos_zero, Int.sub_self]; rfl
  have key := scan_mem h (sd := sd) (S := S) (r := r) hi hS (bmax r i xs.length) 0 (ht xs i) (by omega) ⟨0, Nat.le_refl _, by rw [bpos_zero]; exact Reach.refl, by rw [d0, bpos_zero]; omega⟩ (fun d hd _ => by
    obtain rfl : d = 0 := by omega
    rw [d0, bpos_zero]; omega)
  unfold felled
  rw [hx]
  simp only
  rw [← ep, ← eh, List.mem_cons]
  rw [List.drop_zero] at key
  constructor
  · rintro (rfl | z)
    · exact Reach.refl
    · have zz := scan_sub _ _ _ _ _ _ z
      obtain ⟨e, e1, e2, rfl⟩ := mem_drop (k := 0) (by rw [List.drop_zero]; exact zz)
      exact (key e e1 e2).mp z
  · intro q
    obtain ⟨d, hd, rfl, _⟩ := reach_pos h hi q
    rcases Nat.eq_zero_or_pos d with rfl | hp
    · exact .inl (bpos_zero r i)
    · exact .inr ((key d hp hd).mpr q)
/-! ### the fewest stones to take away -/
def gap (i s : Nat) : Nat := if s < i then i - s else s - i
theorem bpos_gap {r : Bool} {i d n : Nat} (hd : d ≤ bmax r i n) : gap i (bpos r i d) = d := by
  unfold gap
  cases r with
  | true => show (if i + d < i then i - (i + d) else i + d - i) = d; split <;> omega
  | false => have hd : d ≤ i := hd; show (if i - d < i then i - (i - d) else i - d - i) = d; split <;> omega
/-- the stones strictly between -/
def betw (i s : Nat) : List Nat := (List.range (max i s - (min i s + 1))).map fun k => min i s + 1 + k
theorem mem_betw {i s k : Nat} : k ∈ betw i s ↔ min i s < k ∧ k < max i s := by
  unfold betw
  rw [List.mem_map]
  constructor
  · rintro ⟨a, ha, rfl⟩
    have := List.mem_range.mp ha
    omega
  · intro h
    exact ⟨k - (min i s + 1), List.mem_range.mpr (by omega), by omega⟩
theorem betw_sorted (i s : Nat) : (betw i s).Pairwise (· < ·) := by
  unfold betw
  refine List.Pairwise.map _ (fun x y h => ?_) (List.pairwise_lt_range (n := _))
  have h : x < y := h
  show min i s + 1 + x < min i s + 1 + y
  omega
def rbt (xs : List (Int × Int)) (i s : Nat) : List Nat := (betw i s).filter fun k => touch xs k s
theorem rbt_sorted (xs : List (Int × Int)) (i s : Nat) : (rbt xs i s).Pairwise (· < ·) := (betw_sorted i s).filter _
theorem pw_nodup {l : List Nat} (h : l.Pairwise (· < ·)) : l.Nodup := h.imp fun hh e => by subst e; exact Nat.lt_irrefl _ hh
theorem mem_rbt {xs : List (Int × Int)} {i s k : Nat} : k ∈ rbt xs i s ↔ (min i s < k ∧ k < max i s) ∧ touch xs k s = true := by
  unfold rbt
  rw [List.mem_filter, mem_betw]
/-- between the pushed stone and one beside it, told by their distances -/
theorem betw_pos {r : Bool} {i n e k : Nat} (he : e ≤ bmax r i n) : (min i (bpos r i e) < k ∧ k < max i (bpos r i e)) ↔ ∃ d, 0 < d ∧ d < e ∧ k = bpos r i d := by
  cases r with
  | true =>
    show (min i (i + e) < k ∧ k < max i (i + e)) ↔ ∃ d, 0 < d ∧ d < e ∧ k = i + d
    exact ⟨fun h => ⟨k - i, by omega, by omega, by omega⟩, fun ⟨d, h1, h2, h3⟩ => by omega⟩
  | false =>
    have he : e ≤ i := he
    show (min i (i - e) < k ∧ k < max i (i - e)) ↔ ∃ d, 0 < d ∧ d < e ∧ k = i - d
    exact ⟨fun h => ⟨i - k, by omega, by omega, by omega⟩, fun ⟨d, h1, h2, h3⟩ => by omega⟩
/-- one more candidate is looked at -/
def fstep (xs : List (Int × Int)) (i : Nat) (acc : Option (List Nat)) (s : Nat) : Option (List Nat) :=
  if touch xs i s = true then acc else match acc with
    | none => some (rbt xs i s)
    | some t => if (rbt xs i s).length < t.length then some (rbt xs i s) else some t
def few (xs : List (Int × Int)) (i : Nat) (ss : List Nat) : Option (List Nat) := ss.foldl (fstep xs i) none
theorem few_snoc (xs : List (Int × Int)) (i : Nat) (ss : List Nat) (s : Nat) : few xs i (ss ++ [s]) = fstep xs i (few xs i ss) s := by
  unfold few
  rw [List.foldl_append]
  rfl
structure FewOf (xs : List (Int × Int)) (i : Nat) (ss : List Nat) (o : Option (List Nat)) : Prop where
  no : o = none → ∀ s ∈ ss, touch xs i s = true
  yes : ∀ t, o = some t → ∃ s ∈ ss, touch xs i s = false ∧ t = rbt xs i s
  least : ∀ t, o = some t → ∀ s ∈ ss, touch xs i s = false → t.length ≤ (rbt xs i s).length
theorem few_rev {xs : List (Int × Int)} {i : Nat} : ∀ l : List Nat, FewOf xs i l.reverse (few xs i l.reverse)
  | [] => ⟨fun _ s hs => (by cases hs), fun t e => (by cases e), fun t e => (by cases e)⟩
  | a :: l => by
    have ih := few_rev (xs := xs) (i := i) l
    rw [List.reverse_cons, few_snoc]
    generalize few xs i l.reverse = o at ih ⊢
    generalize l.reverse = ss at ih ⊢
    unfold fstep
    by_cases c : touch xs i a = true
    · rw [if_pos c]
      refine ⟨fun e s hs => ?_, fun t e => ?_, fun t e s hs ns => ?_⟩
      · rcases List.mem_append.mp hs with h | h
        · exact ih.no e s h
        · obtain rfl : s = a := by simpa using h
          exact c
      · obtain ⟨s, h1, h2⟩ := ih.yes t e
        exact ⟨s, List.mem_append_left _ h1, h2⟩
      · rcases List.mem_append.mp hs with h | h
        · exact ih.least t e s h ns
        · obtain rfl : s = a := by simpa using h
          rw [c] at ns
          cases ns
    · rw [if_neg c]
      have cf : touch xs i a = false := by simpa using c
      cases o with
      | none =>
        refine ⟨fun e => (by cases e), fun t e => ?_, fun t e s hs ns => ?_⟩
        · cases e
          exact ⟨a, by simp, cf, rfl⟩
        · cases e
          rcases List.mem_append.mp hs with h | h
          · rw [ih.no rfl s h] at ns; cases ns
          · obtain rfl : s = a := by simpa using h
            exact Nat.le_refl _
      | some u =>
        simp only
        split
        · rename_i hlt
          refine ⟨fun e => (by cases e), fun t e => ?_, fun t e s hs ns => ?_⟩
          · cases e
            exact ⟨a, by simp, cf, rfl⟩
          · cases e
            rcases List.mem_append.mp hs with h | h
            · exact Nat.le_trans (Nat.le_of_lt hlt) (ih.least u rfl s h ns)
            · obtain rfl : s = a := by simpa using h
              exact Nat.le_refl _
        · rename_i hlt
          refine ⟨fun e => (by cases e), fun t e => ?_, fun t e s hs ns => ?_⟩
          · cases e
            obtain ⟨s, h1, h2⟩ := ih.yes u rfl
            exact ⟨s, List.mem_append_left _ h1, h2⟩
          · cases e
            rcases List.mem_append.mp hs with h | h
            · exact ih.least u rfl s h ns
            · obtain rfl : s = a := by simpa using h
              omega
theorem few_spec (xs : List (Int × Int)) (i : Nat) (ss : List Nat) : FewOf xs i ss (few xs i ss) := by
  have := few_rev (xs := xs) (i := i) ss.reverse
  rwa [List.reverse_reverse] at this
/-- the candidates -/
def cand (r : Bool) (i n G : Nat) : List Nat := (beside r i n).take G
theorem mem_cand {r : Bool} {i n G s : Nat} (hG : G ≤ bmax r i n) : s ∈ cand r i n G ↔ ∃ e, 0 < e ∧ e ≤ G ∧ s = bpos r i e := by
  unfold cand
  constructor
  · intro h
    obtain ⟨a, ha⟩ := List.mem_iff_getElem?.mp h
    rw [List.getElem?_take] at ha
    split at ha
    · rw [beside_at (by omega)] at ha
      exact ⟨a + 1, by omega, by omega, (Option.some.inj ha).symm⟩
    · cases ha
  · rintro ⟨e, h1, h2, rfl⟩
    refine List.mem_iff_getElem?.mpr ⟨e - 1, ?_⟩
    rw [List.getElem?_take, if_pos (by omega), beside_at (by omega)]
    congr 2
    omega
section
variable {xs : List (Int × Int)} {S T : List Nat} {r : Bool} {i e G : Nat}
theorem touch_zero (h : Inc xs) (hi : i < xs.length) (h0 : 0 < e) (he : e ≤ bmax r i xs.length) : touch xs i (bpos r i e) = true ↔ Hit xs r i (bpos r i e) := by
  have := touch_hit h (r := r) hi h0 he
  rwa [bpos_zero] at this
theorem cut_is_cut (h : Inc xs) (hi : i < xs.length) (h0 : 0 < e) (heG : e ≤ G) (hG : G ≤ bmax r i xs.length) (nt : touch xs i (bpos r i e) = false) (dj : ∀ k ∈ rbt xs i (bpos r i e), k ∉ S) : ¬ Reach xs S r i (bpos r i G) := by
  intro q
  have key : ∃ d, d < e ∧ bpos r i G = bpos r i d ∧ (d = 0 ∨ bpos r i G ∈ S) := by
    refine Reach.ind h (P := fun j => ∃ d, d < e ∧ j = bpos r i d ∧ (d = 0 ∨ j ∈ S)) ⟨0, h0, (bpos_zero r i).symm, .inl rfl⟩ (fun m j _ hp hj hh => ?_) q
    obtain ⟨d, hd, rfl, hz⟩ := hp
    obtain ⟨d', hdd, hd', rfl⟩ := hit_pos hi (by omega) hh
    refine ⟨d', ?_, rfl, .inr hj⟩
    refine Nat.lt_of_not_le fun c => ?_
    have b2 := (hit_dist h hi hdd hd').mp hh
    have b3 : dsb xs r i e ≤ dsb xs r i d' := by
      rcases Nat.lt_or_ge e d' with c' | c'
      · exact Int.le_of_lt (dsb_up h hi c' hd')
      · have : d' = e := by omega
        rw [this]; exact Int.le_refl _
    have hit : Hit xs r (bpos r i d) (bpos r i e) := (hit_dist h hi hd (by omega)).mpr (by omega)
    rcases hz with rfl | hz
    · rw [bpos_zero] at hit
      rw [(touch_zero h hi h0 (by omega)).mpr hit] at nt
      cases nt
    · rcases Nat.eq_zero_or_pos d with rfl | hp
      · rw [bpos_zero] at hit
        rw [(touch_zero h hi h0 (by omega)).mpr hit] at nt
        cases nt
      · exact dj _ (mem_rbt.mpr ⟨(betw_pos (n := xs.length) (by omega)).mpr ⟨d, hp, hd, rfl⟩, (touch_hit h hi hd (by omega)).mpr hit⟩) hz
  obtain ⟨d, hd, e1, _⟩ := key
  have := bpos_inj hG (by omega) e1
  omega
theorem cut_least (h : Inc xs) (hi : i < xs.length) (hT : ∀ k, k < xs.length → k ∉ T → k ∈ S) (hG : G ≤ bmax r i xs.length) (gT : bpos r i G ∉ T) (nr : ¬ Reach xs S r i (bpos r i G)) :
    ∃ e, 0 < e ∧ e ≤ G ∧ touch xs i (bpos r i e) = false ∧ ∀ k ∈ rbt xs i (bpos r i e), k ∈ T := by
  have main : ∀ f g : Nat, g ≤ f → g ≤ G → bpos r i g ∉ T → ¬ Reach xs S r i (bpos r i g) → ∃ e, 0 < e ∧ e ≤ G ∧ touch xs i (bpos r i e) = false ∧ ∀ k ∈ rbt xs i (bpos r i e), k ∈ T := by
    intro f
    induction f with
    | zero =>
      intro g hg _ _ nr
      obtain rfl : g = 0 := by omega
      rw [bpos_zero] at nr
      exact absurd Reach.refl nr
    | succ f ih =>
      intro g hg hgG gT nr
      have g0 : 0 < g := by
        rcases Nat.eq_zero_or_pos g with rfl | hp
        · rw [bpos_zero] at nr; exact absurd Reach.refl nr
        · exact hp
      by_cases c : ∃ d, 0 < d ∧ d < g ∧ bpos r i d ∉ T ∧ ¬ Reach xs S r i (bpos r i d)
      · obtain ⟨d, _, hd, h1, h2⟩ := c
        exact ih d (by omega) (by omega) h1 h2
      · have gS : bpos r i g ∈ S := hT _ (bpos_lt hi (by omega)) gT
        refine ⟨g, g0, hgG, ?_, fun k hk => ?_⟩
        · cases ht : touch xs i (bpos r i g) with
          | false => rfl
          | true => exact absurd (Reach.refl.step h gS ((touch_zero h hi g0 (by omega)).mp ht)) nr
        · obtain ⟨hb, ht⟩ := mem_rbt.mp hk
          obtain ⟨d, hd0, hdg, rfl⟩ := (betw_pos (n := xs.length) (by omega)).mp hb
          refine Classical.byContradiction fun nT => ?_
          by_cases q : Reach xs S r i (bpos r i d)
          · exact nr (q.step h gS ((touch_hit h hi hdg (by omega)).mp ht))
          · exact c ⟨d, hd0, hdg, nT, q⟩
  exact main G G (Nat.le_refl _) (Nat.le_refl _) gT nr
/-- a goal that a run holds lies beside the pushed stone -/
theorem goal_pos (h : Inc xs) (hi : i < xs.length) {g : Nat} (h1 : (run xs i r).1 ≤ g) (h2 : g ≤ (run xs i r).2) : gap i g ≤ bmax r i xs.length ∧ g = bpos r i (gap i g) := by
  obtain ⟨d, hd, e, _⟩ := reach_pos h hi ((run_keys h hi).mpr ⟨h1, h2⟩)
  have : gap i g = d := by rw [e, bpos_gap hd]
  rw [this]
  exact ⟨hd, e⟩
end
/-! ### rows of the stones that are left -/
def leftL (n : Nat) (ns : List Nat) : List Nat := (List.range n).filter fun k => decide (k ∉ ns)
theorem mem_left {n k : Nat} {ns : List Nat} : k ∈ leftL n ns ↔ k < n ∧ k ∉ ns := by
  unfold leftL
  rw [List.mem_filter, List.mem_range, decide_eq_true_eq]
theorem left_sorted (n : Nat) (ns : List Nat) : (leftL n ns).Pairwise (· < ·) := (List.pairwise_lt_range (n := n)).filter _
theorem left_nil (n : Nat) : leftL n [] = List.range n := List.filter_eq_self.mpr fun k _ => by simp
def part (xs : List (Int × Int)) (L : List Nat) : List (Int × Int) := L.map fun k => xs.getD k (0, 0)
theorem part_get {xs : List (Int × Int)} {L : List Nat} {a k : Nat} (h : L[a]? = some k) (hk : k < xs.length) : (part xs L)[a]? = xs[k]? := by
  unfold part
  rw [List.getElem?_map, h]
  show some (xs.getD k (0, 0)) = xs[k]?
  simp [List.getD, hk]
theorem part_all (xs : List (Int × Int)) : part xs (List.range xs.length) = xs := by
  apply List.ext_getElem?
  intro a
  by_cases h : a < xs.length
  · rw [part_get (k := a) (by rw [List.getElem?_range h]) h]
  · rw [List.getElem?_eq_none (by unfold part; simp; omega), List.getElem?_eq_none (by omega)]
theorem part_len (xs : List (Int × Int)) (L : List Nat) : (part xs L).length = L.length := by unfold part; rw [List.length_map]
theorem get_lt {L : List Nat} (s : L.Pairwise (· < ·)) {a b k j : Nat} (h : L[a]? = some k) (g : L[b]? = some j) : a < b ↔ k < j := by
  obtain ⟨ha, rfl⟩ := List.getElem?_eq_some_iff.mp h
  obtain ⟨hb, rfl⟩ := List.getElem?_eq_some_iff.mp g
  have p := List.pairwise_iff_getElem.mp s
  constructor
  · exact fun q => p a b ha hb q
  · intro q
    refine Nat.lt_of_not_le fun c => ?_
    rcases Nat.lt_or_ge b a with c' | c'
    · have := p b a hb ha c'; omega
    · have : a = b := by omega
      subst this
      omega
theorem part_inc {xs : List (Int × Int)} (h : Inc xs) {L : List Nat} (s : L.Pairwise (· < ·)) (b : ∀ k ∈ L, k < xs.length) : Inc (part xs L) := by
  intro a c x y hac hx hy
  have ha : a < L.length := by have := (List.getElem?_eq_some_iff.mp hx).1; rwa [part_len] at this
  have hc : c < L.length := by have := (List.getElem?_eq_some_iff.mp hy).1; rwa [part_len] at this
  have ea : L[a]? = some L[a] := by simp [ha]
  have ec : L[c]? = some L[c] := by simp [hc]
  rw [part_get ea (b _ (List.getElem_mem ha))] at hx
  rw [part_get ec (b _ (List.getElem_mem hc))] at hy
  exact h _ _ _ _ ((get_lt s ea ec).mp hac) hx hy
theorem part_pl {xs : List (Int × Int)} {L : List Nat} {a k : Nat} (h : L[a]? = some k) (hk : k < xs.length) : pl (part xs L) a = pl xs k ∧ ht (part xs L) a = ht xs k := by
  unfold pl ht
  simp only [List.getD]
  rw [part_get h hk]
  exact ⟨rfl, rfl⟩
theorem part_hit {xs : List (Int × Int)} {L : List Nat} (s : L.Pairwise (· < ·)) (bd : ∀ k ∈ L, k < xs.length) {r : Bool} {a b k j : Nat} (h : L[a]? = some k) (g : L[b]? = some j) : Hit (part xs L) r a b ↔ Hit xs r k j := by
  have ha := (List.getElem?_eq_some_iff.mp h).1
  have hb := (List.getElem?_eq_some_iff.mp g).1
  have hk := bd k (List.mem_of_getElem? h)
  have hj := bd j (List.mem_of_getElem? g)
  unfold Hit
  rw [part_len, (part_pl h hk).1, (part_pl h hk).2, (part_pl g hj).1, get_lt s h g, get_lt s g h]
  exact ⟨fun q => ⟨hk, hj, q.2.2⟩, fun q => ⟨ha, hb, q.2.2⟩⟩
theorem part_reach {xs : List (Int × Int)} (hx : Inc xs) {L : List Nat} (s : L.Pairwise (· < ·)) (bd : ∀ k ∈ L, k < xs.length) {r : Bool} {a i : Nat} (h : L[a]? = some i) {b j : Nat} (g : L[b]? = some j) :
    Reach (part xs L) (List.range (part xs L).length) r a b ↔ Reach xs L r i j := by
  have hp := part_inc hx s bd
  constructor
  · intro q
    have key : ∃ j', L[b]? = some j' ∧ Reach xs L r i j' := by
      refine Reach.ind hp (P := fun b => ∃ j', L[b]? = some j' ∧ Reach xs L r i j') ⟨i, h, Reach.refl⟩ (fun m c _ hm hc hh => ?_) q
      obtain ⟨k, hk, rk⟩ := hm
      have hcl : c < L.length := by have := List.mem_range.mp hc; rwa [part_len] at this
      have ec : L[c]? = some L[c] := by simp [hcl]
      exact ⟨_, ec, rk.step hx (List.getElem_mem hcl) ((part_hit s bd hk ec).mp hh)⟩
    obtain ⟨j', e, q⟩ := key
    rw [g] at e
    cases e
    exact q
  · intro q
    have key : ∀ b, L[b]? = some j → Reach (part xs L) (List.range (part xs L).length) r a b := by
      refine Reach.ind hx (P := fun j => ∀ b, L[b]? = some j → Reach (part xs L) (List.range (part xs L).length) r a b) (fun (b : Nat) hb => ?_) (fun (m c : Nat) rm hm hc hh b hb => ?_) q
      · have e : a = b := by
          rcases Nat.lt_trichotomy a b with c | c | c
          · have := (get_lt s h hb).mp c; omega
          · exact c
          · have := (get_lt s hb h).mp c; omega
        rw [← e]; exact Reach.refl
      · have hmL : ∃ a' : Nat, L[a']? = some m := by
          obtain ⟨d, q⟩ := rm
          cases d with
          | zero => obtain rfl : m = i := q; exact ⟨a, h⟩
          | succ d =>
            have : m = i ∨ m ∈ L := by
              refine Reach.ind hx (P := fun m => m = i ∨ m ∈ L) (.inl rfl) (fun _ _ _ _ hj _ => .inr hj) (⟨d + 1, q⟩ : Reach xs L r i m)
            rcases this with rfl | hm
            · exact ⟨a, h⟩
            · exact List.mem_iff_getElem?.mp hm
        obtain ⟨a', ha'⟩ := hmL
        refine (hm a' ha').step hp (List.mem_range.mpr ?_) ((part_hit s bd ha' hb).mpr hh)
        rw [part_len]
        exact (List.getElem?_eq_some_iff.mp hb).1
    exact key b g
/-- those of the stones that are left that a push fells -/
def fellsL (xs : List (Int × Int)) (ns : List Nat) (i : Nat) (r : Bool) : List Nat :=
  ((leftL xs.length ns).drop (run (part xs (leftL xs.length ns)) ((leftL xs.length ns).idxOf i) r).1).take
    ((run (part xs (leftL xs.length ns)) ((leftL xs.length ns).idxOf i) r).2 + 1 - (run (part xs (leftL xs.length ns)) ((leftL xs.length ns).idxOf i) r).1)
theorem idx_get {L : List Nat} {i : Nat} (h : i ∈ L) : L[L.idxOf i]? = some i := by
  have hl := List.idxOf_lt_length_of_mem h
  rw [List.getElem?_eq_getElem hl, List.getElem_idxOf]
theorem mem_slice {L : List Nat} {f e j : Nat} (hfe : f ≤ e + 1) : j ∈ (L.drop f).take (e + 1 - f) ↔ ∃ b, f ≤ b ∧ b ≤ e ∧ L[b]? = some j := by
  constructor
  · intro h
    obtain ⟨a, ha⟩ := List.mem_iff_getElem?.mp h
    rw [List.getElem?_take] at ha
    split at ha
    · rw [List.getElem?_drop] at ha
      exact ⟨f + a, by omega, by omega, ha⟩
    · cases ha
  · rintro ⟨b, h1, h2, h3⟩
    refine List.mem_iff_getElem?.mpr ⟨b - f, ?_⟩
    rw [List.getElem?_take, if_pos (by omega), List.getElem?_drop]
    rw [show f + (b - f) = b by omega]
    exact h3
theorem mem_fells {xs : List (Int × Int)} (hx : Inc xs) {ns : List Nat} {i j : Nat} {r : Bool} (hi : i ∈ leftL xs.length ns) : j ∈ fellsL xs ns i r ↔ j ∈ leftL xs.length ns ∧ Reach xs (leftL xs.length ns) r i j := by
  have s := left_sorted xs.length ns
  have bd : ∀ k ∈ leftL xs.length ns, k < xs.length := fun k hk => (mem_left.mp hk).1
  unfold fellsL
  generalize leftL xs.length ns = L at *
  have ei := idx_get hi
  have hp := part_inc hx s bd
  have hl : L.idxOf i < (part xs L).length := by rw [part_len]; exact List.idxOf_lt_length_of_mem hi
  have b := run_bounds hp (r := r) hl
  rw [mem_slice (by omega)]
  constructor
  · rintro ⟨b', h1, h2, h3⟩
    exact ⟨List.mem_of_getElem? h3, (part_reach hx s bd ei h3).mp ((run_keys hp hl).mpr ⟨h1, h2⟩)⟩
  · rintro ⟨h1, h2⟩
    obtain ⟨b', hb'⟩ := List.mem_iff_getElem?.mp h1
    have := (run_keys hp hl).mp ((part_reach hx s bd ei hb').mpr h2)
    exact ⟨b', this.1, this.2, hb'⟩
theorem fells_sub {xs : List (Int × Int)} {ns : List Nat} {i : Nat} {r : Bool} : (fellsL xs ns i r).Sublist (leftL xs.length ns) := (List.take_sublist _ _).trans (List.drop_sublist _ _)
theorem fells_all {xs : List (Int × Int)} (hx : Inc xs) {i : Nat} {r : Bool} (hi : i < xs.length) : fellsL xs [] i r = (List.range ((run xs i r).2 + 1 - (run xs i r).1)).map fun k => (run xs i r).1 + k := by
  have b := run_bounds hx (r := r) hi
  unfold fellsL
  rw [left_nil, part_all]
  have e : (List.range xs.length).idxOf i = i := by
    have h := idx_get (L := List.range xs.length) (i := i) (List.mem_range.mpr hi)
    have hl := List.idxOf_lt_length_of_mem (List.mem_range.mpr hi : i ∈ List.range xs.length)
    rw [List.length_range] at hl
    rw [List.getElem?_range hl] at h
    exact Option.some.inj h
  rw [e]
  apply List.ext_getElem?
  intro a
  rw [List.getElem?_take, List.getElem?_map]
  split
  · rw [List.getElem?_drop, List.getElem?_range (by omega), List.getElem?_range (by omega)]
    rfl
  · rw [List.getElem?_eq_none (by rw [List.length_range]; omega)]
    rfl
/-- one more of them is taken away: the greatest one first -/
theorem take_one {n k : Nat} {L : List Nat} {ns : List Nat} (hL : L = leftL n ns) (hk : k < n) (hn : ∀ m ∈ ns, k < m) : ((List.range L.length).filter fun i => decide (i ≠ k)).map (fun i => L.getD i 0) = leftL n (k :: ns) ∧ k < L.length := by
  have e0 : L = List.range (k + 1) ++ ((List.range (n - (k + 1))).map (k + 1 + ·)).filter fun j => decide (j ∉ ns) := by
    rw [hL]
    unfold leftL
    rw [show n = (k + 1) + (n - (k + 1)) by omega, List.range_add, List.filter_append]
    rw [show k + 1 + (n - (k + 1)) - (k + 1) = n - (k + 1) by omega]
    congr 1
    refine List.filter_eq_self.mpr fun j hj => decide_eq_true fun hm => ?_
    have := List.mem_range.mp hj
    have := hn j hm
    omega
  have hkL : L[k]? = some k := by
    rw [e0, List.getElem?_append_left (by rw [List.length_range]; omega), List.getElem?_range (by omega)]
  have kl := (List.getElem?_eq_some_iff.mp hkL).1
  refine ⟨?_, kl⟩
  have s : L.Pairwise (· < ·) := by rw [hL]; exact left_sorted n ns
  have e1 : leftL n (k :: ns) = L.filter fun j => decide (j ≠ k) := by
    rw [hL]
    unfold leftL
    rw [List.filter_filter]
    refine List.filter_congr fun j _ => ?_
    rw [← Bool.decide_and, decide_eq_decide]
    simp [List.mem_cons, not_or]
  have e2 : L = (List.range L.length).map fun i => L.getD i 0 := by
    apply List.ext_getElem?
    intro a
    by_cases h : a < L.length
    · rw [List.getElem?_map, List.getElem?_range h]
      simp [List.getD, h]
    · rw [List.getElem?_eq_none (by omega), List.getElem?_eq_none (by simp; omega)]
  rw [e1]
  conv => rhs; rw [e2]
  rw [List.filter_map]
  congr 1
  refine List.filter_congr fun i hi => ?_
  have hil := List.mem_range.mp hi
  have ei : L[i]? = some (L.getD i 0) := by simp [List.getD, hil]
  show decide (i ≠ k) = decide (L.getD i 0 ≠ k)
  rw [decide_eq_decide]
  constructor
  · intro h e
    rw [e] at ei
    rcases Nat.lt_trichotomy i k with c | c | c
    · have := (get_lt s ei hkL).mp c; omega
    · exact h c
    · have := (get_lt s hkL ei).mp c; omega
  · intro h e
    subst e
    rw [hkL] at ei
    exact h (Option.some.inj ei).symm
/-! ### greatest runs: mathematics -/
theorem Reach.trans {xs : List (Int × Int)} (hx : Inc xs) {S : List Nat} {r : Bool} {i j k : Nat} (h : Reach xs S r i j) (g : Reach xs S r j k) : Reach xs S r i k :=
  Reach.ind hx (P := fun k => Reach xs S r i k) h (fun _ _ _ ih hS hh => ih.step hx hS hh) g
theorem run_in {xs : List (Int × Int)} (hx : Inc xs) {r : Bool} {i j : Nat} (hi : i < xs.length) (hj : j < xs.length) (h1 : (run xs j r).1 ≤ i) (h2 : i ≤ (run xs j r).2) : (run xs j r).1 ≤ (run xs i r).1 ∧ (run xs i r).2 ≤ (run xs j r).2 := by
  have a := (run_keys hx (r := r) hj (j := i)).mpr ⟨h1, h2⟩
  have b := run_bounds hx (r := r) hi
  have c1 := (run_keys hx (r := r) hi (j := (run xs i r).1)).mpr ⟨Nat.le_refl _, by omega⟩
  have c2 := (run_keys hx (r := r) hi (j := (run xs i r).2)).mpr ⟨by omega, Nat.le_refl _⟩
  exact ⟨((run_keys hx hj).mp (a.trans hx c1)).1, ((run_keys hx hj).mp (a.trans hx c2)).2⟩
theorem run_end (xs : List (Int × Int)) (i : Nat) : (run xs i true).1 = i ∧ (run xs i false).2 = i := ⟨rfl, rfl⟩
theorem run_inj {xs : List (Int × Int)} {r : Bool} {i j : Nat} (h : run xs i r = run xs j r) : i = j := by
  cases r with
  | true => exact congrArg Prod.fst h
  | false => exact congrArg Prod.snd h
/-- the runs of all stones, in the stones' order -/
def runsL (xs : List (Int × Int)) (r : Bool) : List (Nat × Nat) := (List.range xs.length).map fun i => run xs i r
theorem mem_runsL {xs : List (Int × Int)} {r : Bool} {p : Nat × Nat} : p ∈ runsL xs r ↔ ∃ i, i < xs.length ∧ run xs i r = p := by
  unfold runsL
  rw [List.mem_map]
  exact ⟨fun ⟨i, h1, h2⟩ => ⟨i, List.mem_range.mp h1, h2⟩, fun ⟨i, h1, h2⟩ => ⟨i, List.mem_range.mpr h1, h2⟩⟩
theorem runsL_nodup (xs : List (Int × Int)) (r : Bool) : (runsL xs r).Nodup := by
  unfold runsL
  refine List.Pairwise.map _ (fun x y h => ?_) List.nodup_range
  have h : x ≠ y := h
  exact fun e => h (run_inj e)
/-- no two of them cross -/
theorem no_cross {xs : List (Int × Int)} (hx : Inc xs) {r : Bool} {p o : Nat × Nat} (hp : p ∈ runsL xs r) (ho : o ∈ runsL xs r) : ¬ (o.1 < p.1 ∧ p.1 ≤ o.2 ∧ o.2 < p.2) := by
  obtain ⟨i, hi, rfl⟩ := mem_runsL.mp hp
  obtain ⟨j, hj, rfl⟩ := mem_runsL.mp ho
  rintro ⟨h1, h2, h3⟩
  cases r with
  | true =>
    have h1 : j < i := h1
    have := run_in hx hi hj (r := true) (Nat.le_of_lt h1) h2
    omega
  | false =>
    have h3 : j < i := h3
    have h2 : (run xs i false).1 ≤ j := h2
    have := run_in hx hj hi (r := false) h2 (Nat.le_of_lt h3)
    omega
def inside (p o : Nat × Nat) : Bool := decide (o ≠ p) && (decide (o.1 ≤ p.1) && decide (p.2 ≤ o.2))
def within (p : Nat × Nat) (ps : List (Nat × Nat)) : Bool := ps.any (inside p)
def great (xs : List (Int × Int)) (r : Bool) : List (Nat × Nat) := (runsL xs r).filter fun p => !within p (runsL xs r)
theorem mem_great {xs : List (Int × Int)} {r : Bool} {p : Nat × Nat} : p ∈ great xs r ↔ p ∈ runsL xs r ∧ ∀ o ∈ runsL xs r, o ≠ p → ¬ (o.1 ≤ p.1 ∧ p.2 ≤ o.2) := by
  unfold great within
  rw [List.mem_filter]
  refine and_congr_right fun _ => ?_
  rw [Bool.not_eq_true', List.any_eq_false]
  refine forall_congr' fun o => forall_congr' fun _ => ?_
  unfold inside
  rw [Bool.and_eq_true, Bool.and_eq_true, decide_eq_true_eq, decide_eq_true_eq, decide_eq_true_eq]
  exact ⟨fun h a b => h ⟨a, b⟩, fun h ⟨a, b⟩ => h a b⟩
/-- they stand in order -/
theorem great_sorted {xs : List (Int × Int)} (hx : Inc xs) (r : Bool) : (great xs r).Pairwise fun p o => p.1 < o.1 ∧ p.2 < o.2 := by
  have all : (runsL xs r).Pairwise fun p o => ∃ i j, i < j ∧ j < xs.length ∧ p = run xs i r ∧ o = run xs j r := by
    unfold runsL
    rw [List.pairwise_map]
    refine (List.pairwise_lt_range (n := xs.length)).imp_of_mem fun {a b} _ hb h => ⟨a, b, h, List.mem_range.mp hb, rfl, rfl⟩
  refine (List.Pairwise.filter _ all).imp_of_mem fun {p o} hp ho h => ?_
  obtain ⟨i, j, hij, hj, rfl, rfl⟩ := h
  have gp := (mem_great (xs := xs) (r := r)).mp hp
  have go := (mem_great (xs := xs) (r := r)).mp ho
  have ne : run xs i r ≠ run xs j r := fun e => absurd (run_inj e) (by omega)
  cases r with
  | true =>
    have e1 : (run xs i true).1 = i := rfl
    have e2 : (run xs j true).1 = j := rfl
    have := go.2 _ gp.1 ne
    omega
  | false =>
    have e1 : (run xs i false).2 = i := rfl
    have e2 : (run xs j false).2 = j := rfl
    have := gp.2 _ go.1 (Ne.symm ne)
    omega
/-- who covers all stones has all greatest runs -/
theorem great_cover {xs : List (Int × Int)} (hx : Inc xs) {r : Bool} {some : List (Nat × Nat)} (hs : ∀ p ∈ some, p ∈ runsL xs r) (hc : ∀ j, j < xs.length → ∃ p ∈ some, p.1 ≤ j ∧ j ≤ p.2) : ∀ p ∈ great xs r, p ∈ some := by
  intro p hp
  obtain ⟨h1, h2⟩ := mem_great.mp hp
  obtain ⟨i, hi, rfl⟩ := mem_runsL.mp h1
  obtain ⟨o, ho, a, b⟩ := hc i hi
  obtain ⟨j, hj, rfl⟩ := mem_runsL.mp (hs o ho)
  have c := run_in hx hi hj (r := r) a b
  by_cases e : run xs j r = run xs i r
  · rw [← e]; exact ho
  · exact absurd c (h2 _ (hs _ ho) e)
theorem great_nodup (xs : List (Int × Int)) (r : Bool) : (great xs r).Nodup := List.Pairwise.filter _ (runsL_nodup xs r)
theorem nodup_length {α : Type} [DecidableEq α] : ∀ {l m : List α}, l.Nodup → (∀ x ∈ l, x ∈ m) → l.length ≤ m.length
  | [], _, _, _ => Nat.zero_le _
  | x :: l, m, nd, h => by
    rw [List.nodup_cons] at nd
    have hx := h x (by simp)
    have ih := nodup_length (l := l) (m := m.erase x) nd.2 fun y hy => (List.mem_erase_of_ne (fun e => nd.1 (by rw [← e]; exact hy))).mpr (h y (by simp [hy]))
    rw [List.length_erase_of_mem hx] at ih
    have : 0 < m.length := List.length_pos_of_mem hx
    simp only [List.length_cons]
    omega
theorem great_least {xs : List (Int × Int)} (hx : Inc xs) {r : Bool} {some : List (Nat × Nat)} (hs : ∀ p ∈ some, p ∈ runsL xs r) (hc : ∀ j, j < xs.length → ∃ p ∈ some, p.1 ≤ j ∧ j ≤ p.2) : (great xs r).length ≤ some.length := by
  haveI : DecidableEq (Nat × Nat) := inferInstance
  exact nodup_length (great_nodup xs r) (great_cover hx hs hc)
/-! ### heights: mathematics -/
def aft : Bool → Nat → Nat → Prop | true, a, b => a < b | false, a, b => b < a
def leq : Bool → Nat → Nat → Prop | true, a, b => a ≤ b | false, a, b => b ≤ a
def eN (xs : List (Int × Int)) (i : Nat) : Bool → Nat | true => (run xs i true).2 | false => (run xs i false).1
abbrev RR (xs : List (Int × Int)) (r : Bool) (i j : Nat) : Prop := Reach xs (List.range xs.length) r i j
def dI (xs : List (Int × Int)) (a b : Nat) : Int := ab (pl xs b - pl xs a)
theorem run_t (xs : List (Int × Int)) (i : Nat) : run xs i true = (i, eN xs i true) := rfl
theorem run_f (xs : List (Int × Int)) (i : Nat) : run xs i false = (eN xs i false, i) := rfl
theorem rr_iff {xs : List (Int × Int)} (hx : Inc xs) {r : Bool} {i j : Nat} (hi : i < xs.length) : RR xs r i j ↔ leq r i j ∧ leq r j (eN xs i r) := by
  cases r with
  | true => exact run_keys hx hi
  | false => rw [show RR xs false i j ↔ _ from run_keys hx hi, run_f]; exact And.comm
theorem e_in {xs : List (Int × Int)} (hx : Inc xs) {r : Bool} {i : Nat} (hi : i < xs.length) : leq r i (eN xs i r) ∧ eN xs i r < xs.length := by
  have h := run_bounds hx (r := r) hi
  cases r with
  | true => exact ⟨h.2.1, h.2.2⟩
  | false => exact ⟨h.1, Nat.lt_of_le_of_lt h.1 hi⟩
theorem leq_refl (r : Bool) (a : Nat) : leq r a a := by cases r <;> exact Nat.le_refl _
theorem leq_trans {r : Bool} {a b c : Nat} (h : leq r a b) (g : leq r b c) : leq r a c := by cases r <;> simp only [leq] at * <;> omega
theorem leq_anti {r : Bool} {a b : Nat} (h : leq r a b) (g : leq r b a) : a = b := by cases r <;> simp only [leq] at * <;> omega
theorem aft_leq {r : Bool} {a b : Nat} (h : aft r a b) : leq r a b := by cases r <;> simp only [leq, aft] at * <;> omega
theorem not_aft {r : Bool} {a b : Nat} : ¬ aft r a b ↔ leq r b a := by cases r <;> simp only [leq, aft] <;> omega
theorem not_leq {r : Bool} {a b : Nat} : ¬ leq r a b ↔ aft r b a := by cases r <;> simp only [leq, aft] <;> omega
theorem aft_ne {r : Bool} {a b : Nat} (h : aft r a b) : b ≠ a := by cases r <;> simp only [aft] at * <;> omega
theorem aft_of {r : Bool} {a b : Nat} (h : leq r a b) (g : b ≠ a) : aft r a b := by cases r <;> simp only [leq, aft] at * <;> omega
theorem e_rr {xs : List (Int × Int)} (hx : Inc xs) {r : Bool} {i : Nat} (hi : i < xs.length) : RR xs r i (eN xs i r) := (rr_iff hx hi).mpr ⟨(e_in hx hi).1, leq_refl _ _⟩
theorem rr_lt {xs : List (Int × Int)} (hx : Inc xs) {r : Bool} {i j : Nat} (hi : i < xs.length) (h : RR xs r i j) : j < xs.length := by
  obtain ⟨h1, h2⟩ := (rr_iff hx hi).mp h
  have := e_in hx (r := r) hi
  cases r <;> simp only [leq] at * <;> omega
theorem rr_trans {xs : List (Int × Int)} (hx : Inc xs) {r : Bool} {i m j : Nat} (a : RR xs r i m) (b : RR xs r m j) : RR xs r i j :=
  Reach.ind hx (P := fun j => RR xs r i j) a (fun _ _ _ h2 h3 h4 => Reach.step hx h2 h3 h4) b
theorem rr_one {xs : List (Int × Int)} (hx : Inc xs) {r : Bool} {i j : Nat} (h : Hit xs r i j) : RR xs r i j := Reach.step hx Reach.refl (List.mem_range.mpr h.2.1) h
theorem rr_first {xs : List (Int × Int)} (hx : Inc xs) {r : Bool} {i j : Nat} (h : RR xs r i j) : j = i ∨ ∃ m, Hit xs r i m ∧ RR xs r m j := by
  refine Reach.ind hx (P := fun j => j = i ∨ ∃ m, Hit xs r i m ∧ RR xs r m j) (.inl rfl) (fun m j _ h2 h3 h4 => .inr ?_) h
  rcases h2 with rfl | ⟨m', h5, h6⟩
  · exact ⟨j, h4, Reach.refl⟩
  · exact ⟨m', h5, Reach.step hx h6 h3 h4⟩
/-- the end of a run to which a stone belongs is that of its own run or farther -/
theorem e_of {xs : List (Int × Int)} (hx : Inc xs) {r : Bool} {i m : Nat} (hi : i < xs.length) (h : RR xs r i m) (g : RR xs r m (eN xs i r)) : eN xs m r = eN xs i r := by
  have hm := rr_lt hx hi h
  have h1 := ((rr_iff hx hm).mp g).2
  have h2 := ((rr_iff hx hi).mp (rr_trans hx h (e_rr hx hm))).2
  exact leq_anti h2 h1
theorem dI_aft {xs : List (Int × Int)} (hx : Inc xs) {r : Bool} {a b : Nat} (ha : a < xs.length) (hb : b < xs.length) (h : aft r a b) : dI xs a b = if r then pl xs b - pl xs a else pl xs a - pl xs b := by
  unfold dI ab
  cases r <;> simp only [aft] at h
  · have := hx.pl h ha; rw [if_pos (by omega)]; simp only [Bool.false_eq_true, if_false]; omega
  · have := hx.pl h hb; rw [if_neg (by omega)]; simp only [if_true]
theorem dI_pos {xs : List (Int × Int)} (hx : Inc xs) {r : Bool} {a b : Nat} (ha : a < xs.length) (hb : b < xs.length) (h : aft r a b) : 1 ≤ dI xs a b := by
  rw [dI_aft hx ha hb h]
  cases r <;> simp only [aft] at h
  · have := hx.pl h ha; simp only [Bool.false_eq_true, if_false]; omega
  · have := hx.pl h hb; simp only [if_true]; omega
theorem dI_lt {xs : List (Int × Int)} (hx : Inc xs) {r : Bool} {i a b : Nat} (hi : i < xs.length) (ha : a < xs.length) (hb : b < xs.length) (h : aft r i a) (g : aft r a b) : dI xs i a < dI xs i b := by
  have k : aft r i b := by cases r <;> simp only [aft] at * <;> omega
  rw [dI_aft hx hi ha h, dI_aft hx hi hb k]
  cases r <;> simp only [aft] at g
  · have := hx.pl g ha; simp only [Bool.false_eq_true, if_false]; omega
  · have := hx.pl g hb; simp only [if_true]; omega
theorem dI_le {xs : List (Int × Int)} (hx : Inc xs) {r : Bool} {i a b : Nat} (hi : i < xs.length) (ha : a < xs.length) (hb : b < xs.length) (h : aft r i a) (g : leq r a b) : dI xs i a ≤ dI xs i b := by
  rcases Nat.decEq b a with n | n
  · exact Int.le_of_lt (dI_lt hx hi ha hb h (aft_of g n))
  · rw [n]; exact Int.le_refl _
theorem hit_dI {xs : List (Int × Int)} (hx : Inc xs) {r : Bool} {m o : Nat} : Hit xs r m o ↔ m < xs.length ∧ o < xs.length ∧ aft r m o ∧ dI xs m o ≤ ht xs m := by
  constructor
  · rintro ⟨h1, h2, h3, h4⟩
    have ha : aft r m o := by cases r with | true => exact (h3 rfl).1 | false => exact (h4 rfl).1
    refine ⟨h1, h2, ha, ?_⟩
    rw [dI_aft hx h1 h2 ha]
    cases r with
    | true => have := (h3 rfl).2; simp only [if_true]; omega
    | false => have := (h4 rfl).2; simp only [Bool.false_eq_true, if_false]; omega
  · rintro ⟨h1, h2, ha, h3⟩
    rw [dI_aft hx h1 h2 ha] at h3
    refine ⟨h1, h2, ?_, ?_⟩
    · rintro rfl
      simp only [if_true] at h3
      exact ⟨ha, by omega⟩
    · rintro rfl
      simp only [Bool.false_eq_true, if_false] at h3
      exact ⟨ha, by omega⟩
/-- the same places -/
def SP (xs ys : List (Int × Int)) : Prop := xs.length = ys.length ∧ ∀ k, k < xs.length → pl xs k = pl ys k
theorem SP.refl (xs : List (Int × Int)) : SP xs xs := ⟨rfl, fun _ _ => rfl⟩
theorem SP.symm {xs ys : List (Int × Int)} (h : SP xs ys) : SP ys xs := ⟨h.1.symm, fun k q => (h.2 k (h.1 ▸ q)).symm⟩
theorem SP.trans {xs ys zs : List (Int × Int)} (h : SP xs ys) (g : SP ys zs) : SP xs zs := ⟨h.1.trans g.1, fun k q => (h.2 k q).trans (g.2 k (h.1 ▸ q))⟩
theorem SP.dI {xs ys : List (Int × Int)} (h : SP xs ys) {a b : Nat} (ha : a < xs.length) (hb : b < xs.length) : dI xs a b = dI ys a b := by
  unfold RD.dI; rw [h.2 a ha, h.2 b hb]
theorem reach_hits {xs ys : List (Int × Int)} (hx : Inc xs) (hy : Inc ys) (n : xs.length = ys.length) {r : Bool} {i j : Nat} (hh : ∀ m o, RR xs r i m → Hit xs r m o → Hit ys r m o) (h : RR xs r i j) : RR ys r i j :=
  Reach.ind hx (P := fun j => RR ys r i j) Reach.refl (fun m _ h1 h2 h3 h4 => Reach.step hy h2 (n ▸ h3) (hh m _ h1 h4)) h
theorem hit_more {xs ys : List (Int × Int)} (hx : Inc xs) (hy : Inc ys) (s : SP xs ys) {r : Bool} {m o : Nat} (le : ht xs m ≤ ht ys m) (h : Hit xs r m o) : Hit ys r m o := by
  obtain ⟨h1, h2, h3, h4⟩ := (hit_dI hx).mp h
  exact (hit_dI hy).mpr ⟨s.1 ▸ h1, s.1 ▸ h2, h3, by rw [← s.dI h1 h2]; omega⟩
theorem rr_more {xs ys : List (Int × Int)} (hx : Inc xs) (hy : Inc ys) (s : SP xs ys) (le : ∀ k, k < xs.length → ht xs k ≤ ht ys k) {r : Bool} {i j : Nat} (h : RR xs r i j) : RR ys r i j :=
  reach_hits hx hy s.1 (fun m _ _ q => hit_more hx hy s (le m q.1) q) h
theorem run_same {xs ys : List (Int × Int)} (hx : Inc xs) (hy : Inc ys) (n : xs.length = ys.length) {r : Bool} {i : Nat} (hi : i < xs.length) (h : ∀ j, RR xs r i j ↔ RR ys r i j) : run xs i r = run ys i r := by
  have hi' : i < ys.length := n ▸ hi
  have e : eN xs i r = eN ys i r := leq_anti (((rr_iff hy hi').mp ((h _).mp (e_rr hx hi))).2) (((rr_iff hx hi).mp ((h _).mpr (e_rr hy hi'))).2)
  cases r with
  | true => rw [run_t, run_t, e]
  | false => rw [run_f, run_f, e]
theorem same_e {xs ys : List (Int × Int)} {r : Bool} {i : Nat} (h : run xs i r = run ys i r) : eN xs i r = eN ys i r := by
  cases r with
  | true => exact congrArg Prod.snd h
  | false => exact congrArg Prod.fst h
/-- the row in which a stone has another height -/
def setH (xs : List (Int × Int)) (c : Nat) (h : Int) : List (Int × Int) := xs.set c (pl xs c, h)
theorem setH_len (xs : List (Int × Int)) (c : Nat) (h : Int) : (setH xs c h).length = xs.length := List.length_set ..
theorem setH_get {xs : List (Int × Int)} {c k : Nat} {h : Int} (hc : c < xs.length) : pl (setH xs c h) k = pl xs k ∧ ht (setH xs c h) k = if k = c then h else ht xs k := by
  unfold setH pl ht
  simp only [List.getD_eq_getElem?_getD, List.getElem?_set]
  by_cases e : c = k
  · subst e; simp [hc]
  · simp [e, Ne.symm e]
theorem setH_sp {xs : List (Int × Int)} {c : Nat} {h : Int} (hc : c < xs.length) : SP xs (setH xs c h) := ⟨(setH_len ..).symm, fun k _ => (setH_get hc).1.symm⟩
theorem inc_sp {xs ys : List (Int × Int)} (hx : Inc xs) (s : SP xs ys) : Inc ys := by
  intro a b x y hab ha hb
  have hb' : b < ys.length := (List.getElem?_eq_some_iff.mp hb).1
  rw [← (pl_of ha).1, ← (pl_of hb).1, ← s.2 a (by have := s.1; omega), ← s.2 b (by have := s.1; omega)]
  exact hx.pl hab (by have := s.1; omega)
theorem setH_inc {xs : List (Int × Int)} (hx : Inc xs) {c : Nat} {h : Int} (hc : c < xs.length) : Inc (setH xs c h) := inc_sp hx (setH_sp hc)
theorem setH_set {xs : List (Int × Int)} {c : Nat} {h g : Int} (hc : c < xs.length) : setH (setH xs c h) c g = setH xs c g := by
  unfold setH
  rw [show pl (xs.set c (pl xs c, h)) c = pl xs c from (setH_get (h := h) hc).1, List.set_set]
theorem setH_self {xs : List (Int × Int)} {c : Nat} (hc : c < xs.length) : setH xs c (ht xs c) = xs := by
  unfold setH pl ht
  rw [List.getD_eq_getElem?_getD, List.getElem?_eq_getElem hc]
  exact List.set_getElem_self hc
/-! #### the least height for a goal -/
theorem tell_eq {xs : List (Int × Int)} (hx : Inc xs) {c : Nat} (hc : c < xs.length) {h h' : Int} (q : ∀ o, o < xs.length → o ≠ c → dI xs c o ≤ h → dI xs c o ≤ h') {r : Bool} {i j : Nat} (a : RR (setH xs c h) r i j) : RR (setH xs c h') r i j := by
  refine reach_hits (setH_inc hx hc) (setH_inc hx hc) ((setH_len ..).trans (setH_len ..).symm) (fun m o _ b => ?_) a
  have s := setH_sp (h := h) hc
  have s' := setH_sp (h := h') hc
  obtain ⟨h1, h2, h3, h4⟩ := (hit_dI (setH_inc hx hc)).mp b
  rw [setH_len] at h1 h2
  refine (hit_dI (setH_inc hx hc)).mpr ⟨by rw [setH_len]; exact h1, by rw [setH_len]; exact h2, h3, ?_⟩
  rw [← s.dI h1 h2, (setH_get hc).2] at h4
  rw [← s'.dI h1 h2, (setH_get hc).2]
  split at h4
  · rename_i e
    rw [if_pos e]
    subst e
    exact q o h2 (aft_ne h3) h4
  · rename_i e
    rw [if_neg e]
    exact h4
theorem max_le {h : Int} : ∀ {L : List Int} {t : Int}, t ∈ L → t ≤ h → ∃ u ∈ L, u ≤ h ∧ ∀ v ∈ L, v ≤ h → v ≤ u
  | [], _, q, _ => nomatch q
  | a :: L, t, q, le => by
    by_cases s : ∃ v ∈ L, v ≤ h
    · obtain ⟨v, h1, h2⟩ := s
      obtain ⟨u, u1, u2, u3⟩ := max_le h1 h2
      by_cases b : a ≤ h ∧ u < a
      · exact ⟨a, List.mem_cons_self, b.1, fun v hv lv => (List.mem_cons.mp hv).elim (fun e => by subst e; exact Int.le_refl _) (fun q => by have := u3 v q lv; omega)⟩
      · exact ⟨u, List.mem_cons_of_mem _ u1, u2, fun v hv lv => (List.mem_cons.mp hv).elim (fun e => by subst e; omega) (fun q => u3 v q lv)⟩
    · have ta : t = a := by
        rcases List.mem_cons.mp q with e | e
        · exact e
        · exact absurd ⟨t, e, le⟩ s
      subst ta
      exact ⟨t, List.mem_cons_self, le, fun v hv lv => (List.mem_cons.mp hv).elim (fun e => by subst e; exact Int.le_refl _) (fun q => absurd ⟨v, q, lv⟩ s)⟩
/-- the heights at which something changes -/
structure Tells (xs : List (Int × Int)) (c : Nat) (L : List Int) : Prop where
  one : (1 : Int) ∈ L
  all : ∀ o, o < xs.length → o ≠ c → dI xs c o ∈ L
  no : ∀ t ∈ L, t = 1 ∨ ∃ o, o < xs.length ∧ o ≠ c ∧ t = dI xs c o
  up : L.Pairwise (· ≤ ·)
theorem aft_or {a b : Nat} (h : b ≠ a) : ∃ r, aft r a b := by
  rcases Nat.lt_or_gt_of_ne h with q | q
  · exact ⟨false, q⟩
  · exact ⟨true, q⟩
theorem tell_le {xs : List (Int × Int)} (hx : Inc xs) {c : Nat} (hc : c < xs.length) {L : List Int} (T : Tells xs c L) {t : Int} (h : t ∈ L) : 1 ≤ t := by
  rcases T.no t h with rfl | ⟨o, h1, h2, rfl⟩
  · exact Int.le_refl _
  · obtain ⟨r, q⟩ := aft_or h2
    exact dI_pos hx hc h1 q
theorem tell_at {xs : List (Int × Int)} (hx : Inc xs) {c : Nat} (hc : c < xs.length) {L : List Int} (T : Tells xs c L) {h : Int} (h1 : 1 ≤ h) {r : Bool} {i j : Nat} (a : RR (setH xs c h) r i j) : ∃ t ∈ L, t ≤ h ∧ RR (setH xs c t) r i j := by
  obtain ⟨u, u1, u2, u3⟩ := max_le T.one h1
  exact ⟨u, u1, u2, tell_eq hx hc (fun o ho no q => u3 _ (T.all o ho no) q) a⟩
/-- what is told of a least height -/
def LeastH (xs : List (Int × Int)) (c i g : Nat) (r : Bool) : Option Int → Prop
  | none => ∀ h, 1 ≤ h → ¬ RR (setH xs c h) r i g
  | some h => 1 ≤ h ∧ h ≤ 1000000000 ∧ RR (setH xs c h) r i g ∧ ∀ h', 1 ≤ h' → h' < h → ¬ RR (setH xs c h') r i g
theorem least_none {xs : List (Int × Int)} (hx : Inc xs) {c i g : Nat} (hc : c < xs.length) {r : Bool} {L : List Int} (T : Tells xs c L) (h : ∀ t ∈ L, ¬ RR (setH xs c t) r i g) : LeastH xs c i g r none :=
  fun _ h1 a => let ⟨t, t1, _, t3⟩ := tell_at hx hc T h1 a; h t t1 t3
theorem least_some {xs : List (Int × Int)} (hx : Inc xs) {c i g : Nat} (hc : c < xs.length) {r : Bool} {L : List Int} (T : Tells xs c L) {k : Nat} {h : Int} (hk : L[k]? = some h) (big : h ≤ 1000000000) (a : RR (setH xs c h) r i g) (no : ∀ m t, m < k → L[m]? = some t → ¬ RR (setH xs c t) r i g) : LeastH xs c i g r (some h) := by
  refine ⟨tell_le hx hc T (List.mem_of_getElem? hk), big, a, fun h' h1 lt b => ?_⟩
  obtain ⟨t, t1, t2, t3⟩ := tell_at hx hc T h1 b
  obtain ⟨m, hm, e⟩ := List.mem_iff_getElem.mp t1
  have em : L[m]? = some t := by rw [List.getElem?_eq_getElem hm, e]
  rcases Nat.lt_or_ge m k with q | q
  · exact no m t q em t3
  · have hk' := (List.getElem?_eq_some_iff.mp hk)
    obtain ⟨hk1, hk2⟩ := hk'
    have : h ≤ t := by
      rcases Nat.eq_or_lt_of_le q with q | q
      · subst q; rw [hk2] at e; omega
      · have := List.pairwise_iff_getElem.mp T.up k m hk1 hm q
        rw [hk2, e] at this
        exact this
    omega
/-! #### the least heights with which all runs are the same -/
noncomputable def hN (xs : List (Int × Int)) (i : Nat) (r : Bool) : Int := match (beside r i xs.length).find? (fun o => decide (eN xs o r = eN xs i r)) with | some o => dI xs i o | none => 1
theorem mem_beside {r : Bool} {i n o : Nat} : o ∈ beside r i n ↔ aft r i o ∧ (r = true → o < n) := by
  cases r with
  | true =>
    simp only [beside, if_true, List.mem_map, List.mem_range, aft, forall_const]
    exact ⟨fun ⟨k, h1, h2⟩ => by omega, fun ⟨h1, h2⟩ => ⟨o - (i + 1), by omega, by omega⟩⟩
  | false =>
    simp only [beside, Bool.false_eq_true, if_false, List.mem_map, List.mem_range, aft, false_implies, and_true]
    exact ⟨fun ⟨k, h1, h2⟩ => by omega, fun h1 => ⟨i - 1 - o, by omega, by omega⟩⟩
theorem aft_at {r : Bool} {i n k m o p : Nat} (hk : (beside r i n)[k]? = some o) (hm : (beside r i n)[m]? = some p) : m < k ↔ aft r p o := by
  have lk := (List.getElem?_eq_some_iff.mp hk).1
  have lm := (List.getElem?_eq_some_iff.mp hm).1
  rw [beside_length] at lk lm
  rw [beside_at lk] at hk
  rw [beside_at lm] at hm
  have e1 := Option.some.inj hk
  have e2 := Option.some.inj hm
  subst e1 e2
  cases r <;> simp only [bpos, bmax, aft, if_true, Bool.false_eq_true, if_false] at * <;> omega
theorem hN_one {xs : List (Int × Int)} {i : Nat} {r : Bool} (h : ∀ o, o < xs.length → aft r i o → eN xs o r ≠ eN xs i r) (hi : i < xs.length) : hN xs i r = 1 := by
  unfold hN
  rw [List.find?_eq_none.mpr fun o ho => by
    have q := mem_beside.mp ho
    have := h o (beside_lt hi o ho) q.1
    simp [this]]
inductive HSpec (xs : List (Int × Int)) (i : Nat) (r : Bool) : Int → Prop
  | one : (∀ o, o < xs.length → aft r i o → eN xs o r ≠ eN xs i r) → HSpec xs i r 1
  | away (j : Nat) : j < xs.length → aft r i j → eN xs j r = eN xs i r → (∀ o, aft r i o → aft r o j → eN xs o r ≠ eN xs i r) → HSpec xs i r (dI xs i j)
theorem hN_spec {xs : List (Int × Int)} {i : Nat} {r : Bool} (hi : i < xs.length) : HSpec xs i r (hN xs i r) := by
  unfold hN
  split
  · rename_i o h
    obtain ⟨h1, k, hk, h2, h3⟩ := List.find?_eq_some_iff_getElem.mp h
    have ek : (beside r i xs.length)[k]? = some o := by rw [List.getElem?_eq_getElem hk, h2]
    have mo := List.mem_of_getElem? ek
    refine .away o (beside_lt hi o mo) (mem_beside.mp mo).1 (by simpa using h1) fun p p1 p2 q => ?_
    have mp : p ∈ beside r i xs.length := mem_beside.mpr ⟨p1, fun e => by have := beside_lt hi o mo; subst e; simp only [aft] at p2; omega⟩
    obtain ⟨m, hm, em⟩ := List.mem_iff_getElem.mp mp
    have em' : (beside r i xs.length)[m]? = some p := by rw [List.getElem?_eq_getElem hm, em]
    have := h3 m ((aft_at ek em').mpr p2)
    rw [em] at this
    simp [q] at this
  · rename_i h
    have h := List.find?_eq_none.mp h
    refine .one fun o ho a q => h o (mem_beside.mpr ⟨a, fun _ => ho⟩) (by simp [q])
theorem hN_pos {xs : List (Int × Int)} (hx : Inc xs) {i : Nat} {r : Bool} (hi : i < xs.length) : 1 ≤ hN xs i r := by
  have S := hN_spec (r := r) hi
  generalize hN xs i r = v at S
  cases S with
  | one h => exact Int.le_refl _
  | away j h1 h2 h3 h4 => exact dI_pos hx hi h1 h2
/-- a run that is more than its stone has a stone that is hit and runs as far -/
theorem hit_end {xs : List (Int × Int)} (hx : Inc xs) {i : Nat} {r : Bool} (hi : i < xs.length) (n : eN xs i r ≠ i) : ∃ m, Hit xs r i m ∧ eN xs m r = eN xs i r := by
  rcases rr_first hx (e_rr hx (r := r) hi) with q | ⟨m, h1, h2⟩
  · exact absurd q n
  · exact ⟨m, h1, e_of hx hi (rr_one hx h1) h2⟩
theorem hN_le {xs : List (Int × Int)} (hx : Inc xs) {i : Nat} {r : Bool} (hi : i < xs.length) (h1 : 1 ≤ ht xs i) : hN xs i r ≤ ht xs i := by
  have S := hN_spec (r := r) hi
  generalize hN xs i r = v at S
  cases S with
  | one h => exact h1
  | away j j1 j2 j3 j4 =>
    have n : eN xs i r ≠ i := fun e => by
      have := (e_in hx (r := r) j1).1
      rw [j3, e] at this
      exact (not_leq.mpr j2) this
    obtain ⟨m, m1, m2⟩ := hit_end hx hi n
    obtain ⟨_, m3, m4, m5⟩ := (hit_dI hx).mp m1
    have : leq r j m := not_aft.mp fun q => j4 m m4 q m2
    have := dI_le hx hi j1 m3 j2 this
    omega
theorem low_end {xs ys : List (Int × Int)} (hx : Inc xs) (hy : Inc ys) (s : SP xs ys) (enough : ∀ k, k < xs.length → ∀ r, hN xs k r ≤ ht ys k) {r : Bool} : ∀ (d i : Nat), i < xs.length → bmax r i xs.length ≤ d → RR ys r i (eN xs i r)
  | d, i, hi, hd => by
    by_cases n : eN xs i r = i
    · rw [n]; exact Reach.refl
    · have S := hN_spec (r := r) hi
      have le := enough i hi r
      generalize hN xs i r = v at S le
      cases S with
      | one h =>
        have e := e_in hx (r := r) hi
        have ee : eN xs (eN xs i r) r = eN xs i r := e_of hx hi (e_rr hx hi) Reach.refl
        exact absurd ee (h _ e.2 (aft_of e.1 n))
      | away j j1 j2 j3 j4 =>
        have hh : Hit ys r i j := (hit_dI hy).mpr ⟨s.1 ▸ hi, s.1 ▸ j1, j2, by rw [← s.dI hi j1]; exact le⟩
        have lt : bmax r j xs.length < bmax r i xs.length := by cases r <;> simp only [bmax, aft, if_true, Bool.false_eq_true, if_false] at * <;> omega
        cases d with
        | zero => omega
        | succ d =>
          have ih := low_end hx hy s enough (r := r) d j j1 (by omega)
          rw [← j3]
          exact rr_trans hy (rr_one hy hh) ih
theorem low_same {xs ys : List (Int × Int)} (hx : Inc xs) (hy : Inc ys) (s : SP xs ys) (enough : ∀ k, k < xs.length → ∀ r, hN xs k r ≤ ht ys k) (less : ∀ k, k < xs.length → ht ys k ≤ ht xs k) {r : Bool} {i : Nat} (hi : i < xs.length) : run xs i r = run ys i r := by
  have hi' : i < ys.length := s.1 ▸ hi
  refine run_same hx hy s.1 hi fun j => ⟨fun a => ?_, fun a => rr_more hy hx s.symm (fun k q => less k (s.1 ▸ q)) a⟩
  have a := (rr_iff hx hi).mp a
  have b := (rr_iff hy hi').mp (low_end (r := r) hx hy s enough _ i hi (Nat.le_refl _))
  exact (rr_iff hy hi').mpr ⟨a.1, leq_trans a.2 b.2⟩
/-- one less does not -/
theorem low_less {xs ys : List (Int × Int)} (hx : Inc xs) (hy : Inc ys) (s : SP xs ys) (less : ∀ k, k < xs.length → ht ys k ≤ ht xs k) {r : Bool} {i : Nat} (hi : i < xs.length) {h : Int} (h1 : h < hN xs i r) (h2 : 1 ≤ h) (hh : h ≤ ht ys i) : ¬ RR (setH ys i h) r i (eN xs i r) := by
  intro q
  have hi' : i < ys.length := s.1 ▸ hi
  have S := hN_spec (r := r) hi
  generalize hN xs i r = v at S h1
  cases S with
  | one h => omega
  | away j j1 j2 j3 j4 =>
    have hz := setH_inc hy (h := h) hi'
    have sz := setH_sp (h := h) hi'
    rcases rr_first hz q with e | ⟨m, m1, m2⟩
    · have := (e_in hx (r := r) j1).1
      rw [j3, e] at this
      exact (not_leq.mpr j2) this
    · obtain ⟨_, m3, m4, m5⟩ := (hit_dI hz).mp m1
      rw [setH_len] at m3
      rw [← sz.dI hi' m3, (setH_get hi').2, if_pos rfl, ← s.dI hi (s.1 ▸ m3)] at m5
      have bef : aft r m j := not_leq.mp fun q => by have := dI_le hx hi j1 (s.1 ▸ m3) j2 q; omega
      refine j4 m m4 bef ?_
      have lez : ∀ k, k < (setH ys i h).length → ht (setH ys i h) k ≤ ht xs k := fun k hk => by
        rw [setH_len] at hk
        have := less k (s.1 ▸ hk)
        rw [(setH_get hi').2]
        split
        · rename_i e; subst e; omega
        · exact this
      have szx := (s.trans sz).symm
      exact e_of hx hi (rr_more hz hx szx lez (rr_one hz m1)) (rr_more hz hx szx lez m2)
/-! #### how much a stone can grow -/
theorem grow_same {xs : List (Int × Int)} (hx : Inc xs) {i : Nat} (hi : i < xs.length) {h : Int} (h1 : ht xs i ≤ h) {r : Bool} (no : ∀ o, o < xs.length → aft r (eN xs i r) o → h < dI xs i o) : run (setH xs i h) i r = run xs i r := by
  have hz := setH_inc hx (h := h) hi
  have sz := setH_sp (h := h) hi
  have lez : ∀ k, k < xs.length → ht xs k ≤ ht (setH xs i h) k := fun k hk => by
    rw [(setH_get hi).2]
    split
    · rename_i e; subst e; omega
    · exact Int.le_refl _
  refine run_same hz hx (setH_len ..) (by rw [setH_len]; exact hi) fun j => ⟨fun a => ?_, fun a => rr_more hx hz sz lez a⟩
  refine Reach.ind hz (P := fun j => RR xs r i j) Reach.refl (fun m j _ b _ hh => ?_) a
  obtain ⟨q1, q2, q3, q4⟩ := (hit_dI hz).mp hh
  rw [setH_len] at q1 q2
  rw [← sz.dI q1 q2, (setH_get hi).2] at q4
  by_cases e : m = i
  · subst e
    rw [if_pos rfl] at q4
    exact (rr_iff hx hi).mpr ⟨aft_leq q3, not_aft.mp fun z => by have := no j q2 z; omega⟩
  · rw [if_neg e] at q4
    exact rr_trans hx b (rr_one hx ((hit_dI hx).mpr ⟨q1, q2, q3, q4⟩))
theorem grow_more {xs : List (Int × Int)} (hx : Inc xs) {i : Nat} (hi : i < xs.length) {h : Int} {r : Bool} {o : Nat} (ho : o < xs.length) (a : aft r (eN xs i r) o) (le : dI xs i o ≤ h) : run (setH xs i h) i r ≠ run xs i r := by
  intro q
  have hz := setH_inc hx (h := h) hi
  have sz := setH_sp (h := h) hi
  have ai : aft r i o := by have := (e_in hx (r := r) hi).1; cases r <;> simp only [aft, leq] at * <;> omega
  have hh : Hit (setH xs i h) r i o := (hit_dI hz).mpr ⟨by rw [setH_len]; exact hi, by rw [setH_len]; exact ho, ai, by rw [← sz.dI hi ho, (setH_get hi).2, if_pos rfl]; exact le⟩
  have b := ((rr_iff hz (by rw [setH_len]; exact hi)).mp (rr_one hz hh)).2
  rw [same_e q] at b
  exact (not_leq.mpr a) b
/-- a stone behind the end of a run is farther than the height -/
theorem behind {xs : List (Int × Int)} (hx : Inc xs) {i : Nat} (hi : i < xs.length) {r : Bool} {o : Nat} (ho : o < xs.length) (a : aft r (eN xs i r) o) : ht xs i < dI xs i o := by
  have ai : aft r i o := by have := (e_in hx (r := r) hi).1; cases r <;> simp only [aft, leq] at * <;> omega
  rcases Int.lt_or_le (ht xs i) (dI xs i o) with q | q
  · exact q
  · have hh : Hit xs r i o := (hit_dI hx).mpr ⟨hi, ho, ai, q⟩
    exact absurd ((rr_iff hx hi).mp (rr_one hx hh)).2 (not_leq.mpr a)
theorem nm_of {i : Nat} {v : V} {σ : L2.St} {H : Hp} {Q : L2.St → Hp → Prop} (h : Q (σ.set i (some v)) H) : gName i v σ H Q := h
theorem Wf.mono : ∀ {xs : List (Int × Int)} {lo lo' : Int}, lo ≤ lo' → Wf lo' xs → Wf lo xs
  | [], _, _, _, _ => True.intro
  | _ :: _, _, _, h, w => ⟨Int.le_trans h w.1, w.2⟩
theorem Wf.sublist {l xs : List (Int × Int)} (s : l.Sublist xs) : ∀ {lo : Int}, Wf lo xs → Wf lo l := by
  induction s with
  | slnil => exact fun _ => True.intro
  | cons a _ ih => exact fun w => ih (Wf.mono (by have := w.1; omega) w.2.2.2.2)
  | cons_cons a _ ih => exact fun w => ⟨w.1, w.2.1, w.2.2.1, w.2.2.2.1, ih w.2.2.2.2⟩
/-! ### stones and places of a row, distances, stones that reach -/
def spItem (K : PySem.W.Frag) (C : Addr) : Sp := fun vs H Q _ => ∃ (p : Addr) (xs : List (Int × Int)) (i : Nat) (x : Int × Int), vs = [.ref p, .int (i : Nat)] ∧ RowAt K C H p xs ∧ xs[i]? = some x ∧ ∀ a, SqT K H a [.int x.1, .int x.2] → Q (.ref a) H
def plV (xs : List (Int × Int)) : List V := xs.map fun x => V.int x.1
def spPlaces (K : PySem.W.Frag) (C : Addr) : Sp := fun vs H Q _ => ∃ (p : Addr) (xs : List (Int × Int)), vs = [.ref p] ∧ RowAt K C H p xs ∧ xs.length ≤ 40 ∧ ∀ z H', Same H H' → H z = none → H' z = some (.tup (plV xs)) → Q (.ref z) H'
def spDist (K : PySem.W.Frag) (C : Addr) : Sp := fun vs H Q _ => ∃ (p : Addr) (xs : List (Int × Int)) (a b : Nat), vs = [.ref p, .int (a : Nat), .int (b : Nat)] ∧ RowAt K C H p xs ∧ xs.length ≤ 40 ∧ a < xs.length ∧ b < xs.length ∧ ∀ H', Same H H' → Q (.int (ab (pl xs b - pl xs a))) H'
def spTouch (K : PySem.W.Frag) (C : Addr) : Sp := fun vs H Q _ => ∃ (p : Addr) (xs : List (Int × Int)) (a b : Nat), vs = [.ref p, .int (a : Nat), .int (b : Nat)] ∧ RowAt K C H p xs ∧ xs.length ≤ 40 ∧ a < xs.length ∧ b < xs.length ∧ ∀ H', Same H H' → Q (.bl (touch xs a b)) H'
def spBetw (K : PySem.W.Frag) (C : Addr) : Sp := fun vs H Q _ => ∃ (p : Addr) (xs : List (Int × Int)) (i s : Nat), vs = [.ref p, .int (i : Nat), .int (s : Nat)] ∧ RowAt K C H p xs ∧ xs.length ≤ 40 ∧ i < xs.length ∧ s < xs.length ∧ ∀ z H', Same H H' → H z = none → H' z = some (.lst (ivs (rbt xs i s))) → Q (.ref z) H'
theorem pl_get {xs : List (Int × Int)} {a : Nat} (h : a < xs.length) : atI (plV xs) ((a : Nat) : Int) = some (.int (pl xs a)) := by
  refine atI_nat ?_
  unfold plV pl
  rw [List.getElem?_map]
  simp [List.getD, h]
theorem filter_all {α : Type} (l : List α) : l.filter (fun _ => true) = l := List.filter_eq_self.mpr fun _ _ => rfl
section
variable {P : Program} {w : World} {K : PySem.W.Frag} {mg : Str → Option Value} {base : Heap}
theorem ok_item {f C g1 : Addr} {fd d1 : FuncData} (F : Fun K "__getitem__" "Row.__getitem__" s_Row_getitem f fd) (B : Blt mg) (R : RowC K mg C) (N1 : At P w K mg base CX0 2 "check_stone" ["stone", "count"] spCheckStone g1 d1) :
    FnOk P w K mg base CX0 3 f fd ["self", "stone"] (spItem K C) := by
  refine F.ok sc_Row_getitem (fun vs H Q E h => ?_) (fun cdv A outer s H vs Q E hr h => ?_)
  · obtain ⟨p, xs, i, x, rfl, _⟩ := h
    rfl
  · obtain ⟨p, xs, i, x, rfl, ⟨dx, t, us, ep, hT, hS⟩, hx, k⟩ := h
    refine ⟨_, pss_cons (ps_expr (pe_at N1 hr (pa_cons (pv 1) (pa_cons (pe_callB call_len_seq (by rfl) B.len PySem.boot_len (pa_cons (pe_fld (pv 0) rfl) pa_nil)) pa_nil))))
      (pss_one (ps_ret (pe_ix ix_tup (pe_fld (pv 0) rfl) (pv 1) (fun _ _ => rfl)))), ?_⟩
    obtain ⟨a, ha, sa⟩ := hS.2 i x hx
    have hi := (List.getElem?_eq_some_iff.mp hx).1
    refine ⟨_, rfl, _, rfl, p, C, dx, _, _, rfl, ep, R.cl, R.nS, rfl, t, us, rfl, .inr hT, ?_⟩
    refine ⟨i, xs.length, by rw [hS.1]; rfl, hi, ?_⟩
    exact ⟨_, rfl, p, C, dx, _, _, rfl, ep, R.cl, R.nS, rfl, _, rfl, t, us, ((i : Nat) : Int), _, rfl, rfl, hT, atI_nat ha, k a sa⟩
theorem ok_places {f C : Addr} {fd : FuncData} (F : Fun K "places" "Row.places" s_Row_places f fd) (B : Blt mg) (R : RowC K mg C) : FnOk P w K mg base CX0 1 f fd ["self"] (spPlaces K C) := by
  refine F.ok sc_Row_places (fun vs H Q E h => ?_) (fun cdv A outer s H vs Q E hr h => ?_)
  · obtain ⟨p, xs, rfl, _⟩ := h
    rfl
  · obtain ⟨p, xs, rfl, ⟨dx, t, us, ep, hT, hS⟩, hz, k⟩ := h
    refine ⟨_, pss_one (ps_ret (pe_tupleOf (by rfl) B.tuple (pe_lc (own := [("place", 1), ("_", 2)]) (g := gTup K 2 (gCons (gName 1) (gCons (gName 2) gNil))) (tt := tYes) rfl sc_Row_places.nd (pi_tup (pe_fld (pv 0) rfl)) (blkOk_by (N := n_Row_places) (sc := defScope s_Row_places) (by decide +kernel))
        (fun _ _ _ _ _ => (show PG _ _ (gTup K 2 (gCons (gName 1) (gCons (gName 2) gNil))) from pg_tup rfl (pgs_cons (pg_name (i := 1) sc_Row_places.nd rfl (Or.inl rfl)) (pgs_cons (pg_name (i := 2) sc_Row_places.nd rfl (Or.inl rfl)) pgs_nil)))) (fun _ _ _ _ _ => pts_nil) (fun _ _ _ _ _ => pv 1)))), ?_⟩
    refine ⟨_, rfl, p, C, dx, _, _, rfl, ep, R.cl, R.nS, rfl, t, rfl, ⟨_, hT⟩, fun D nD => lc_fm (walk_tup (K := K) (a := t) (xs := us)) xs (fun _ => true) (fun x => x.1) (fun _ v n => v = V.int n) hS.1.symm (by rw [hS.1]; omega) nD (fun _ _ _ _ _ _ _ q => q) (fun _ e => sqT_same hT e) ?_ ?_⟩
    · rintro n x v G G' N M hp sm _ ⟨rfl, hx⟩ _ go
      obtain ⟨a, ha, sa⟩ := hS.2 n x hp
      obtain rfl : v = .ref a := Option.some.inj (hx.symm.trans ha)
      exact ⟨a, _, rfl, sqT_same sa sm, rfl, _, _, rfl, _, _, rfl, rfl, rfl, _, rfl, go _ _ rfl (Same.refl _) rfl⟩
    · intro G ys sm eD rel
      rw [filter_all] at rel
      have e := paired_eq (fun n : Int => V.int n) rel
      rw [List.map_map] at e
      refine .inl ⟨D, ys, rfl, SqL.of eD, fun q nq => k q _ (sm.trans (same_new nq)) (Same.free sm nq) ?_⟩
      rw [upd_same, e]
      rfl
theorem ok_dist {f C pP gP : Addr} {fd dP : FuncData} (F : Fun K "_distance" "_distance" s_distance f fd) (B : Blt mg) (R : RowC K mg C) (pr : PropOf K C "places" pP gP) (P1 : FnOk P w K mg base CX0 1 gP dP ["self"] (spPlaces K C)) (bP : Binds K dP ["self"] []) :
    FnOk P w K mg base CX0 3 f fd ["row", "stone", "other"] (spDist K C) := by
  refine F.ok sc_distance (fun vs H Q E h => ?_) (fun cdv A outer s H vs Q E hr h => ?_)
  · obtain ⟨p, xs, a, b, rfl, _⟩ := h
    rfl
  · obtain ⟨p, xs, a, b, rfl, hR, hz, ha, hb, k⟩ := h
    obtain ⟨dx, t, us, ep, hT, hS⟩ := id hR
    refine ⟨_, pss_one (ps_ret (pe_callB (call_abs) (by rfl) B.abs boot_abs (pa_cons (pe_op op_sub (pe_ix ix_tup (pe_prop (pv 0) R.cl pr P1 hr bP .nil pass0 rfl) (pv 2) (fun _ _ => rfl)) (pe_ix ix_tup (pe_prop (pv 0) R.cl pr P1 hr bP .nil pass0 rfl) (pv 1) (fun _ _ => rfl))) pa_nil))), ?_⟩
    refine ⟨_, rfl, p, dx, _, rfl, ep, p, xs, rfl, hR, hz, fun z1 H1 s1 n1 e1 => ⟨_, rfl, z1, _, _, _, rfl, rfl, SqT.of e1, pl_get hb, ?_⟩⟩
    refine ⟨_, rfl, p, dx, _, rfl, s1 _ _ ep, p, xs, rfl, hR.same s1, hz, fun z2 H2 s2 n2 e2 => ⟨_, rfl, z2, _, _, _, rfl, rfl, SqT.of e2, pl_get ha, ?_⟩⟩
    exact ⟨_, _, rfl, rfl, _, rfl, k _ (s1.trans s2)⟩
theorem ok_touch {f C g n1 : Addr} {fd nd1 : FuncData} (F : Fun K "_reaches" "_reaches" s_reaches2 f fd) (R : RowC K mg C) (SG : Sign K C "__getitem__" g) (fi : PySem.W.fnIn K g = true) (G : FnR P w K mg base CX0 3 g (spItem K C)) (N : At P w K mg base CX0 3 "_distance" ["row", "stone", "other"] (spDist K C) n1 nd1) :
    FnOk P w K mg base CX0 5 f fd ["row", "stone", "other"] (spTouch K C) := by
  refine F.ok sc_reaches2 (fun vs H Q E h => ?_) (fun cdv A outer s H vs Q E hr h => ?_)
  · obtain ⟨p, xs, a, b, rfl, _⟩ := h
    rfl
  · obtain ⟨p, xs, a, b, rfl, hR, hz, ha, hb, k⟩ := h
    obtain ⟨dx, t, us, ep, hT, hS⟩ := id hR
    refine ⟨_, pss_cons (ps_asg (Cut.pe_sub SG.at_ fi SG.fn G hr pass0 (pv 0) (pv 1) (fun _ _ => rfl)) (pg_tup rfl (pgs_cons (pg_name (i := 3) sc_reaches2.nd rfl (Or.inl rfl)) (pgs_cons (pg_name (i := 4) sc_reaches2.nd rfl (Or.inl rfl)) pgs_nil))))
      (pss_one (ps_ret (pe_cmpR (op_le) (pe_at N (hr.mono (by decide)) (pa_cons (pv 0) (pa_cons (pv 1) (pa_cons (pv 2) pa_nil)))) (pv 4) (nomark _)))), ?_⟩
    obtain ⟨x, hx⟩ : ∃ x, xs[a]? = some x := ⟨xs[a], by simp [ha]⟩
    refine ⟨_, rfl, _, rfl, p, dx, _, rfl, ep, p, xs, a, x, rfl, hR, hx, fun q hq => ⟨q, _, rfl, hq, rfl, _, _, rfl, _, _, rfl, rfl, ?_⟩⟩
    refine ⟨_, rfl, _, rfl, _, rfl, p, xs, a, b, rfl, hR, hz, ha, hb, fun H1 s1 => ⟨_, rfl, _, _, rfl, rfl, ?_⟩⟩
    have := k H1 s1
    unfold touch at this
    rw [(pl_of hx).2] at this
    exact this
theorem ok_betw {f C g : Addr} {fd gd : FuncData} (F : Fun K "_reaching_between" "_reaching_between" s_reaching_between f fd) (B : Blt mg) (N : At P w K mg base CX0 5 "reaches_cutting" ["row", "stone", "other"] (spTouch K C) g gd) :
    FnOk P w K mg base CX0 6 f fd ["row", "stone", "spared"] (spBetw K C) := by
  refine F.ok sc_reaching_between (fun vs H Q E h => ?_) (fun cdv A outer s H vs Q E hr h => ?_)
  · obtain ⟨p, xs, i, s, rfl, _⟩ := h
    rfl
  · obtain ⟨p, xs, i, s', rfl, hR, hz, hi, hs, k⟩ := h
    refine ⟨_, pss_cons (ps_set (i := 3) sc_reaching_between.nd rfl (Or.inl rfl) (pe_callTy cr_range2 (by rfl) B.range boot_range (pa_cons (pe_op op_add (pe_callB ((call_min2 rfl)) (by rfl) B.min boot_min (pa_cons (pv 1) (pa_cons (pv 2) pa_nil))) (pe_int)) (pa_cons (pe_callB ((call_max2 rfl)) (by rfl) B.max boot_max (pa_cons (pv 1) (pa_cons (pv 2) pa_nil))) pa_nil))))
      (pss_one (ps_ret (pe_lc (own := [("other", 4)]) (g := gName 4) rfl sc_reaching_between.nd (Cut.pi_rngO (pv 3)) (blkOk_by (N := n_reaching_between) (sc := defScope s_reaching_between) (by decide +kernel))
        (fun _ _ _ _ _ => pg_name (i := 4) sc_reaching_between.nd rfl (Or.inl rfl)) (fun _ _ _ _ _ => pts_one (show PT _ _ (tB (tCall (spTouch K C) [] E0 (tCons (tVar 0) (tCons (tVar 4) (tCons (tVar 2) tNil))))) from pt_val (pe_at N hr (pa_cons (pv 0) (pa_cons (pv 4) (pa_cons (pv 2) pa_nil)))))) (fun _ _ _ _ _ => pv 4)))), ?_⟩
    refine ⟨_, rfl, _, rfl, _, _, rfl, _, _, rfl, rfl, _, rfl, _, rfl, _, _, rfl, _, _, rfl, fun q nq => ?_⟩
    have emin : (if (s' : Int) < (i : Int) then (s' : Int) else (i : Int)) + 1 = ((min i s' + 1 : Nat) : Int) := by split <;> omega
    have emax : (if (s' : Int) > (i : Int) then (s' : Int) else (i : Int)) = ((max i s' : Nat) : Int) := by split <;> omega
    rw [emin, emax]
    refine nm_of ?_
    have s1 := same_new (o := .rng ((min i s' + 1 : Nat) : Int) ((max i s' : Nat) : Int)) nq
    refine ⟨_, rfl, q, _, _, rfl, upd_same, by omega, fun D nD => ?_⟩
    rw [show (((max i s' : Nat) : Int) - ((min i s' + 1 : Nat) : Int)).toNat = max i s' - (min i s' + 1) by omega]
    refine lc_fm (walk_range (lo := ((min i s' + 1 : Nat) : Int)) (n := max i s' - (min i s' + 1))) (betw i s') (fun k => touch xs k s') (fun k => k) (fun _ v n => v = V.int (n : Nat)) (by unfold betw; rw [List.length_map, List.length_range]) (by omega) nD (fun _ _ _ _ _ _ _ q => q) (fun _ _ => True.intro) ?_ ?_
    · rintro n o x G G' N' M hp sm _ ⟨rfl, hx⟩ no go
      have eo : o = min i s' + 1 + n := by
        unfold betw at hp
        rw [List.getElem?_map] at hp
        obtain ⟨a, ha, rfl⟩ := Option.map_eq_some_iff.mp hp
        have := (List.getElem?_eq_some_iff.mp ha).2
        rw [List.getElem_range] at this
        omega
      have hb := mem_betw.mp (List.mem_of_getElem? hp)
      obtain rfl : x = V.int (o : Nat) := hx.trans (congrArg V.int (by omega))
      refine ⟨rfl, _, rfl, _, rfl, _, rfl, p, xs, o, s', rfl, (hR.same s1).same sm, hz, by omega, hs, fun H5 s5 => ⟨_, rfl, ?_⟩⟩
      cases e : touch xs o s' with
      | true => exact iteT ⟨_, rfl, go _ H5 e s5 rfl⟩
      | false => exact iteF (no H5 e s5)
    · intro G ys sm eD rel
      rw [List.map_id'] at rel
      have e := paired_eq (fun n : Nat => V.int (n : Int)) rel
      refine k D G (s1.trans sm) (Same.free s1 nD) ?_
      rw [eD, e]
      rfl
end
/-! ### the fewest to take away, and what is spared -/
noncomputable def sparedL (xs : List (Int × Int)) (i : Nat) (r : Bool) (o : Nat) : List Nat := (fellsL xs [] i r).filter fun j => @decide (j ≠ o ∧ ¬ (o ≠ i ∧ Reach xs (leftL xs.length [o]) r i j)) (Classical.propDecidable _)
def fewT (xs : List (Int × Int)) (i g : Nat) (r : Bool) : Option (List Nat) := if (run xs i r).1 ≤ g ∧ g ≤ (run xs i r).2 then few xs i (cand r i xs.length (gap i g)) else some []
def spFewT (K : PySem.W.Frag) (C : Addr) : Sp := fun vs H Q _ => ∃ (p : Addr) (xs : List (Int × Int)) (i g : Nat) (r : Bool), vs = [.ref p, .int (i : Nat), .str (sideS r), .int (g : Nat)] ∧ RowAt K C H p xs ∧ Inc xs ∧ xs.length ≤ 40 ∧ i < xs.length ∧ g < xs.length ∧
  (fewT xs i g r = none → ∀ H', Same H H' → Q .non H') ∧ ∀ t, fewT xs i g r = some t → ∀ z H', Same H H' → H z = none → H' z = some (.lst (ivs t)) → Q (.ref z) H'
def spFelledW (K : PySem.W.Frag) (C : Addr) : Sp := fun vs H Q _ => ∃ (p : Addr) (xs : List (Int × Int)) (i o : Nat) (r : Bool), vs = [.ref p, .int (i : Nat), .str (sideS r), .int (o : Nat)] ∧ RowAt K C H p xs ∧ Inc xs ∧ xs.length ≤ 40 ∧ i < xs.length ∧ o < xs.length ∧
  ∀ (ms : List Int) z H', (∀ j : Nat, (j : Int) ∈ ms ↔ (o ≠ i ∧ Reach xs (leftL xs.length [o]) r i j)) → Same H H' → H z = none → H' z = some (.lst (ms.map V.int)) → Q (.ref z) H'
def spSpared (K : PySem.W.Frag) (C : Addr) : Sp := fun vs H Q _ => ∃ (p : Addr) (xs : List (Int × Int)) (i o : Nat) (r : Bool), vs = [.ref p, .int (i : Nat), .str (sideS r), .int (o : Nat)] ∧ RowAt K C H p xs ∧ Inc xs ∧ xs.length ≤ 40 ∧ i < xs.length ∧ o < xs.length ∧
  ∀ z H', Same H H' → H z = none → H' z = some (.lst (ivs (sparedL xs i r o))) → Q (.ref z) H'
def FewV (H0 H : Hp) (v : V) : Option (List Nat) → Prop
  | none => v = .non
  | some t => ∃ z, v = .ref z ∧ H0 z = none ∧ H z = some (.lst (ivs t))
theorem FewV.same {H0 H H' : Hp} {v : V} {o : Option (List Nat)} (h : FewV H0 H v o) (e : Same H H') : FewV H0 H' v o := by
  cases o with
  | none => exact h
  | some t => obtain ⟨z, rfl, h0, hz⟩ := h; exact ⟨z, rfl, h0, e _ _ hz⟩
theorem inV_int {j : Int} {ms : List Int} : inV (.int j) (ms.map V.int) = decide (j ∈ ms) := by
  unfold inV
  rw [List.any_map, Bool.eq_iff_iff, List.any_eq_true, decide_eq_true_eq]
  constructor
  · rintro ⟨y, hy, e⟩
    have : y = j := by simpa [eqV] using e
    exact this ▸ hy
  · intro h
    exact ⟨j, h, by simp [eqV]⟩
theorem flat_ints (ms : List Int) : (ms.map V.int).all flatV = true := by
  rw [List.all_eq_true]
  intro v hv
  obtain ⟨k, _, rfl⟩ := List.mem_map.mp hv
  rfl
theorem ivs_ints (ns : List Nat) : ivs ns = (ns.map fun (k : Nat) => (k : Int)).map V.int := by
  unfold ivs
  rw [List.map_map]
  rfl
theorem ab_gap (i g : Nat) : ab ((g : Int) - (i : Int)) = ((gap i g : Nat) : Int) := by
  unfold ab gap
  split <;> split <;> omega
theorem cut_ivs {ns : List Nat} {G : Nat} : cutV (ivs ns) none (some ((G : Nat) : Int)) = ivs (ns.take G) := by
  unfold cutV
  rw [HT.sIx_none, HT.sIx_nat]
  unfold ivs
  rw [List.drop_zero, List.length_map, Nat.sub_zero, List.map_take]
  rcases Nat.le_total G ns.length with h | h
  · rw [Nat.min_eq_left h]
  · rw [Nat.min_eq_right h, List.take_of_length_le (by rw [List.length_map]; exact Nat.le_refl _), List.take_of_length_le (by rw [List.length_map]; exact h)]
section
variable {P : Program} {w : World} {K : PySem.W.Frag} {mg : Str → Option Value} {base : Heap}
theorem ok_fewT {f C gC gL g1 g2 g3 g4 : Addr} {fd d1 d2 d3 d4 : FuncData} (F : Fun K "fewest_taken" "fewest_taken" s_fewest_taken f fd) (B : Blt mg) (R : RowC K mg C) (O : StX.CallO K C gC) (GC : FnR P w K mg base CX0 3 gC (spCall K C))
    (SL : Sign K C "__len__" gL) (GL : FnR P w K mg base CX0 1 gL (spLen K C)) (N1 : At P w K mg base CX0 2 "check_stone" ["stone", "count"] spCheckStone g1 d1)
    (N2 : At P w K mg base CX0 1 "stones_beside" ["stone", "side", "count"] spBeside g2 d2) (N3 : At P w K mg base CX0 6 "_reaching_between" ["row", "stone", "spared"] (spBetw K C) g3 d3) (N4 : At P w K mg base CX0 5 "reaches_cutting" ["row", "stone", "other"] (spTouch K C) g4 d4) :
    FnOk P w K mg base CX0 7 f fd ["row", "stone", "side", "goal"] (spFewT K C) := by
  refine F.ok sc_fewest_taken (fun vs H Q E h => ?_) (fun cdv A outer s H vs Q E hr h => ?_)
  · obtain ⟨p, xs, i, g, r, rfl, _⟩ := h
    rfl
  · obtain ⟨p, xs, i, g, r, rfl, hR, hx, hz, hi, hg, kN, kS⟩ := h
    obtain ⟨dx, t, us, ep, hT, hS⟩ := id hR
    have r5 : Room 5 _ := hr.mono (by decide)
    have r3 : Room 3 _ := hr.mono (by decide)
    have r2 : Room 2 _ := hr.mono (by decide)
    have r1 : Room 1 _ := hr.mono (by decide)
    refine ⟨_, pss_cons (ps_asg (StX.pe_callO (pv 0) O GC r3 pass0 (pa_cons (pv 1) (pa_cons (pv 2) pa_nil))) (pg_tup rfl (pgs_cons (pg_name (i := 4) sc_fewest_taken.nd rfl (Or.inl rfl)) (pgs_cons (pg_name (i := 5) sc_fewest_taken.nd rfl (Or.inl rfl)) pgs_nil))))
      (pss_cons (ps_expr (pe_at N1 r2 (pa_cons (pv 3) (pa_cons (pe_callB (Own.call_len SL.at_ SL.fn GL r2 pass0) (by rfl) B.len PySem.boot_len (pa_cons (pv 0) pa_nil)) pa_nil))))
      (pss_cons (ps_if (pt_not (pt_chain op_le op_le (pv 4) (pv 3) (pv 5))) (pss_one (ps_ret (pe_lst pa_nil))) pss_nil)
      (pss_cons (ps_set (i := 6) sc_fewest_taken.nd rfl (Or.inl rfl) (pe_non))
      (pss_cons (ps_for PassesOwn.never rfl (pi_list (pe_slice sl_list (pe_at N2 r1 (pa_cons (pv 1) (pa_cons (pv 2) (pa_cons (pe_callB (Own.call_len SL.at_ SL.fn GL r2 pass0) (by rfl) B.len PySem.boot_len (pa_cons (pv 0) pa_nil)) pa_nil)))) po_none (po_some (pe_callB (call_abs) (by rfl) B.abs boot_abs (pa_cons (pe_op op_sub (pv 3) (pv 1)) pa_nil))))) (pg_name (i := 7) sc_fewest_taken.nd rfl (Or.inl rfl))
        (pss_cons (ps_set (i := 8) sc_fewest_taken.nd rfl (Or.inl rfl) (pe_at N3 hr (pa_cons (pv 0) (pa_cons (pv 1) (pa_cons (pv 7) pa_nil)))))
        (pss_one (ps_if (PW.pt (pw_and (pt_not (pt_val (pe_at N4 r5 (pa_cons (pv 0) (pa_cons (pv 1) (pa_cons (pv 7) pa_nil)))))) (pw_and1 (PW.pt (pw_or (pt_cmpR (op_isN) (pv 6) (pe_non) (nomark _)) (pw_or1 (pt_cmpR (op_lt) (pe_callB call_len_seq (by rfl) B.len PySem.boot_len (pa_cons (pv 8) pa_nil)) (pe_callB call_len_seq (by rfl) B.len PySem.boot_len (pa_cons (pv 6) pa_nil)) (nomark _))))))))
          (pss_one (ps_set (i := 6) sc_fewest_taken.nd rfl (Or.inl rfl) (pv 8))) pss_nil))))
      (pss_one (ps_ret (pv 6))))))), ?_⟩
    -- first, last
    refine ⟨_, rfl, p, rfl, _, rfl, _, rfl, .inr ⟨dx, _, ep⟩, p, xs, i, r, rfl, hR, hi, hz, fun z1 H1 s1 n1 e1 => ⟨z1, _, rfl, SqT.of e1, rfl, _, _, rfl, _, _, rfl, rfl, ?_⟩⟩
    have R1 := hR.same s1
    -- check_stone
    refine ⟨_, rfl, _, rfl, p, dx, _, rfl, s1 _ _ ep, p, xs, rfl, R1, _, rfl, by omega, by omega, g, xs.length, rfl, hg, ?_⟩
    -- not first <= goal <= last
    have no : ¬ ((run xs i r).1 ≤ g ∧ g ≤ (run xs i r).2) → ∀ z H', Same H1 H' → H1 z = none → H' z = some (.lst (ivs [])) → Q (.ref z) H' := fun c z H' s' nz ez => kS [] (by unfold fewT; rw [if_neg c]) z H' (s1.trans s') (Same.free s1 nz) ez
    have nil : ¬ ((run xs i r).1 ≤ g ∧ g ≤ (run xs i r).2) → tRet (tLst tNil) { nx := fun _ H' => Q .non H', rt := Q } [some (.ref p), some (.int (i : Nat)), some (.str (sideS r)), some (.int (g : Nat)), some (.int ((run xs i r).1 : Nat)), some (.int ((run xs i r).2 : Nat)), none, none, none] H1 := fun c =>
      ⟨by show 0 ≤ sizeLine; decide, fun z nz => no c z _ (same_new nz) nz upd_same⟩
    refine ⟨_, rfl, _, rfl, _, _, rfl, rfl, _, rfl, ?_⟩
    by_cases c1 : (run xs i r).1 ≤ g
    case neg =>
      rw [decide_eq_false (show ¬ (((run xs i r).1 : Nat) : Int) ≤ (g : Int) by omega)]
      exact iteF ⟨_, rfl, iteT (nil fun c => c1 c.1)⟩
    rw [decide_eq_true (show (((run xs i r).1 : Nat) : Int) ≤ (g : Int) by omega)]
    refine iteT ⟨_, rfl, _, _, rfl, rfl, _, rfl, ?_⟩
    by_cases c2 : g ≤ (run xs i r).2
    case neg =>
      rw [decide_eq_false (show ¬ (g : Int) ≤ (((run xs i r).2 : Nat) : Int) by omega)]
      exact iteT (nil fun c => c2 c.2)
    rw [decide_eq_true (show (g : Int) ≤ (((run xs i r).2 : Nat) : Int) by omega)]
    refine iteF ?_
    clear nil no
    obtain ⟨hG, eG⟩ := goal_pos hx hi c1 c2
    have eT : fewT xs i g r = few xs i (cand r i xs.length (gap i g)) := by unfold fewT; rw [if_pos ⟨c1, c2⟩]
    rw [eT] at kN kS
    clear eT
    refine nm_of ?_
    -- the candidates
    refine ⟨_, rfl, _, rfl, _, rfl, p, dx, _, rfl, s1 _ _ ep, p, xs, rfl, R1, _, rfl, by omega, by omega, i, xs.length, r, rfl, hi, by omega, fun q nq => ?_⟩
    have s2 := s1.trans (same_new (o := .lst (ivs (beside r i xs.length))) nq)
    refine ⟨_, rfl, _, rfl, _, _, rfl, rfl, _, rfl, _, rfl, q, _, rfl, SqL.of upd_same, fun q2 nq2 => ?_⟩
    have e2 : cutV (ivs (beside r i xs.length)) none (some (if (g : Int) - (i : Int) < 0 then -((g : Int) - (i : Int)) else (g : Int) - (i : Int))) = ivs (cand r i xs.length (gap i g)) := by have := ab_gap i g; unfold ab at this; rw [this, cut_ivs]; rfl
    have s3 := s2.trans (same_new (o := .lst (cutV (ivs (beside r i xs.length)) none (some (if (g : Int) - (i : Int) < 0 then -((g : Int) - (i : Int)) else (g : Int) - (i : Int))))) nq2)
    have eq2 : (upd (upd H1 q (.lst (ivs (beside r i xs.length)))) q2 (.lst (cutV (ivs (beside r i xs.length)) none (some (if (g : Int) - (i : Int) < 0 then -((g : Int) - (i : Int)) else (g : Int) - (i : Int)))))) q2 = some (.lst (ivs (cand r i xs.length (gap i g)))) := by rw [upd_same, e2]
    refine ⟨q2, rfl, ⟨_, SqL.of eq2⟩, ?_⟩
    generalize upd (upd H1 q (.lst (ivs (beside r i xs.length)))) q2 (.lst (cutV (ivs (beside r i xs.length)) none (some (if (g : Int) - (i : Int) < 0 then -((g : Int) - (i : Int)) else (g : Int) - (i : Int))))) = H2 at s3 eq2 ⊢
    clear s2 e2 nq nq2
    refine for_list (K := K) (a := q2) (xs := ivs (cand r i xs.length (gap i g))) (fun j σ G => ∃ (v6 : V) (s7 s8 : Option V), σ = [some (.ref p), some (.int (i : Nat)), some (.str (sideS r)), some (.int (g : Nat)), some (.int ((run xs i r).1 : Nat)), some (.int ((run xs i r).2 : Nat)), some v6, s7, s8] ∧ Same H2 G ∧ FewV H G v6 (few xs i ((cand r i xs.length (gap i g)).take j))) ?_ ?_ ?_ ?_
    · exact ⟨_, none, none, rfl, Same.refl _, rfl⟩
    · rintro j σ G _ ⟨_, _, _, _, sm, _⟩
      exact SqL.of (sm _ _ eq2)
    · rintro j y σ G hy ⟨v6, s7, s8, rfl, sm, fv⟩
      obtain ⟨s, hs, rfl⟩ := ivs_get hy
      obtain ⟨e, he0, heG, es⟩ := (mem_cand hG).mp (List.mem_of_getElem? hs)
      have hsl : s < xs.length := by rw [es]; exact bpos_lt hi (by omega)
      have RG := hR.same (s3.trans sm)
      have eT : few xs i ((cand r i xs.length (gap i g)).take (j + 1)) = fstep xs i (few xs i ((cand r i xs.length (gap i g)).take j)) s := by
        rw [List.take_add_one, hs]
        exact few_snoc _ _ _ _
      rw [eT]
      refine nm_of ?_
      refine ⟨_, rfl, _, rfl, _, rfl, p, xs, i, s, rfl, RG, hz, hi, hsl, fun z8 G1 sa nz8 ez8 => ?_⟩
      refine nm_of ?_
      refine ⟨_, rfl, _, rfl, _, rfl, p, xs, i, s, rfl, RG.same sa, hz, hi, hsl, fun G2 sb => ⟨_, rfl, ?_⟩⟩
      have fv2 := (fv.same sa).same sb
      have ez8 := sb _ _ ez8
      have n8 : H z8 = none := Same.free (s3.trans sm) nz8
      have sm2 := (sm.trans sa).trans sb
      unfold fstep
      cases ht : touch xs i s with
      | true =>
        rw [if_pos rfl]
        exact iteF (iteF ⟨_, _, _, rfl, sm2, fv2⟩)
      | false =>
        rw [if_neg (by simp)]
        refine iteT ?_
        cases hf : few xs i ((cand r i xs.length (gap i g)).take j) with
        | none =>
          rw [hf] at fv2
          obtain rfl : v6 = .non := fv2
          exact ⟨_, rfl, rfl, _, rfl, iteT (iteT ⟨_, rfl, ⟨_, _, _, rfl, sm2, z8, rfl, n8, ez8⟩⟩)⟩
        | some u =>
          rw [hf] at fv2
          obtain ⟨z6, rfl, n6, ez6⟩ := fv2
          refine ⟨_, rfl, rfl, _, rfl, iteF ⟨_, rfl, z8, _, rfl, .inl (SqL.of ez8), _, rfl, z6, _, rfl, .inl (SqL.of ez6), _, _, rfl, rfl, _, rfl, ?_⟩⟩
          have el : decide (((ivs (rbt xs i s)).length : Int) < ((ivs u).length : Int)) = decide ((rbt xs i s).length < u.length) := by
            unfold ivs
            rw [List.length_map, List.length_map, decide_eq_decide]
            omega
          rw [el]
          simp only
          by_cases c : (rbt xs i s).length < u.length
          · rw [decide_eq_true c, if_pos c]
            exact iteT ⟨_, rfl, ⟨_, _, _, rfl, sm2, z8, rfl, n8, ez8⟩⟩
          · rw [decide_eq_false c, if_neg c]
            exact iteF ⟨_, _, _, rfl, sm2, z6, rfl, n6, ez6⟩
    · rintro σ G ⟨v6, s7, s8, rfl, sm, fv⟩
      have eT : (cand r i xs.length (gap i g)).take (ivs (cand r i xs.length (gap i g))).length = cand r i xs.length (gap i g) := by
        unfold ivs
        rw [List.length_map, List.take_length]
      rw [eT] at fv
      refine ⟨_, rfl, ?_⟩
      cases hf : few xs i (cand r i xs.length (gap i g)) with
      | none =>
        rw [hf] at fv
        obtain rfl : v6 = .non := fv
        exact kN hf _ (s3.trans sm)
      | some u =>
        rw [hf] at fv
        obtain ⟨z6, rfl, n6, ez6⟩ := fv
        exact kS u hf z6 _ (s3.trans sm) n6 ez6
theorem ok_felledW {f C g pP gP gL : Addr} {fd gd dP : FuncData} (F : Fun K "_felled_without" "_felled_without" s_felled_without f fd) (B : Blt mg) (R : RowC K mg C)
    (SL : Sign K C "__len__" gL) (GL : FnR P w K mg base CX0 1 gL (spLen K C)) (pr : PropOf K C "stones" pP gP) (P1 : FnOk P w K mg base CX0 1 gP dP ["self"] (spGet K C)) (bP : Binds K dP ["self"] [])
    (N : At P w K mg base CX0 2 "felled_by" ["stones", "standing", "stone", "side"] (spFelled K) g gd) :
    FnOk P w K mg base CX0 3 f fd ["row", "stone", "side", "other"] (spFelledW K C) := by
  refine F.ok sc_felled_without (fun vs H Q E h => ?_) (fun cdv A outer s H vs Q E hr h => ?_)
  · obtain ⟨p, xs, i, o, r, rfl, _⟩ := h
    rfl
  · obtain ⟨p, xs, i, o, r, rfl, hR, hx, hz, hi, ho, k⟩ := h
    obtain ⟨dx, t, us, ep, hT, hS⟩ := id hR
    refine ⟨_, pss_cons (ps_if (pt_cmpR (op_eq) (pv 3) (pv 1) (nomark _)) (pss_one (ps_ret (pe_lst pa_nil))) pss_nil)
      (pss_cons (ps_setLc (i := 4) (own := [("number", 5)]) (g := gName 5) (tt := tYes) rfl sc_felled_without.nd rfl rfl (sw_true rfl rfl rfl (by decide +kernel)) (pi_range1 (by rfl) B.range (pa_cons (pe_callB (Own.call_len SL.at_ SL.fn GL hr pass0) (by rfl) B.len PySem.boot_len (pa_cons (pv 0) pa_nil)) pa_nil)) (blkOk_by (N := n_felled_without) (sc := defScope s_felled_without) (by decide +kernel))
          (fun _ _ _ _ _ => pg_name (i := 5) sc_felled_without.nd rfl (Or.inl rfl)) (fun _ _ _ _ _ => pts_nil) (fun _ _ _ _ _ => (show PE _ _ (tOp rNe (tVar 5) (tVar 3)) from pe_cmpR (op_ne) (pv 5) (pv 3) (nomark _))))
      (pss_one (ps_ret (pe_at N hr (pa_cons (pe_prop (pv 0) R.cl pr P1 hr bP .nil pass0 rfl) (pa_cons (pv 4) (pa_cons (pv 1) (pa_cons (pv 2) pa_nil)))))))), ?_⟩
    refine ⟨_, rfl, _, rfl, rfl, _, rfl, ?_⟩
    by_cases c : o = i
    · rw [decide_eq_true (show V.int (o : Int) = V.int (i : Int) by rw [c])]
      exact iteT ⟨by show 0 ≤ sizeLine; decide, fun z nz => k [] z _ (fun j => ⟨fun q => (by cases q), fun q => absurd c q.1⟩) (same_new nz) nz upd_same⟩
    · rw [decide_eq_false (show ¬ V.int (o : Int) = V.int (i : Int) from fun e => c (int_inj e))]
      refine iteF ⟨_, rfl, p, dx, _, rfl, ep, p, xs, rfl, hR, _, rfl, by omega, by omega, (xs.length : Int), rfl, by omega, by omega, fun D nD => ?_⟩
      rw [show ((xs.length : Int)).toNat = xs.length by omega]
      refine lc_fm (walk_range (lo := 0) (n := xs.length)) (List.range xs.length) (fun _ => true) (fun j => decide (j ≠ o)) (fun _ v b => v = V.bl b) List.length_range (by omega) nD (fun _ _ _ _ _ _ _ q => q) (fun _ _ => True.intro) ?_ ?_
      · rintro n j x G G' N' M hj sm _ ⟨rfl, hxx⟩ _ go
        obtain rfl : x = V.int (n : Int) := hxx.trans (congrArg V.int (Int.zero_add _))
        obtain ⟨hj1, hj2⟩ := List.getElem?_eq_some_iff.mp hj
        obtain rfl : n = j := by simpa using hj2
        refine ⟨rfl, _, rfl, _, rfl, rfl, go _ _ rfl (Same.refl _) ?_⟩
        congr 1
        rw [← decide_not, decide_eq_decide]
        exact ⟨fun h e => h (by rw [e]), fun h e => h (int_inj e)⟩
      · intro G ys sm eD rel
        rw [filter_all] at rel
        have e := paired_eq (fun b : Bool => V.bl b) rel
        refine nm_of ?_
        refine ⟨_, rfl, p, dx, _, rfl, sm _ _ ep, p, xs, rfl, hR.same sm, fun t' us' hT' hS' => ?_⟩
        refine ⟨_, rfl, _, rfl, _, rfl, t', D, us', xs, (List.range xs.length).map fun j => decide (j ≠ o), i, r, rfl, hT', hS', SqL.of (by rw [eD, e]), by rw [List.length_map, List.length_range], hi, hz, fun ns q H3 pm so s3 nq e3 => ?_⟩
        refine k ns q H3 (fun j => ?_) (sm.trans s3) (Same.free sm nq) e3
        rw [pm.mem_iff]
        have key := felled_mem hx (sd := (List.range xs.length).map fun j => decide (j ≠ o)) (S := leftL xs.length [o]) (r := r) (i := i) (j := j) hi (fun b hb => by
          rw [List.getElem?_map, List.getElem?_range hb, mem_left]
          simp [hb])
        rw [← key]
        constructor
        · intro q
          obtain ⟨j', hj', ej⟩ := List.mem_map.mp q
          exact ⟨c, by have : j' = j := by omega
                       exact this ▸ hj'⟩
        · intro q
          exact List.mem_map.mpr ⟨j, q.2, rfl⟩
theorem ok_spared {f C gC gL g1 g2 : Addr} {fd d1 d2 : FuncData} (F : Fun K "spared_without" "spared_without" s_spared_without f fd) (B : Blt mg) (R : RowC K mg C) (O : StX.CallO K C gC) (GC : FnR P w K mg base CX0 3 gC (spCall K C))
    (SL : Sign K C "__len__" gL) (GL : FnR P w K mg base CX0 1 gL (spLen K C)) (N1 : At P w K mg base CX0 2 "check_stone" ["stone", "count"] spCheckStone g1 d1)
    (N2 : At P w K mg base CX0 3 "_felled_without" ["row", "stone", "side", "other"] (spFelledW K C) g2 d2) :
    FnOk P w K mg base CX0 4 f fd ["row", "stone", "side", "other"] (spSpared K C) := by
  refine F.ok sc_spared_without (fun vs H Q E h => ?_) (fun cdv A outer s H vs Q E hr h => ?_)
  · obtain ⟨p, xs, i, o, r, rfl, _⟩ := h
    rfl
  · obtain ⟨p, xs, i, o, r, rfl, hR, hx, hz, hi, ho, k⟩ := h
    obtain ⟨dx, t, us, ep, hT, hS⟩ := id hR
    have r2 : Room 2 _ := hr.mono (by decide)
    refine ⟨_, pss_cons (ps_asg (StX.pe_callO (pv 0) O GC hr pass0 (pa_cons (pv 1) (pa_cons (pv 2) pa_nil))) (pg_tup rfl (pgs_cons (pg_name (i := 4) sc_spared_without.nd rfl (Or.inl rfl)) (pgs_cons (pg_name (i := 5) sc_spared_without.nd rfl (Or.inl rfl)) pgs_nil))))
      (pss_cons (ps_expr (pe_at N1 r2 (pa_cons (pv 3) (pa_cons (pe_callB (Own.call_len SL.at_ SL.fn GL r2 pass0) (by rfl) B.len PySem.boot_len (pa_cons (pv 0) pa_nil)) pa_nil))))
      (pss_cons (ps_set (i := 6) sc_spared_without.nd rfl (Or.inr rfl) (pe_at N2 hr (pa_cons (pv 0) (pa_cons (pv 1) (pa_cons (pv 2) (pa_cons (pv 3) pa_nil))))))
      (pss_one (ps_ret (pe_lc (own := [("spared", 7)]) (g := gName 7) rfl sc_spared_without.nd (pi_range2 (by rfl) B.range (pa_cons (pv 4) (pa_cons (pe_op op_add (pv 5) (pe_int)) pa_nil))) (blkOk_by (N := n_spared_without) (sc := defScope s_spared_without) (by decide +kernel))
        (fun _ _ _ _ _ => pg_name (i := 7) sc_spared_without.nd rfl (Or.inl rfl)) (fun _ _ _ _ _ => pts_one (show PT _ _ (tAnd (tTest (tOp rNe (tVar 7) (tVar 3))) (tTest (tOp (rIn K true) (tVar 7) (tVar 6)))) from PW.pt (pw_and (pt_cmpR (op_ne) (pv 7) (pv 3) (nomark _)) (pw_and1 (pt_cmpR (op_notIn_seq) (pv 7) (pv 6) (by rfl)))))) (fun _ _ _ _ _ => pv 7)))))), ?_⟩
    refine ⟨_, rfl, p, rfl, _, rfl, _, rfl, .inr ⟨dx, _, ep⟩, p, xs, i, r, rfl, hR, hi, hz, fun z1 H1 s1 n1 e1 => ⟨z1, _, rfl, SqT.of e1, rfl, _, _, rfl, _, _, rfl, rfl, ?_⟩⟩
    have R1 := hR.same s1
    refine ⟨_, rfl, _, rfl, p, dx, _, rfl, s1 _ _ ep, p, xs, rfl, R1, _, rfl, by omega, by omega, o, xs.length, rfl, ho, ?_⟩
    refine ⟨_, rfl, _, rfl, _, rfl, _, rfl, p, xs, i, o, r, rfl, R1, hx, hz, hi, ho, fun ms q H2 hms s2 nq eq => ?_⟩
    refine nm_of ?_
    have bd := run_bounds hx (r := r) hi
    refine ⟨_, rfl, _, rfl, _, _, rfl, rfl, _, _, rfl, ⟨by omega, by omega, by omega, by omega⟩, fun D nD => ?_⟩
    rw [show (((run xs i r).2 : Nat) + 1 - ((run xs i r).1 : Nat) : Int).toNat = (run xs i r).2 + 1 - (run xs i r).1 by omega]
    refine lc_fm (walk_range (lo := (((run xs i r).1 : Nat) : Int)) (n := (run xs i r).2 + 1 - (run xs i r).1)) (fellsL xs [] i r) (fun j => @decide (j ≠ o ∧ ¬ (o ≠ i ∧ Reach xs (leftL xs.length [o]) r i j)) (Classical.propDecidable _)) (fun j => j) (fun _ v n => v = V.int (n : Nat)) (by rw [fells_all hx hi, List.length_map, List.length_range]) (by omega) nD (fun _ _ _ _ _ _ _ q => q) (fun _ _ => True.intro) ?_ ?_
    · rintro n j x G G' N' M hj sm _ ⟨rfl, hxx⟩ no go
      have ej : j = (run xs i r).1 + n := by
        rw [fells_all hx hi, List.getElem?_map] at hj
        obtain ⟨a, ha, rfl⟩ := Option.map_eq_some_iff.mp hj
        have := (List.getElem?_eq_some_iff.mp ha).2
        rw [List.getElem_range] at this
        omega
      obtain rfl : x = V.int (j : Int) := hxx.trans (congrArg V.int (by omega))
      refine ⟨rfl, _, rfl, _, rfl, rfl, _, rfl, ?_⟩
      by_cases c : j = o
      · rw [decide_eq_true (show V.int (j : Int) = V.int (o : Int) by rw [c])]
        exact iteF (iteF (no _ (@decide_eq_false _ (Classical.propDecidable _) fun z => z.1 c) (Same.refl _)))
      · rw [decide_eq_false (show ¬ V.int (j : Int) = V.int (o : Int) from fun e => c (int_inj e))]
        refine iteT ⟨_, rfl, _, rfl, q, _, rfl, .inl (SqL.of (sm _ _ eq)), rfl, flat_ints ms, _, rfl, ?_⟩
        rw [if_pos rfl, inV_int]
        by_cases c2 : (j : Int) ∈ ms
        · rw [decide_eq_true c2]
          exact iteF (no _ (@decide_eq_false _ (Classical.propDecidable _) fun z => z.2 ((hms j).mp c2)) (Same.refl _))
        · rw [decide_eq_false c2]
          exact iteT ⟨_, rfl, go _ _ (@decide_eq_true _ (Classical.propDecidable _) ⟨c, fun z => c2 ((hms j).mpr z)⟩) (Same.refl _) rfl⟩
    · intro G ys sm eD rel
      rw [List.map_id'] at rel
      have e := paired_eq (fun n : Nat => V.int (n : Int)) rel
      have s3 := (s1.trans s2).trans sm
      refine k D G s3 (Same.free (s1.trans s2) nD) ?_
      rw [eD, e]
      rfl
end
/-! ### all that fall; cuts -/
structure SomeCut (xs : List (Int × Int)) (i g : Nat) (r : Bool) (t : List Nat) : Prop where
  up : t.Pairwise (· < ·)
  ni : i ∉ t
  ng : g ∉ t
  lt : ∀ k ∈ t, k < xs.length
  em : t = [] ↔ ¬ ((run xs i r).1 ≤ g ∧ g ≤ (run xs i r).2)
  inn : ∀ k ∈ t, (run xs i r).1 ≤ k ∧ k ≤ (run xs i r).2
  cut : ¬ Reach xs (leftL xs.length t) r i g
  back : ∀ k ∈ t, Reach xs (leftL xs.length (t.filter fun m => decide (m ≠ k))) r i g
theorem some_cut {xs : List (Int × Int)} (hx : Inc xs) {i g : Nat} {r : Bool} {t : List Nat} (hi : i < xs.length) (hf : fewT xs i g r = some t) : SomeCut xs i g r t := by
  unfold fewT at hf
  split at hf
  · rename_i h
    obtain ⟨hG, eG⟩ := goal_pos hx hi h.1 h.2
    have sp := few_spec xs i (cand r i xs.length (gap i g))
    obtain ⟨s, hs, nt, rfl⟩ := sp.yes t hf
    obtain ⟨e, he0, heG, rfl⟩ := (mem_cand hG).mp hs
    have he : e ≤ bmax r i xs.length := by omega
    have pos : ∀ k ∈ rbt xs i (bpos r i e), ∃ d, 0 < d ∧ d < e ∧ k = bpos r i d := fun k hk => (betw_pos he).mp (mem_rbt.mp hk).1
    have bd := run_bounds hx (r := r) hi
    have gn : g ∉ rbt xs i (bpos r i e) := fun hk => by
      obtain ⟨d, h1, h2, h3⟩ := pos g hk
      rw [eG] at h3
      have := bpos_inj hG (by omega) h3
      omega
    have rg : Reach xs (List.range xs.length) r i g := (run_keys hx hi).mpr h
    have lt : ∀ k ∈ rbt xs i (bpos r i e), k < xs.length := fun k hk => by
      obtain ⟨d, h1, h2, rfl⟩ := pos k hk
      exact bpos_lt hi (by omega)
    refine ⟨rbt_sorted _ _ _, fun hk => ?_, gn, lt, ?_, fun k hk => ?_, ?_, fun k hk => ?_⟩
    · have := (mem_rbt.mp hk).1
      omega
    · refine ⟨fun e0 => ?_, fun q => absurd h q⟩
      refine absurd rg ?_
      have := cut_is_cut hx hi he0 heG hG nt (S := List.range xs.length) (fun k hk => by rw [e0] at hk; cases hk)
      rwa [← eG] at this
    · obtain ⟨d, h1, h2, rfl⟩ := pos k hk
      cases r with
      | true =>
        have eG : g = i + gap i g := eG
        show (run xs i true).1 ≤ i + d ∧ i + d ≤ (run xs i true).2
        omega
      | false =>
        have eG : g = i - gap i g := eG
        show (run xs i false).1 ≤ i - d ∧ i - d ≤ (run xs i false).2
        omega
    · have := cut_is_cut hx hi he0 heG hG nt (S := leftL xs.length (rbt xs i (bpos r i e))) (fun k hk hl => (mem_left.mp hl).2 hk)
      rwa [← eG] at this
    · refine Classical.byContradiction fun nr => ?_
      obtain ⟨e', h0', hG', nt', sub⟩ := cut_least hx hi (S := leftL xs.length ((rbt xs i (bpos r i e)).filter fun m => decide (m ≠ k))) (T := (rbt xs i (bpos r i e)).filter fun m => decide (m ≠ k)) (G := gap i g)
        (fun m hm nm => mem_left.mpr ⟨hm, nm⟩) hG (by rw [← eG]; exact fun z => gn (List.mem_filter.mp z).1) (by rw [← eG]; exact nr)
      have l1 := sp.least _ hf (bpos r i e') ((mem_cand hG).mpr ⟨e', h0', hG', rfl⟩) nt'
      have l2 := nodup_len (pw_nodup (rbt_sorted xs i (bpos r i e'))) sub
      have l3 : ((rbt xs i (bpos r i e)).filter fun m => decide (m ≠ k)).length < (rbt xs i (bpos r i e)).length := List.length_filter_lt_length_iff_exists.mpr ⟨k, hk, by simp⟩
      omega
  · rename_i h
    obtain rfl : [] = t := Option.some.inj hf
    refine ⟨.nil, (by simp), (by simp), fun k hk => (by cases hk), ⟨fun _ => h, fun _ => rfl⟩, fun k hk => (by cases hk), ?_, fun k hk => (by cases hk)⟩
    rw [left_nil]
    exact fun q => h ((run_keys hx hi).mp q)
theorem mem_all {xs : List (Int × Int)} (hx : Inc xs) {i j : Nat} {r : Bool} (hi : i < xs.length) : j ∈ fellsL xs [] i r ↔ (run xs i r).1 ≤ j ∧ j ≤ (run xs i r).2 := by
  have b := run_bounds hx (r := r) hi
  rw [mem_fells hx (mem_left.mpr ⟨hi, by simp⟩), left_nil, run_keys hx hi, List.mem_range]
  omega
theorem fells_nodup {xs : List (Int × Int)} {ns : List Nat} {i : Nat} {r : Bool} : (fellsL xs ns i r).Nodup := (pw_nodup (left_sorted _ _)).sublist fells_sub
theorem fells_lt {xs : List (Int × Int)} {ns : List Nat} {i : Nat} {r : Bool} {k : Nat} (h : k ∈ fellsL xs ns i r) : k < xs.length := (mem_left.mp (fells_sub.subset h)).1
/-! ### check_number -/
def spCheckNum : Sp := fun vs H Q _ => ∃ (i lo hi : Int), vs = [.int i, .int lo, .int hi] ∧ lo ≤ i ∧ i ≤ hi ∧ Q .non H
section
variable {P : Program} {w : World} {K : PySem.W.Frag} {mg : Str → Option Value} {base : Heap}
theorem ok_checkNum {f g : Addr} {fd gd : FuncData} (F : Fun K "check_number" "check_number" s_check_number f fd) (N : At P w K mg base CX0 1 "is_number" ["value", "least", "greatest"] (spNum K) g gd) :
    FnOk P w K mg base CX0 2 f fd ["value", "least", "greatest"] spCheckNum := by
  refine F.ok sc_check_number (fun vs H Q E h => ?_) (fun cdv A outer s H vs Q E hr h => ?_)
  · obtain ⟨i, lo, hi, rfl, _⟩ := h
    rfl
  · obtain ⟨i, lo, hi, rfl, h1, h2, h⟩ := h
    refine ⟨_, pss_one (ps_if (pt_not (pt_val (pe_at N hr (pa_cons (pv 0) (pa_cons (pv 1) (pa_cons (pv 2) pa_nil)))))) (pss_one ps_never) pss_nil), ?_⟩
    refine ⟨_, rfl, _, rfl, _, rfl, _, _, _, rfl, True.intro, _, rfl, ?_⟩
    have e : numB (.int i) lo hi = true := by
      show (decide (lo ≤ i) && decide (i ≤ hi)) = true
      simp; omega
    rw [e]
    exact iteF h
end
/-! distances are no places -/
theorem dI_big {xs : List (Int × Int)} (w : Wf 0 xs) {a b : Nat} (ha : a < xs.length) (hb : b < xs.length) : dI xs a b ≤ 1000000000 := by
  have e1 : xs[a]? = some xs[a] := by simp [ha]
  have e2 : xs[b]? = some xs[b] := by simp [hb]
  have h1 := w.get e1
  have h2 := w.get e2
  have l1 := w.low e1
  have l2 := w.low e2
  unfold dI ab
  rw [(pl_of e1).1, (pl_of e2).1]
  have := h1.2.2
  have := h2.2.2
  split <;> omega
/-! ### ends of runs, least heights, growth, the first unlike push -/
def spRunEnd (K : PySem.W.Frag) (C : Addr) : Sp := fun vs H Q _ => ∃ (p : Addr) (xs : List (Int × Int)) (i : Nat) (r : Bool), vs = [.ref p, .int (i : Nat), .str (sideS r)] ∧ RowAt K C H p xs ∧ xs.length ≤ 40 ∧ i < xs.length ∧ ∀ H', Same H H' → Q (.int (eN xs i r : Nat)) H'
def spHfr (K : PySem.W.Frag) (C : Addr) : Sp := fun vs H Q _ => ∃ (p : Addr) (xs : List (Int × Int)) (i : Nat) (r : Bool), vs = [.ref p, .int (i : Nat), .str (sideS r)] ∧ RowAt K C H p xs ∧ xs.length ≤ 40 ∧ i < xs.length ∧ ∀ H', Same H H' → Q (.int (hN xs i r)) H'
noncomputable def lhN (xs : List (Int × Int)) (i : Nat) : Int := mx (hN xs i false) (hN xs i true)
noncomputable def lhL (xs : List (Int × Int)) : List Int := (List.range xs.length).map (lhN xs)
def spLH (K : PySem.W.Frag) (C : Addr) : Sp := fun vs H Q _ => ∃ (p : Addr) (xs : List (Int × Int)), vs = [.ref p] ∧ RowAt K C H p xs ∧ xs.length ≤ 40 ∧ ∀ z H', Same H H' → H z = none → H' z = some (.lst ((lhL xs).map V.int)) → Q (.ref z) H'
structure GrowS (xs : List (Int × Int)) (i : Nat) (g : Int) : Prop where
  pos : 0 ≤ g
  le : g ≤ 1000000000
  no : ∀ r o, o < xs.length → aft r (eN xs i r) o → ht xs i + g < dI xs i o
  more : g < 1000000000 → ∃ r o, o < xs.length ∧ aft r (eN xs i r) o ∧ dI xs i o = ht xs i + g + 1
def spGrow (K : PySem.W.Frag) (C : Addr) : Sp := fun vs H Q _ => ∃ (p : Addr) (xs : List (Int × Int)) (i : Nat), vs = [.ref p, .int (i : Nat)] ∧ RowAt K C H p xs ∧ Inc xs ∧ xs.length ≤ 40 ∧ i < xs.length ∧ ∀ g H', GrowS xs i g → Same H H' → Q (.int g) H'
def spUnlike (K : PySem.W.Frag) (C : Addr) : Sp := fun vs H Q _ => ∃ (p q : Addr) (xs ys : List (Int × Int)), vs = [.ref p, .ref q] ∧ RowAt K C H p xs ∧ RowAt K C H q ys ∧ xs.length = ys.length ∧ xs.length ≤ 40 ∧
  ((∀ i r, i < xs.length → run xs i r = run ys i r) → ∀ H', Same H H' → Q .non H') ∧
  ∀ i r, i < xs.length → run xs i r ≠ run ys i r → (∀ j r', j < i → run xs j r' = run ys j r') → (r = true → run xs i false = run ys i false) → ∀ z H', Same H H' → H z = none → H' z = some (.tup [.int (i : Nat), .str (sideS r)]) → Q (.ref z) H'
theorem hN_at {xs : List (Int × Int)} {i j o : Nat} {r : Bool} (hj : (beside r i xs.length)[j]? = some o) (e : eN xs o r = eN xs i r) (no : ∀ m p, m < j → (beside r i xs.length)[m]? = some p → eN xs p r ≠ eN xs i r) : hN xs i r = dI xs i o := by
  have h : (beside r i xs.length).find? (fun o => decide (eN xs o r = eN xs i r)) = some o := by
    obtain ⟨h1, h2⟩ := List.getElem?_eq_some_iff.mp hj
    refine List.find?_eq_some_iff_getElem.mpr ⟨by simp [e], j, h1, h2, fun m hm => ?_⟩
    have := no m _ hm (List.getElem?_eq_getElem (by omega))
    simp [this]
  unfold hN
  rw [h]
theorem hN_no {xs : List (Int × Int)} {i : Nat} {r : Bool} (no : ∀ m p, m < (beside r i xs.length).length → (beside r i xs.length)[m]? = some p → eN xs p r ≠ eN xs i r) : hN xs i r = 1 := by
  have h : (beside r i xs.length).find? (fun o => decide (eN xs o r = eN xs i r)) = none := List.find?_eq_none.mpr fun o ho => by
    obtain ⟨m, hm, e⟩ := List.mem_iff_getElem.mp ho
    have := no m o hm (by rw [List.getElem?_eq_getElem hm, e])
    simp [this]
  unfold hN
  rw [h]
def nx (xs : List (Int × Int)) (i : Nat) : Bool → Nat | true => eN xs i true + 1 | false => eN xs i false - 1
def okx (xs : List (Int × Int)) (i : Nat) : Bool → Prop | true => eN xs i true + 1 < xs.length | false => 0 < eN xs i false
instance (xs : List (Int × Int)) (i : Nat) (r : Bool) : Decidable (okx xs i r) := by cases r <;> unfold okx <;> infer_instance
def spv (xs : List (Int × Int)) (i : Nat) : Bool → Int | true => (eN xs i true : Nat) + 1 | false => (eN xs i false : Nat) - 1
def gP (xs : List (Int × Int)) (i : Nat) (r : Bool) : List Int := if okx xs i r then [dI xs i (nx xs i r) - 1 - ht xs i] else []
theorem okx_iff {xs : List (Int × Int)} (hx : Inc xs) {i : Nat} (hi : i < xs.length) {r : Bool} : okx xs i r ↔ 0 ≤ spv xs i r ∧ spv xs i r < (xs.length : Int) := by
  have := (e_in hx (r := r) hi).2
  cases r <;> simp only [okx, spv] <;> omega
theorem okx_nx {xs : List (Int × Int)} (hx : Inc xs) {i : Nat} (hi : i < xs.length) {r : Bool} (h : okx xs i r) : spv xs i r = (nx xs i r : Nat) ∧ nx xs i r < xs.length ∧ aft r (eN xs i r) (nx xs i r) := by
  have := (e_in hx (r := r) hi).2
  cases r <;> simp only [okx, spv, nx, aft] at * <;> omega
theorem okx_no {xs : List (Int × Int)} {i o : Nat} {r : Bool} (ho : o < xs.length) (a : aft r (eN xs i r) o) : okx xs i r ∧ leq r (nx xs i r) o := by
  cases r <;> simp only [okx, nx, aft, leq] at * <;> omega
theorem grow_of {xs : List (Int × Int)} (hx : Inc xs) {i : Nat} (hi : i < xs.length) {g : Int} (m : g ∈ 1000000000 :: (gP xs i false ++ gP xs i true)) (le : ∀ y ∈ 1000000000 :: (gP xs i false ++ gP xs i true), g ≤ y) : GrowS xs i g := by
  have mem : ∀ {r y}, y ∈ gP xs i r → y ∈ 1000000000 :: (gP xs i false ++ gP xs i true) := fun {r y} h => by
    cases r
    · exact List.mem_cons_of_mem _ (List.mem_append_left _ h)
    · exact List.mem_cons_of_mem _ (List.mem_append_right _ h)
  have one : ∀ {r y}, y ∈ gP xs i r → okx xs i r ∧ y = dI xs i (nx xs i r) - 1 - ht xs i := fun {r y} h => by
    unfold gP at h
    split at h
    · rename_i c
      exact ⟨c, List.mem_singleton.mp h⟩
    · cases h
  have cases' : g = 1000000000 ∨ ∃ r, okx xs i r ∧ g = dI xs i (nx xs i r) - 1 - ht xs i := by
    rcases List.mem_cons.mp m with h | h
    · exact .inl h
    · rcases List.mem_append.mp h with h | h
      · exact .inr ⟨false, one h⟩
      · exact .inr ⟨true, one h⟩
  refine ⟨?_, le _ List.mem_cons_self, fun r o ho a => ?_, fun lt => ?_⟩
  · rcases cases' with h | ⟨r, h1, h2⟩
    · omega
    · obtain ⟨q1, q2, q3⟩ := okx_nx hx hi h1
      have := behind hx hi q2 q3
      omega
  · obtain ⟨h1, h2⟩ := okx_no ho a
    obtain ⟨q1, q2, q3⟩ := okx_nx hx hi h1
    have l := le _ (mem (r := r) (y := dI xs i (nx xs i r) - 1 - ht xs i) (by unfold gP; rw [if_pos h1]; exact List.mem_singleton.mpr rfl))
    have ai : aft r i (nx xs i r) := by have := (e_in hx (r := r) hi).1; cases r <;> simp only [aft, leq] at * <;> omega
    have := dI_le hx hi q2 ho ai h2
    omega
  · rcases cases' with h | ⟨r, h1, h2⟩
    · omega
    · obtain ⟨q1, q2, q3⟩ := okx_nx hx hi h1
      exact ⟨r, nx xs i r, q2, q3, by omega⟩
section
variable {P : Program} {w : World} {K : PySem.W.Frag} {mg : Str → Option Value} {base : Heap}
theorem ok_runEnd {f C gC : Addr} {fd : FuncData} (F : Fun K "_run_end" "_run_end" s_run_end f fd) (O : StX.CallO K C gC) (GC : FnR P w K mg base CX0 3 gC (spCall K C)) :
    FnOk P w K mg base CX0 4 f fd ["row", "stone", "side"] (spRunEnd K C) := by
  refine F.ok sc_run_end (fun vs H Q E h => ?_) (fun cdv A outer s H vs Q E hr h => ?_)
  · obtain ⟨p, xs, i, r, rfl, _⟩ := h
    rfl
  · obtain ⟨p, xs, i, r, rfl, hR, hz, hi, k⟩ := h
    obtain ⟨dx, t, us, ep, hT, hS⟩ := id hR
    refine ⟨_, pss_cons (ps_asg (StX.pe_callO (pv 0) O GC hr pass0 (pa_cons (pv 1) (pa_cons (pv 2) pa_nil))) (pg_tup rfl (pgs_cons (pg_name (i := 3) sc_run_end.nd rfl (Or.inl rfl)) (pgs_cons (pg_name (i := 4) sc_run_end.nd rfl (Or.inl rfl)) pgs_nil))))
      (pss_one (ps_ret (pe_ifExp (pt_cmpR (op_eq) (pv 2) (pe_str) (nomark _)) (pv 4) (pv 3)))), ?_⟩
    refine ⟨_, rfl, p, rfl, _, rfl, _, rfl, .inr ⟨dx, _, ep⟩, p, xs, i, r, rfl, hR, hi, hz, fun z1 H1 s1 n1 e1 => ⟨z1, _, rfl, SqT.of e1, rfl, _, _, rfl, _, _, rfl, rfl, ?_⟩⟩
    refine ⟨_, rfl, rfl, _, rfl, ?_⟩
    rw [right_eq]
    cases r with
    | true => exact iteT ⟨_, rfl, k _ s1⟩
    | false => exact iteF ⟨_, rfl, k _ s1⟩
theorem ok_hfr {f C gL g1 g2 g3 : Addr} {fd d1 d2 d3 : FuncData} (F : Fun K "_height_for_run" "_height_for_run" s_height_for_run f fd) (B : Blt mg)
    (SL : Sign K C "__len__" gL) (GL : FnR P w K mg base CX0 1 gL (spLen K C)) (N1 : At P w K mg base CX0 1 "stones_beside" ["stone", "side", "count"] spBeside g1 d1)
    (N2 : At P w K mg base CX0 4 "_run_end" ["row", "stone", "side"] (spRunEnd K C) g2 d2) (N3 : At P w K mg base CX0 3 "_distance" ["row", "stone", "other"] (spDist K C) g3 d3) :
    FnOk P w K mg base CX0 5 f fd ["row", "stone", "side"] (spHfr K C) := by
  refine F.ok sc_height_for_run (fun vs H Q E h => ?_) (fun cdv A outer s H vs Q E hr h => ?_)
  · obtain ⟨p, xs, i, r, rfl, _⟩ := h
    rfl
  · obtain ⟨p, xs, i, r, rfl, hR, hz, hi, k⟩ := h
    obtain ⟨dx, t, us, ep, hT, hS⟩ := id hR
    have r3 : Room 3 _ := hr.mono (by decide)
    have r2 : Room 2 _ := hr.mono (by decide)
    have r1 : Room 1 _ := hr.mono (by decide)
    refine ⟨_, pss_cons (ps_for PassesOwn.never rfl (pi_list (pe_at N1 r1 (pa_cons (pv 1) (pa_cons (pv 2) (pa_cons (pe_callB (Own.call_len SL.at_ SL.fn GL r2 pass0) (by rfl) B.len PySem.boot_len (pa_cons (pv 0) pa_nil)) pa_nil))))) (pg_name (i := 3) sc_height_for_run.nd rfl (Or.inl rfl))
        (pss_one (ps_if (pt_cmpR (op_eq) (pe_at N2 hr (pa_cons (pv 0) (pa_cons (pv 3) (pa_cons (pv 2) pa_nil)))) (pe_at N2 hr (pa_cons (pv 0) (pa_cons (pv 1) (pa_cons (pv 2) pa_nil)))) (nomark _)) (pss_one (ps_ret (pe_at N3 r3 (pa_cons (pv 0) (pa_cons (pv 1) (pa_cons (pv 3) pa_nil)))))) pss_nil)))
      (pss_one (ps_ret pe_int)), ?_⟩
    refine ⟨_, rfl, _, rfl, _, rfl, p, dx, _, rfl, ep, p, xs, rfl, hR, _, rfl, by omega, by omega, i, xs.length, r, rfl, hi, by omega, fun q nq => ?_⟩
    have s1 := same_new (o := .lst (ivs (beside r i xs.length))) nq
    have eq : (upd H q (.lst (ivs (beside r i xs.length)))) q = some (.lst (ivs (beside r i xs.length))) := upd_same
    generalize upd H q (.lst (ivs (beside r i xs.length))) = H1 at s1 eq ⊢
    refine ⟨q, rfl, ⟨_, SqL.of eq⟩, for_list (K := K) (a := q) (xs := ivs (beside r i xs.length)) (fun j σ G => ∃ s3 : Option V, σ = [some (.ref p), some (.int (i : Nat)), some (.str (sideS r)), s3] ∧ Same H1 G ∧ ∀ m o, m < j → (beside r i xs.length)[m]? = some o → eN xs o r ≠ eN xs i r) ?_ ?_ ?_ ?_⟩
    · exact ⟨none, rfl, Same.refl _, fun m _ h => absurd h (Nat.not_lt_zero m)⟩
    · rintro j σ G _ ⟨_, _, sm, _⟩
      exact SqL.of (sm _ _ eq)
    · rintro j y σ G hy ⟨s3, rfl, sm, no⟩
      obtain ⟨o, ho, rfl⟩ := ivs_get hy
      have hol : o < xs.length := beside_lt hi o (List.mem_of_getElem? ho)
      have RG := hR.same (s1.trans sm)
      refine nm_of ?_
      refine ⟨_, rfl, _, rfl, _, rfl, p, xs, o, r, rfl, RG, hz, hol, fun H2 s2 => ⟨_, rfl, _, rfl, _, rfl, p, xs, i, r, rfl, RG.same s2, hz, hi, fun H3 s3 => ⟨rfl, _, rfl, ?_⟩⟩⟩
      have s4 := (sm.trans s2).trans s3
      by_cases c : eN xs o r = eN xs i r
      · rw [decide_eq_true (show V.int (eN xs o r : Nat) = V.int (eN xs i r : Nat) by rw [c])]
        refine iteT ⟨_, rfl, _, rfl, _, rfl, p, xs, i, o, rfl, hR.same (s1.trans s4), hz, hi, hol, fun H5 s5 => ?_⟩
        have := k H5 ((s1.trans s4).trans s5)
        rw [hN_at ho c no] at this
        exact this
      · rw [decide_eq_false (show ¬ V.int (eN xs o r : Nat) = V.int (eN xs i r : Nat) from fun e => c (int_inj e))]
        refine iteF ⟨_, rfl, s4, fun m p' hm hp => ?_⟩
        rcases Nat.lt_or_ge m j with z | z
        · exact no m p' z hp
        · obtain rfl : m = j := by omega
          obtain rfl : o = p' := Option.some.inj (ho.symm.trans hp)
          exact c
    · rintro σ G ⟨s3, rfl, sm, no⟩
      have := k G (s1.trans sm)
      rw [hN_no fun m p' hm hp => no m p' (by unfold ivs; rw [List.length_map]; exact hm) hp] at this
      exact this
theorem ok_LH {f C S gL g1 : Addr} {fd d1 : FuncData} (F : Fun K "least_heights" "least_heights" s_least_heights f fd) (B : Blt mg) (mS : mg "SIDES" = some (.ref S)) (hS' : ∀ H, SqT K H S [.str "left", .str "right"])
    (SL : Sign K C "__len__" gL) (GL : FnR P w K mg base CX0 1 gL (spLen K C)) (N1 : At P w K mg base CX0 5 "_height_for_run" ["row", "stone", "side"] (spHfr K C) g1 d1) :
    FnOk P w K mg base CX0 6 f fd ["row"] (spLH K C) := by
  refine F.ok sc_least_heights (fun vs H Q E h => ?_) (fun cdv A outer s H vs Q E hr h => ?_)
  · obtain ⟨p, xs, rfl, _⟩ := h
    rfl
  · obtain ⟨p, xs, rfl, hR, hz, k⟩ := h
    obtain ⟨dx, t, us, ep, hT, hS⟩ := id hR
    have r2 : Room 2 _ := hr.mono (by decide)
    refine ⟨_, pss_one (ps_ret (pe_lc (own := [("stone", 2)]) (g := gName 2) (tt := tYes) (te := tCB (rMax K) (tCons (tLc (iTup K (tC (.ref S))) (gName 1) tYes (tCall (spHfr K C) [] E0 (tCons (tVar 0) (tCons (tVar 2) (tCons (tVar 1) tNil)))) [1]) tNil)) rfl sc_least_heights.nd
        (pi_range1 (by rfl) B.range (pa_cons (pe_callB (Own.call_len SL.at_ SL.fn GL r2 pass0) (by rfl) B.len PySem.boot_len (pa_cons (pv 0) pa_nil)) pa_nil)) (blkOk_by (N := n_least_heights) (sc := defScope s_least_heights) (by decide +kernel))
        (fun _ _ _ _ _ => pg_name (i := 2) sc_least_heights.nd rfl (Or.inr rfl)) (fun _ _ _ _ _ => pts_nil)
        (fun _ _ _ _ _ => pe_callB (cr_max (by rfl)) (by rfl) B.max boot_max (pa_cons (pe_lc (own := [("side", 1)]) (g := gName 1) (tt := tYes) rfl sc_least_heights.nd (pi_tup (pe_glob (v := .ref S) (by rfl) mS rfl)) (blkOk_by (by rfl))
          (fun _ _ _ _ _ => pg_name (i := 1) sc_least_heights.nd rfl (Or.inl rfl)) (fun _ _ _ _ _ => pts_nil) (fun _ _ _ _ _ => pe_at N1 hr (pa_cons (pv 0) (pa_cons (pv 2) (pa_cons (pv 1) pa_nil))))) pa_nil)))), ?_⟩
    refine ⟨_, rfl, p, dx, _, rfl, ep, p, xs, rfl, hR, _, rfl, by omega, by omega, (xs.length : Int), rfl, by omega, by omega, fun D nD => ?_⟩
    rw [show ((xs.length : Int)).toNat = xs.length by omega]
    refine lc_fm (walk_range (lo := 0) (n := xs.length)) (List.range xs.length) (fun _ => true) (lhN xs) (fun _ v n => v = V.int n) List.length_range (by omega) nD (fun _ _ _ _ _ _ _ q => q) (fun _ _ => True.intro) ?_ ?_
    · rintro n j x G G' N' M hj sm _ ⟨rfl, hxx⟩ _ go
      obtain rfl : x = V.int (n : Int) := hxx.trans (congrArg V.int (Int.zero_add _))
      obtain ⟨hj1, hj2⟩ := List.getElem?_eq_some_iff.mp hj
      obtain rfl : n = j := by simpa using hj2
      rw [List.length_range] at hj1
      refine ⟨rfl, S, rfl, ⟨_, hS' _⟩, fun D2 nD2 => ?_⟩
      refine lc_fm (walk_tup (K := K) (a := S) (xs := [V.str "left", V.str "right"])) [false, true] (fun _ => true) (fun r => hN xs n r) (fun _ v n => v = V.int n) rfl (by show 2 < 1000000; decide) nD2 (fun _ _ _ _ _ _ _ q => q) (fun _ _ => hS' _) ?_ ?_
      · rintro n2 r x G2 G2' N2' M2 hj2 sm2 _ ⟨rfl, hx2⟩ _ go2
        obtain rfl : x = V.str (sideS r) := by
          match n2, hj2, hx2 with
          | 0, hj2, hx2 => cases hj2; cases hx2; rfl
          | 1, hj2, hx2 => cases hj2; cases hx2; rfl
        exact ⟨rfl, _, rfl, _, rfl, _, rfl, p, xs, n, r, rfl, (hR.same sm).same sm2, hz, hj1, fun H5 s5 => go2 _ H5 rfl s5 rfl⟩
      · intro G3 ys sm3 eD3 rel
        rw [filter_all] at rel
        have e := paired_eq (fun n : Int => V.int n) rel
        refine ⟨D2, [hN xs n false, hN xs n true], rfl, SqL.of (by rw [eD3, e]; rfl), Nat.zero_lt_succ _, fun m hm le => ?_⟩
        have l1 := le _ (List.mem_cons_self)
        have l2 := le _ (List.mem_cons_of_mem _ (List.mem_cons_self))
        obtain rfl : m = lhN xs n := by
          unfold lhN mx
          rcases List.mem_cons.mp hm with h | h
          · split <;> omega
          · have := List.mem_singleton.mp h
            split <;> omega
        exact go _ G3 rfl sm3 rfl
    · intro G ys sm eD rel
      rw [filter_all] at rel
      have e := paired_eq (fun n : Int => V.int n) rel
      refine k D G sm nD ?_
      rw [eD, e]
      rfl
end
/-! ### fall_ticks -/
def tickOf : List (Nat × Nat) → Nat → Nat
  | [], _ => 0
  | p :: fs, j => if p.1 = j then p.2 else tickOf fs j
theorem tickOf_mem : ∀ {fs : List (Nat × Nat)} {j u : Nat}, (fs.map (·.1)).Nodup → (j, u) ∈ fs → tickOf fs j = u
  | [], _, _, _, h => nomatch h
  | p :: fs, j, u, nd, h => by
    rw [List.map_cons, List.nodup_cons] at nd
    unfold tickOf
    rcases List.mem_cons.mp h with e | g
    · rw [← e, if_pos rfl]
    · rw [if_neg (fun z => nd.1 (by rw [z]; exact List.mem_map.mpr ⟨(j, u), g, rfl⟩))]
      exact tickOf_mem nd.2 g
theorem kvs_get : ∀ {fs : List (Nat × Nat)} {j u : Nat}, (fs.map (·.1)).Nodup → (j, u) ∈ fs → valV (kvs fs) (Sum.inl (j : Int) : Key) = some (V.int (u : Int))
  | [], _, _, _, h => nomatch h
  | p :: fs, j, u, nd, h => by
    rw [List.map_cons, List.nodup_cons] at nd
    have c : kvs (p :: fs) = ((Sum.inl (p.1 : Int) : Key), V.int (p.2 : Int)) :: kvs fs := rfl
    rw [c]
    rcases List.mem_cons.mp h with e | g
    · rw [← e, valV_pos rfl]
    · rw [valV_neg (fun z => ?_)]
      · exact kvs_get nd.2 g
      · have z : (Sum.inl (p.1 : Int) : Key) = Sum.inl (j : Int) := z
        injection z with z
        exact nd.1 (by rw [show p.1 = j by omega]; exact List.mem_map.mpr ⟨(j, u), g, rfl⟩)
theorem kvs_keys (fs : List (Nat × Nat)) : (kvs fs).map (·.1) = (fs.map fun p => (p.1 : Int)).map Sum.inl := by
  unfold kvs
  rw [List.map_map, List.map_map]
  rfl
/-- the pairs by their sorted keys -/
theorem by_keys {fs : List (Nat × Nat)} (nd : (fs.map (·.1)).Nodup) {ys : List Int} (p : ys.Perm (fs.map fun p => (p.1 : Int))) (s : ys.Pairwise (· ≤ ·)) :
    ∃ gs : List (Nat × Nat), ys = gs.map (fun p => (p.1 : Int)) ∧ gs.Pairwise (fun a b => a.1 < b.1) ∧ (∀ q, q ∈ gs ↔ q ∈ fs) ∧ gs.length = fs.length := by
  have eF : (fs.map fun p => (p.1 : Int)) = (fs.map (·.1)).map fun (k : Nat) => (k : Int) := by rw [List.map_map]; rfl
  rw [eF] at p
  have ey : ys = (ys.map Int.toNat).map fun (k : Nat) => (k : Int) := by
    rw [List.map_map]
    refine ((List.map_id _).symm).trans (List.map_congr_left fun y hy => ?_)
    obtain ⟨k, _, rfl⟩ := List.mem_map.mp (p.mem_iff.mp hy)
    show (k : Int) = ((k : Int).toNat : Int)
    omega
  have pk : (ys.map Int.toNat).Perm (fs.map (·.1)) := by
    have := p.map Int.toNat
    rw [List.map_map] at this
    refine this.trans (.of_eq ?_)
    refine (List.map_congr_left fun k _ => ?_).trans (List.map_id _)
    exact Int.toNat_natCast k
  generalize ys.map Int.toNat = ks at ey pk
  subst ey
  have ndk : ks.Nodup := pk.nodup_iff.mpr nd
  refine ⟨ks.map fun j => (j, tickOf fs j), ?_, ?_, fun q => ?_, ?_⟩
  · rw [List.map_map]
    rfl
  · rw [List.pairwise_map]
    rw [List.pairwise_map] at s
    exact (List.pairwise_and_iff.mpr ⟨s, ndk⟩).imp fun {a b} h => by
      have h1 : (a : Int) ≤ (b : Int) := h.1
      have h2 : a ≠ b := h.2
      show a < b
      omega
  · obtain ⟨j, u⟩ := q
    rw [List.mem_map]
    constructor
    · rintro ⟨j', hj, e⟩
      obtain ⟨rfl, rfl⟩ := Prod.mk.inj e
      obtain ⟨⟨j2, u2⟩, h1, h2⟩ := List.mem_map.mp (pk.mem_iff.mp hj)
      have h2 : j2 = j' := h2
      subst h2
      rw [tickOf_mem nd h1]
      exact h1
    · intro h
      exact ⟨j, pk.mem_iff.mpr (List.mem_map.mpr ⟨(j, u), h, rfl⟩), by rw [tickOf_mem nd h]⟩
  · rw [List.length_map, pk.length_eq, List.length_map]
def spReaches (K : PySem.W.Frag) : Sp := fun vs H Q _ => ∃ (a b : Addr) (x y : Int × Int), vs = [.ref a, .ref b] ∧ SqT K H a [.int x.1, .int x.2] ∧ SqT K H b [.int y.1, .int y.2] ∧ Q (.bl (decide (ab (y.1 - x.1) ≤ x.2))) H
def spTicks (K : PySem.W.Frag) (C : Addr) : Sp := fun vs H Q _ => ∃ (p : Addr) (xs : List (Int × Int)) (i : Nat) (r : Bool), vs = [.ref p, .int (i : Nat), .str (sideS r)] ∧ RowAt K C H p xs ∧ Wf 0 xs ∧ xs.length ≤ 40 ∧ i < xs.length ∧
  ∀ (z : Addr) (gs : List (Nat × Nat)) (H' : Hp), Same H H' → H z = none → H' z = some (.dK (kvs gs)) → Ticks xs r i gs → Q (.ref z) H'
theorem near_take {xs : List (Int × Int)} {fs : List (Nat × Nat)} {o n : Nat} {p : Nat × Nat} (h : fs[n]? = some p) : nearT xs (fs.take (n + 1)) o = nearT xs (fs.take n) o ++ if touch xs p.1 o then [p.2] else [] := by
  unfold nearT
  rw [List.take_add_one, h, List.filter_append, List.map_append]
  cases e : touch xs p.1 o <;> simp [e]
section
variable {P : Program} {w : World} {K : PySem.W.Frag} {mg : Str → Option Value} {base : Heap}
theorem ok_reaches {f : Addr} {fd : FuncData} (F : Fun K "_reaches" "_reaches" s_reaches f fd) (B : Blt mg) : FnOk P w K mg base CX0 1 f fd ["stone", "other"] (spReaches K) := by
  refine F.ok sc_reaches (fun vs H Q E h => ?_) (fun cdv A outer s H vs Q E hr h => ?_)
  · obtain ⟨a, b, x, y, rfl, _⟩ := h
    rfl
  · obtain ⟨a, b, x, y, rfl, ha, hb, k⟩ := h
    refine ⟨_, pss_cons (ps_asg (pv 0) (pg_tup rfl (pgs_cons (pg_name (i := 2) sc_reaches.nd rfl (Or.inl rfl)) (pgs_cons (pg_name (i := 3) sc_reaches.nd rfl (Or.inl rfl)) pgs_nil)))) (pss_one (ps_ret (pe_cmpR (op_le) (pe_callB (call_abs) (by rfl) B.abs boot_abs (pa_cons (pe_op op_sub (pe_ix ix_tup (pv 1) (pe_int) (fun _ _ => rfl)) (pv 2)) pa_nil)) (pv 3) (nomark _)))), ?_⟩
    refine ⟨_, rfl, a, _, rfl, ha, rfl, _, _, rfl, _, _, rfl, rfl, ?_⟩
    refine ⟨_, rfl, b, _, ((0 : Nat) : Int), _, rfl, rfl, hb, atI_nat (j := 0) rfl, _, rfl, _, _, rfl, rfl, _, rfl, _, rfl, _, _, rfl, rfl, ?_⟩
    exact k
theorem ok_ticks {f C pP gP gL g1 g2 g3 g4 : Addr} {fd dP d1 d2 d3 d4 : FuncData} (F : Fun K "fall_ticks" "fall_ticks" s_fall_ticks f fd) (B : Blt mg) (R : RowC K mg C) (SL : Sign K C "__len__" gL) (GL : FnR P w K mg base CX0 1 gL (spLen K C))
    (pr : PropOf K C "stones" pP gP) (P1 : FnOk P w K mg base CX0 1 gP dP ["self"] (spGet K C)) (bP : Binds K dP ["self"] [])
    (N1 : At P w K mg base CX0 2 "check_stone" ["stone", "count"] spCheckStone g1 d1) (N2 : At P w K mg base CX0 1 "check_side" ["side"] spCheckSide g2 d2)
    (N3 : At P w K mg base CX0 1 "stones_beside" ["stone", "side", "count"] spBeside g3 d3) (N4 : At P w K mg base CX0 1 "reaches_runs" ["stone", "other"] (spReaches K) g4 d4) :
    FnOk P w K mg base CX0 3 f fd ["row", "stone", "side"] (spTicks K C) := by
  refine F.ok sc_fall_ticks (fun vs H Q E h => ?_) (fun cdv A outer s H vs Q E hr h => ?_)
  · obtain ⟨p, xs, i, r, rfl, _⟩ := h
    rfl
  · obtain ⟨p, xs, i, r, rfl, hR, hw, hz, hi, k⟩ := h
    obtain ⟨dx, t, us, ep, hT, hS⟩ := id hR
    have r1 : Room 1 _ := hr.mono (by decide)
    have hu := hu_of hr
    refine ⟨_, pss_cons (ps_expr (pe_at N1 hr (pa_cons (pv 1) (pa_cons (pe_callB (Own.call_len SL.at_ SL.fn GL hr pass0) (by rfl) B.len PySem.boot_len (pa_cons (pv 0) pa_nil)) pa_nil))))
      (pss_cons (ps_expr (pe_at N2 r1 (pa_cons (pv 2) pa_nil)))
      (pss_cons (ps_set (i := 3) sc_fall_ticks.nd rfl (Or.inr rfl) (pe_prop (pv 0) R.cl pr P1 hr bP .nil pass0 rfl))
      (pss_cons (ps_set (i := 4) sc_fall_ticks.nd rfl (Or.inr rfl) (pe_disp (pps_cons (pv 1) pe_int pps_nil) (by rfl) (by rfl) (fun z => by cases z) (by decide)))
      (pss_cons (ps_for PassesOwn.never rfl (pi_list (pe_at N3 r1 (pa_cons (pv 1) (pa_cons (pv 2) (pa_cons (pe_callB (Own.call_len SL.at_ SL.fn GL hr pass0) (by rfl) B.len PySem.boot_len (pa_cons (pv 0) pa_nil)) pa_nil))))) (pg_name (i := 5) sc_fall_ticks.nd rfl (Or.inr rfl))
        (pss_cons (ps_lock (ps_setLc (i := 6) (own := [("fallen", 7)]) (g := gName 7) rfl sc_fall_ticks.nd rfl rfl (sw_true rfl rfl rfl (by decide +kernel)) (pi_keys (pv 4)) (blkOk_by (N := n_fall_ticks) (sc := defScope s_fall_ticks) (by decide +kernel))
          (fun _ _ _ _ _ => pg_name (i := 7) sc_fall_ticks.nd rfl (Or.inl rfl)) (fun _ _ _ _ _ => pts_one (show PT _ _ (tB (tCall (spReaches K) [] E0 (tCons (tOp (rIxT K) (tVar 3) (tVar 7)) (tCons (tOp (rIxT K) (tVar 3) (tVar 5)) tNil)))) from pt_val (pe_at N4 r1 (pa_cons (pe_ix ix_tup (pv 3) (pv 7) (fun _ _ => rfl)) (pa_cons (pe_ix ix_tup (pv 3) (pv 5) (fun _ _ => rfl)) pa_nil)))))
          (fun _ _ _ _ _ => pe_dget hu (pv 4) (pv 7) (fun _ _ => rfl))))
        (pss_one (ps_if (pt_truth (pv 6) (by intro _; rfl)) (pss_one (ps_dput hu (pv 4) (pv 5) (pe_op op_add (pe_callB ((cr_min rfl)) (by rfl) B.min boot_min (pa_cons (pv 6) pa_nil)) (pe_int)) rfl)) pss_nil))))
      (pss_one (ps_ret (pe_dc (own := [("fallen", 7)]) (g := gName 7) rfl sc_fall_ticks.nd (pi_list (pe_callB ((DictI.cr_sortedDI rfl)) (by rfl) B.sorted boot_sorted (pa_cons (pv 4) pa_nil))) (blkOk_by (N := n_fall_ticks) (sc := defScope s_fall_ticks) (by decide +kernel))
        (fun _ _ _ _ _ => pg_name (i := 7) sc_fall_ticks.nd rfl (Or.inl rfl)) (fun _ _ _ _ _ => pts_nil) (fun _ _ _ _ _ => pv 7) (fun _ _ _ _ _ => pe_dget hu (pv 4) (pv 7) (fun _ _ => rfl))))))))), ?_⟩
    -- check_stone, check_side
    refine ⟨_, rfl, _, rfl, p, dx, _, rfl, ep, p, xs, rfl, hR, _, rfl, by omega, by omega, i, xs.length, rfl, hi, ?_⟩
    refine ⟨_, rfl, r, rfl, ?_⟩
    have hx := hw.inc
    -- stones
    refine ⟨_, rfl, p, dx, _, rfl, ep, p, xs, rfl, hR, fun t us hT hS => ?_⟩
    refine nm_of ?_
    -- ticks
    refine fun dd nd => ⟨_, rfl, upd_same, [((Sum.inl (i : Int) : Key), V.int 0)], rfl, by show 1 ≤ 15; decide, ?_⟩
    have eM : upd (upd H dd (.dK [])) dd (.dK (mergeK [] [((Sum.inl (i : Int) : Key), V.int 0)])) = upd H dd (.dK (kvs [(i, 0)])) := upd_upd
    rw [eM]
    refine nm_of ?_
    have s1 : Same H (upd H dd (.dK (kvs [(i, 0)]))) := same_new nd
    have ed1 : (upd H dd (.dK (kvs [(i, 0)]))) dd = some (.dK (kvs [(i, 0)])) := upd_same
    generalize upd H dd (.dK (kvs [(i, 0)])) = H1 at s1 ed1
    -- the stones beside
    refine ⟨_, rfl, _, rfl, _, rfl, p, dx, _, rfl, s1 _ _ ep, p, xs, rfl, hR.same s1, _, rfl, by omega, by omega, i, xs.length, r, rfl, hi, by omega, fun q nq => ?_⟩
    have s2 : Same H (upd H1 q (.lst (ivs (beside r i xs.length)))) := s1.trans (same_new nq)
    have dq : dd ≠ q := ne_of_none ed1 nq
    have blen := beside_length r i xs.length
    have bm : bmax r i xs.length < xs.length := by cases r <;> simp [bmax] <;> omega
    refine ⟨q, rfl, ⟨_, SqL.of upd_same⟩, for_list (K := K) (a := q) (xs := ivs (beside r i xs.length)) (fun j σ H3 => ∃ (fs : List (Nat × Nat)) (s5 s6 s7 : Option V), σ = [some (.ref p), some (.int (i : Nat)), some (.str (sideS r)), some (.ref t), some (.ref dd), s5, s6, s7] ∧
      Same H H3 ∧ H3 dd = some (.dK (kvs fs)) ∧ H3 q = some (.lst (ivs (beside r i xs.length))) ∧ TickI xs r i j fs) ?_ ?_ ?_ ?_⟩
    · exact ⟨[(i, 0)], none, none, none, rfl, s2, by rw [upd_ne dq]; exact ed1, upd_same, TickI.start⟩
    · rintro j σ H3 _ ⟨_, _, _, _, _, _, _, e, _⟩
      exact SqL.of e
    · rintro j y σ H3 hy ⟨fs, s5, s6, s7, rfl, sm, ed, eq, T⟩
      obtain ⟨o, ho, rfl⟩ := ivs_get hy
      have hj : j < bmax r i xs.length := by rw [← blen]; exact (List.getElem?_eq_some_iff.mp ho).1
      obtain rfl : bpos r i (j + 1) = o := Option.some.inj ((beside_at hj).symm.trans ho)
      have hox : bpos r i (j + 1) < xs.length := bpos_lt hi hj
      obtain ⟨y, hy⟩ : ∃ y, xs[bpos r i (j + 1)]? = some y := ⟨xs[bpos r i (j + 1)], by simp [hox]⟩
      obtain ⟨cb, hcb, hscb⟩ := hS.2 _ y hy
      have fl : fs.length ≤ 41 := by have := T.len; omega
      refine nm_of ?_
      -- hits
      refine ⟨dd, _, ed, True.intro, fun od => ?_⟩
      have edz : (upd H3 dd (.frz od (.dK (kvs fs)))) dd = some (.frz od (.dK (kvs fs))) := upd_same
      refine ⟨_, rfl, dd, od, rfl, .inl ⟨kvs fs, edz, fun D nD => ?_⟩⟩
      have Dd : D ≠ dd := fun z => by rw [z, edz] at nD; cases nD
      have nD3 : H3 D = none := by rw [upd_ne Dd] at nD; exact nD
      refine lc_it (walk_keys (d := dd) (o := od) (kvs := kvs fs)) (fun n G => G dd = some (.frz od (.dK (kvs fs))) ∧ (∀ b o, b ≠ dd → H3 b = some o → G b = some o) ∧ G D = some (.lst (ivs (nearT xs (fs.take n) (bpos r i (j + 1)))))) ?_ ?_ ?_ ?_
      · exact ⟨by rw [upd_ne (Ne.symm Dd)]; exact edz, fun b o n e => by rw [upd_ne (ne_of_none e nD3), upd_ne n]; exact e, upd_same⟩
      · rintro n G _ ⟨e, _⟩
        exact e
      · rintro n x G G' hn ⟨eG, bG, eD⟩ ⟨rfl, kk, vv, e1, rfl⟩
        rw [kvs_len] at hn
        obtain ⟨⟨m, u⟩, hm⟩ : ∃ q, fs[n]? = some q := ⟨fs[n], by simp [hn]⟩
        have ek : (kvs fs)[n]? = some ((Sum.inl (m : Int) : Key), V.int (u : Int)) := by unfold kvs; rw [List.getElem?_map, hm]; rfl
        rw [ek] at e1
        obtain ⟨rfl, rfl⟩ : (Sum.inl (m : Int) : Key) = kk ∧ V.int (u : Int) = vv := by injection e1 with e1; injection e1 with a b; exact ⟨a, b⟩
        have hmf : (m, u) ∈ fs := List.mem_of_getElem? hm
        have hmx : m < xs.length := by
          obtain ⟨⟨dd', hd', e⟩, _⟩ := (T.has m u).mp hmf
          rw [e]
          exact bpos_lt hi (by omega)
        obtain ⟨x, hx1⟩ : ∃ x, xs[m]? = some x := ⟨xs[m], by simp [hmx]⟩
        obtain ⟨ca, hca, hsca⟩ := hS.2 m x hx1
        have up : ∀ {a : Addr} {zs : List V}, SqT K H a zs → SqT K G' a zs := fun {a zs} h => by
          have h3 := sqT_same h sm
          rcases h3 with (h3 | ⟨ob, h3⟩) | h3
          · exact .inl (.inl (bG _ _ (fun z => by rw [z, ed] at h3; cases h3) h3))
          · exact .inl (.inr ⟨ob, bG _ _ (fun z => by rw [z, ed] at h3; cases h3) h3⟩)
          · exact .inr h3
        have eN := near_take (xs := xs) (o := bpos r i (j + 1)) hm
        have et : decide (ab (y.1 - x.1) ≤ x.2) = touch xs m (bpos r i (j + 1)) := by
          unfold touch
          rw [(pl_of hy).1, (pl_of hx1).1, (pl_of hx1).2]
        refine ⟨rfl, _, rfl, _, rfl, t, us, _, _, rfl, rfl, up hT, atI_nat hca, _, rfl, _, rfl, t, us, _, _, rfl, rfl, up hT, atI_nat hcb, ca, cb, x, y, rfl, up hsca, up hscb, _, rfl, ?_⟩
        rw [et, eN]
        cases touch xs m (bpos r i (j + 1)) with
        | true =>
          refine iteT ⟨_, rfl, _, rfl, dd, V.int (u : Int), rfl, ?_, _, eD, ?_, ?_, fun b o n e => ?_, ?_⟩
          · exact .inl ⟨kvs fs, Sum.inl (m : Int), .inr ⟨od, eG⟩, rfl, (kvs_get T.nd hmf).symm⟩
          · unfold ivs nearT
            rw [List.length_map, List.length_map, sizeLine_eq]
            have := List.length_filter_le (fun p : Nat × Nat => touch xs p.1 (bpos r i (j + 1))) (fs.take n)
            rw [List.length_take] at this
            omega
          · rw [upd_ne (Ne.symm Dd)]; exact eG
          · rw [upd_ne (ne_of_none e nD3)]; exact bG b o n e
          · rw [upd_same]
            unfold ivs
            simp
        | false => exact iteF ⟨eG, bG, by rw [eD]; simp⟩
      · rintro G ⟨eG, bG, eD⟩
        rw [kvs_len, List.take_length] at eD
        refine ⟨eG, ?_⟩
        have smG : Same H (upd G dd (.dK (kvs fs))) := fun b o e => by
          have nb : b ≠ dd := ne_of_none e nd
          rw [upd_ne nb]
          exact bG b o nb (sm _ _ e)
        have eDG : (upd G dd (.dK (kvs fs))) D = some (.lst (ivs (nearT xs fs (bpos r i (j + 1))))) := by rw [upd_ne Dd]; exact eD
        have edG : (upd G dd (.dK (kvs fs))) dd = some (.dK (kvs fs)) := upd_same
        have eqG : (upd G dd (.dK (kvs fs))) q = some (.lst (ivs (beside r i xs.length))) := by rw [upd_ne (Ne.symm dq)]; exact bG _ _ (Ne.symm dq) eq
        generalize upd G dd (.dK (kvs fs)) = G2 at smG eDG edG eqG
        refine nm_of ?_
        dsimp only [List.set]
        -- if hits
        refine ⟨_, rfl, _, .inl ⟨_, SqL.of eDG, rfl⟩, ?_⟩
        cases hn : nearT xs fs (bpos r i (j + 1)) with
        | nil => exact iteF ⟨fs, _, _, _, rfl, smG, edG, eqG, T.none hx hi hj hn⟩
        | cons m0 ms =>
          have eI : ivs (m0 :: ms) = ((m0 :: ms).map fun (k : Nat) => (k : Int)).map V.int := by unfold ivs; rw [List.map_map]; rfl
          rw [hn, eI] at eDG
          refine iteT ⟨_, rfl, D, _, rfl, SqL.of eDG, by simp, fun m hm hle => ⟨_, _, rfl, rfl, _, rfl, _, rfl, dd, _, rfl, DPut.k (k := Sum.inl (bpos r i (j + 1) : Int)) edG (by rw [kvs_len, sizeLine_eq]; omega), ?_⟩⟩
          obtain ⟨m', hm', rfl⟩ := List.mem_map.mp hm
          obtain ⟨new, T'⟩ := T.some hx hi hj (m := m') (by rw [hn]; exact hm') (by
            rw [hn]
            intro y hy
            have := hle (y : Int) (List.mem_map.mpr ⟨y, hy, rfl⟩)
            omega)
          have ep' : putK (kvs fs) (Sum.inl (bpos r i (j + 1) : Int) : Key) (V.int ((m' : Int) + 1)) = kvs (fs ++ [(bpos r i (j + 1), m' + 1)]) := kvs_put (t := m' + 1) new
          rw [ep']
          refine ⟨_, _, _, _, rfl, same_upd smG nd, upd_same, ?_, T'⟩
          rw [upd_ne (Ne.symm dq)]
          exact eqG
    · rintro σ H3 ⟨fs, s5, s6, s7, rfl, sm, ed, eq, T⟩
      rw [show (ivs (beside r i xs.length)).length = bmax r i xs.length by unfold ivs; rw [List.length_map, blen]] at T
      have fl : fs.length ≤ xs.length := by have := T.len; omega
      -- the dict by sorted stones
      refine ⟨_, rfl, dd, kvs fs, _, rfl, .inl ed, kvs_keys fs, fun ys l pm so nl => ⟨l, rfl, ⟨_, SqL.of upd_same⟩, fun D nD => ?_⟩⟩
      obtain ⟨gs, rfl, gup, ghas, glen⟩ := by_keys T.nd pm so
      have sl := same_new (o := .lst ((gs.map fun p => (p.1 : Int)).map V.int)) nl
      have edl := sl _ _ ed
      have ell : (upd H3 l (.lst ((gs.map fun p => (p.1 : Int)).map V.int))) l = some (.lst ((gs.map fun p => (p.1 : Int)).map V.int)) := upd_same
      have sml := sm.trans sl
      generalize upd H3 l (.lst ((gs.map fun p => (p.1 : Int)).map V.int)) = H4 at edl ell sml nD
      have Dl : l ≠ D := ne_of_none ell nD
      have Ddd : dd ≠ D := ne_of_none edl nD
      have gnd : (gs.map (·.1)).Nodup := by
        refine (List.pairwise_map.mpr gup).imp fun {a b} h => ?_
        exact Nat.ne_of_lt h
      refine DictI.dc_it (walk_list (K := K) (a := l) (xs := (gs.map fun p => (p.1 : Int)).map V.int)) (fun n G => But D H4 G ∧ G D = some (.dK (kvs (gs.take n)))) ⟨but_upd, upd_same⟩ ?_ ?_ ?_
      · rintro n G _ ⟨b, _⟩
        exact SqL.of (b _ _ Dl ell)
      · rintro n x G G' hn ⟨b, eD⟩ ⟨rfl, hx⟩
        rw [List.length_map, List.length_map] at hn
        obtain ⟨⟨m, u⟩, hm⟩ : ∃ q, gs[n]? = some q := ⟨gs[n], by simp [hn]⟩
        rw [List.getElem?_map, List.getElem?_map, hm] at hx
        obtain rfl : V.int (m : Int) = x := Option.some.inj hx
        have hmf : (m, u) ∈ fs := (ghas _).mp (List.mem_of_getElem? hm)
        refine ⟨rfl, _, rfl, _, rfl, _, rfl, dd, V.int (u : Int), rfl, ?_, _, Sum.inl (m : Int), rfl, eD, ?_, b.trans but_upd, ?_⟩
        · exact .inl ⟨kvs fs, Sum.inl (m : Int), .inl (b _ _ Ddd edl), rfl, (kvs_get T.nd hmf).symm⟩
        · rw [kvs_len, List.length_take, sizeLine_eq]
          omega
        · have new : m ∉ (gs.take n).map (·.1) := fun z => by
            rw [List.map_take] at z
            obtain ⟨a, ha, e⟩ := List.mem_take_iff_getElem.mp z
            have h2 : (gs.map (·.1))[n]? = some m := by rw [List.getElem?_map, hm]; rfl
            have h1 : (gs.map (·.1))[a]? = some m := by rw [List.getElem?_eq_getElem (by omega)]; exact congrArg some e
            have := (List.getElem?_inj (by omega) gnd).mp (h1.trans h2.symm)
            omega
          rw [upd_same, List.take_add_one, hm]
          exact congrArg (fun z => some (HO.dK z)) (kvs_put (t := u) new)
      · rintro G ⟨b, eD⟩
        rw [List.length_map, List.length_map, List.take_length] at eD
        have smG : Same H G := sml.trans (But.same b nD)
        refine k D gs G smG (Same.free sml nD) eD ⟨gup, fun a u => ?_, by omega⟩
        rw [ghas]
        exact T.all hx hi a u
end
/-! ### greatest_runs, fewest_to_side -/
theorem sqT_pair {K : PySem.W.Frag} {H : Hp} {v : V} {p : Nat × Nat} (h : PairV K H v p) : ∃ a : Addr, v = .ref a ∧ SqT K H a [.int (p.1 : Nat), .int (p.2 : Nat)] := h
def spWithin (K : PySem.W.Frag) : Sp := fun vs H Q _ => ∃ (v : V) (l : Addr) (us : List V) (p : Nat × Nat) (ps : List (Nat × Nat)), vs = [v, .ref l] ∧ PairV K H v p ∧ SqL K H l us ∧ PairsAt K H us ps ∧ ps.length ≤ 1000 ∧ ∀ H', Same H H' → Q (.bl (within p ps)) H'
def spGreat (K : PySem.W.Frag) (C : Addr) : Sp := fun vs H Q _ => ∃ (q : Addr) (xs : List (Int × Int)) (r : Bool), vs = [.ref q, .str (sideS r)] ∧ RowAt K C H q xs ∧ xs.length ≤ 40 ∧
  ∀ (z : Addr) (us : List V) (H' : Hp), Same H H' → H z = none → H' z = some (.lst us) → PairsAt K H' us (great xs r) → Q (.ref z) H'
/-- the stones that are pushed -/
def pushed (xs : List (Int × Int)) (r : Bool) : List Nat := (great xs r).map fun p => if r then p.1 else p.2
def spToSide (K : PySem.W.Frag) (C : Addr) : Sp := fun vs H Q _ => ∃ (q : Addr) (xs : List (Int × Int)) (r : Bool), vs = [.ref q, .str (sideS r)] ∧ RowAt K C H q xs ∧ xs.length ≤ 40 ∧
  ∀ (z : Addr) (H' : Hp), Same H H' → H z = none → H' z = some (.lst (ivs (pushed xs r))) → Q (.ref z) H'
theorem great_len (xs : List (Int × Int)) (r : Bool) : (great xs r).length ≤ xs.length := by
  unfold great
  refine Nat.le_trans (List.length_filter_le _ _) ?_
  unfold runsL
  rw [List.length_map, List.length_range]
  exact Nat.le_refl _
theorem runsL_len (xs : List (Int × Int)) (r : Bool) : (runsL xs r).length = xs.length := by unfold runsL; rw [List.length_map, List.length_range]
theorem filter_yes {α : Type} (l : List α) : l.filter (fun _ => true) = l := List.filter_eq_self.mpr fun _ _ => rfl
section
variable {P : Program} {w : World} {K : PySem.W.Frag} {mg : Str → Option Value} {base : Heap}
theorem ok_within {f : Addr} {fd : FuncData} (F : Fun K "_is_within_another" "_is_within_another" s_is_within_another f fd) (zA : mg "any" = none) : FnOk P w K mg base CX0 1 f fd ["run", "runs"] (spWithin K) := by
  refine F.ok sc_is_within_another (fun vs H Q E h => ?_) (fun cdv A outer s H vs Q E hr h => ?_)
  · obtain ⟨v, l, us, p, ps, rfl, _⟩ := h
    rfl
  · obtain ⟨v, l, us, p, ps, rfl, hp, hl, hP, hn, k⟩ := h
    have hu := hr.units
    refine ⟨_, pss_cons (ps_asg (pv 0) (pg_tup rfl (pgs_cons (pg_name (i := 2) sc_is_within_another.nd rfl (Or.inr rfl)) (pgs_cons (pg_name (i := 3) sc_is_within_another.nd rfl (Or.inr rfl)) pgs_nil))))
      (pss_one (ps_ret (pe_callB (cr_any rfl) (by rfl) zA boot_any (pa_cons (pe_lc (own := [("other", 4)]) (g := gName 4) (tt := tYes) rfl sc_is_within_another.nd (pi_list (pv 1)) (blkOk_by (N := n_is_within_another) (sc := defScope s_is_within_another) (by decide +kernel))
        (fun _ _ _ _ _ => pg_name (i := 4) sc_is_within_another.nd rfl (Or.inl rfl)) (fun _ _ _ _ _ => pts_nil)
        (fun _ _ _ _ _ => (show PE _ _ (tAndV (tOp (rNeD K) (tVar 4) (tVar 0)) (tAndV (tOp (rI0 fun i j => .bl (decide (i ≤ j))) (tOp (rIxT K) (tVar 4) (tC (.int 0))) (tVar 2)) (tOp (rI0 fun i j => .bl (decide (i ≤ j))) (tVar 3) (tOp (rIxT K) (tVar 4) (tC (.int 1)))))) from
          pe_and (pe_cmpR (op_neD hu) (pv 4) (pv 0) (nomark _)) (pe_and (pe_cmpR (op_le) (pe_ix ix_tup (pv 4) (pe_int) (fun _ _ => rfl)) (pv 2) (nomark _)) (pe_one (pe_cmpR (op_le) (pv 3) (pe_ix ix_tup (pv 4) (pe_int) (fun _ _ => rfl)) (nomark _))))))) pa_nil)))), ?_⟩
    obtain ⟨a, rfl, ha⟩ := id hp
    refine ⟨_, rfl, a, _, rfl, ha, rfl, _, _, rfl, _, _, rfl, rfl, ?_⟩
    refine ⟨_, rfl, l, rfl, ⟨_, hl⟩, fun D nD => lc_fm (walk_list (K := K) (a := l) (xs := us)) ps (fun _ => true) (inside p) (fun _ v b => v = V.bl b) (paired_len hP).symm (by rw [paired_len hP]; omega) nD (fun _ _ _ _ _ _ _ q => q) (fun G e => e.seq hl) ?_ ?_⟩
    · rintro n o x G G' N M ho sm _ ⟨rfl, hx⟩ _ go
      obtain ⟨x', hx', hpo⟩ := paired_at hP ho
      obtain rfl : x = x' := Option.some.inj (hx.symm.trans hx')
      have hpo := PairV.same sm hpo
      obtain ⟨b, rfl, hb⟩ := id hpo
      have hv := PairV.same sm hp
      refine ⟨rfl, _, rfl, _, rfl, prD o, prD p, prD_dp hpo, prD_dp hv, prD_shaped o, prD_shaped p, _, rfl, ?_⟩
      rw [prD_eqv]
      have key : ∀ c, inside p o = c → M (V.bl c) G' := fun c e => go (V.bl c) G' rfl (Same.refl _) (by rw [e])
      unfold inside at key
      by_cases e1 : o = p
      · rw [decide_eq_true e1]
        exact iteF (key false (by rw [decide_eq_false (fun z => z e1)]; rfl))
      · rw [decide_eq_false e1]
        refine iteT ⟨_, rfl, b, _, ((0 : Nat) : Int), _, rfl, rfl, hb, atI_nat (j := 0) rfl, _, rfl, _, _, rfl, rfl, _, rfl, ?_⟩
        have e1' : decide (o ≠ p) = true := decide_eq_true e1
        by_cases e2 : o.1 ≤ p.1
        · rw [decide_eq_true (show (o.1 : Int) ≤ (p.1 : Int) by omega)]
          refine iteT ⟨_, rfl, _, rfl, b, _, ((1 : Nat) : Int), _, rfl, rfl, hb, atI_nat (j := 1) rfl, _, _, rfl, rfl, ?_⟩
          refine key _ ?_
          rw [e1', decide_eq_true e2, Bool.true_and, Bool.true_and]
          exact decide_eq_decide.mpr (by omega)
        · rw [decide_eq_false (show ¬ (o.1 : Int) ≤ (p.1 : Int) by omega)]
          exact iteF (key false (by rw [e1', decide_eq_false e2]; rfl))
    · intro G ys sm eD rel
      rw [filter_yes] at rel
      refine ⟨D, ps.map (inside p), rfl, SqL.of (by rw [eD, paired_eq V.bl rel]), ?_⟩
      have e : (ps.map (inside p)).any id = within p ps := by
        unfold within
        rw [List.any_map]
        rfl
      rw [e]
      exact k G sm
theorem ok_great {f C gC gL g2 g3 : Addr} {fd d2 d3 : FuncData} (F : Fun K "greatest_runs" "greatest_runs" s_greatest_runs f fd) (B : Blt mg) (R : RowC K mg C) (O : StX.CallO K C gC) (GC : FnR P w K mg base CX0 3 gC (spCall K C))
    (SL : Sign K C "__len__" gL) (GL : FnR P w K mg base CX0 1 gL (spLen K C)) (N2 : At P w K mg base CX0 1 "check_side" ["side"] spCheckSide g2 d2) (N3 : At P w K mg base CX0 1 "_is_within_another" ["run", "runs"] (spWithin K) g3 d3) :
    FnOk P w K mg base CX0 4 f fd ["row", "side"] (spGreat K C) := by
  refine F.ok sc_greatest_runs (fun vs H Q E h => ?_) (fun cdv A outer s H vs Q E hr h => ?_)
  · obtain ⟨q, xs, r, rfl, _⟩ := h
    rfl
  · obtain ⟨q, xs, r, rfl, hR, hz, k⟩ := h
    obtain ⟨dx, t, us, ep, hT, hS⟩ := id hR
    have r2 : Room 2 _ := hr.mono (by decide)
    have r1 : Room 1 _ := hr.mono (by decide)
    refine ⟨_, pss_cons (ps_expr (pe_at N2 r1 (pa_cons (pv 1) pa_nil)))
      (pss_cons (ps_set (i := 2) sc_greatest_runs.nd rfl (Or.inr rfl) (pe_lc (own := [("stone", 3)]) (g := gName 3) (tt := tYes) rfl sc_greatest_runs.nd (pi_range1 (by rfl) B.range (pa_cons (pe_callB (Own.call_len SL.at_ SL.fn GL r2 pass0) (by rfl) B.len PySem.boot_len (pa_cons (pv 0) pa_nil)) pa_nil)) (blkOk_by (N := n_greatest_runs) (sc := defScope s_greatest_runs) (by decide +kernel))
          (fun _ _ _ _ _ => pg_name (i := 3) sc_greatest_runs.nd rfl (Or.inl rfl)) (fun _ _ _ _ _ => pts_nil) (fun _ _ _ _ _ => (show PE _ _ (StX.tCallO (cxOf CX0 P w K mg base n_greatest_runs "greatest_runs" (defScope s_greatest_runs) f cdv A outer s H E).nox C (spCall K C) E0 (tVar 0) (tCons (tVar 3) (tCons (tVar 1) tNil))) from StX.pe_callO (pv 0) O GC hr pass0 (pa_cons (pv 3) (pa_cons (pv 1) pa_nil))))))
      (pss_one (ps_ret (pe_lc (own := [("run", 4)]) (g := gName 4) rfl sc_greatest_runs.nd (pi_list (pv 2)) (blkOk_by (N := n_greatest_runs) (sc := defScope s_greatest_runs) (by decide +kernel))
          (fun _ _ _ _ _ => pg_name (i := 4) sc_greatest_runs.nd rfl (Or.inl rfl)) (fun _ _ _ _ _ => pts_one (show PT _ _ (tNot (tB (tCall (spWithin K) [] E0 (tCons (tVar 4) (tCons (tVar 2) tNil))))) from pt_not (pt_val (pe_at N3 r1 (pa_cons (pv 4) (pa_cons (pv 2) pa_nil)))))) (fun _ _ _ _ _ => pv 4))))), ?_⟩
    refine ⟨_, rfl, r, rfl, ?_⟩
    -- runs
    refine ⟨_, rfl, q, dx, _, rfl, ep, q, xs, rfl, hR, _, rfl, by omega, by omega, (xs.length : Int), rfl, by omega, by omega, fun D nD => ?_⟩
    rw [show ((xs.length : Int)).toNat = xs.length by omega]
    refine lc_fm (walk_range (lo := 0) (n := xs.length)) (List.range xs.length) (fun _ => true) (fun i => run xs i r) (PairV K) List.length_range (by omega) nD (fun _ _ _ _ _ hD b q => q.but hD b) (fun _ _ => True.intro) ?_ ?_
    · rintro n i x G G' N M hi sm _ ⟨rfl, hxx⟩ _ go
      obtain rfl : x = V.int (n : Int) := hxx.trans (congrArg V.int (Int.zero_add _))
      obtain rfl : n = i := by
        have := List.getElem?_eq_some_iff.mp hi
        obtain ⟨h1, h2⟩ := this
        simpa using h2
      have hn : n < xs.length := by
        have := (List.getElem?_eq_some_iff.mp hi).1
        simpa using this
      exact ⟨rfl, _, rfl, q, rfl, _, rfl, _, rfl, .inr ⟨dx, _, sm _ _ ep⟩, q, xs, n, r, rfl, hR.same sm, hn, hz, fun T1 H8 s8 n8 e8 => go _ _ rfl s8 ⟨T1, rfl, SqT.of e8⟩⟩
    · intro G us sm eD rel
      rw [filter_yes] at rel
      have rel : PairsAt K G us (runsL xs r) := rel
      have lu : us.length = xs.length := by rw [paired_len rel, runsL_len]
      refine nm_of ?_
      -- those in no other one
      refine ⟨_, rfl, D, rfl, ⟨_, SqL.of eD⟩, fun D2 nD2 => lc_fm (walk_list (K := K) (a := D) (xs := us)) (runsL xs r) (fun p => !within p (runsL xs r)) (fun p => p) (PairV K) (paired_len rel).symm (by omega) nD2 (fun _ _ _ _ _ hD b q => q.but hD b) (fun _ e => e.seq (SqL.of eD)) ?_ ?_⟩
      · rintro n p x G2 G' N M hp s2 _ ⟨rfl, hx⟩ no go
        obtain ⟨x', hx', hpv⟩ := paired_at rel hp
        obtain rfl : x = x' := Option.some.inj (hx.symm.trans hx')
        have hpv := PairV.same s2 hpv
        refine ⟨rfl, _, rfl, _, rfl, x, D, us, p, runsL xs r, rfl, hpv, s2.seq (SqL.of eD), rel.same s2, by rw [runsL_len]; omega, fun H5 s5 => ⟨_, rfl, ?_⟩⟩
        cases e : within p (runsL xs r) with
        | true => exact iteF (no H5 (by rw [e]; rfl) s5)
        | false => exact iteT ⟨_, rfl, go x H5 (by rw [e]; rfl) s5 (hpv.same s5)⟩
      · intro G2 us2 s2 e2' rel2
        have e0 : ((runsL xs r).filter fun p => !within p (runsL xs r)).map (fun p => p) = great xs r := List.map_id' _
        rw [e0] at rel2
        exact k D2 us2 G2 (sm.trans s2) (Same.free sm nD2) e2' rel2
theorem ok_toSide {f C g : Addr} {fd gd : FuncData} (F : Fun K "fewest_to_side" "fewest_to_side" s_fewest_to_side f fd) (N : At P w K mg base CX0 4 "greatest_runs" ["row", "side"] (spGreat K C) g gd) : FnOk P w K mg base CX0 5 f fd ["row", "side"] (spToSide K C) := by
  refine F.ok sc_fewest_to_side (fun vs H Q E h => ?_) (fun cdv A outer s H vs Q E hr h => ?_)
  · obtain ⟨q, xs, r, rfl, _⟩ := h
    rfl
  · obtain ⟨q, xs, r, rfl, hR, hz, k⟩ := h
    refine ⟨_, pss_cons (ps_set (i := 2) sc_fewest_to_side.nd rfl (Or.inl rfl) (pe_at N hr (pa_cons (pv 0) (pa_cons (pv 1) pa_nil))))
      (pss_cons (ps_if (pt_cmpR (op_eq) (pv 1) (pe_str) (nomark _)) (pss_one (ps_ret (pe_lc (own := [("first", 3), ("_", 4)]) (g := gTup K 2 (gCons (gName 3) (gCons (gName 4) gNil))) (tt := tYes) rfl sc_fewest_to_side.nd (pi_list (pv 2)) (blkOk_by (N := n_fewest_to_side) (sc := defScope s_fewest_to_side) (by decide +kernel))
          (fun _ _ _ _ _ => (show PG _ _ (gTup K 2 (gCons (gName 3) (gCons (gName 4) gNil))) from pg_tup rfl (pgs_cons (pg_name (i := 3) sc_fewest_to_side.nd rfl (Or.inl rfl)) (pgs_cons (pg_name (i := 4) sc_fewest_to_side.nd rfl (Or.inl rfl)) pgs_nil)))) (fun _ _ _ _ _ => pts_nil) (fun _ _ _ _ _ => pv 3)))) pss_nil)
      (pss_one (ps_ret (pe_lc (own := [("_", 4), ("last", 5)]) (g := gTup K 2 (gCons (gName 4) (gCons (gName 5) gNil))) (tt := tYes) rfl sc_fewest_to_side.nd (pi_list (pv 2)) (blkOk_by (N := n_fewest_to_side) (sc := defScope s_fewest_to_side) (by decide +kernel))
          (fun _ _ _ _ _ => (show PG _ _ (gTup K 2 (gCons (gName 4) (gCons (gName 5) gNil))) from pg_tup rfl (pgs_cons (pg_name (i := 4) sc_fewest_to_side.nd rfl (Or.inl rfl)) (pgs_cons (pg_name (i := 5) sc_fewest_to_side.nd rfl (Or.inl rfl)) pgs_nil)))) (fun _ _ _ _ _ => pts_nil) (fun _ _ _ _ _ => pv 5))))), ?_⟩
    refine ⟨_, rfl, _, rfl, q, xs, r, rfl, hR, hz, fun z us H1 s1 nz ez rel => ?_⟩
    refine nm_of ?_
    have gl := great_len xs r
    have lu : us.length ≤ 40 := by rw [paired_len rel]; omega
    refine ⟨_, rfl, rfl, _, rfl, ?_⟩
    rw [right_eq]
    have fin : ∀ (D : Addr) (G : Hp) (ys : List V), H1 D = none → Same H1 G → G D = some (.lst ys) → ys = ivs (pushed xs r) → Q (.ref D) G := fun D G ys nD sm eD e => by
      refine k D G (s1.trans sm) (Same.free s1 nD) ?_
      rw [eD, e]
    cases r with
    | true =>
      refine iteT ⟨_, rfl, z, rfl, ⟨_, SqL.of ez⟩, fun D nD => lc_fm (walk_list (K := K) (a := z) (xs := us)) (great xs true) (fun _ => true) (fun p => p.1) (fun _ v n => v = V.int (n : Nat)) (paired_len rel).symm (by omega) nD (fun _ _ _ _ _ _ _ q => q) (fun _ e => e.seq (SqL.of ez)) ?_ ?_⟩
      · rintro n p x G G' N M hp sm _ ⟨rfl, hx⟩ _ go
        obtain ⟨x', hx', hpv⟩ := paired_at rel hp
        obtain rfl : x = x' := Option.some.inj (hx.symm.trans hx')
        obtain ⟨b, rfl, hb⟩ := PairV.same sm hpv
        exact ⟨b, _, rfl, hb, rfl, _, _, rfl, _, _, rfl, rfl, rfl, _, rfl, go _ _ rfl (Same.refl _) rfl⟩
      · intro G ys sm eD rel2
        rw [filter_yes] at rel2
        refine fin D G ys nD sm eD ?_
        rw [paired_eq (fun n : Nat => V.int (n : Int)) rel2]
        rfl
    | false =>
      refine iteF ⟨_, rfl, z, rfl, ⟨_, SqL.of ez⟩, fun D nD => lc_fm (walk_list (K := K) (a := z) (xs := us)) (great xs false) (fun _ => true) (fun p => p.2) (fun _ v n => v = V.int (n : Nat)) (paired_len rel).symm (by omega) nD (fun _ _ _ _ _ _ _ q => q) (fun _ e => e.seq (SqL.of ez)) ?_ ?_⟩
      · rintro n p x G G' N M hp sm _ ⟨rfl, hx⟩ _ go
        obtain ⟨x', hx', hpv⟩ := paired_at rel hp
        obtain rfl : x = x' := Option.some.inj (hx.symm.trans hx')
        obtain ⟨b, rfl, hb⟩ := PairV.same sm hpv
        exact ⟨b, _, rfl, hb, rfl, _, _, rfl, _, _, rfl, rfl, rfl, _, rfl, go _ _ rfl (Same.refl _) rfl⟩
      · intro G ys sm eD rel2
        rw [filter_yes] at rel2
        refine fin D G ys nD sm eD ?_
        rw [paired_eq (fun n : Nat => V.int (n : Int)) rel2]
        rfl
end
/-! ### live rows: stones that stand, lie or are taken -/
abbrev Cnd := Option Bool
def cndS : Cnd → Str
  | some true => "standing"
  | some false => "lying"
  | none => "taken"
def cnV (cs : List Cnd) : List V := cs.map fun c => V.str (cndS c)
theorem cnV_len (cs : List Cnd) : (cnV cs).length = cs.length := by unfold cnV; rw [List.length_map]
theorem cnV_at {cs : List Cnd} {i : Nat} {c : Cnd} (h : cs[i]? = some c) : (cnV cs)[i]? = some (V.str (cndS c)) := by unfold cnV; rw [List.getElem?_map, h]; rfl
theorem cnd_dec (c d : Cnd) : decide (V.str (cndS c) = V.str (cndS d)) = decide (c = d) := by
  rcases c with _ | _ | _ <;> rcases d with _ | _ | _ <;> decide +kernel
def idxs (cs : List Cnd) (c : Cnd) : List Nat := (List.range cs.length).filter fun k => decide (cs[k]? = some c)
def mark (cs : List Cnd) (l : List Nat) (c : Cnd) : List Cnd := (List.range cs.length).map fun k => if k ∈ l then c else cs.getD k none
theorem mark_len (cs : List Cnd) (l : List Nat) (c : Cnd) : (mark cs l c).length = cs.length := by unfold mark; rw [List.length_map, List.length_range]
theorem mark_at {cs : List Cnd} {l : List Nat} {c : Cnd} {k : Nat} (hk : k < cs.length) : (mark cs l c)[k]? = some (if k ∈ l then c else cs.getD k none) := by
  unfold mark
  rw [List.getElem?_map, List.getElem?_range hk]
  rfl
def ups (cs : List Cnd) : List Bool := cs.map fun c => decide (c = some true)
theorem ups_len (cs : List Cnd) : (ups cs).length = cs.length := by unfold ups; rw [List.length_map]
theorem ups_at {cs : List Cnd} {o : Nat} : (ups cs)[o]? = some true ↔ o ∈ idxs cs (some true) := by
  unfold ups idxs
  rw [List.getElem?_map, List.mem_filter, List.mem_range, decide_eq_true_eq]
  constructor
  · intro h
    cases e : cs[o]? with
    | none => rw [e] at h; cases h
    | some c =>
      rw [e] at h
      have h : decide (c = some true) = true := by injection h
      have h := of_decide_eq_true h
      exact ⟨(List.getElem?_eq_some_iff.mp e).1, by rw [h]⟩
  · rintro ⟨_, h⟩
    rw [h]
    rfl
def fellL (xs : List (Int × Int)) (cs : List Cnd) (i : Nat) (r : Bool) : List Nat := (List.range xs.length).filter fun j => decide (j ∈ felled xs (ups cs) i r)
theorem idxs_mem {cs : List Cnd} {c : Cnd} {k : Nat} : k ∈ idxs cs c ↔ cs[k]? = some c := by
  unfold idxs
  rw [List.mem_filter, List.mem_range, decide_eq_true_eq]
  exact ⟨fun h => h.2, fun h => ⟨(List.getElem?_eq_some_iff.mp h).1, h⟩⟩
theorem idxs_len (cs : List Cnd) (c : Cnd) : (idxs cs c).length ≤ cs.length := by
  unfold idxs
  have := List.length_filter_le (fun k => decide (cs[k]? = some c)) (List.range cs.length)
  rwa [List.length_range] at this
theorem scan_sl (xs : List (Int × Int)) (sd : List Bool) (p0 : Int) : ∀ (os : List Nat) (r : Int), (scan xs sd p0 r os).Sublist os
  | [], r => by simp [scan]
  | o :: os, r => by
    unfold scan
    split
    · exact List.nil_sublist _
    · split
      · exact List.nil_sublist _
      · split
        · exact (scan_sl xs sd p0 os _).cons₂ o
        · exact (scan_sl xs sd p0 os r).cons o
theorem beside_nodup {r : Bool} {i n : Nat} (hi : i < n) : (i :: beside r i n).Nodup := by
  unfold beside
  cases r with
  | true =>
    rw [if_pos rfl, List.nodup_cons]
    refine ⟨fun h => ?_, List.Pairwise.map _ (fun x y h => ?_) List.nodup_range⟩
    · obtain ⟨k, _, e⟩ := List.mem_map.mp h
      omega
    · have h : x ≠ y := h
      show i + 1 + x ≠ i + 1 + y
      omega
  | false =>
    rw [if_neg (by decide), List.nodup_cons]
    refine ⟨fun h => ?_, ?_⟩
    · obtain ⟨k, hk, e⟩ := List.mem_map.mp h
      have := List.mem_range.mp hk
      omega
    · have : ((List.range i).map fun k => i - 1 - k).Pairwise (· ≠ ·) := by
        rw [List.pairwise_map]
        refine List.Pairwise.imp_of_mem ?_ (List.pairwise_lt_range (n := i))
        intro a b ha hb h
        have := List.mem_range.mp ha
        have := List.mem_range.mp hb
        have h : a < b := h
        omega
      exact this
theorem felled_nodup {xs : List (Int × Int)} {sd : List Bool} {i : Nat} {r : Bool} (hi : i < xs.length) : (felled xs sd i r).Nodup := by
  unfold felled
  have e : xs[i]? = some xs[i] := by simp [hi]
  rw [e]
  exact ((scan_sl xs sd _ _ _).cons₂ i).nodup (beside_nodup hi)
theorem felled_lt {xs : List (Int × Int)} {sd : List Bool} {i : Nat} {r : Bool} (hi : i < xs.length) : ∀ j ∈ felled xs sd i r, j < xs.length := by
  unfold felled
  have e : xs[i]? = some xs[i] := by simp [hi]
  rw [e]
  intro j hj
  rcases List.mem_cons.mp hj with rfl | hj
  · exact hi
  · exact beside_lt hi j ((scan_sl xs sd _ _ _).subset hj)
theorem up_leN (ns : List Nat) (h : ns.Pairwise (· < ·)) : (ns.map fun (k : Nat) => (k : Int)).Pairwise (· ≤ ·) := by
  rw [List.pairwise_map]
  exact h.imp fun {a b} q => by omega
theorem srt_one {ms : List Int} {ns : List Nat} (s : ms.Pairwise (· ≤ ·)) (h : ns.Pairwise (· < ·)) (p : ms.Perm (ns.map fun (k : Nat) => (k : Int))) : ms = ns.map fun (k : Nat) => (k : Int) :=
  p.eq_of_pairwise (fun _ _ _ _ => Int.le_antisymm) s (up_leN ns h)
theorem filter_lt (n : Nat) (p : Nat → Bool) : ((List.range n).filter p).Pairwise (· < ·) := List.Pairwise.filter _ (List.pairwise_lt_range (n := n))
theorem felled_is {xs : List (Int × Int)} {cs : List Cnd} {i : Nat} {r : Bool} {ms : List Int} (hi : i < xs.length) (p : ms.Perm ((felled xs (ups cs) i r).map fun (k : Nat) => (k : Int))) (s : ms.Pairwise (· ≤ ·)) : ms.map V.int = ivs (fellL xs cs i r) := by
  have q : (felled xs (ups cs) i r).Perm (fellL xs cs i r) := (List.perm_ext_iff_of_nodup (felled_nodup hi) (List.Pairwise.filter _ List.nodup_range)).mpr fun j => by
    rw [List.mem_filter, List.mem_range, decide_eq_true_eq]
    exact ⟨fun h => ⟨felled_lt hi j h, h⟩, fun h => h.2⟩
  rw [srt_one s (filter_lt _ _) (p.trans (q.map _))]
  unfold ivs
  rw [List.map_map]
  rfl
theorem fellL_lt {xs : List (Int × Int)} {cs : List Cnd} {i : Nat} {r : Bool} : ∀ j ∈ fellL xs cs i r, j < xs.length := fun j h => List.mem_range.mp (List.mem_filter.mp h).1
theorem fellL_len (xs : List (Int × Int)) (cs : List Cnd) (i : Nat) (r : Bool) : (fellL xs cs i r).length ≤ xs.length := by
  unfold fellL
  have := List.length_filter_le (fun j => decide (j ∈ felled xs (ups cs) i r)) (List.range xs.length)
  rwa [List.length_range] at this
theorem flat_iv (T : List Nat) : (ivs T).all flatV = true := by
  unfold ivs
  rw [List.all_eq_true]
  intro v hv
  obtain ⟨k, _, rfl⟩ := List.mem_map.mp hv
  rfl
theorem inV_iv {j : Nat} {ns : List Nat} : inV (.int (j : Int)) (ivs ns) = decide (j ∈ ns) := by
  unfold inV ivs
  rw [List.any_map, Bool.eq_iff_iff, List.any_eq_true, decide_eq_true_eq]
  constructor
  · rintro ⟨y, hy, e⟩
    have : (y : Int) = j := by simpa [eqV] using e
    have : y = j := by omega
    exact this ▸ hy
  · intro h
    exact ⟨j, h, by simp [eqV]⟩
theorem at_lst {α : Type} {l : List α} {v : α} (h : l[l.length - 1]? = some v) (hl : 0 < l.length) : atI l (-1) = some v := by
  have e : ixN l.length (-1) = some (l.length - 1) := by
    unfold ixN
    rw [if_neg (by decide)]
    have : ((-1 : Int) + (l.length : Int)).toNat = l.length - 1 := by omega
    simp
    omega
  unfold atI
  rw [e]
  exact h
/-! ### pushes one after another, by the generator -/
abbrev Psh := Nat × Bool
def PshAt (K : PySem.W.Frag) (H : Hp) (v : V) (p : Psh) : Prop := ∃ a : Addr, v = .ref a ∧ SqT K H a [.int (p.1 : Nat), .str (sideS p.2)]
def LstAt (H H' : Hp) (v : V) (l : List Nat) : Prop := ∃ z : Addr, v = .ref z ∧ H z = none ∧ H' z = some (.lst (ivs l))
def LstB (b : Addr) (H G : Hp) (v : V) (l : List Nat) : Prop := ∃ z : Addr, v = .ref z ∧ H z = none ∧ z ≠ b ∧ G z = some (.lst (ivs l))
theorem LstB.but {b : Addr} {H G G' : Hp} {v : V} {l : List Nat} (h : LstB b H G v l) (e : But b G G') : LstB b H G' v l := let ⟨z, h1, h2, h3, h4⟩ := h; ⟨z, h1, h2, h3, e _ _ h3 h4⟩
def pushN (xs : List (Int × Int)) (cs : List Cnd) (p : Psh) : List Cnd := mark cs (fellL xs cs p.1 p.2) (some false)
def fallsL (xs : List (Int × Int)) : List Cnd → List Psh → List (List Nat)
  | _, [] => []
  | cs, p :: ps => fellL xs cs p.1 p.2 :: fallsL xs (pushN xs cs p) ps
def okPs (xs : List (Int × Int)) : List Cnd → List Psh → Prop
  | _, [] => True
  | cs, p :: ps => cs[p.1]? = some (some true) ∧ okPs xs (pushN xs cs p) ps
def condPs (xs : List (Int × Int)) (cs : List Cnd) (ps : List Psh) : List Cnd := ps.foldl (pushN xs) cs
def allT (n : Nat) : List Cnd := List.replicate n (some true)
theorem condPs_len (xs : List (Int × Int)) : ∀ (ps : List Psh) (cs : List Cnd), (condPs xs cs ps).length = cs.length
  | [], _ => rfl
  | p :: ps, cs => (condPs_len xs ps (pushN xs cs p)).trans (mark_len _ _ _)
theorem condPs_snoc (xs : List (Int × Int)) (cs : List Cnd) (ps : List Psh) (p : Psh) : condPs xs cs (ps ++ [p]) = pushN xs (condPs xs cs ps) p := by unfold condPs; rw [List.foldl_append]; rfl
theorem fallsL_snoc (xs : List (Int × Int)) : ∀ (ps : List Psh) (cs : List Cnd) (p : Psh), fallsL xs cs (ps ++ [p]) = fallsL xs cs ps ++ [fellL xs (condPs xs cs ps) p.1 p.2]
  | [], _, _ => rfl
  | q :: ps, cs, p => congrArg (fellL xs cs q.1 q.2 :: ·) (fallsL_snoc xs ps (pushN xs cs q) p)
theorem okPs_at {xs : List (Int × Int)} : ∀ {cs : List Cnd} {ps : List Psh} {j : Nat} {p : Psh}, okPs xs cs ps → ps[j]? = some p → (condPs xs cs (ps.take j))[p.1]? = some (some true)
  | _, [], _, _, _, e => by simp at e
  | cs, q :: ps, 0, p, h, e => by
    simp at e
    subst e
    exact h.1
  | cs, q :: ps, j + 1, p, h, e => okPs_at (cs := pushN xs cs q) (ps := ps) (j := j) h.2 (by simpa using e)
theorem mark_nil (cs : List Cnd) (c : Cnd) : mark cs [] c = cs := by
  refine List.ext_getElem? fun k => ?_
  by_cases hk : k < cs.length
  · rw [mark_at hk, if_neg (by simp), List.getD_eq_getElem?_getD]
    simp [hk]
  · rw [List.getElem?_eq_none (by rw [mark_len]; omega), List.getElem?_eq_none (by omega)]
theorem ups_set {cs : List Cnd} {l : List Nat} {k : Nat} (hk : k < cs.length) : ((ups (mark cs l (some false))).map V.bl).set k (V.bl false) = (ups (mark cs (l ++ [k]) (some false))).map V.bl := by
  rw [show V.bl false = V.bl false from rfl, ← List.map_set]
  congr 1
  refine List.ext_getElem? fun j => ?_
  have e : ∀ (m : List Nat) (j : Nat), (ups (mark cs m (some false)))[j]? = ((mark cs m (some false))[j]?).map fun c => decide (c = some true) := fun m j => by unfold ups; rw [List.getElem?_map]
  rw [List.getElem?_set, e, e, ups_len, mark_len]
  by_cases q : k = j
  · subst q
    rw [if_pos rfl, if_pos hk, mark_at hk, if_pos (by simp)]
    rfl
  · rw [if_neg q]
    by_cases hj : j < cs.length
    · rw [mark_at hj, mark_at hj]
      have : (j ∈ l ++ [k]) ↔ j ∈ l := by simp [Ne.symm q]
      by_cases h : j ∈ l
      · rw [if_pos h, if_pos (this.mpr h)]
      · rw [if_neg h, if_neg (fun z => h (this.mp z))]
    · rw [List.getElem?_eq_none (by rw [mark_len]; omega), List.getElem?_eq_none (by rw [mark_len]; omega)]
theorem ixq_nat {n k : Nat} (h : k < n) : ixN n (k : Int) = some k := by
  unfold ixN
  rw [if_pos (by omega), if_pos (by omega), Int.toNat_natCast]
theorem ups_all (n : Nat) : (List.replicate n [V.bl true]).flatten = (ups (allT n)).map V.bl := by
  unfold ups allT
  rw [List.map_replicate, List.map_replicate]
  simp
def spFalls (K : PySem.W.Frag) (C : Addr) : SpG := fun vs H Q _ => ∃ (p t : Addr) (xs : List (Int × Int)) (os : List V) (ps : List Psh), vs = [.ref p, .ref t] ∧ RowAt K C H p xs ∧ xs.length ≤ 40 ∧ SqT K H t os ∧ Paired (PshAt K H) os ps ∧ okPs xs (allT xs.length) ps ∧ ps.length ≤ 900 ∧
  ∀ ys H', Same H H' → Paired (LstAt H H') ys (fallsL xs (allT xs.length) ps) → Q ys H'
section
variable {P : Program} {w : World} {K : PySem.W.Frag} {mg : Str → Option Value} {base : Heap}
theorem ok_falls {f C g1 g2 g3 pS gS : Addr} {fd d1 d2 d3 dS : FuncData} (F : Fun K "falls_by" "falls_by" s_falls_by f fd) (B : Blt mg) (R : RowC K mg C) (N1 : At P w K mg base CX0 2 "check_stone" ["stone", "count"] spCheckStone g1 d1)
    (N2 : At P w K mg base CX0 1 "check_side" ["side"] spCheckSide g2 d2) (N3 : At P w K mg base CX0 2 "felled_by" ["stones", "standing", "stone", "side"] (spFelled K) g3 d3)
    (pr : PropOf K C "stones" pS gS) (P1 : FnOk P w K mg base CX0 1 gS dS ["self"] (spGet K C)) (bS : Binds K dS ["self"] []) :
    GSt.GFnR P w K mg base 3 f (fun vs H Q E => ∃ w0 rest, vs = w0 :: rest ∧ rest.length ≤ 1000 ∧ ∀ p, H p = none → spFalls K C [w0, V.ref p] (upd H p (.tup rest)) Q E) := by
  obtain ⟨oc, od, kV, doc, pm, an, cdv, ct, osl, rfl, lk, hcd⟩ := F.ex
  have main := GSt.gfn_star (P := P) (w := w) (mg := mg) (base := base) (k := 2) (ps := ["row"]) (pv := "pushes") (sp := spFalls K C) lk hcd sc_falls_by
    (StX.bind_star1 (B := fun us => bindArgs (PySem.W.fnOf "falls_by" "falls_by" (defArgs s_falls_by) (defBody s_falls_by) (defScope s_falls_by) .none kV doc pm an cdv ct) ⟨us, []⟩) (fun a => rfl) (fun a r rs => rfl))
    (fun A outer s H vs Q E pn hr hsp => by
      obtain ⟨p, t, xs, os, ps, rfl, hR, hz, hT, hP, ok, hn, k⟩ := hsp
      have r1 : Room 1 _ := hr.mono (by decide)
      refine ⟨_, gss_cons (gs_ps (ps_set (i := 2) sc_falls_by.nd rfl (Or.inl rfl) (pe_prop (pv 0) R.cl pr P1 hr bS .nil pass0 rfl)))
        (gss_cons (gs_ps (ps_set (i := 3) sc_falls_by.nd rfl (Or.inl rfl) (pe_op op_rep (pe_lst (pa_cons (pe_bl) pa_nil)) (pe_callB call_len_seq (by rfl) B.len PySem.boot_len (pa_cons (pv 2) pa_nil)))))
        (gss_cons (gs_for owns_gcx rfl (Own.pi_enumT (by rfl) B.enumerate (pa_cons (pv 1) pa_nil)) (pg_tup rfl (pgs_cons (pg_name (i := 4) sc_falls_by.nd rfl (Or.inl rfl)) (pgs_cons (pg_tup rfl (pgs_cons (pg_name (i := 5) sc_falls_by.nd rfl (Or.inl rfl)) (pgs_cons (pg_name (i := 6) sc_falls_by.nd rfl (Or.inl rfl)) pgs_nil))) pgs_nil)))
          (gss_cons (gs_ps (ps_expr (pe_at N1 hr (pa_cons (pv 5) (pa_cons (pe_callB call_len_seq (by rfl) B.len PySem.boot_len (pa_cons (pv 2) pa_nil)) pa_nil)))))
          (gss_cons (gs_ps (ps_expr (pe_at N2 r1 (pa_cons (pv 6) pa_nil))))
          (gss_cons (gs_ps (ps_if (pt_not (pt_val (pe_ix ix_list (pv 3) (pv 5) (fun _ _ => rfl)))) (pss_one ps_never) pss_nil))
          (gss_cons (gs_ps (ps_set (i := 7) sc_falls_by.nd rfl (Or.inl rfl) (pe_at N3 hr (pa_cons (pv 2) (pa_cons (pv 3) (pa_cons (pv 5) (pa_cons (pv 6) pa_nil)))))))
          (gss_cons (gs_ps (ps_for owns_gcx rfl (pi_list (pv 7)) (pg_name (i := 8) sc_falls_by.nd rfl (Or.inl rfl)) (pss_one (ps_asg pe_bl (pg_sub (pv 3) (pv 8) set_list)))))
          (gss_cons (gs_yield (pv 7)) gss_nil))))))) gss_nil)), ?_⟩
      obtain ⟨dx, t0', us', ep, _, _⟩ := id hR
      refine ⟨_, rfl, p, dx, _, rfl, ep, p, xs, rfl, hR, fun t0 us hT0 hS0 => ?_⟩
      refine ⟨by show 1 ≤ sizeLine; decide, fun a na => ?_⟩
      have s1 := same_new (o := .lst [V.bl true]) na
      refine ⟨_, rfl, t0, us, rfl, .inr (sqT_same hT0 s1), ?_⟩
      refine ⟨a, _, _, rfl, rfl, upd_same, by omega, by rw [hS0.1]; omega, by rw [hS0.1, sizeLine_eq]; simp; omega, fun b nb => ?_⟩
      have s2 : Same H _ := s1.trans (same_new (o := .lst (List.replicate ((us.length : Int)).toNat [V.bl true]).flatten) nb)
      have fb : H b = none := Same.free s1 nb
      have eb : (upd (upd H a (.lst [V.bl true])) b (.lst (List.replicate ((us.length : Int)).toNat [V.bl true]).flatten)) b = some (.lst ((ups (allT xs.length)).map V.bl)) := by
        rw [upd_same, hS0.1, Int.toNat_natCast, ups_all]
      generalize (upd (upd H a (.lst [V.bl true])) b (.lst (List.replicate ((us.length : Int)).toNat [V.bl true]).flatten)) = H2 at s2 eb ⊢
      have hol := paired_len hP
      have cl : ∀ l, (condPs xs (allT xs.length) l).length = xs.length := fun l => by rw [condPs_len]; unfold allT; rw [List.length_replicate]
      refine ⟨_, rfl, t, os, rfl, sqT_same hT s2, GSt.gfor_it (Own.walk_item (K := K) (a := t) (xs := os)) (fun (j : Nat) (ys : List V) (σ : L2.St) (G : Hp) => ∃ (s4 s5 s6 s7 s8 : Option V), σ = [some (.ref p), some (.ref t), some (.ref t0), some (.ref b), s4, s5, s6, s7, s8] ∧ Same H G ∧ ys.length ≤ j ∧
        G b = some (.lst ((ups (condPs xs (allT xs.length) (ps.take j))).map V.bl)) ∧ Paired (LstB b H G) ys (fallsL xs (allT xs.length) (ps.take j))) ?_ ?_ ?_ ?_⟩
      · exact ⟨none, none, none, none, none, rfl, s2, Nat.le_refl _, eb, .nil⟩
      · rintro j ys σ G _ ⟨_, _, _, _, _, _, sm, _⟩
        exact sqT_same hT sm
      · rintro j v ys σ G G' hj ⟨s4, s5, s6, s7, s8, rfl, sm, hy, gb, rel⟩ ⟨T, y, z, rfl, nT, rfl, e1, e2⟩
        obtain rfl : y = V.int (j : Int) := (Option.some.inj e1).symm
        obtain ⟨pr0, hpr⟩ : ∃ q, ps[j]? = some q := ⟨ps[j]'(by omega), by simp⟩
        obtain ⟨v, hv, a1, rfl, ha⟩ := paired_at hP hpr
        obtain rfl : z = V.ref a1 := Option.some.inj (e2.symm.trans hv)
        have sT := sm.trans (same_new (o := .tup [V.int (j : Int), V.ref a1]) nT)
        have nTb : T ≠ b := fun e => by rw [e, gb] at nT; cases nT
        have gb1 := (same_new (o := .tup [V.int (j : Int), V.ref a1]) nT) _ _ gb
        have rel1 := paired_imp (fun _ _ q => q.but (Same.but (same_new (o := .tup [V.int (j : Int), V.ref a1]) nT) b)) rel
        have eT : SqT K (upd G T (.tup [V.int (j : Int), V.ref a1])) T [V.int (j : Int), V.ref a1] := SqT.of upd_same
        generalize upd G T (.tup [V.int (j : Int), V.ref a1]) = G1 at sT gb1 rel1 eT ⊢
        -- the two names
        refine ⟨T, _, rfl, eT, rfl, _, _, rfl, _, _, rfl, a1, _, rfl, sqT_same ha sT, rfl, _, _, rfl, _, _, rfl, rfl, rfl, ?_⟩
        have okj := okPs_at ok hpr
        have hcl := cl (ps.take j)
        have hi : pr0.1 < xs.length := by rw [← hcl]; exact (List.getElem?_eq_some_iff.mp okj).1
        refine ⟨_, rfl, _, rfl, t0, us, rfl, .inr (sqT_same hT0 sT), pr0.1, xs.length, by rw [hS0.1]; rfl, hi, ?_⟩
        refine ⟨_, rfl, pr0.2, rfl, ?_⟩
        have hup : (ups (condPs xs (allT xs.length) (ps.take j)))[pr0.1]? = some true := ups_at.mpr (idxs_mem.mpr okj)
        have ub : atI ((ups (condPs xs (allT xs.length) (ps.take j))).map V.bl) ((pr0.1 : Nat) : Int) = some (.bl true) := atI_nat (by rw [List.getElem?_map, hup]; rfl)
        refine ⟨_, rfl, _, rfl, b, _, _, _, rfl, rfl, SqL.of gb1, ub, true, rfl, iteF ?_⟩
        -- felled
        refine ⟨_, rfl, _, rfl, _, rfl, _, rfl, t0, b, us, xs, _, pr0.1, pr0.2, rfl, sqT_same hT0 sT, hS0.same sT, SqL.of gb1, by rw [ups_len, hcl], hi, hz, fun ns q H3 pm so s3 nq e3 => ?_⟩
        rw [felled_is hi pm so] at e3
        have gb3 := s3 _ _ gb1
        have sH3 := sT.trans s3
        have rel3 := paired_imp (fun _ _ h => h.but (Same.but s3 b)) rel1
        have nqb : q ≠ b := fun e => by rw [e, gb1] at nq; cases nq
        have hq0 : H q = none := Same.free sT nq
        refine nm_of ?_
        generalize hL : fellL xs (condPs xs (allT xs.length) (ps.take j)) pr0.1 pr0.2 = L at e3
        have hLt : ∀ k ∈ L, k < xs.length := fun k hk => by rw [← hL] at hk; exact fellL_lt k hk
        refine ⟨_, rfl, q, rfl, ⟨_, SqL.of e3⟩, for_it (walk_list (K := K) (a := q) (xs := ivs L)) (fun (m : Nat) (σ : L2.St) (G : Hp) => ∃ s8 : Option V, σ = [some (.ref p), some (.ref t), some (.ref t0), some (.ref b), some (.int (j : Int)), some (.int (pr0.1 : Nat)), some (.str (sideS pr0.2)), some (.ref q), s8] ∧ But b H3 G ∧
          G b = some (.lst ((ups (mark (condPs xs (allT xs.length) (ps.take j)) (L.take m) (some false))).map V.bl))) ?_ ?_ ?_ ?_⟩
        · exact ⟨s8, rfl, fun _ _ _ h => h, by rw [List.take_zero, mark_nil]; exact gb3⟩
        · rintro m σ G4 _ ⟨_, _, bt, _⟩
          exact SqL.of (bt _ _ nqb e3)
        · rintro m x σ G4 G5 hm ⟨s8, rfl, bt, g4⟩ ⟨rfl, hx⟩
          obtain ⟨o, ho, rfl⟩ := ivs_get hx
          have hoL := hLt o (List.mem_of_getElem? ho)
          refine nm_of ?_
          refine ⟨_, rfl, _, rfl, b, _, ((o : Nat) : Int), o, rfl, rfl, g4, ixq_nat (by rw [List.length_map, ups_len, mark_len, hcl]; exact hoL), ?_⟩
          refine ⟨_, rfl, bt.trans but_upd, ?_⟩
          rw [upd_same, ups_set (by rw [hcl]; exact hoL)]
          rw [List.take_add_one, ho]
          rfl
        · rintro σ G4 ⟨s8, rfl, bt, g4⟩
          have eL : (ivs L).length = L.length := by unfold ivs; rw [List.length_map]
          rw [eL, List.take_length] at g4
          have fG : ∀ c o, H c = some o → G4 c = some o := fun c o h => bt c o (ne_of_none h fb) (sH3 _ _ h)
          refine ⟨by rw [sizeLine_eq]; omega, _, rfl, ?_⟩
          have etk : ps.take (j + 1) = ps.take j ++ [pr0] := by rw [List.take_add_one, hpr]; rfl
          refine ⟨_, _, _, _, _, rfl, fG, by rw [List.length_append]; show ys.length + 1 ≤ j + 1; omega, ?_, ?_⟩
          · rw [etk, condPs_snoc]
            unfold pushN
            rw [hL]
            exact g4
          · rw [etk, fallsL_snoc, hL]
            exact paired_snoc (paired_imp (fun _ _ h => h.but bt) rel3) ⟨q, rfl, hq0, nqb, bt _ _ nqb e3⟩
      · rintro ys σ G ⟨s4, s5, s6, s7, s8, rfl, sm, hy, gb, rel⟩
        rw [hol, List.take_length] at rel
        exact k ys G sm (paired_imp (fun _ _ h => let ⟨z, h1, h2, _, h4⟩ := h; ⟨z, h1, h2, h4⟩) rel))
  intro A outer s H us vs Q E hr e0 r h
  refine main A outer s H us vs Q E hr e0 r ?_
  obtain ⟨w0, rest, rfl, hz, h⟩ := h
  exact ⟨[w0], rest, rfl, rfl, by rw [sizeLine_eq]; omega, fun p hp => h p hp⟩
end
/-! ### places, heights -/
theorem wf_at {xs : List (Int × Int)} (w : Wf 0 xs) {k : Nat} (hk : k < xs.length) : 0 ≤ pl xs k ∧ pl xs k ≤ 1000000000 ∧ 1 ≤ ht xs k ∧ ht xs k ≤ 1000000000 := by
  have e : xs[k]? = some xs[k] := by simp [hk]
  have h := w.get e
  have l := w.low e
  rw [(pl_of e).1, (pl_of e).2]
  have := h.2.2
  omega
theorem inc_le {xs : List (Int × Int)} (hx : Inc xs) {a b : Nat} (h : a ≤ b) (hb : b < xs.length) : pl xs a ≤ pl xs b := by
  rcases Nat.eq_or_lt_of_le h with e | q
  · rw [e]; exact Int.le_refl _
  · exact Int.le_of_lt (hx.pl q hb)
/-! ### endless rows: the last stone that one hits, the fronts of a wave, the first repetition -/
def lastHit (xs : List (Int × Int)) (per : Int) (i : Nat) : Nat :=
  ((pl xs i + ht xs i - pl xs 0) / per).toNat * xs.length + (xs.filter fun x => decide (x.1 - pl xs 0 ≤ (pl xs i + ht xs i - pl xs 0) % per)).length - 1
def hitsOf (xs : List (Int × Int)) (per : Int) : List Nat := (List.range xs.length).map (lastHit xs per)
def hitA (hs : List Nat) (o : Nat) : Nat := o / hs.length * hs.length + hs.getD (o % hs.length) 0
def mxN (a b : Nat) : Nat := if a < b then b else a
def topN : List Nat → Nat → Nat
  | [], f => f
  | a :: l, f => topN l (mxN f a)
theorem topN_spec : ∀ (l : List Nat) (f : Nat), f ≤ topN l f ∧ (∀ a ∈ l, a ≤ topN l f) ∧ (topN l f = f ∨ topN l f ∈ l)
  | [], f => ⟨Nat.le_refl _, fun _ h => (nomatch h), .inl rfl⟩
  | a :: l, f => by
    obtain ⟨h1, h2, h3⟩ := topN_spec l (mxN f a)
    have m1 : f ≤ mxN f a := by unfold mxN; split <;> omega
    have m2 : a ≤ mxN f a := by unfold mxN; split <;> omega
    refine ⟨Nat.le_trans m1 h1, fun b hb => ?_, ?_⟩
    · rcases List.mem_cons.mp hb with rfl | hb
      · exact Nat.le_trans m2 h1
      · exact h2 b hb
    · show topN l (mxN f a) = f ∨ topN l (mxN f a) ∈ a :: l
      rcases h3 with e | e
      · have m3 : mxN f a = f ∨ mxN f a = a := by unfold mxN; split <;> omega
        rcases m3 with e2 | e2
        · exact .inl (e.trans e2)
        · exact .inr (by rw [e, e2]; exact List.mem_cons_self)
      · exact .inr (List.mem_cons_of_mem _ e)
/-- the stones that may be hit anew by those that fell one after another since -/
def winLo (n c f : Nat) : Nat := mxN c (f + 1 - n)
def winL (hs : List Nat) (c f : Nat) : List Nat := (List.range (f + 1 - winLo hs.length c f)).map fun k => hitA hs (winLo hs.length c f + k)
def nextF (hs : List Nat) (c f : Nat) : Nat := topN (winL hs c f) f
def fr (hs : List Nat) (c : Nat) : Nat → Nat
  | 0 => c
  | k + 1 => nextF hs c (fr hs c k)
theorem fr_le (hs : List Nat) (c k : Nat) : fr hs c k ≤ fr hs c (k + 1) := (topN_spec _ _).1
structure Fronts (hs : List Nat) (c m : Nat) : Prop where
  le : m ≤ 2 * hs.length
  up : ∀ k, k < m → fr hs c k < fr hs c (k + 1)
  stop : m < 2 * hs.length → fr hs c (m + 1) = fr hs c m
theorem Fronts.one {hs : List Nat} {c m m' : Nat} (h : Fronts hs c m) (h' : Fronts hs c m') : m = m' := by
  rcases Nat.lt_trichotomy m m' with q | q | q
  · have a := h'.up m q
    have b := h.stop (by have := h'.le; omega)
    omega
  · exact q
  · have a := h.up m' q
    have b := h'.stop (by have := h.le; omega)
    omega
def frL (f : Nat → Nat) (m : Nat) : List Nat := (List.range (m + 1)).map f
theorem frL_len (f : Nat → Nat) (m : Nat) : (frL f m).length = m + 1 := by unfold frL; simp
theorem frL_at {f : Nat → Nat} {m k : Nat} (h : k ≤ m) : (frL f m)[k]? = some (f k) := by
  unfold frL
  rw [List.getElem?_map, List.getElem?_range (by omega)]
  rfl
theorem frL_succ (f : Nat → Nat) (m : Nat) : frL f (m + 1) = frL f m ++ [f (m + 1)] := by
  unfold frL
  rw [List.range_succ, List.map_append]
  rfl
theorem hitA_le {hs : List Nat} {o M : Nat} (h : ∀ x ∈ hs, x ≤ M) : hitA hs o ≤ o + M := by
  have e := Nat.div_add_mod o hs.length
  have h1 : o / hs.length * hs.length ≤ o := Nat.div_mul_le_self _ _
  unfold hitA
  rw [List.getD_eq_getElem?_getD]
  cases q : hs[o % hs.length]? with
  | none => show _ + 0 ≤ _; omega
  | some x =>
    have := h x (List.mem_of_getElem? q)
    show _ + x ≤ _
    omega
theorem nextF_le {hs : List Nat} {c f M : Nat} (h : ∀ x ∈ hs, x ≤ M) : nextF hs c f ≤ f + M := by
  rcases (topN_spec (winL hs c f) f).2.2 with e | e
  · unfold nextF; omega
  · unfold nextF
    obtain ⟨k, hk, e2⟩ := List.mem_map.mp e
    have hk := List.mem_range.mp hk
    have := hitA_le (o := winLo hs.length c f + k) h
    rw [← e2]
    omega
theorem fr_bound {hs : List Nat} {c M : Nat} (h : ∀ x ∈ hs, x ≤ M) : ∀ k, fr hs c k ≤ c + k * M
  | 0 => by show c ≤ _; omega
  | k + 1 => by
    have h1 := fr_bound (c := c) h k
    have h2 := nextF_le (c := c) (f := fr hs c k) h
    rw [Nat.succ_mul]
    show nextF hs c (fr hs c k) ≤ _
    omega
/-- the two ticks at which the same stone of a round is the front one for the first time -/
def okT (f : Nat → Nat) (n k : Nat) : Prop := n - 1 ≤ f k - f 0
def RepS (f : Nat → Nat) (n m : Nat) : Option (Nat × Nat) → Prop
  | none => ∀ s t, s < t → t ≤ m → okT f n s → okT f n t → f s % n ≠ f t % n
  | some (s, t) => s < t ∧ t ≤ m ∧ okT f n s ∧ okT f n t ∧ f s % n = f t % n ∧ ∀ s' t', s' < t' → t' < t → okT f n s' → okT f n t' → f s' % n ≠ f t' % n
theorem RepS.one {f : Nat → Nat} {n m : Nat} {o o' : Option (Nat × Nat)} (h : RepS f n m o) (h' : RepS f n m o') : o = o' := by
  match o, o', h, h' with
  | none, none, _, _ => rfl
  | none, some (s, t), h, h' => exact absurd h'.2.2.2.2.1 (h s t h'.1 h'.2.1 h'.2.2.1 h'.2.2.2.1)
  | some (s, t), none, h, h' => exact absurd h.2.2.2.2.1 (h' s t h.1 h.2.1 h.2.2.1 h.2.2.2.1)
  | some (s, t), some (s', t'), h, h' =>
    obtain ⟨a1, a2, a3, a4, a5, a6⟩ := h
    obtain ⟨b1, b2, b3, b4, b5, b6⟩ := h'
    have e : t = t' := by
      rcases Nat.lt_trichotomy t t' with q | q | q
      · exact absurd a5 (b6 s t a1 q a3 a4)
      · exact q
      · exact absurd b5 (a6 s' t' b1 q b3 b4)
    subst e
    have e2 : s = s' := by
      rcases Nat.lt_trichotomy s s' with q | q | q
      · exact absurd (a5.trans b5.symm) (a6 s s' q b1 a3 b3)
      · exact q
      · exact absurd (b5.trans a5.symm) (a6 s' s q a1 b3 a3)
    rw [e2]
def RepV (K : PySem.W.Frag) (H : Hp) (v : V) (f : Nat → Nat) : Option (Nat × Nat) → Prop
  | none => v = .non
  | some (s, t) => ∃ a, v = .ref a ∧ SqT K H a [.int (s : Nat), .int ((t - s : Nat) : Int), .int ((f t - f s : Nat) : Int)]
theorem RepV.same {K : PySem.W.Frag} {H H' : Hp} {v : V} {f : Nat → Nat} {o : Option (Nat × Nat)} (h : RepV K H v f o) (e : Same H H') : RepV K H' v f o := by
  match o, h with
  | none, h => exact h
  | some (s, t), ⟨a, e1, e2⟩ => exact ⟨a, e1, sqT_same e2 e⟩
theorem at_lastV {α : Type} {l : List α} {v : α} (h : l[l.length - 1]? = some v) (hl : 0 < l.length) : atI l (-1) = some v := by
  have e : ixN l.length (-1) = some (l.length - 1) := by
    unfold ixN
    rw [if_neg (by decide)]
    have : ((-1 : Int) + (l.length : Int)).toNat = l.length - 1 := by omega
    simp
    omega
  unfold atI
  rw [e]
  exact h
theorem ivs_at {l : List Nat} {k x : Nat} (h : l[k]? = some x) : atI (ivs l) ((k : Nat) : Int) = some (.int (x : Nat)) := by
  refine atI_nat ?_
  unfold ivs
  rw [List.getElem?_map, h]
  rfl
theorem ivs_len (l : List Nat) : (ivs l).length = l.length := by unfold ivs; rw [List.length_map]
theorem nat_max {a b : Nat} : (if (a : Int) < (b : Int) then (b : Int) else (a : Int)) = ((mxN a b : Nat) : Int) := by
  unfold mxN
  by_cases h : a < b
  · rw [if_pos h, if_pos (by omega)]
  · rw [if_neg h, if_neg (by omega)]
def spLastHit (K : PySem.W.Frag) (C : Addr) : Sp := fun vs H Q _ => ∃ (p : Addr) (xs : List (Int × Int)) (per : Int) (i : Nat), vs = [.ref p, .int per, .int (i : Nat)] ∧ RowAt K C H p xs ∧ Wf 0 xs ∧ xs.length ≤ 40 ∧ i < xs.length ∧ 0 < per ∧ per ≤ 1000000000 ∧
  ∀ H', Same H H' → Q (.int (lastHit xs per i : Nat)) H'
def spNext (K : PySem.W.Frag) : Sp := fun vs H Q _ => ∃ (z : Addr) (hs : List Nat) (c f : Nat), vs = [.ref z, .int (c : Nat), .int (f : Nat)] ∧ SqL K H z (ivs hs) ∧ 0 < hs.length ∧ hs.length ≤ 40 ∧ c < 2 ^ 61 ∧ f < 2 ^ 61 ∧ ∀ H', Same H H' → Q (.int (nextF hs c f : Nat)) H'
def spFronts (K : PySem.W.Frag) : Sp := fun vs H Q _ => ∃ (z : Addr) (hs : List Nat) (c : Nat), vs = [.ref z, .int (c : Nat)] ∧ SqL K H z (ivs hs) ∧ 0 < hs.length ∧ hs.length ≤ 40 ∧ c < hs.length ∧ (∀ x ∈ hs, x ≤ 100000000000) ∧
  ∀ m l H', Same H H' → H l = none → H' l = some (.lst (ivs (frL (fr hs c) m))) → Fronts hs c m → Q (.ref l) H'
def spRepeat (K : PySem.W.Frag) : Sp := fun vs H Q _ => ∃ (l : Addr) (f : Nat → Nat) (m n : Nat), vs = [.ref l, .int (n : Nat)] ∧ SqL K H l (ivs (frL f m)) ∧ m ≤ 80 ∧ 0 < n ∧ n ≤ 40 ∧ (∀ k, k < m → f k < f (k + 1)) ∧
  ∀ rep v H', Same H H' → RepS f n m rep → RepV K H' v f rep → Q v H'
theorem up_le {f : Nat → Nat} {m : Nat} (h : ∀ k, k < m → f k < f (k + 1)) {a b : Nat} (hab : a ≤ b) (hb : b ≤ m) : f a ≤ f b := by
  induction b with
  | zero => rw [show a = 0 by omega]; exact Nat.le_refl _
  | succ b ih =>
    rcases Nat.lt_or_ge a (b + 1) with q | q
    · have := ih (by omega) (by omega)
      have := h b (by omega)
      omega
    · obtain rfl : a = b + 1 := by omega
      exact Nat.le_refl _
theorem up_lt {f : Nat → Nat} {m : Nat} (h : ∀ k, k < m → f k < f (k + 1)) {a b : Nat} (hab : a < b) (hb : b ≤ m) : f a < f b := by
  have h1 := h a (by omega)
  have h2 := up_le h (a := a + 1) (b := b) hab hb
  omega
theorem lastHit_le {xs : List (Int × Int)} (w : Wf 0 xs) {per : Int} {i : Nat} (hi : i < xs.length) (hz : xs.length ≤ 40) (h0 : 0 < per) : lastHit xs per i ≤ 100000000000 := by
  have b1 := wf_at w hi
  have b0 := wf_at w (k := 0) (by omega)
  have h1 : (pl xs i + ht xs i - pl xs 0) / per ≤ 2000000000 := by
    have : (pl xs i + ht xs i - pl xs 0) / per ≤ (pl xs i + ht xs i - pl xs 0) / 1 := by
      rcases Int.lt_or_le (pl xs i + ht xs i - pl xs 0) 0 with q | q
      · have l := Int.ediv_neg_of_neg_of_pos q h0
        have := inc_le w.inc (a := 0) (b := i) (Nat.zero_le _) hi
        omega
      · rw [Int.ediv_one]
        exact Int.ediv_le_self _ q
    rw [Int.ediv_one] at this
    omega
  have h2 : ((pl xs i + ht xs i - pl xs 0) / per).toNat ≤ 2000000000 := by omega
  have h3 := List.length_filter_le (fun x : Int × Int => decide (x.1 - pl xs 0 ≤ (pl xs i + ht xs i - pl xs 0) % per)) xs
  have h4 := Nat.mul_le_mul h2 hz
  unfold lastHit
  omega
section
variable {P : Program} {w : World} {K : PySem.W.Frag} {mg : Str → Option Value} {base : Heap}
theorem ok_lastHit {f C gL gI pP gP : Addr} {fd dP : FuncData} (F : Fun K "_last_hit" "_last_hit" s_last_hit f fd) (B : Blt mg) (R : RowC K mg C) (zV : mg "divmod" = none) (SL : Sign K C "__len__" gL) (GL : FnR P w K mg base CX0 1 gL (spLen K C)) (SI : Sign K C "__getitem__" gI) (fi : PySem.W.fnIn K gI = true)
    (GI : FnR P w K mg base CX0 3 gI (spItem K C)) (pr : PropOf K C "places" pP gP) (P1 : FnOk P w K mg base CX0 1 gP dP ["self"] (spPlaces K C)) (bP : Binds K dP ["self"] []) : FnOk P w K mg base CX0 5 f fd ["row", "period", "stone"] (spLastHit K C) := by
  refine F.ok sc_last_hit (fun vs H Q E h => ?_) (fun cdv A outer s H vs Q E hr h => ?_)
  · obtain ⟨p, xs, per, i, rfl, _⟩ := h
    rfl
  · obtain ⟨p, xs, per, i, rfl, hR, hw, hz, hi, h0, h1, k⟩ := h
    obtain ⟨dx, t, us, ep, hT, hS⟩ := id hR
    have hx := hw.inc
    have r2 : Room 2 _ := hr.mono (by decide)
    refine ⟨_, pss_cons (ps_asg (Cut.pe_sub SI.at_ fi SI.fn GI hr pass0 (pv 0) (pv 2) (fun _ _ => rfl)) (pg_tup rfl (pgs_cons (pg_name (i := 3) sc_last_hit.nd rfl (Or.inl rfl)) (pgs_cons (pg_name (i := 4) sc_last_hit.nd rfl (Or.inl rfl)) pgs_nil))))
      (pss_cons (ps_set (i := 5) sc_last_hit.nd rfl (Or.inr rfl) (pe_ix ix_tup (pe_prop (pv 0) R.cl pr P1 r2 bP .nil pass0 rfl) (pe_int) (fun _ _ => rfl)))
      (pss_cons (ps_asg (pe_callB call_divmod (by rfl) zV PyProof.Rows.boot_divmod (pa_cons (pe_op op_sub (pe_op op_add (pv 3) (pv 4)) (pv 5)) (pa_cons (pv 1) pa_nil))) (pg_tup rfl (pgs_cons (pg_name (i := 6) sc_last_hit.nd rfl (Or.inl rfl)) (pgs_cons (pg_name (i := 7) sc_last_hit.nd rfl (Or.inr rfl)) pgs_nil))))
      (pss_cons (ps_setLc (i := 8) (own := [("other", 9)]) (g := gName 9) rfl sc_last_hit.nd rfl rfl (sw_true rfl rfl rfl (by decide +kernel)) (pi_tup (pe_prop (pv 0) R.cl pr P1 r2 bP .nil pass0 rfl)) (blkOk_by (N := n_last_hit) (sc := defScope s_last_hit) (by decide +kernel))
          (fun _ _ _ _ _ => pg_name (i := 9) sc_last_hit.nd rfl (Or.inl rfl)) (fun _ _ _ _ _ => pts_one (show PT _ _ (tTest (tOp (rI0 fun i j => .bl (decide (i ≤ j))) (tOp (rI0 fun i j => .int (i - j)) (tVar 9) (tVar 5)) (tVar 7))) from pt_cmpR (op_le) (pe_op op_sub (pv 9) (pv 5)) (pv 7) (nomark _))) (fun _ _ _ _ _ => pv 9))
      (pss_one (ps_ret (pe_op op_sub (pe_op op_add (pe_op op_mul (pv 6) (pe_callB (Own.call_len SL.at_ SL.fn GL r2 pass0) (by rfl) B.len PySem.boot_len (pa_cons (pv 0) pa_nil))) (pe_callB call_len_seq (by rfl) B.len PySem.boot_len (pa_cons (pv 8) pa_nil))) (pe_int))))))), ?_⟩
    obtain ⟨x, hxi⟩ : ∃ x, xs[i]? = some x := ⟨xs[i], by simp [hi]⟩
    have px := pl_of hxi
    have bi := wf_at hw hi
    have b0 := wf_at hw (k := 0) (by omega)
    have mono := inc_le hx (a := 0) (b := i) (Nat.zero_le _) hi
    refine ⟨_, rfl, _, rfl, p, dx, _, rfl, ep, p, xs, i, x, rfl, hR, hxi, fun q hq => ⟨q, _, rfl, hq, rfl, _, _, rfl, _, _, rfl, rfl, ?_⟩⟩
    rw [← px.1, ← px.2]
    refine ⟨_, rfl, p, dx, _, rfl, ep, p, xs, rfl, hR, hz, fun z1 H1 s1 n1 e1 => ?_⟩
    refine ⟨z1, _, _, _, rfl, rfl, SqT.of e1, pl_get (a := 0) (by omega), ?_⟩
    refine nm_of ?_
    refine ⟨_, rfl, _, rfl, _, _, rfl, rfl, _, rfl, _, _, rfl, rfl, _, rfl, _, _, rfl, ⟨h0, by omega⟩, fun T nT => ?_⟩
    refine ⟨T, _, rfl, SqT.of upd_same, rfl, _, _, rfl, _, _, rfl, rfl, ?_⟩
    have sT := s1.trans (same_new (o := .tup [V.int ((pl xs i + ht xs i - pl xs 0) / per), V.int ((pl xs i + ht xs i - pl xs 0) % per)]) nT)
    generalize upd H1 T _ = H2 at sT ⊢
    -- reached
    refine ⟨_, rfl, p, dx, _, rfl, sT _ _ ep, p, xs, rfl, hR.same sT, hz, fun z3 H3 s3 n3 e3 => ?_⟩
    have pv_len : (plV xs).length = xs.length := by unfold plV; rw [List.length_map]
    refine ⟨z3, rfl, ⟨_, SqT.of e3⟩, fun D nD => lc_fm (walk_tup (K := K) (a := z3) (xs := plV xs)) xs (fun x => decide (x.1 - pl xs 0 ≤ (pl xs i + ht xs i - pl xs 0) % per)) (fun x => x.1) (fun _ v (m : Int) => v = V.int m) pv_len.symm (by rw [pv_len]; omega) nD (fun _ _ _ _ _ _ _ q => q) (fun _ e => sqT_same (SqT.of e3) e) ?_ ?_⟩
    · rintro m y v G G' N' M' hy sm _ ⟨rfl, hv⟩ no go
      have ev : (plV xs)[m]? = some (.int y.1) := by unfold plV; rw [List.getElem?_map, hy]; rfl
      obtain rfl : v = .int y.1 := Option.some.inj (hv.symm.trans ev)
      refine ⟨rfl, _, rfl, _, rfl, _, _, rfl, rfl, _, rfl, _, _, rfl, rfl, _, rfl, ?_⟩
      by_cases c : y.1 - pl xs 0 ≤ (pl xs i + ht xs i - pl xs 0) % per
      · rw [decide_eq_true c]
        exact iteT ⟨_, rfl, go _ _ (decide_eq_true c) (Same.refl _) rfl⟩
      · rw [decide_eq_false c]
        exact iteF (no _ (decide_eq_false c) (Same.refl _))
    · intro G ys sm eD rel
      have yl : ys.length = (xs.filter fun x => decide (x.1 - pl xs 0 ≤ (pl xs i + ht xs i - pl xs 0) % per)).length := by rw [paired_len rel, List.length_map]
      refine nm_of ?_
      have sG := (sT.trans s3).trans sm
      have qz : 0 ≤ (pl xs i + ht xs i - pl xs 0) / per := Int.ediv_nonneg (by omega) (by omega)
      refine ⟨_, rfl, _, rfl, p, dx, _, rfl, sG _ _ ep, p, xs, rfl, hR.same sG, _, rfl, by omega, by omega, _, _, rfl, rfl, .inr ⟨by omega, by omega⟩, ?_⟩
      refine ⟨_, rfl, D, _, rfl, .inl (SqL.of eD), _, _, rfl, rfl, _, _, rfl, rfl, ?_⟩
      have pos : 0 < (xs.filter fun x => decide (x.1 - pl xs 0 ≤ (pl xs i + ht xs i - pl xs 0) % per)).length := by
        obtain ⟨x0, h00⟩ : ∃ x, xs[0]? = some x := ⟨xs[0]'(by omega), by simp⟩
        have m0 : x0 ∈ xs.filter fun x => decide (x.1 - pl xs 0 ≤ (pl xs i + ht xs i - pl xs 0) % per) := List.mem_filter.mpr ⟨List.mem_of_getElem? h00, decide_eq_true (by
          rw [(pl_of h00).1]
          have := Int.emod_nonneg (pl xs i + ht xs i - x0.1) (b := per) (by omega)
          omega)⟩
        exact List.length_pos_of_mem m0
      have fin := k G sG
      have e : ((pl xs i + ht xs i - pl xs 0) / per) * (xs.length : Int) + (ys.length : Int) - 1 = ((lastHit xs per i : Nat) : Int) := by
        unfold lastHit
        rw [← yl] at pos ⊢
        generalize hq : (pl xs i + ht xs i - pl xs 0) / per = q at qz ⊢
        obtain ⟨q', rfl⟩ : ∃ q' : Nat, q = (q' : Int) := ⟨q.toNat, by omega⟩
        rw [Int.toNat_natCast]
        have : ((q' * xs.length + ys.length - 1 : Nat) : Int) = ((q' * xs.length + ys.length : Nat) : Int) - 1 := by omega
        rw [this, Int.natCast_add, Int.natCast_mul]
      show Q (V.int (((pl xs i + ht xs i - pl xs 0) / per) * (xs.length : Int) + (ys.length : Int) - 1)) G
      rw [e]
      exact fin
theorem ok_next {f : Addr} {fd : FuncData} (F : Fun K "_next_front" "_next_front" s_next_front f fd) (B : Blt mg) (zV : mg "divmod" = none) : FnOk P w K mg base CX0 1 f fd ["hits", "first", "front"] (spNext K) := by
  refine F.ok sc_next_front (fun vs H Q E h => ?_) (fun cdv A outer s H vs Q E hr h => ?_)
  · obtain ⟨z, hs, c, f, rfl, _⟩ := h
    rfl
  · obtain ⟨z, hs, c, f, rfl, hz, h0, hn, hc, hf, k⟩ := h
    refine ⟨_, pss_cons (ps_set (i := 3) sc_next_front.nd rfl (Or.inl rfl) (pe_callB call_len_seq (by rfl) B.len PySem.boot_len (pa_cons (pv 0) pa_nil)))
      (pss_cons (ps_set (i := 4) sc_next_front.nd rfl (Or.inl rfl) (pe_lst (pa_cons (pv 2) pa_nil)))
      (pss_cons (ps_for PassesOwn.never rfl (pi_range2 (by rfl) B.range (pa_cons (pe_callB ((call_max2 rfl)) (by rfl) B.max boot_max (pa_cons (pv 1) (pa_cons (pe_op op_add (pe_op op_sub (pv 2) (pv 3)) (pe_int)) pa_nil))) (pa_cons (pe_op op_add (pv 2) (pe_int)) pa_nil))) (pg_name (i := 5) sc_next_front.nd rfl (Or.inl rfl))
        (pss_cons (ps_asg (pe_callB call_divmod (by rfl) zV PyProof.Rows.boot_divmod (pa_cons (pv 5) (pa_cons (pv 3) pa_nil))) (pg_tup rfl (pgs_cons (pg_name (i := 6) sc_next_front.nd rfl (Or.inl rfl)) (pgs_cons (pg_name (i := 7) sc_next_front.nd rfl (Or.inl rfl)) pgs_nil))))
        (pss_one (ps_expr (pe_bm PySem.F.plainAttrs_list PySem.F.slot_list_append PySem.F.type_list_append mt_append (pv 4) (pa_cons (pe_op op_add (pe_op op_mul (pv 6) (pv 3)) (pe_ix ix_list (pv 0) (pv 7) (fun _ _ => rfl))) pa_nil))))))
      (pss_one (ps_ret (pe_callB ((cr_max (by rfl))) (by rfl) B.max boot_max (pa_cons (pv 4) pa_nil)))))), ?_⟩
    refine ⟨_, rfl, z, _, rfl, .inl hz, ?_⟩
    rw [ivs_len]
    refine ⟨_, rfl, by show 1 ≤ sizeLine; decide, fun l nl => ?_⟩
    refine nm_of ?_
    have zl : SqL K (upd H l (.lst [V.int (f : Nat)])) z (ivs hs) := (same_new nl).seq hz
    have elo : (if (c : Int) < (f : Int) - (hs.length : Int) + 1 then (f : Int) - (hs.length : Int) + 1 else (c : Int)) = ((winLo hs.length c f : Nat) : Int) := by
      unfold winLo mxN
      split <;> split <;> omega
    refine ⟨_, rfl, _, rfl, _, rfl, _, _, rfl, rfl, _, _, rfl, rfl, _, _, rfl, ?_⟩
    rw [elo]
    have lo1 : winLo hs.length c f < 2 ^ 61 := by unfold winLo mxN; split <;> omega
    refine ⟨_, rfl, _, _, rfl, rfl, _, _, rfl, by omega, ?_⟩
    generalize hlo : winLo hs.length c f = lo at lo1 ⊢
    have en : ((f : Int) + 1 - (lo : Int)).toNat = f + 1 - lo := by omega
    rw [en]
    refine for_range (lo := (lo : Int)) (n := f + 1 - lo) (fun j σ G => ∃ (s5 s6 s7 : Option V), σ = [some (.ref z), some (.int (c : Nat)), some (.int (f : Nat)), some (.int (hs.length : Nat)), some (.ref l), s5, s6, s7] ∧ But l H G ∧
      G l = some (.lst (ivs (f :: (List.range j).map fun q => hitA hs (lo + q))))) ?_ ?_ ?_
    · exact ⟨none, none, none, rfl, but_upd, upd_same⟩
    · rintro j σ G hj ⟨s5, s6, s7, rfl, bG, eG⟩
      refine nm_of ?_
      have hj0 : ((lo : Int) + (j : Int)) = ((lo + j : Nat) : Int) := rfl
      refine ⟨_, rfl, _, rfl, _, _, rfl, ⟨by omega, by omega⟩, fun T nT => ?_⟩
      refine ⟨T, _, rfl, SqT.of upd_same, rfl, _, _, rfl, _, _, rfl, rfl, ?_⟩
      have sT := same_new (o := .tup [V.int (((lo + j : Nat) : Int) / (hs.length : Int)), V.int (((lo + j : Nat) : Int) % (hs.length : Int))]) nT
      have zG : SqL K G z (ivs hs) := (But.same bG nl).seq hz
      have hn0 : (lo + j) % hs.length < hs.length := Nat.mod_lt _ h0
      obtain ⟨x, hx⟩ : ∃ x, hs[(lo + j) % hs.length]? = some x := ⟨hs[(lo + j) % hs.length], by simp⟩
      refine ⟨_, rfl, .inl ⟨rfl, _, SqL.of (sT _ _ eG)⟩, _, rfl, _, rfl, _, _, rfl, rfl, .inr ⟨by omega, by omega⟩, _, rfl, _, rfl, z, _, (((lo + j) % hs.length : Nat) : Int), _, rfl, rfl, sT.seq zG, ivs_at hx, _, _, rfl, rfl, ?_⟩
      refine ⟨l, _, _, rfl, rfl, sT _ _ eG, by rw [ivs_len, List.length_cons, List.length_map, List.length_range, sizeLine_eq]; unfold winLo mxN at hlo; split at hlo <;> omega, ?_⟩
      refine ⟨_, _, _, rfl, ((bG.trans (Same.but sT l)).trans but_upd), ?_⟩
      rw [upd_same, List.range_succ, List.map_append]
      have e1 : ((lo : Int) + (j : Int)) / (hs.length : Int) * (hs.length : Int) + (x : Int) = ((hitA hs (lo + j) : Nat) : Int) := by
        unfold hitA
        rw [List.getD_eq_getElem?_getD, hx]
        rfl
      show some (HO.lst (ivs (f :: (List.range j).map fun q => hitA hs (lo + q)) ++ [V.int (((lo : Int) + (j : Int)) / (hs.length : Int) * (hs.length : Int) + (x : Int))])) = _
      rw [e1]
      unfold ivs
      rw [List.map_cons, List.map_cons, List.map_append]
      rfl
    · rintro σ G ⟨s5, s6, s7, rfl, bG, eG⟩
      refine ⟨_, rfl, l, ((f :: (List.range (f + 1 - lo)).map fun q => hitA hs (lo + q)).map fun q : Nat => (q : Int)), rfl, ?_, by simp, fun m hm hle => ?_⟩
      · rw [List.map_map]
        exact SqL.of eG
      · obtain ⟨m', hm', rfl⟩ := List.mem_map.mp hm
        have tw : winL hs c f = (List.range (f + 1 - lo)).map fun q => hitA hs (lo + q) := by unfold winL; rw [hlo]
        obtain ⟨t1, t2, t3⟩ := topN_spec (winL hs c f) f
        have up : ∀ y ∈ f :: winL hs c f, y ≤ m' := fun y hy => by
          have := hle (y : Int) (List.mem_map.mpr ⟨y, by rw [← tw]; exact hy, rfl⟩)
          omega
        have e : m' = nextF hs c f := by
          refine Nat.le_antisymm ?_ ?_
          · rw [← tw] at hm'
            rcases List.mem_cons.mp hm' with q | q
            · rw [q]; exact t1
            · exact t2 _ q
          · rcases t3 with q | q
            · unfold nextF; rw [q]; exact up _ List.mem_cons_self
            · exact up _ (List.mem_cons_of_mem _ q)
        rw [e]
        exact k G (But.same bG nl)
theorem ok_fronts {f g : Addr} {fd gd : FuncData} (F : Fun K "_fronts_of_wave" "_fronts_of_wave" s_fronts_of_wave f fd) (B : Blt mg) (N : At P w K mg base CX0 1 "_next_front" ["hits", "first", "front"] (spNext K) g gd) : FnOk P w K mg base CX0 2 f fd ["hits", "first"] (spFronts K) := by
  refine F.ok sc_fronts_of_wave (fun vs H Q E h => ?_) (fun cdv A outer s H vs Q E hr h => ?_)
  · obtain ⟨z, hs, c, rfl, _⟩ := h
    rfl
  · obtain ⟨z, hs, c, rfl, hz, h0, hn, hc, hM, k⟩ := h
    refine ⟨_, pss_cons (ps_set (i := 2) sc_fronts_of_wave.nd rfl (Or.inl rfl) (pe_lst (pa_cons (pv 1) pa_nil)))
      (pss_cons (ps_for PassesOwn.never rfl (pi_range1 (by rfl) B.range (pa_cons (pe_op op_mul pe_int (pe_callB call_len_seq (by rfl) B.len PySem.boot_len (pa_cons (pv 0) pa_nil))) pa_nil)) (pg_name (i := 3) sc_fronts_of_wave.nd rfl (Or.inl rfl))
        (pss_cons (ps_set (i := 4) sc_fronts_of_wave.nd rfl (Or.inl rfl) (pe_at N hr (pa_cons (pv 0) (pa_cons (pv 1) (pa_cons (pe_ix ix_list (pv 2) (pe_un un_neg pe_int) (fun _ _ => rfl)) pa_nil)))))
        (pss_cons (ps_if (pt_cmpR (op_eq) (pv 4) (pe_ix ix_list (pv 2) (pe_un un_neg pe_int) (fun _ _ => rfl)) (nomark _)) (pss_one ps_break) pss_nil)
        (pss_one (ps_expr (pe_bm PySem.F.plainAttrs_list PySem.F.slot_list_append PySem.F.type_list_append mt_append (pv 2) (pa_cons (pv 4) pa_nil)))))))
      (pss_one (ps_ret (pv 2)))), ?_⟩
    refine ⟨_, rfl, by show 1 ≤ sizeLine; decide, fun l nl => ?_⟩
    refine nm_of ?_
    have zl := (same_new (o := .lst [V.int (c : Nat)]) nl).seq hz
    refine ⟨_, rfl, z, _, rfl, .inl zl, _, _, rfl, rfl, .inr ⟨by rw [ivs_len]; omega, by rw [ivs_len]; omega⟩, ?_⟩
    rw [ivs_len]
    have en : (2 * (hs.length : Int)).toNat = 2 * hs.length := by omega
    refine ⟨_, rfl, by omega, by omega, ?_⟩
    rw [en]
    have bd : ∀ j, j ≤ 2 * hs.length → fr hs c j < 2 ^ 61 := fun j hj => by
      have h1 := fr_bound (c := c) hM j
      have h2 : j * 100000000000 ≤ 80 * 100000000000 := Nat.mul_le_mul_right _ (by omega)
      omega
    have lastAt : ∀ j : Nat, atI (ivs (frL (fr hs c) j)) (-1) = some (.int ((fr hs c j : Nat) : Int)) := fun j => by
      refine at_lastV ?_ (by rw [ivs_len, frL_len]; omega)
      rw [ivs_len, frL_len]
      show (ivs (frL (fr hs c) j))[j]? = _
      unfold ivs
      rw [List.getElem?_map, frL_at (Nat.le_refl _)]
      rfl
    refine for_range (lo := 0) (n := 2 * hs.length) (fun j σ G => ∃ (s3 s4 : Option V), σ = [some (.ref z), some (.int (c : Nat)), some (.ref l), s3, s4] ∧ But l H G ∧ G l = some (.lst (ivs (frL (fr hs c) j))) ∧ ∀ q, q < j → fr hs c q < fr hs c (q + 1)) ?_ ?_ ?_
    · exact ⟨none, none, rfl, but_upd, upd_same, fun q hq => absurd hq (Nat.not_lt_zero _)⟩
    · rintro j σ G hj ⟨s3, s4, rfl, bG, eG, upj⟩
      have zG : SqL K G z (ivs hs) := (But.same bG nl).seq hz
      refine nm_of ?_
      refine ⟨_, rfl, _, rfl, _, rfl, 1, rfl, l, _, (-1), _, rfl, rfl, SqL.of eG, lastAt j, z, hs, c, fr hs c j, rfl, zG, h0, hn, by omega, bd j (by omega), fun G2 s2 => ?_⟩
      refine nm_of ?_
      have eG2 := s2 _ _ eG
      refine ⟨_, rfl, _, rfl, 1, rfl, l, _, (-1), _, rfl, rfl, SqL.of eG2, lastAt j, rfl, _, rfl, ?_⟩
      by_cases e : nextF hs c (fr hs c j) = fr hs c j
      · rw [decide_eq_true (show V.int ((nextF hs c (fr hs c j) : Nat) : Int) = V.int ((fr hs c j : Nat) : Int) by rw [e])]
        refine iteT ?_
        refine ⟨_, rfl, ?_⟩
        have b2 := bG.trans (Same.but s2 l)
        exact k j l G2 (But.same b2 nl) nl eG2 ⟨by omega, upj, fun _ => e⟩
      · rw [decide_eq_false (fun z => e (by injection z with z; omega))]
        refine iteF ?_
        refine ⟨_, rfl, .inl ⟨rfl, _, SqL.of eG2⟩, _, rfl, l, _, _, rfl, rfl, eG2, by rw [ivs_len, frL_len, sizeLine_eq]; omega, ?_⟩
        refine ⟨_, _, rfl, (bG.trans (Same.but s2 l)).trans but_upd, ?_, fun q hq => ?_⟩
        · rw [upd_same, frL_succ]
          unfold ivs
          rw [List.map_append]
          rfl
        · rcases Nat.lt_or_ge q j with h | h
          · exact upj q h
          · obtain rfl : q = j := by omega
            have := fr_le hs c q
            have e' : ¬ fr hs c (q + 1) = fr hs c q := e
            omega
    · rintro σ G ⟨s3, s4, rfl, bG, eG, upj⟩
      exact ⟨_, rfl, k (2 * hs.length) l G (But.same bG nl) nl eG ⟨Nat.le_refl _, upj, fun h => absurd h (Nat.lt_irrefl _)⟩⟩
end
section
variable {P : Program} {w : World} {K : PySem.W.Frag} {mg : Str → Option Value} {base : Heap}
theorem ok_repeat {f : Addr} {fd : FuncData} (F : Fun K "_first_repeat" "_first_repeat" s_first_repeat f fd) (B : Blt mg) (zV : mg "divmod" = none) : FnOk P w K mg base CX0 1 f fd ["fronts", "count"] (spRepeat K) := by
  refine F.ok sc_first_repeat (fun vs H Q E h => ?_) (fun cdv A outer s H vs Q E hr h => ?_)
  · obtain ⟨l, f, m, n, rfl, _⟩ := h
    rfl
  · obtain ⟨l, f, m, n, rfl, hl, hm, h0, hn, up, k⟩ := h
    have hu := hu_of hr
    refine ⟨_, pss_cons (ps_set (i := 2) sc_first_repeat.nd rfl (Or.inl rfl) (pe_dnewK))
      (pss_cons (ps_for PassesOwn.never rfl (pi_enum (by rfl) B.enumerate (pa_cons (pv 0) pa_nil)) (pg_tup rfl (pgs_cons (pg_name (i := 3) sc_first_repeat.nd rfl (Or.inl rfl)) (pgs_cons (pg_name (i := 4) sc_first_repeat.nd rfl (Or.inl rfl)) pgs_nil)))
        (pss_one (ps_if (pt_cmpR (op_ge) (pe_op op_sub (pv 4) (pe_ix ix_list (pv 0) (pe_int) (fun _ _ => rfl))) (pe_op op_sub (pv 1) (pe_int)) (nomark _))
          (pss_cons (ps_asg (pe_callB call_divmod (by rfl) zV PyProof.Rows.boot_divmod (pa_cons (pv 4) (pa_cons (pv 1) pa_nil))) (pg_tup rfl (pgs_cons (pg_name (i := 5) sc_first_repeat.nd rfl (Or.inl rfl)) (pgs_cons (pg_name (i := 6) sc_first_repeat.nd rfl (Or.inl rfl)) pgs_nil))))
          (pss_cons (ps_if (pt_cmp (pc_din hu (pv 6) (pv 2)))
            (pss_cons (ps_set (i := 7) sc_first_repeat.nd rfl (Or.inl rfl) (pe_dget hu (pv 2) (pv 6) (fun _ _ => rfl)))
            (pss_one (ps_ret (pe_tup (pa_cons (pv 7) (pa_cons (pe_op op_sub (pv 3) (pv 7)) (pa_cons (pe_op op_sub (pv 4) (pe_ix ix_list (pv 0) (pv 7) (fun _ _ => rfl))) pa_nil))))))) pss_nil)
          (pss_one (ps_dput hu (pv 2) (pv 6) (pv 3) rfl)))) pss_nil)))
      (pss_one (ps_ret pe_non))), ?_⟩
    refine fun d nd => ?_
    refine nm_of ?_
    have fl : (ivs (frL f m)).length = m + 1 := by rw [ivs_len, frL_len]
    have sd := same_new (o := .dK []) nd
    refine ⟨_, rfl, l, ivs (frL f m), rfl, sd.seq hl, for_it (walk_enum (K := K) (a := l) (xs := ivs (frL f m))) (fun i σ G => ∃ (s3 s4 s5 s6 s7 : Option V) (L : List (Nat × Nat)), σ = [some (.ref l), some (.int (n : Nat)), some (.ref d), s3, s4, s5, s6, s7] ∧ But d H G ∧ G d = some (.dK (kvs L)) ∧
      (L.map (·.1)).Nodup ∧ (∀ r q, (r, q) ∈ L ↔ q < i ∧ okT f n q ∧ r = f q % n) ∧ L.length ≤ i ∧ ∀ s t, s < t → t < i → okT f n s → okT f n t → f s % n ≠ f t % n) ?_ ?_ ?_ ?_⟩
    · exact ⟨_, _, _, _, _, [], rfl, but_upd, upd_same, List.nodup_nil, fun r q => ⟨fun h => (nomatch h), fun h => absurd h.1 (Nat.not_lt_zero _)⟩, Nat.le_refl _, fun s t _ h => absurd h (Nat.not_lt_zero _)⟩
    · rintro i σ G _ ⟨_, _, _, _, _, _, _, b, _⟩
      exact (But.same b nd).seq hl
    · rintro i v σ G G2 hi ⟨s3, s4, s5, s6, s7, L, rfl, b, ed, nK, mem, len, no⟩ ⟨T, y, z, rfl, nT, rfl, e1, e2⟩
      obtain rfl : y = V.int (i : Int) := (Option.some.inj e1).symm
      rw [fl] at hi
      have ez : (ivs (frL f m))[i]? = some (V.int ((f i : Nat) : Int)) := by unfold ivs; rw [List.getElem?_map, frL_at (by omega)]; rfl
      obtain rfl : z = V.int ((f i : Nat) : Int) := Option.some.inj (e2.symm.trans ez)
      have lG := (But.same b nd).seq hl
      have f0i : f 0 ≤ f i := up_le up (Nat.zero_le _) (by omega)
      have sT := same_new (o := .tup [V.int (i : Int), V.int ((f i : Nat) : Int)]) nT
      refine ⟨T, _, rfl, SqT.of upd_same, rfl, _, _, rfl, _, _, rfl, rfl, ?_⟩
      have ed2 := sT _ _ ed
      have lG2 := sT.seq lG
      have b2 := b.trans (Same.but sT d)
      generalize upd G T _ = G3 at sT ed2 lG2 b2 ⊢
      clear sT nT lG ed b e1 e2 ez
      refine ⟨_, rfl, _, rfl, l, _, ((0 : Nat) : Int), _, rfl, rfl, lG2, ivs_at (frL_at (Nat.zero_le _)), _, _, rfl, rfl, _, rfl, _, _, rfl, rfl, _, _, rfl, rfl, _, rfl, ?_⟩
      by_cases c : okT f n i
      · rw [decide_eq_true (show ((f i : Nat) : Int) - ((f 0 : Nat) : Int) ≥ (n : Int) - 1 by unfold okT at c; omega)]
        refine iteT ?_
        refine ⟨_, rfl, _, rfl, _, _, rfl, ⟨by omega, by omega⟩, fun U nU => ?_⟩
        refine ⟨U, _, rfl, SqT.of upd_same, rfl, _, _, rfl, _, _, rfl, rfl, ?_⟩
        have sU := same_new (o := .tup [V.int (((f i : Nat) : Int) / (n : Int)), V.int (((f i : Nat) : Int) % (n : Int))]) nU
        have ed4 := sU _ _ ed2
        have lG4 := sU.seq lG2
        have b4 := b2.trans (Same.but sU d)
        generalize upd G3 U _ = G4 at sU ed4 lG4 b4 ⊢
        refine ⟨_, rfl, _, rfl, d, _, rfl, DGet.k (k := Sum.inl ((f i % n : Nat) : Int)) ed4, _, rfl, ?_⟩
        by_cases q : ∃ j, j < i ∧ okT f n j ∧ f j % n = f i % n
        · obtain ⟨j, j1, j2, j3⟩ := q
          have hv := kvs_get nK ((mem (f i % n) j).mpr ⟨j1, j2, j3.symm⟩)
          rw [hv]
          refine iteT ?_
          refine ⟨_, rfl, _, rfl, d, V.int (j : Int), rfl, .inl ⟨kvs L, Sum.inl ((f i % n : Nat) : Int), .inl ed4, rfl, hv.symm⟩, ?_⟩
          refine nm_of ?_
          refine ⟨_, rfl, _, rfl, _, rfl, _, _, rfl, rfl, _, rfl, _, rfl, _, rfl, l, _, ((j : Nat) : Int), _, rfl, rfl, lG4, ivs_at (frL_at (by omega)), _, _, rfl, rfl, by show 3 ≤ sizeLine; decide, fun R nR => ?_⟩
          have fj := up_le up (a := j) (b := i) (by omega) (by omega)
          refine k (some (j, i)) (.ref R) _ ((But.same b4 nd).trans (same_new nR)) ⟨j1, by omega, j2, c, j3, fun s' t' h1 h2 o1 o2 => no s' t' h1 h2 o1 o2⟩ ⟨R, rfl, SqT.of ?_⟩
          rw [upd_same]
          have x1 : ((i - j : Nat) : Int) = (i : Int) - (j : Int) := by omega
          have x2 : ((f i - f j : Nat) : Int) = ((f i : Nat) : Int) - ((f j : Nat) : Int) := by omega
          rw [x1, x2]
        · have hnk : f i % n ∉ L.map (·.1) := fun h => by
            obtain ⟨⟨r, j⟩, hj, e⟩ := List.mem_map.mp h
            obtain ⟨a1, a2, a3⟩ := (mem r j).mp hj
            have e : r = f i % n := e
            exact q ⟨j, a1, a2, by rw [← a3, e]⟩
          rw [kvs_none.mpr hnk]
          refine iteF ?_
          refine ⟨_, rfl, _, rfl, _, rfl, d, _, rfl, DPut.k (k := Sum.inl ((f i % n : Nat) : Int)) ed4 (by rw [kvs_len, sizeLine_eq]; omega), ?_⟩
          refine ⟨_, _, _, _, _, L ++ [(f i % n, i)], rfl, b4.trans but_upd, by rw [upd_same, ← kvs_put hnk], ?_, fun r p => ?_, by rw [List.length_append]; show L.length + 1 ≤ _; omega, fun s t h1 h2 o1 o2 => ?_⟩
          · rw [List.map_append, List.nodup_append]
            exact ⟨nK, List.nodup_cons.mpr ⟨by simp, List.nodup_nil⟩, fun a ha b hb e => by
              obtain rfl := List.mem_singleton.mp hb
              rw [e] at ha
              exact hnk ha⟩
          · rw [List.mem_append, List.mem_singleton, mem]
            constructor
            · rintro (⟨a1, a2, a3⟩ | e)
              · exact ⟨by omega, a2, a3⟩
              · obtain ⟨e1, e2⟩ := Prod.mk.inj e
                subst e2
                exact ⟨Nat.lt_succ_self _, c, e1⟩
            · rintro ⟨a1, a2, a3⟩
              rcases Nat.lt_or_ge p i with h | h
              · exact .inl ⟨h, a2, a3⟩
              · obtain rfl : p = i := by omega
                exact .inr (by rw [a3])
          · rcases Nat.lt_or_ge t i with h | h
            · exact no s t h1 h o1 o2
            · obtain rfl : t = i := by omega
              exact fun e => q ⟨s, h1, o1, e⟩
      · rw [decide_eq_false (show ¬ ((f i : Nat) : Int) - ((f 0 : Nat) : Int) ≥ (n : Int) - 1 by unfold okT at c; omega)]
        refine iteF ?_
        refine ⟨_, _, _, _, _, L, rfl, b2, ed2, nK, fun r p => ?_, by omega, fun s t h1 h2 o1 o2 => ?_⟩
        · rw [mem]
          constructor
          · rintro ⟨a1, a2, a3⟩
            exact ⟨by omega, a2, a3⟩
          · rintro ⟨a1, a2, a3⟩
            rcases Nat.lt_or_ge p i with h | h
            · exact ⟨h, a2, a3⟩
            · obtain rfl : p = i := by omega
              exact absurd a2 c
        · rcases Nat.lt_or_ge t i with h | h
          · exact no s t h1 h o1 o2
          · obtain rfl : t = i := by omega
            exact absurd o2 c
    · rintro σ G ⟨s3, s4, s5, s6, s7, L, rfl, b, ed, nK, mem, len, no⟩
      rw [fl] at no
      exact k none .non G (But.same b nd) (fun s t h1 h2 o1 o2 => no s t h1 (by omega) o1 o2) rfl
end
/-! ### EndlessRow and Wave -/
structure ClsE (K : PySem.W.Frag) (D : Addr) : Prop where
  cl : Cls K D
  n1 : NoAttr K D "_row"
  n2 : NoAttr K D "_period"
structure ClsW (K : PySem.W.Frag) (W : Addr) : Prop where
  cl : Cls K W
  n1 : NoAttr K W "_count"
  n2 : NoAttr K W "_fronts"
  n3 : NoAttr K W "_repeat"
def EndAt (H : Hp) (q D x : Addr) (per : Int) : Prop := ∃ dx, H q = some (.ins D dx [("_row", .ref x), ("_period", .int per)])
theorem EndAt.same {H H' : Hp} {q D x : Addr} {per : Int} (h : EndAt H q D x per) (e : Same H H') : EndAt H' q D x per := by obtain ⟨dx, h⟩ := h; exact ⟨dx, e _ _ h⟩
def WaveAt (K : PySem.W.Frag) (H : Hp) (w W l : Addr) (n : Nat) (f : Nat → Nat) (m : Nat) (rep : Option (Nat × Nat)) : Prop := ∃ dx v, H w = some (.ins W dx [("_count", .int ((n : Nat) : Int)), ("_fronts", .ref l), ("_repeat", v)]) ∧ H l = some (.lst (ivs (frL f m))) ∧ RepV K H v f rep
theorem WaveAt.same {K : PySem.W.Frag} {H H' : Hp} {w W l : Addr} {n : Nat} {f : Nat → Nat} {m : Nat} {rep : Option (Nat × Nat)} (h : WaveAt K H w W l n f m rep) (e : Same H H') : WaveAt K H' w W l n f m rep := by
  obtain ⟨dx, v, h1, h2, h3⟩ := h
  exact ⟨dx, v, e _ _ h1, e _ _ h2, h3.same e⟩
theorem WaveAt.but {K : PySem.W.Frag} {H H' : Hp} {w W l L : Addr} {n : Nat} {f : Nat → Nat} {m : Nat} {rep : Option (Nat × Nat)} {zs : List V} (h : WaveAt K H w W l n f m rep) (hL : H L = some (.lst zs)) (b : But L H H') (ne : l ≠ L) : WaveAt K H' w W l n f m rep := by
  obtain ⟨dx, v, h1, h2, h3⟩ := h
  refine ⟨dx, v, b _ _ (fun e => by rw [e, hL] at h1; cases h1) h1, b _ _ ne h2, ?_⟩
  match rep, h3 with
  | none, h => exact h
  | some (s, t), ⟨a, e1, e2⟩ => exact ⟨a, e1, sqT_but e2 hL b⟩
/-- what a wave's fronts are like -/
structure WaveP (n : Nat) (f : Nat → Nat) (m : Nat) (rep : Option (Nat × Nat)) : Prop where
  le : m ≤ 80
  n0 : 0 < n
  n40 : n ≤ 40
  up : ∀ k, k < m → f k < f (k + 1)
  small : ∀ k, k ≤ m → f k < 1000000000
  rep : RepS f n m rep
theorem waveP {hs : List Nat} {c m : Nat} {rep : Option (Nat × Nat)} (h0 : 0 < hs.length) (h1 : hs.length ≤ 40) (hc : c < hs.length) (hM : ∀ x ∈ hs, x ≤ 10000000) (F : Fronts hs c m) (R : RepS (fr hs c) hs.length m rep) : WaveP hs.length (fr hs c) m rep :=
  ⟨by have := F.le; omega, h0, h1, F.up, fun k hk => by
    have h1 := fr_bound (c := c) hM k
    have h2 : k * 10000000 ≤ 80 * 10000000 := Nat.mul_le_mul_right _ (by have := F.le; omega)
    omega, R⟩
def frontA (f : Nat → Nat) (m : Nat) (rep : Option (Nat × Nat)) (k : Nat) : Nat := if k ≤ m then f k else match rep with
  | none => f m
  | some (s, t) => f (s + (k - s) % (t - s)) + (k - s) / (t - s) * (f t - f s)
def FirstT (f : Nat → Nat) (m o : Nat) : Option Nat → Prop
  | none => ∀ j, j ≤ m → f j < o
  | some k => k ≤ m ∧ o ≤ f k ∧ ∀ j, j < k → f j < o
theorem FirstT.one {f : Nat → Nat} {m o : Nat} {a b : Option Nat} (h : FirstT f m o a) (h' : FirstT f m o b) : a = b := by
  match a, b, h, h' with
  | none, none, _, _ => rfl
  | none, some k, h, h' => have := h k h'.1; have := h'.2.1; omega
  | some k, none, h, h' => have := h' k h.1; have := h.2.1; omega
  | some k, some k', h, h' =>
    have e : k = k' := by
      rcases Nat.lt_trichotomy k k' with q | q | q
      · have := h'.2.2 k q; have := h.2.1; omega
      · exact q
      · have := h.2.2 k' q; have := h'.2.1; omega
    rw [e]
def optN : Option Nat → V
  | none => .non
  | some k => .int (k : Nat)
def TickS (n : Nat) (f : Nat → Nat) (m : Nat) (rep : Option (Nat × Nat)) (o : Nat) (r : Option Nat) : Prop :=
  if o < f 0 then r = none else match rep with
    | none => FirstT f m o r
    | some (s, t) => ∃ k, FirstT f m (o - (o - f s) / (f t - f s) * (f t - f s)) (some k) ∧ r = some (k + (o - f s) / (f t - f s) * (t - s))
theorem TickS.one {n : Nat} {f : Nat → Nat} {m : Nat} {rep : Option (Nat × Nat)} {o : Nat} {a b : Option Nat} (h : TickS n f m rep o a) (h' : TickS n f m rep o b) : a = b := by
  unfold TickS at h h'
  by_cases c : o < f 0
  · rw [if_pos c] at h h'
    rw [h, h']
  · rw [if_neg c] at h h'
    match rep, h, h' with
    | none, h, h' => exact h.one h'
    | some (s, t), ⟨k, h1, h2⟩, ⟨k', h3, h4⟩ =>
      have e := h1.one h3
      injection e with e
      rw [h2, h4, e]
def lastV (K : PySem.W.Frag) (H : Hp) (v : V) (n : Nat) (f : Nat → Nat) (m : Nat) : Option (Nat × Nat) → Prop
  | some _ => v = .non
  | none => PairV K H v (f m / n, f m % n)
def spEInit (K : PySem.W.Frag) (C D : Addr) : Sp := fun vs H Q _ => ∃ (q dx x : Addr) (xs : List (Int × Int)) (per : Int), vs = [.ref q, .ref x, .int per] ∧ H q = some (.ins D dx []) ∧ RowAt K C H x xs ∧ xs.length ≤ 40 ∧ 0 < xs.length ∧ pl xs (xs.length - 1) - pl xs 0 + 1 ≤ per ∧ per ≤ 1000000000 ∧
  ∀ H', But q H H' → H' q = some (.ins D dx [("_row", .ref x), ("_period", .int per)]) → Q .non H'
def spWInit (K : PySem.W.Frag) (C W : Addr) : Sp := fun vs H Q _ => ∃ (q dx x : Addr) (xs : List (Int × Int)) (per : Int) (i : Nat), vs = [.ref q, .ref x, .int per, .int (i : Nat)] ∧ H q = some (.ins W dx []) ∧ RowAt K C H x xs ∧ Wf 0 xs ∧ xs.length ≤ 40 ∧ i < xs.length ∧ 0 < per ∧ per ≤ 1000000000 ∧
  ∀ l m rep H', But q H H' → H l = none → WaveAt K H' q W l xs.length (fr (hitsOf xs per) i) m rep → Fronts (hitsOf xs per) i m → RepS (fr (hitsOf xs per) i) xs.length m rep → Q .non H'
def spWave (K : PySem.W.Frag) (C D W : Addr) : Sp := fun vs H Q _ => ∃ (q x : Addr) (xs : List (Int × Int)) (per : Int) (i : Nat), vs = [.ref q, .int (i : Nat)] ∧ EndAt H q D x per ∧ RowAt K C H x xs ∧ Wf 0 xs ∧ xs.length ≤ 40 ∧ i < xs.length ∧ 0 < per ∧ per ≤ 1000000000 ∧
  ∀ w l m rep H', Same H H' → H l = none → WaveAt K H' w W l xs.length (fr (hitsOf xs per) i) m rep → Fronts (hitsOf xs per) i m → RepS (fr (hitsOf xs per) i) xs.length m rep → Q (.ref w) H'
abbrev Wv (K : PySem.W.Frag) (W : Addr) (go : Addr → Nat → (Nat → Nat) → Nat → Option (Nat × Nat) → List V → Hp → VK → Prop) : Sp := fun vs H Q _ => ∃ (w l : Addr) (n : Nat) (f : Nat → Nat) (m : Nat) (rep : Option (Nat × Nat)) (rest : List V), vs = .ref w :: rest ∧ WaveAt K H w W l n f m rep ∧ WaveP n f m rep ∧ go w n f m rep rest H Q
def spIsEnd (K : PySem.W.Frag) (W : Addr) : Sp := Wv K W fun _ _ _ _ rep rest H Q => rest = [] ∧ Q (.bl rep.isSome) H
def spLast (K : PySem.W.Frag) (W : Addr) : Sp := Wv K W fun _ n f m rep rest H Q => rest = [] ∧ ∀ v H', Same H H' → lastV K H' v n f m rep → Q v H'
def spFrontA (K : PySem.W.Frag) (W : Addr) : Sp := Wv K W fun _ _ f m rep rest H Q => ∃ k : Nat, rest = [.int (k : Nat)] ∧ ∀ H', Same H H' → Q (.int ((frontA f m rep k : Nat) : Int)) H'
def spCountA (K : PySem.W.Frag) (W : Addr) : Sp := Wv K W fun _ _ f m rep rest H Q => ∃ k : Nat, rest = [.int (k : Nat)] ∧ (k : Int) ≤ 10 ^ 18 ∧ ∀ H', Same H H' → Q (.int ((frontA f m rep k : Nat) - (f 0 : Nat) + 1 : Int)) H'
def spFirstT (K : PySem.W.Frag) (W : Addr) : Sp := Wv K W fun _ _ f m _ rest H Q => ∃ o : Nat, rest = [.int (o : Nat)] ∧ ∀ r H', Same H H' → FirstT f m o r → Q (optN r) H'
def spTickOf (K : PySem.W.Frag) (W : Addr) : Sp := Wv K W fun _ n f m rep rest H Q => ∃ k i : Nat, rest = [.int (k : Nat), .int (i : Nat)] ∧ (k : Int) ≤ 10 ^ 18 ∧ i < n ∧ ∀ r H', Same H H' → TickS n f m rep (k * n + i) r → Q (optN r) H'
section
variable {P : Program} {w : World} {K : PySem.W.Frag} {mg : Str → Option Value} {base : Heap}
theorem ok_eInit {f C D gL pP gP n4 : Addr} {fd dP d4 : FuncData} (F : Fun K "__init__" "EndlessRow.__init__" s_EndlessRow_init f fd) (B : Blt mg) (R : RowC K mg C) (cE : ClsE K D) (mG : ∃ v, mg "GREATEST_PERIOD" = some v ∧ L2.RelV (.int 1000000000) v)
    (SL : Sign K C "__len__" gL) (GL : FnR P w K mg base CX0 1 gL (spLen K C)) (pr : PropOf K C "places" pP gP) (P1 : FnOk P w K mg base CX0 1 gP dP ["self"] (spPlaces K C)) (bP : Binds K dP ["self"] []) (N4 : At P w K mg base CX0 2 "check_number" ["value", "least", "greatest"] spCheckNum n4 d4) :
    FnOk P w K mg base CX0 3 f fd ["self", "row", "period"] (spEInit K C D) := by
  obtain ⟨vG, mG, rG⟩ := mG
  refine F.ok sc_EndlessRow_init (fun vs H Q E h => ?_) (fun cdv A outer s H vs Q E hr h => ?_)
  · obtain ⟨q, dx, x, xs, per, rfl, _⟩ := h
    rfl
  · obtain ⟨q, dx, x, xs, per, rfl, eq, hR, hz, h0, h1, h2, k⟩ := h
    obtain ⟨dr, t, us, ep, hT, hS⟩ := id hR
    refine ⟨_, pss_cons (ps_if (PW.pt (pw_or (pt_not (pt_val (pe_callB (call_isi) (by rfl) B.isinstance boot_isinstance (pa_cons (pv 1) (pa_cons (pe_glob (v := .ref C) (by rfl) R.mgC rfl) pa_nil))))) (pw_or1 (pt_cmpR (op_eq) (pe_callB (Own.call_len SL.at_ SL.fn GL hr pass0) (by rfl) B.len PySem.boot_len (pa_cons (pv 1) pa_nil)) (pe_int) (nomark _))))) (pss_one ps_never) pss_nil)
      (pss_cons (ps_expr (pe_at N4 hr (pa_cons (pv 2) (pa_cons (pe_op op_add (pe_op op_sub (pe_ix ix_tup (pe_prop (pv 1) R.cl pr P1 hr bP .nil pass0 rfl) (pe_un un_neg pe_int) (fun _ _ => rfl)) (pe_ix ix_tup (pe_prop (pv 1) R.cl pr P1 hr bP .nil pass0 rfl) (pe_int) (fun _ _ => rfl))) (pe_int)) (pa_cons (pe_glob (v := .int 1000000000) (by rfl) mG rG) pa_nil)))))
      (pss_cons (ps_fld (pv 0) (pv 1) rfl)
      (pss_one (ps_fld (pv 0) (pv 2) rfl)))), ?_⟩
    refine ⟨_, rfl, _, .ref C, _, _, true, rfl, .own C, R.ty ep, kit_self, true, rfl, iteF ?_⟩
    refine ⟨_, rfl, x, dr, _, rfl, ep, x, xs, rfl, hR, _, rfl, by omega, by omega, rfl, _, rfl, ?_⟩
    rw [decide_eq_false (fun e => by injection e with e; omega)]
    refine iteF ?_
    have pv_len : (plV xs).length = xs.length := by unfold plV; rw [List.length_map]
    refine ⟨_, rfl, _, rfl, x, dr, _, rfl, ep, x, xs, rfl, hR, hz, fun z1 H1 s1 n1 e1 => ?_⟩
    refine ⟨1, rfl, z1, _, (-1), _, rfl, rfl, SqT.of e1, at_lastV (by
      rw [pv_len]
      unfold plV
      rw [List.getElem?_map]
      have e : xs[xs.length - 1]? = some (xs[xs.length - 1]'(by omega)) := by simp
      rw [e]
      show some (V.int _) = some (V.int (pl xs (xs.length - 1)))
      rw [(pl_of e).1]) (by rw [pv_len]; exact h0), ?_⟩
    refine ⟨_, rfl, x, dr, _, rfl, s1 _ _ ep, x, xs, rfl, hR.same s1, hz, fun z2 H2 s2 n2 e2 => ?_⟩
    refine ⟨z2, _, _, _, rfl, rfl, SqT.of e2, pl_get (a := 0) h0, _, _, rfl, rfl, _, _, rfl, rfl, per, _, _, rfl, h1, h2, ?_⟩
    have s12 := s1.trans s2
    refine ⟨_, rfl, _, rfl, q, D, dx, [], rfl, s12 _ _ eq, cE.cl, cE.n1, (by show 0 < 1000; decide), ?_⟩
    refine ⟨_, rfl, _, rfl, q, D, dx, _, rfl, upd_same, cE.cl, cE.n2, (by show 1 < 1000; decide), ?_⟩
    exact k _ (((Same.but s12 q).trans but_upd).trans but_upd) upd_same
theorem ok_wInit {f C W gL g1 g2 g3 : Addr} {fd d1 d2 d3 : FuncData} (F : Fun K "__init__" "Wave.__init__" s_Wave_init f fd) (B : Blt mg) (R : RowC K mg C) (cW : ClsW K W) (SL : Sign K C "__len__" gL) (GL : FnR P w K mg base CX0 1 gL (spLen K C))
    (N1 : At P w K mg base CX0 5 "_last_hit" ["row", "period", "stone"] (spLastHit K C) g1 d1) (N2 : At P w K mg base CX0 2 "_fronts_of_wave" ["hits", "first"] (spFronts K) g2 d2) (N3 : At P w K mg base CX0 1 "_first_repeat" ["fronts", "count"] (spRepeat K) g3 d3) :
    FnOk P w K mg base CX0 6 f fd ["self", "row", "period", "stone"] (spWInit K C W) := by
  refine F.ok sc_Wave_init (fun vs H Q E h => ?_) (fun cdv A outer s H vs Q E hr h => ?_)
  · obtain ⟨q, dx, x, xs, per, i, rfl, _⟩ := h
    rfl
  · obtain ⟨q, dx, x, xs, per, i, rfl, eq, hR, hw, hz, hi, h0, h1, k⟩ := h
    have r2 : Room 2 _ := hr.mono (by decide)
    have r1 : Room 1 _ := hr.mono (by decide)
    obtain ⟨dr, t, us, ep, hT, hS⟩ := id hR
    refine ⟨_, pss_cons (ps_setLc (i := 4) (own := [("other", 5)]) (g := gName 5) (tt := tYes) rfl sc_Wave_init.nd rfl rfl (sw_true rfl rfl rfl (by decide +kernel)) (pi_range1 (by rfl) B.range (pa_cons (pe_callB (Own.call_len SL.at_ SL.fn GL r2 pass0) (by rfl) B.len PySem.boot_len (pa_cons (pv 1) pa_nil)) pa_nil)) (blkOk_by (N := n_Wave_init) (sc := defScope s_Wave_init) (by decide +kernel))
          (fun _ _ _ _ _ => pg_name (i := 5) sc_Wave_init.nd rfl (Or.inl rfl)) (fun _ _ _ _ _ => pts_nil) (fun _ _ _ _ _ => (show PE _ _ (tCall (spLastHit K C) [] E0 (tCons (tVar 1) (tCons (tVar 2) (tCons (tVar 5) tNil)))) from pe_at N1 hr (pa_cons (pv 1) (pa_cons (pv 2) (pa_cons (pv 5) pa_nil))))))
      (pss_cons (ps_fld (pv 0) (pe_callB (Own.call_len SL.at_ SL.fn GL r2 pass0) (by rfl) B.len PySem.boot_len (pa_cons (pv 1) pa_nil)) rfl)
      (pss_cons (ps_fld (pv 0) (pe_at N2 r2 (pa_cons (pv 4) (pa_cons (pv 3) pa_nil))) rfl)
      (pss_one (ps_fld (pv 0) (pe_at N3 r1 (pa_cons (pe_fld (pv 0) rfl) (pa_cons (pe_fld (pv 0) rfl) pa_nil))) rfl)))), ?_⟩
    refine ⟨_, rfl, x, dr, _, rfl, ep, x, xs, rfl, hR, _, rfl, by omega, by omega, _, rfl, by omega, by omega, ?_⟩
    refine fun D nD => lc_fm (walk_range (lo := 0) (n := xs.length)) (List.range xs.length) (fun _ => true) (lastHit xs per) (fun _ v (m : Nat) => v = V.int (m : Int)) List.length_range (by omega) nD (fun _ _ _ _ _ _ _ q => q) (fun _ _ => True.intro) ?_ ?_
    · rintro n j y G G' N' M' hj sm _ ⟨rfl, hxx⟩ _ go
      obtain rfl : y = V.int (n : Int) := hxx.trans (congrArg V.int (Int.zero_add _))
      obtain ⟨hj1, hj2⟩ := List.getElem?_eq_some_iff.mp hj
      obtain rfl : n = j := by simpa using hj2
      rw [List.length_range] at hj1
      exact ⟨rfl, _, rfl, _, rfl, _, rfl, x, xs, per, n, rfl, hR.same sm, hw, hz, hj1, h0, h1, fun H' s' => go _ _ rfl s' rfl⟩
    · intro G ys sm eD rel
      rw [filter_all] at rel
      have e := paired_eq (fun m : Nat => V.int (m : Int)) rel
      have eD : G D = some (.lst (ivs (hitsOf xs per))) := by rw [eD, e]; rfl
      have hl : (hitsOf xs per).length = xs.length := by unfold hitsOf; simp
      refine nm_of ?_
      have nDq : q ≠ D := ne_of_none eq nD
      -- _count
      refine ⟨_, rfl, x, dr, _, rfl, sm _ _ ep, x, xs, rfl, hR.same sm, _, rfl, by omega, by omega, _, rfl, q, W, dx, [], rfl, sm _ _ eq, cW.cl, cW.n1, (by show 0 < 1000; decide), ?_⟩
      have q1 : (upd G q (.ins W dx (putF "_count" (V.int (xs.length : Int)) []))) q = some (.ins W dx [("_count", V.int (xs.length : Int))]) := upd_same
      have b1 : But q G (upd G q (.ins W dx (putF "_count" (V.int (xs.length : Int)) []))) := but_upd
      generalize upd G q (.ins W dx (putF "_count" (V.int (xs.length : Int)) [])) = G1 at q1 b1 ⊢
      have d1' := b1 _ _ nDq.symm eD
      -- _fronts
      refine ⟨_, rfl, _, rfl, D, hitsOf xs per, i, rfl, SqL.of d1', by omega, by omega, by omega, fun y hy => ?_, fun m l G2 s2 nl el Fr => ?_⟩
      · unfold hitsOf at hy
        obtain ⟨j, hj, rfl⟩ := List.mem_map.mp hy
        exact lastHit_le hw (List.mem_range.mp hj) hz h0
      refine ⟨_, rfl, q, W, dx, _, rfl, s2 _ _ q1, cW.cl, cW.n2, (by show 1 < 1000; decide), ?_⟩
      have nlq : l ≠ q := fun e => by rw [e, q1] at nl; cases nl
      have q3 : (upd G2 q (.ins W dx (putF "_fronts" (.ref l) [("_count", V.int (xs.length : Int))]))) q = some (.ins W dx [("_count", V.int (xs.length : Int)), ("_fronts", .ref l)]) := upd_same
      have b3 : But q G2 (upd G2 q (.ins W dx (putF "_fronts" (.ref l) [("_count", V.int (xs.length : Int))]))) := but_upd
      generalize upd G2 q (.ins W dx (putF "_fronts" (.ref l) [("_count", V.int (xs.length : Int))])) = G3 at q3 b3 ⊢
      have el3 := b3 _ _ nlq el
      -- _repeat
      refine ⟨_, rfl, q, W, dx, _, _, rfl, q3, cW.cl, cW.n2, rfl, _, rfl, q, W, dx, _, _, rfl, q3, cW.cl, cW.n1, rfl, l, fr (hitsOf xs per) i, m, xs.length, rfl, SqL.of el3, by have := Fr.le; omega, by omega, by omega, Fr.up, fun rep v G4 s4 Rp Rv => ?_⟩
      refine ⟨_, rfl, q, W, dx, _, rfl, s4 _ _ q3, cW.cl, cW.n3, (by show 2 < 1000; decide), ?_⟩
      have bq : But q H (upd G4 q (.ins W dx (putF "_repeat" v [("_count", V.int (xs.length : Int)), ("_fronts", .ref l)]))) :=
        ((((Same.but sm q).trans b1).trans (Same.but s2 q)).trans b3).trans ((Same.but s4 q).trans but_upd)
      have nlH : H l = none := by
        have h1 : ∀ b, b ≠ q → H b ≠ none → G1 b ≠ none := fun b nb hb => by
          cases e : H b with
          | none => exact absurd e hb
          | some o => rw [b1 _ _ nb (sm _ _ e)]; exact fun z => nomatch z
        cases e : H l with
        | none => rfl
        | some o => exact absurd nl (h1 l nlq (by rw [e]; exact fun z => nomatch z))
      refine k l m rep _ bq nlH ⟨dx, v, upd_same, ?_, ?_⟩ Fr Rp
      · rw [upd_ne nlq]; exact s4 _ _ el3
      · match rep, Rv with
        | none, h => exact h
        | some (s, t), ⟨a, e1, e2⟩ =>
          refine ⟨a, e1, ?_⟩
          rcases e2 with (h | ⟨o, h⟩) | h
          · exact .inl (.inl (by rw [upd_ne (fun z => by rw [z, s4 _ _ q3] at h; cases h)]; exact h))
          · exact .inl (.inr ⟨o, by rw [upd_ne (fun z => by rw [z, s4 _ _ q3] at h; cases h)]; exact h⟩)
          · exact .inr h
end
section
variable {P : Program} {w : World} {K : PySem.W.Frag} {mg : Str → Option Value} {base : Heap}
theorem ok_wave {f C D W gL g1 gW : Addr} {fd d1 dW : FuncData} (F : Fun K "wave" "EndlessRow.wave" s_EndlessRow_wave f fd) (B : Blt mg) (cE : ClsE K D) (mW : mg "Wave" = some (.ref W)) (SL : Sign K C "__len__" gL) (GL : FnR P w K mg base CX0 1 gL (spLen K C))
    (N1 : At P w K mg base CX0 2 "check_stone" ["stone", "count"] spCheckStone g1 d1) (MW : Mk K W gW) (FW : FnOk P w K mg base CX0 6 gW dW ["self", "row", "period", "stone"] (spWInit K C W)) (bW : Binds K dW ["self", "row", "period", "stone"] []) :
    FnOk P w K mg base CX0 8 f fd ["self", "stone"] (spWave K C D W) := by
  refine F.ok sc_EndlessRow_wave (fun vs H Q E h => ?_) (fun cdv A outer s H vs Q E hr h => ?_)
  · obtain ⟨q, x, xs, per, i, rfl, _⟩ := h
    rfl
  · obtain ⟨q, x, xs, per, i, rfl, ⟨dx, eq⟩, hR, hw, hz, hi, h0, h1, k⟩ := h
    have r2 : Room 2 _ := hr.mono (by decide)
    obtain ⟨dr, t, us, ep, hT, hS⟩ := id hR
    refine ⟨_, pss_cons (ps_expr (pe_at N1 r2 (pa_cons (pv 1) (pa_cons (pe_callB (Own.call_len SL.at_ SL.fn GL r2 pass0) (by rfl) B.len PySem.boot_len (pa_cons (pe_fld (pv 0) rfl) pa_nil)) pa_nil))))
      (pss_one (ps_ret (pe_make MW FW hr (by rfl) mW bW .nil pass0 (pa_cons (pe_fld (pv 0) rfl) (pa_cons (pe_fld (pv 0) rfl) (pa_cons (pv 1) pa_nil)))))), ?_⟩
    refine ⟨_, rfl, _, rfl, q, D, dx, _, _, rfl, eq, cE.cl, cE.n1, rfl, x, dr, _, rfl, ep, x, xs, rfl, hR, _, rfl, by omega, by omega, i, xs.length, rfl, hi, ?_⟩
    refine ⟨_, rfl, q, D, dx, _, _, rfl, eq, cE.cl, cE.n1, rfl, _, rfl, q, D, dx, _, _, rfl, eq, cE.cl, cE.n2, rfl, _, rfl, fun z dz nz ndz ne => ?_⟩
    have s1 := same_new (o := .own z) ndz
    have n2 : (upd H dz (.own z)) z = none := by rw [upd_ne (fun e => ne e.symm)]; exact nz
    have s2 := s1.trans (same_new (o := .ins W dz []) n2)
    refine ⟨z, dz, x, xs, per, i, rfl, upd_same, hR.same s2, hw, hz, hi, h0, h1, fun l m rep H' b nl wa Fr Rp => ⟨rfl, ?_⟩⟩
    exact k z l m rep H' (fun c o e => b c o (ne_of_none e nz) (s2 c o e)) (Same.free s2 nl) wa Fr Rp
theorem ok_isEnd {f W : Addr} {fd : FuncData} (F : Fun K "is_endless" "Wave.is_endless" s_Wave_is_endless f fd) (cW : ClsW K W) : FnOk P w K mg base CX0 1 f fd ["self"] (spIsEnd K W) := by
  refine F.ok sc_Wave_is_endless (fun vs H Q E h => ?_) (fun cdv A outer s H vs Q E hr h => ?_)
  · obtain ⟨q, l, n, f, m, rep, rest, rfl, _, _, rfl, _⟩ := h
    rfl
  · obtain ⟨q, l, n, f, m, rep, rest, rfl, ⟨dx, v, eq, el, Rv⟩, p, rfl, k⟩ := h
    refine ⟨_, pss_one (ps_ret (pe_cmpR (op_notN) (pe_fld (pv 0) rfl) (pe_non) (nomark _))), ?_⟩
    refine ⟨_, rfl, q, W, dx, _, v, rfl, eq, cW.cl, cW.n3, rfl, rfl, ?_⟩
    match rep, Rv, k with
    | none, Rv, k => obtain rfl : v = .non := Rv; exact k
    | some (s, t), ⟨a, e, _⟩, k => subst e; exact k
theorem ok_last {f W : Addr} {fd : FuncData} (F : Fun K "last_fallen" "Wave.last_fallen" s_Wave_last_fallen f fd) (cW : ClsW K W) (zV : mg "divmod" = none) : FnOk P w K mg base CX0 1 f fd ["self"] (spLast K W) := by
  refine F.ok sc_Wave_last_fallen (fun vs H Q E h => ?_) (fun cdv A outer s H vs Q E hr h => ?_)
  · obtain ⟨q, l, n, f, m, rep, rest, rfl, _, _, rfl, _⟩ := h
    rfl
  · obtain ⟨q, l, n, f, m, rep, rest, rfl, ⟨dx, v, eq, el, Rv⟩, p, rfl, k⟩ := h
    have n0 := p.n0
    have n40 := p.n40
    refine ⟨_, pss_cons (ps_if (pt_cmpR (op_notN) (pe_fld (pv 0) rfl) (pe_non) (nomark _)) (pss_one (ps_ret pe_non)) pss_nil)
      (pss_one (ps_ret (pe_callB call_divmod (by rfl) zV PyProof.Rows.boot_divmod (pa_cons (pe_ix ix_list (pe_fld (pv 0) rfl) (pe_un un_neg pe_int) (fun _ _ => rfl)) (pa_cons (pe_fld (pv 0) rfl) pa_nil))))), ?_⟩
    refine ⟨_, rfl, q, W, dx, _, v, rfl, eq, cW.cl, cW.n3, rfl, rfl, _, rfl, ?_⟩
    match rep, Rv, k with
    | some (s, t), ⟨a, e, _⟩, k => subst e; exact iteT (k .non H (Same.refl _) rfl)
    | none, Rv, k =>
      obtain rfl : v = .non := Rv
      refine iteF ?_
      have la : atI (ivs (frL f m)) (-1) = some (.int ((f m : Nat) : Int)) := by
        refine at_lastV ?_ (by rw [ivs_len, frL_len]; omega)
        rw [ivs_len, frL_len]
        show (ivs (frL f m))[m]? = _
        unfold ivs
        rw [List.getElem?_map, frL_at (Nat.le_refl _)]
        rfl
      refine ⟨_, rfl, q, W, dx, _, _, rfl, eq, cW.cl, cW.n2, rfl, 1, rfl, l, _, (-1), _, rfl, rfl, SqL.of el, la, _, rfl, q, W, dx, _, _, rfl, eq, cW.cl, cW.n1, rfl, _, _, rfl, ⟨by omega, by omega⟩, fun T nT => ?_⟩
      exact k _ _ (same_new nT) ⟨T, rfl, SqT.of (by rw [upd_same]; rfl)⟩
theorem ok_frontA {f W : Addr} {fd : FuncData} (F : Fun K "_front_after" "Wave._front_after" s_Wave_front_after f fd) (B : Blt mg) (cW : ClsW K W) (zV : mg "divmod" = none) : FnOk P w K mg base CX0 1 f fd ["self", "tick"] (spFrontA K W) := by
  refine F.ok sc_Wave_front_after (fun vs H Q E h => ?_) (fun cdv A outer s H vs Q E hr h => ?_)
  · obtain ⟨q, l, n, f, m, rep, rest, rfl, _, _, c, rfl, _⟩ := h
    rfl
  · obtain ⟨q, l, n, f, m, rep, rest, rfl, ⟨dx, v, eq, el, Rv⟩, p, c, rfl, k⟩ := h
    refine ⟨_, pss_cons (ps_if (pt_cmpR (op_lt) (pv 1) (pe_callB call_len_seq (by rfl) B.len PySem.boot_len (pa_cons (pe_fld (pv 0) rfl) pa_nil)) (nomark _)) (pss_one (ps_ret (pe_ix ix_list (pe_fld (pv 0) rfl) (pv 1) (fun _ _ => rfl)))) pss_nil)
      (pss_cons (ps_if (pt_cmpR (op_isN) (pe_fld (pv 0) rfl) (pe_non) (nomark _)) (pss_one (ps_ret (pe_ix ix_list (pe_fld (pv 0) rfl) (pe_un un_neg pe_int) (fun _ _ => rfl)))) pss_nil)
      (pss_cons (ps_asg (pe_fld (pv 0) rfl) (pg_tup rfl (pgs_cons (pg_name (i := 2) sc_Wave_front_after.nd rfl (Or.inl rfl)) (pgs_cons (pg_name (i := 3) sc_Wave_front_after.nd rfl (Or.inl rfl)) (pgs_cons (pg_name (i := 4) sc_Wave_front_after.nd rfl (Or.inl rfl)) pgs_nil)))))
      (pss_cons (ps_asg (pe_callB call_divmod (by rfl) zV PyProof.Rows.boot_divmod (pa_cons (pe_op op_sub (pv 1) (pv 2)) (pa_cons (pv 3) pa_nil))) (pg_tup rfl (pgs_cons (pg_name (i := 5) sc_Wave_front_after.nd rfl (Or.inl rfl)) (pgs_cons (pg_name (i := 6) sc_Wave_front_after.nd rfl (Or.inl rfl)) pgs_nil))))
      (pss_one (ps_ret (pe_op op_add (pe_ix ix_list (pe_fld (pv 0) rfl) (pe_op op_add (pv 2) (pv 6)) (fun _ _ => rfl)) (pe_op op_mul (pv 5) (pv 4)))))))), ?_⟩
    have ll : (ivs (frL f m)).length = m + 1 := by rw [ivs_len, frL_len]
    refine ⟨_, rfl, _, rfl, q, W, dx, _, _, rfl, eq, cW.cl, cW.n2, rfl, l, _, rfl, .inl (SqL.of el), _, _, rfl, rfl, _, rfl, ?_⟩
    rw [ll]
    by_cases c1 : c ≤ m
    · rw [decide_eq_true (show (c : Int) < ((m + 1 : Nat) : Int) by omega)]
      refine iteT ⟨_, rfl, q, W, dx, _, _, rfl, eq, cW.cl, cW.n2, rfl, _, rfl, l, _, ((c : Nat) : Int), _, rfl, rfl, SqL.of el, ivs_at (frL_at c1), ?_⟩
      have e : frontA f m rep c = f c := by unfold frontA; rw [if_pos c1]
      rw [← e]
      exact k H (Same.refl _)
    · rw [decide_eq_false (show ¬ (c : Int) < ((m + 1 : Nat) : Int) by omega)]
      refine iteF ?_
      refine ⟨_, rfl, q, W, dx, _, v, rfl, eq, cW.cl, cW.n3, rfl, rfl, _, rfl, ?_⟩
      match rep, Rv, k, p with
      | none, Rv, k, p =>
        obtain rfl : v = .non := Rv
        refine iteT ?_
        have la : atI (ivs (frL f m)) (-1) = some (.int ((f m : Nat) : Int)) := by
          refine at_lastV ?_ (by omega)
          rw [ll]
          show (ivs (frL f m))[m]? = _
          unfold ivs
          rw [List.getElem?_map, frL_at (Nat.le_refl _)]
          rfl
        refine ⟨_, rfl, q, W, dx, _, _, rfl, eq, cW.cl, cW.n2, rfl, 1, rfl, l, _, (-1), _, rfl, rfl, SqL.of el, la, ?_⟩
        have e : frontA f m none c = f m := by unfold frontA; rw [if_neg c1]
        rw [← e]
        exact k H (Same.refl _)
      | some (s, t), ⟨a, e, ea⟩, k, p =>
        subst e
        obtain ⟨p1, p2, _⟩ := p.rep
        have ple := p.le
        refine iteF ?_
        refine ⟨_, rfl, q, W, dx, _, _, rfl, eq, cW.cl, cW.n3, rfl, a, _, rfl, ea, rfl, _, _, rfl, _, _, rfl, _, _, rfl, rfl, ?_⟩
        refine ⟨_, rfl, _, rfl, _, _, rfl, rfl, _, rfl, _, _, rfl, ⟨by omega, by omega⟩, fun T nT => ⟨T, _, rfl, SqT.of upd_same, rfl, _, _, rfl, _, _, rfl, rfl, ?_⟩⟩
        have ec : (c : Int) - (s : Int) = ((c - s : Nat) : Int) := by omega
        have sT := same_new (o := .tup [V.int (((c : Int) - (s : Int)) / ((t - s : Nat) : Int)), V.int (((c : Int) - (s : Int)) % ((t - s : Nat) : Int))]) nT
        have md : (c - s) % (t - s) < t - s := Nat.mod_lt _ (by omega)
        have eq2 := sT _ _ eq
        have el2 := sT _ _ el
        generalize upd H T _ = H2 at sT eq2 el2 ⊢
        rw [ec]
        refine ⟨_, rfl, q, W, dx, _, _, rfl, eq2, cW.cl, cW.n2, rfl, _, rfl, _, rfl, _, _, rfl, rfl, l, _, ((s + (c - s) % (t - s) : Nat) : Int), _, rfl, rfl, SqL.of el2, ivs_at (frL_at (by omega)), ?_⟩
        refine ⟨_, rfl, _, rfl, _, _, rfl, rfl, .inr ⟨by omega, by have := p.small t p2; omega⟩, _, _, rfl, rfl, ?_⟩
        have e : frontA f m (some (s, t)) c = f (s + (c - s) % (t - s)) + (c - s) / (t - s) * (f t - f s) := by unfold frontA; rw [if_neg c1]
        have fin := k H2 sT
        rw [e] at fin
        exact fin
theorem ok_countA {f W g n4 : Addr} {fd gd d4 : FuncData} (F : Fun K "count_after" "Wave.count_after" s_Wave_count_after f fd) (cW : ClsW K W) (mG : ∃ v, mg "GREATEST_TICK" = some v ∧ L2.RelV (.int 1000000000000000000) v) (N4 : At P w K mg base CX0 2 "check_number" ["value", "least", "greatest"] spCheckNum n4 d4)
    (Hm : Meth K W "_front_after" g) (G : FnOk P w K mg base CX0 1 g gd ["self", "tick"] (spFrontA K W)) (bG : Binds K gd ["self", "tick"] []) : FnOk P w K mg base CX0 3 f fd ["self", "tick"] (spCountA K W) := by
  obtain ⟨vG, mG, rG⟩ := mG
  refine F.ok sc_Wave_count_after (fun vs H Q E h => ?_) (fun cdv A outer s H vs Q E hr h => ?_)
  · obtain ⟨q, l, n, f, m, rep, rest, rfl, _, _, c, rfl, _⟩ := h
    rfl
  · obtain ⟨q, l, n, f, m, rep, rest, rfl, hW, p, c, rfl, hc, k⟩ := h
    have r1 : Room 1 _ := hr.mono (by decide)
    obtain ⟨dx, v, eq, el, Rv⟩ := id hW
    refine ⟨_, pss_cons (ps_expr (pe_at N4 hr (pa_cons (pv 1) (pa_cons (pe_int) (pa_cons (pe_glob (v := .int 1000000000000000000) (by rfl) mG rG) pa_nil)))))
      (pss_one (ps_ret (pe_op op_add (pe_op op_sub (pe_meth (pv 0) cW.cl Hm G r1 bG .nil pass0 (pa_cons (pv 1) pa_nil)) (pe_ix ix_list (pe_fld (pv 0) rfl) (pe_int) (fun _ _ => rfl))) (pe_int)))), ?_⟩
    refine ⟨_, rfl, (c : Int), 0, _, rfl, by omega, by omega, ?_⟩
    refine ⟨_, rfl, q, dx, _, rfl, eq, rfl, _, rfl, q, l, n, f, m, rep, _, rfl, hW, p, c, rfl, fun H2 s2 => ?_⟩
    refine ⟨_, rfl, q, W, dx, _, _, rfl, s2 _ _ eq, cW.cl, cW.n2, rfl, l, _, ((0 : Nat) : Int), _, rfl, rfl, SqL.of (s2 _ _ el), ivs_at (frL_at (Nat.zero_le _)), _, _, rfl, rfl, _, _, rfl, rfl, ?_⟩
    exact k H2 s2
theorem ok_firstT {f W : Addr} {fd : FuncData} (F : Fun K "_first_tick" "Wave._first_tick" s_Wave_first_tick f fd) (B : Blt mg) (cW : ClsW K W) : FnOk P w K mg base CX0 1 f fd ["self", "ordinal"] (spFirstT K W) := by
  refine F.ok sc_Wave_first_tick (fun vs H Q E h => ?_) (fun cdv A outer s H vs Q E hr h => ?_)
  · obtain ⟨q, l, n, f, m, rep, rest, rfl, _, _, c, rfl, _⟩ := h
    rfl
  · obtain ⟨q, l, n, f, m, rep, rest, rfl, ⟨dx, v, eq, el, Rv⟩, p, o, rfl, k⟩ := h
    refine ⟨_, pss_cons (ps_for PassesOwn.never rfl (pi_enum (by rfl) B.enumerate (pa_cons (pe_fld (pv 0) rfl) pa_nil)) (pg_tup rfl (pgs_cons (pg_name (i := 2) sc_Wave_first_tick.nd rfl (Or.inl rfl)) (pgs_cons (pg_name (i := 3) sc_Wave_first_tick.nd rfl (Or.inl rfl)) pgs_nil)))
        (pss_one (ps_if (pt_cmpR (op_ge) (pv 3) (pv 1) (nomark _)) (pss_one (ps_ret (pv 2))) pss_nil)))
      (pss_one (ps_ret pe_non)), ?_⟩
    have ll : (ivs (frL f m)).length = m + 1 := by rw [ivs_len, frL_len]
    refine ⟨_, rfl, q, W, dx, _, _, rfl, eq, cW.cl, cW.n2, rfl, l, ivs (frL f m), rfl, SqL.of el, for_it (walk_enum (K := K) (a := l) (xs := ivs (frL f m))) (fun i σ G => ∃ (s2 s3 : Option V), σ = [some (.ref q), some (.int (o : Nat)), s2, s3] ∧ Same H G ∧ ∀ j, j < i → f j < o) ?_ ?_ ?_ ?_⟩
    · exact ⟨_, _, rfl, Same.refl _, fun j hj => absurd hj (Nat.not_lt_zero _)⟩
    · rintro i σ G _ ⟨_, _, _, sm, _⟩
      exact sm.seq (SqL.of el)
    · rintro i x σ G G2 hi ⟨s2, s3, rfl, sm, lo⟩ ⟨T, y, z, rfl, nT, rfl, e1, e2⟩
      obtain rfl : y = V.int (i : Int) := (Option.some.inj e1).symm
      rw [ll] at hi
      have ez : (ivs (frL f m))[i]? = some (V.int ((f i : Nat) : Int)) := by unfold ivs; rw [List.getElem?_map, frL_at (by omega)]; rfl
      obtain rfl : z = V.int ((f i : Nat) : Int) := Option.some.inj (e2.symm.trans ez)
      have sT := sm.trans (same_new (o := .tup [V.int (i : Int), V.int ((f i : Nat) : Int)]) nT)
      refine ⟨T, _, rfl, SqT.of upd_same, rfl, _, _, rfl, _, _, rfl, rfl, ?_⟩
      refine ⟨_, rfl, _, rfl, _, _, rfl, rfl, _, rfl, ?_⟩
      by_cases c : o ≤ f i
      · rw [decide_eq_true (show ((f i : Nat) : Int) ≥ (o : Int) by omega)]
        exact iteT ⟨_, rfl, k (some i) _ sT ⟨by omega, c, lo⟩⟩
      · rw [decide_eq_false (show ¬ ((f i : Nat) : Int) ≥ (o : Int) by omega)]
        refine iteF ⟨_, _, rfl, sT, fun j hj => ?_⟩
        rcases Nat.lt_or_ge j i with h | h
        · exact lo j h
        · obtain rfl : j = i := by omega
          omega
    · rintro σ G ⟨s2, s3, rfl, sm, lo⟩
      exact k none G sm fun j hj => lo j (by rw [ll]; omega)
theorem ok_tickOf {f W g n2 n4 : Addr} {fd gd d2 d4 : FuncData} (F : Fun K "tick_of" "Wave.tick_of" s_Wave_tick_of f fd) (B : Blt mg) (cW : ClsW K W) (mG : ∃ v, mg "GREATEST_ROUND" = some v ∧ L2.RelV (.int 1000000000000000000) v) (N4 : At P w K mg base CX0 2 "check_number" ["value", "least", "greatest"] spCheckNum n4 d4)
    (N2 : At P w K mg base CX0 2 "check_stone" ["stone", "count"] spCheckStone n2 d2) (Hm : Meth K W "_first_tick" g) (G : FnOk P w K mg base CX0 1 g gd ["self", "ordinal"] (spFirstT K W)) (bG : Binds K gd ["self", "ordinal"] []) : FnOk P w K mg base CX0 3 f fd ["self", "number", "stone"] (spTickOf K W) := by
  obtain ⟨vG, mG, rG⟩ := mG
  refine F.ok sc_Wave_tick_of (fun vs H Q E h => ?_) (fun cdv A outer s H vs Q E hr h => ?_)
  · obtain ⟨q, l, n, f, m, rep, rest, rfl, _, _, c, i, rfl, _⟩ := h
    rfl
  · obtain ⟨q, l, n, f, m, rep, rest, rfl, hW, p, c, i, rfl, hc, hi, k⟩ := h
    have r1 : Room 1 _ := hr.mono (by decide)
    obtain ⟨dx, v, eq, el, Rv⟩ := id hW
    have n40 := p.n40
    refine ⟨_, pss_cons (ps_expr (pe_at N4 hr (pa_cons (pv 1) (pa_cons (pe_int) (pa_cons (pe_glob (v := .int 1000000000000000000) (by rfl) mG rG) pa_nil)))))
      (pss_cons (ps_expr (pe_at N2 hr (pa_cons (pv 2) (pa_cons (pe_fld (pv 0) rfl) pa_nil))))
      (pss_cons (ps_set (i := 3) sc_Wave_tick_of.nd rfl (Or.inl rfl) (pe_op op_add (pe_op op_mul (pv 1) (pe_fld (pv 0) rfl)) (pv 2)))
      (pss_cons (ps_if (pt_cmpR (op_lt) (pv 3) (pe_ix ix_list (pe_fld (pv 0) rfl) (pe_int) (fun _ _ => rfl)) (nomark _)) (pss_one (ps_ret pe_non)) pss_nil)
      (pss_cons (ps_if (pt_cmpR (op_isN) (pe_fld (pv 0) rfl) (pe_non) (nomark _)) (pss_one (ps_ret (pe_meth (pv 0) cW.cl Hm G r1 bG .nil pass0 (pa_cons (pv 3) pa_nil)))) pss_nil)
      (pss_cons (ps_asg (pe_fld (pv 0) rfl) (pg_tup rfl (pgs_cons (pg_name (i := 4) sc_Wave_tick_of.nd rfl (Or.inl rfl)) (pgs_cons (pg_name (i := 5) sc_Wave_tick_of.nd rfl (Or.inl rfl)) (pgs_cons (pg_name (i := 6) sc_Wave_tick_of.nd rfl (Or.inl rfl)) pgs_nil)))))
      (pss_cons (ps_set (i := 7) sc_Wave_tick_of.nd rfl (Or.inl rfl) (pe_callB ((call_max2 rfl)) (by rfl) B.max boot_max (pa_cons (pe_int) (pa_cons (pe_op op_fdiv (pe_op op_sub (pv 3) (pe_ix ix_list (pe_fld (pv 0) rfl) (pv 4) (fun _ _ => rfl))) (pv 6)) pa_nil))))
      (pss_one (ps_ret (pe_op op_add (pe_meth (pv 0) cW.cl Hm G r1 bG .nil pass0 (pa_cons (pe_op op_sub (pv 3) (pe_op op_mul (pv 7) (pv 6))) pa_nil)) (pe_op op_mul (pv 7) (pv 5))))))))))), ?_⟩
    refine ⟨_, rfl, (c : Int), 0, _, rfl, by omega, by omega, ?_⟩
    refine ⟨_, rfl, _, rfl, q, W, dx, _, _, rfl, eq, cW.cl, cW.n1, rfl, i, n, rfl, hi, ?_⟩
    refine ⟨_, rfl, _, rfl, q, W, dx, _, _, rfl, eq, cW.cl, cW.n1, rfl, _, _, rfl, rfl, .inr ⟨by omega, by omega⟩, _, rfl, _, _, rfl, rfl, ?_⟩
    refine nm_of ?_
    have eo : (c : Int) * (n : Int) + (i : Int) = ((c * n + i : Nat) : Int) := by rw [Int.natCast_add, Int.natCast_mul]
    show tSeq _ _ _ [some (V.ref q), some (V.int (c : Int)), some (V.int (i : Int)), some (V.int ((c : Int) * (n : Int) + (i : Int))), none, none, none, none] H
    rw [eo]
    generalize c * n + i = o at k ⊢
    refine ⟨_, rfl, _, rfl, q, W, dx, _, _, rfl, eq, cW.cl, cW.n2, rfl, l, _, ((0 : Nat) : Int), _, rfl, rfl, SqL.of el, ivs_at (frL_at (Nat.zero_le _)), _, _, rfl, rfl, _, rfl, ?_⟩
    by_cases c0 : o < f 0
    · rw [decide_eq_true (show (o : Int) < ((f 0 : Nat) : Int) by omega)]
      exact iteT (k none H (Same.refl _) (by unfold TickS; rw [if_pos c0]))
    · rw [decide_eq_false (show ¬ (o : Int) < ((f 0 : Nat) : Int) by omega)]
      refine iteF ?_
      refine ⟨_, rfl, q, W, dx, _, v, rfl, eq, cW.cl, cW.n3, rfl, rfl, _, rfl, ?_⟩
      match rep, Rv, k, p, hW with
      | none, Rv, k, p, hW =>
        obtain rfl : v = .non := Rv
        refine iteT ?_
        refine ⟨_, rfl, q, dx, _, rfl, eq, rfl, _, rfl, q, l, n, f, m, none, _, rfl, hW, p, o, rfl, fun r H2 s2 Fr => ?_⟩
        exact k r H2 s2 (by unfold TickS; rw [if_neg c0]; exact Fr)
      | some (s, t), ⟨a, e, ea⟩, k, p, hW =>
        subst e
        obtain ⟨p1, p2, _⟩ := p.rep
        have ple := p.le
        have st := up_lt p.up p1 p2
        have sm := p.small t p2
        refine iteF ?_
        refine ⟨_, rfl, q, W, dx, _, _, rfl, eq, cW.cl, cW.n3, rfl, a, _, rfl, ea, rfl, _, _, rfl, _, _, rfl, _, _, rfl, rfl, ?_⟩
        refine ⟨_, rfl, _, rfl, q, W, dx, _, _, rfl, eq, cW.cl, cW.n2, rfl, _, rfl, l, _, ((s : Nat) : Int), _, rfl, rfl, SqL.of el, ivs_at (frL_at (by omega)), _, _, rfl, rfl, _, rfl, _, _, rfl, rfl, ⟨by omega, by omega⟩, _, _, rfl, ?_⟩
        have dpos : 0 < f t - f s := by omega
        have ex : (if (0 : Int) < ((o : Int) - ((f s : Nat) : Int)) / ((f t - f s : Nat) : Int) then ((o : Int) - ((f s : Nat) : Int)) / ((f t - f s : Nat) : Int) else 0) = (((o - f s) / (f t - f s) : Nat) : Int) := by
          rcases Nat.lt_or_ge o (f s) with h | h
          · have e0 : o - f s = 0 := by omega
            have neg : ((o : Int) - ((f s : Nat) : Int)) / ((f t - f s : Nat) : Int) < 0 := Int.ediv_neg_of_neg_of_pos (by omega) (by omega)
            rw [if_neg (by omega), e0, Nat.zero_div]
            rfl
          · have e0 : (o : Int) - ((f s : Nat) : Int) = ((o - f s : Nat) : Int) := by omega
            rw [e0, ← Int.natCast_ediv]
            generalize (o - f s) / (f t - f s) = T'
            split <;> omega
        rw [ex]
        refine nm_of ?_
        generalize hT : (o - f s) / (f t - f s) = T at k ⊢
        have dm := Nat.div_add_mod (o - f s) (f t - f s)
        have ml := Nat.mod_lt (o - f s) dpos
        rw [hT, Nat.mul_comm] at dm
        have ole : o - T * (f t - f s) ≤ f t := by omega
        have oge : T * (f t - f s) ≤ o := by omega
        have eo : (o : Int) - (T : Int) * ((f t - f s : Nat) : Int) = ((o - T * (f t - f s) : Nat) : Int) := by
          rw [← Int.natCast_mul]
          omega
        refine ⟨_, rfl, q, dx, _, rfl, eq, rfl, _, rfl, _, rfl, _, rfl, _, _, rfl, rfl, .inr ⟨by omega, by omega⟩, _, _, rfl, rfl, q, l, n, f, m, some (s, t), _, rfl, hW, p, o - T * (f t - f s), congrArg (fun z => [V.int z]) eo, fun r H2 s2 Fr => ?_⟩
        match r, Fr with
        | none, Fr =>
          have := Fr t p2
          omega
        | some kk, Fr =>
          refine ⟨_, rfl, _, rfl, _, _, rfl, rfl, .inr ⟨by omega, by omega⟩, _, _, rfl, rfl, ?_⟩
          exact k (some (kk + T * (t - s))) H2 s2 (by
            unfold TickS
            rw [if_neg c0]
            exact ⟨kk, by rw [hT]; exact Fr, by rw [hT]⟩)
end
/-! ### _law_alike, of equal data -/
def ixLT (K : PySem.W.Frag) : R2 := fun x y H Q => rIxL K x y H Q ∨ rIxT K x y H Q
/-- data of ints in lists and tuples, n deep -/
def LeafD (d : PyData) : Prop := (∃ i, d = .int i) ∨ (∃ b, d = .bool b) ∨ d = .none
def Alk : Nat → PyData → Prop
  | 0, d => LeafD d
  | n + 1, d => LeafD d ∨ ∃ ds, (d = .list ds ∨ d = .tuple ds) ∧ ds.length ≤ 1000 ∧ ∀ e ∈ ds, Alk n e
theorem leaf_ty {K : PySem.W.Frag} {d : PyData} (h : LeafD d) : ∃ (t : String) (bb : Bool), PySem.W.kitOne K (.type t) (.type "tuple") = some false ∧ PySem.W.kitOne K (.type t) (.type "list") = some false ∧ PySem.W.kitOne K (.type t) (.type "bool") = some bb ∧
    SeqAt.shaped d = true ∧ PyData.eqv d d = true ∧ ∀ H v, Dp K H v d → ∀ H', TyX K H' v (.type t) ∧ Dp K H' v d := by
  rcases h with ⟨i, rfl⟩ | ⟨r, rfl⟩ | rfl
  · refine ⟨"int", false, kit_ty (by decide +kernel), kit_ty (by decide +kernel), kit_ty (by decide +kernel), rfl, by simp [PyData.eqv], fun H v h H' => ?_⟩
    cases h
    exact ⟨.base (.int i), .int i⟩
  · refine ⟨"bool", true, kit_ty (by decide +kernel), kit_ty (by decide +kernel), kit_ty (by decide +kernel), rfl, by cases r <;> rfl, fun H v h H' => ?_⟩
    cases h
    exact ⟨.base (.bl _), .bl _⟩
  · refine ⟨"NoneType", false, kit_ty (by decide +kernel), kit_ty (by decide +kernel), kit_ty (by decide +kernel), rfl, by simp [PyData.eqv], fun H v h H' => ?_⟩
    cases h
    exact ⟨.base .non, .non⟩
theorem any_tl {K : PySem.W.Frag} {t : String} {b c : Bool} (h1 : PySem.W.kitOne K (.type t) (.type "tuple") = some b) (h2 : PySem.W.kitOne K (.type t) (.type "list") = some c) : PySem.W.kitAny K (.type t) [.type "tuple", .type "list"] = some (b || c) := by
  unfold PySem.W.kitAny
  rw [h1]
  cases b with
  | true => rfl
  | false =>
    show PySem.W.kitAny K (.type t) [.type "list"] = some c
    unfold PySem.W.kitAny
    rw [h2]
    cases c <;> rfl
theorem cls_tl : Paired ClsV [V.ty "tuple", V.ty "list"] [Value.type "tuple", Value.type "list"] := .cons (.ty _) (.cons (.ty _) .nil)
theorem DpAll.get {K : PySem.W.Frag} {H : Hp} : ∀ {vs : List V} {ds : List PyData} {k : Nat} {d : PyData}, DpAll K H vs ds → ds[k]? = some d → ∃ v, vs[k]? = some v ∧ Dp K H v d
  | _, _, _, _, .nil, e => by simp at e
  | _, _, 0, _, .cons h _, e => by simp at e; subst e; exact ⟨_, rfl, h⟩
  | _, _, k + 1, _, .cons _ t, e => by
    obtain ⟨v, a, b⟩ := DpAll.get (k := k) t (by simpa using e)
    exact ⟨v, by simpa using a, b⟩
theorem DpAll.len {K : PySem.W.Frag} {H : Hp} : ∀ {vs : List V} {ds : List PyData}, DpAll K H vs ds → vs.length = ds.length
  | _, _, .nil => rfl
  | _, _, .cons _ t => congrArg (· + 1) (DpAll.len t)
mutual
theorem Dp.same {K : PySem.W.Frag} {H H' : Hp} (e : Same H H') : ∀ {v : V} {d : PyData}, Dp K H v d → Dp K H' v d
  | _, _, .non => .non
  | _, _, .bl b => .bl b
  | _, _, .int i => .int i
  | _, _, .str x => .str x
  | _, _, .lst h a => .lst (e.seq h) (DpAll.same e a)
  | _, _, .tup h a => .tup (sqT_same h e) (DpAll.same e a)
theorem DpAll.same {K : PySem.W.Frag} {H H' : Hp} (e : Same H H') : ∀ {vs : List V} {ds : List PyData}, DpAll K H vs ds → DpAll K H' vs ds
  | _, _, .nil => .nil
  | _, _, .cons h t => .cons (Dp.same e h) (DpAll.same e t)
end
def spAlike (K : PySem.W.Frag) (n : Nat) : Sp := fun vs H Q _ => ∃ v u d, vs = [v, u] ∧ Dp K H v d ∧ Dp K H u d ∧ Alk n d ∧ ∀ H', Same H H' → Q (.bl true) H'
/-- a list or a tuple: what isinstance says of it, and what it holds -/
theorem alk_seq {K : PySem.W.Frag} {d : PyData} {ds : List PyData} (hd : d = .list ds ∨ d = .tuple ds) : ∃ (T : String) (tup : Bool), PySem.W.kitAny K (.type T) [.type "tuple", .type "list"] = some true ∧ PySem.W.kitOne K (.type T) (.type "tuple") = some tup ∧
    ∀ {H : Hp} {v : V}, Dp K H v d → ∃ a xs, v = .ref a ∧ DpAll K H xs ds ∧ ∀ H', Same H H' → (SqL K H' a xs ∨ SqT K H' a xs) ∧ TyX K H' (.ref a) (.type T) := by
  rcases hd with rfl | rfl
  · refine ⟨"list", false, any_tl (b := false) (c := true) (kit_ty (by decide +kernel)) (kit_ty (by decide +kernel)), kit_ty (by decide +kernel), fun {H v} h => ?_⟩
    cases h with
    | lst h a => exact ⟨_, _, rfl, a, fun H' e => ⟨.inl (e.seq h), tyL (e.seq h)⟩⟩
  · refine ⟨"tuple", true, any_tl (b := true) (c := false) (kit_ty (by decide +kernel)) (kit_ty (by decide +kernel)), kit_ty (by decide +kernel), fun {H v} h => ?_⟩
    cases h with
    | tup h a => exact ⟨_, _, rfl, a, fun H' e => ⟨.inr (sqT_same h e), tyT (sqT_same h e)⟩⟩
theorem ix_lt {K : PySem.W.Frag} {H : Hp} {a : Addr} {xs : List V} {i : Nat} {v : V} {Q : VK} (h : SqL K H a xs ∨ SqT K H a xs) (e : xs[i]? = some v) (q : Q v H) : ixLT K (.ref a) (.int (i : Int)) H Q := by
  rcases h with h | h
  · exact .inl ⟨a, xs, _, v, rfl, rfl, h, atI_nat e, q⟩
  · exact .inr ⟨a, xs, _, v, rfl, rfl, h, atI_nat e, q⟩
section
variable {P : Program} {w : World} {K : PySem.W.Frag} {mg : Str → Option Value} {base : Heap}
theorem ok_alike0 {f : Addr} {fd : FuncData} (F : Fun K "_law_alike" "_law_alike" s_law_alike f fd) (B : Blt mg) : FnOk P w K mg base CX0 1 f fd ["_law_one", "_law_due"] (spAlike K 0) := by
  refine F.ok sc_law_alike (fun vs H Q E h => ?_) (fun cdv A outer s H vs Q E hr h => ?_)
  · obtain ⟨v, u, d, rfl, _⟩ := h
    rfl
  · obtain ⟨v, u, d, rfl, hv, hu', lf, k⟩ := h
    have hu := hr.units
    refine ⟨_, pss_cons (ps_if (PW.pt (pw_and (pt_val (pe_callB (call_isiT) (by rfl) B.isinstance boot_isinstance (pa_cons (pv 0) (pa_cons (pe_tup (pa_cons (pe_bltn (v := .ty "tuple") (by rfl) B.tuple boot_tuple rfl) (pa_cons (pe_bltn (v := .ty "list") (by rfl) B.list boot_list rfl) pa_nil))) pa_nil)))) (pw_and1 (pt_val (pe_callB (call_isiT) (by rfl) B.isinstance boot_isinstance (pa_cons (pv 1) (pa_cons (pe_tup (pa_cons (pe_bltn (v := .ty "tuple") (by rfl) B.tuple boot_tuple rfl) (pa_cons (pe_bltn (v := .ty "list") (by rfl) B.list boot_list rfl) pa_nil))) pa_nil))))))) pss_never pss_nil)
      (pss_one (ps_ret (pe_and (pe_cmpR (op_eqD hu) (pv 0) (pv 1) (nomark _)) (pe_one (pe_cmpR (op_eq) (pe_callB (call_isi) (by rfl) B.isinstance boot_isinstance (pa_cons (pv 0) (pa_cons (pe_bltn (v := .ty "bool") (by rfl) B.bool boot_bool rfl) pa_nil))) (pe_callB (call_isi) (by rfl) B.isinstance boot_isinstance (pa_cons (pv 1) (pa_cons (pe_bltn (v := .ty "bool") (by rfl) B.bool boot_bool rfl) pa_nil))) (nomark _)))))), ?_⟩
    obtain ⟨ty, bb, kt, kl, kb, shp, eqv, dty⟩ := leaf_ty (K := K) lf
    refine ⟨_, rfl, by show 2 ≤ sizeLine; decide, fun t nt => ⟨_, t, _, _, _, _, rfl, upd_same, cls_tl, (dty _ _ hv _).1, any_tl (b := false) (c := false) kt kl, _, rfl, ?_⟩⟩
    have s1 := same_new (o := .tup [V.ty "tuple", V.ty "list"]) nt
    refine iteF ?_
    refine ⟨_, rfl, _, rfl, d, d, (dty _ _ hv _).2, (dty _ _ hu' _).2, shp, shp, _, rfl, ?_⟩
    rw [eqv]
    refine iteT ⟨_, rfl, v, .ty "bool", _, _, bb, rfl, .ty "bool", (dty _ _ hv _).1, kb, _, rfl, u, .ty "bool", _, _, bb, rfl, .ty "bool", (dty _ _ hu' _).1, kb, ?_⟩
    refine ⟨rfl, ?_⟩
    show Q (V.bl (decide (V.bl bb = V.bl bb))) _
    rw [show decide (V.bl bb = V.bl bb) = true by simp]
    exact k _ s1
theorem ok_alikeS {n : Nat} {f : Addr} {fd : FuncData} (F : Fun K "_law_alike" "_law_alike" s_law_alike f fd) (B : Blt mg) (N : At P w K mg base CX0 (n + 1) "_law_alike" ["_law_one", "_law_due"] (spAlike K n) f fd) :
    FnOk P w K mg base CX0 (n + 2) f fd ["_law_one", "_law_due"] (spAlike K (n + 1)) := by
  refine F.ok sc_law_alike (fun vs H Q E h => ?_) (fun cdv A outer s H vs Q E hr h => ?_)
  · obtain ⟨v, u, d, rfl, _⟩ := h
    rfl
  · obtain ⟨v, u, d, rfl, hv, hu', al, k⟩ := h
    have hu := hr.units
    refine ⟨_, pss_cons (ps_if (PW.pt (pw_and (pt_val (pe_callB (call_isiT) (by rfl) B.isinstance boot_isinstance (pa_cons (pv 0) (pa_cons (pe_tup (pa_cons (pe_bltn (v := .ty "tuple") (by rfl) B.tuple boot_tuple rfl) (pa_cons (pe_bltn (v := .ty "list") (by rfl) B.list boot_list rfl) pa_nil))) pa_nil)))) (pw_and1 (pt_val (pe_callB (call_isiT) (by rfl) B.isinstance boot_isinstance (pa_cons (pv 1) (pa_cons (pe_tup (pa_cons (pe_bltn (v := .ty "tuple") (by rfl) B.tuple boot_tuple rfl) (pa_cons (pe_bltn (v := .ty "list") (by rfl) B.list boot_list rfl) pa_nil))) pa_nil)))))))
        (pss_cons (ps_if (PW.pt (pw_or (pt_cmpR (op_ne) (pe_callB (call_isi) (by rfl) B.isinstance boot_isinstance (pa_cons (pv 0) (pa_cons (pe_bltn (v := .ty "tuple") (by rfl) B.tuple boot_tuple rfl) pa_nil))) (pe_callB (call_isi) (by rfl) B.isinstance boot_isinstance (pa_cons (pv 1) (pa_cons (pe_bltn (v := .ty "tuple") (by rfl) B.tuple boot_tuple rfl) pa_nil))) (nomark _)) (pw_or1 (pt_cmpR (op_ne) (pe_callB call_len_seq (by rfl) B.len PySem.boot_len (pa_cons (pv 0) pa_nil)) (pe_callB call_len_seq (by rfl) B.len PySem.boot_len (pa_cons (pv 1) pa_nil)) (nomark _))))) (pss_one (ps_ret pe_bl)) pss_nil)
        (pss_one (ps_ret (pe_cmpR (op_eqD hu) (pe_lc rfl sc_law_alike.nd (pi_range1 (by rfl) B.range (pa_cons (pe_callB call_len_seq (by rfl) B.len PySem.boot_len (pa_cons (pv 0) pa_nil)) pa_nil)) (blkOk_by (own := [("_law_k", 2)]) (N := n_law_alike) (sc := defScope s_law_alike) (by decide +kernel)) (fun _ _ _ _ _ => pg_name (i := 2) sc_law_alike.nd rfl (Or.inl rfl))
          (fun _ _ _ _ _ => pts_one (show PT _ _ (tNot (tB (tCall (spAlike K n) [] E0 (tCons (tOp (ixLT K) (tVar 0) (tVar 2)) (tCons (tOp (ixLT K) (tVar 1) (tVar 2)) tNil))))) from pt_not (pt_val (pe_at N hr (pa_cons (pe_ix (IxR.or ix_list ix_tup) (pv 0) (pv 2) (fun _ _ => rfl)) (pa_cons (pe_ix (IxR.or ix_list ix_tup) (pv 1) (pv 2) (fun _ _ => rfl)) pa_nil))))))
          (fun _ _ _ _ _ => pv 2)) (pe_lst pa_nil) (nomark _))))) pss_nil)
      (pss_one (ps_ret (pe_and (pe_cmpR (op_eqD hu) (pv 0) (pv 1) (nomark _)) (pe_one (pe_cmpR (op_eq) (pe_callB (call_isi) (by rfl) B.isinstance boot_isinstance (pa_cons (pv 0) (pa_cons (pe_bltn (v := .ty "bool") (by rfl) B.bool boot_bool rfl) pa_nil))) (pe_callB (call_isi) (by rfl) B.isinstance boot_isinstance (pa_cons (pv 1) (pa_cons (pe_bltn (v := .ty "bool") (by rfl) B.bool boot_bool rfl) pa_nil))) (nomark _)))))), ?_⟩
    rcases al with lf | ⟨ds, hd, hl, hall⟩
    · obtain ⟨ty, bb, kt, kl, kb, shp, eqv, dty⟩ := leaf_ty (K := K) lf
      refine ⟨_, rfl, by show 2 ≤ sizeLine; decide, fun t nt => ⟨_, t, _, _, _, _, rfl, upd_same, cls_tl, (dty _ _ hv _).1, any_tl (b := false) (c := false) kt kl, _, rfl, ?_⟩⟩
      have s1 := same_new (o := .tup [V.ty "tuple", V.ty "list"]) nt
      refine iteF ?_
      refine ⟨_, rfl, _, rfl, d, d, (dty _ _ hv _).2, (dty _ _ hu' _).2, shp, shp, _, rfl, ?_⟩
      rw [eqv]
      refine iteT ⟨_, rfl, v, .ty "bool", _, _, bb, rfl, .ty "bool", (dty _ _ hv _).1, kb, _, rfl, u, .ty "bool", _, _, bb, rfl, .ty "bool", (dty _ _ hu' _).1, kb, ?_⟩
      refine ⟨rfl, ?_⟩
      show Q (V.bl (decide (V.bl bb = V.bl bb))) _
      rw [show decide (V.bl bb = V.bl bb) = true by simp]
      exact k _ s1
    · obtain ⟨T, tup, kA, kT, seq⟩ := alk_seq (K := K) hd
      obtain ⟨a, xs, rfl, ax, qa⟩ := seq hv
      obtain ⟨b, ys, rfl, by', qb⟩ := seq hu'
      have lx : xs.length = ds.length := DpAll.len ax
      have ly : ys.length = ds.length := DpAll.len by'
      refine ⟨_, rfl, by show 2 ≤ sizeLine; decide, fun t nt => ⟨_, t, _, _, _, _, rfl, upd_same, cls_tl, (qa _ (same_new nt)).2, kA, _, rfl, iteT ?_⟩⟩
      have s1 := same_new (o := .tup [V.ty "tuple", V.ty "list"]) nt
      refine ⟨_, rfl, by show 2 ≤ sizeLine; decide, fun t2 nt2 => ⟨_, t2, _, _, _, _, rfl, upd_same, cls_tl, (qb _ (s1.trans (same_new nt2))).2, kA, _, rfl, iteT ?_⟩⟩
      have s2 := s1.trans (same_new (o := .tup [V.ty "tuple", V.ty "list"]) nt2)
      generalize upd (upd H t (.tup [V.ty "tuple", V.ty "list"])) t2 (.tup [V.ty "tuple", V.ty "list"]) = H2 at s2 ⊢
      refine ⟨_, rfl, _, .ty "tuple", _, _, tup, rfl, .ty "tuple", (qa _ s2).2, kT, _, rfl, _, .ty "tuple", _, _, tup, rfl, .ty "tuple", (qb _ s2).2, kT, rfl, _, rfl, ?_⟩
      rw [show (!decide (V.bl tup = V.bl tup)) = false by simp]
      refine iteF ?_
      refine ⟨_, rfl, a, xs, rfl, (qa _ s2).1, _, rfl, b, ys, rfl, (qb _ s2).1, rfl, _, rfl, ?_⟩
      rw [lx, ly, show (!decide (V.int (ds.length : Int) = V.int (ds.length : Int))) = false by simp]
      refine iteF ?_
      refine ⟨_, rfl, a, xs, rfl, (qa _ s2).1, (xs.length : Int), rfl, by omega, by omega, fun D nD => ?_⟩
      rw [show ((xs.length : Int)).toNat = ds.length by omega]
      refine lc_range (lo := 0) (n := ds.length) (fun j H3 => But D H2 H3 ∧ H3 D = some (.lst [])) ⟨but_upd, upd_same⟩ ?_ ?_
      · rintro j H3 hj ⟨bu, eD⟩
        have sm : Same H H3 := s2.trans (But.same bu nD)
        obtain ⟨d', hd'⟩ : ∃ d', ds[j]? = some d' := ⟨ds[j], by simp [hj]⟩
        obtain ⟨v', hv', dv⟩ := DpAll.get ax hd'
        obtain ⟨u', hu2, du⟩ := DpAll.get by' hd'
        refine ⟨rfl, _, rfl, _, rfl, ?_⟩
        rw [Int.zero_add]
        refine ix_lt (qa _ sm).1 hv' ⟨_, rfl, _, rfl, ix_lt (qb _ sm).1 hu2 ⟨v', u', d', rfl, Dp.same sm dv, Dp.same sm du, hall _ (List.mem_of_getElem? hd'), fun H4 s4 => ⟨_, rfl, ?_⟩⟩⟩
        refine iteF ⟨bu.trans (Same.but s4 D), s4 _ _ eD⟩
      · rintro H3 ⟨bu, eD⟩
        refine ⟨by show 0 ≤ sizeLine; decide, fun e ne => ⟨.list [], .list [], .lst (SqL.of (same_new ne _ _ eD)) .nil, .lst (SqL.of upd_same) .nil, rfl, rfl, ?_⟩⟩
        rw [show PyData.eqv (.list []) (.list []) = true from by simp [PyData.eqv, PyData.eqvAll]]
        exact k _ ((s2.trans (But.same bu nD)).trans (same_new ne))
theorem ok_alike {f : Addr} {fd : FuncData} (D : DefAt K mg "_law_alike" s_law_alike ["_law_one", "_law_due"] f fd) (B : Blt mg) : ∀ n, At P w K mg base CX0 (n + 1) "_law_alike" ["_law_one", "_law_due"] (spAlike K n) f fd
  | 0 => D.at (ok_alike0 D.fn B)
  | n + 1 => D.at (ok_alikeS D.fn B (ok_alike D B n))
end
/-! ### _law_kept: a deep copy -/
/-- what is new in H' -/
def newOf (H H' : Hp) : Hp := fun b => match H b with
  | none => H' b
  | some _ => none
theorem newOf_some {H H' : Hp} {b : Addr} {o : HO} (e : newOf H H' b = some o) : H b = none ∧ H' b = some o := by
  unfold newOf at e
  cases h : H b with
  | none => rw [h] at e; exact ⟨rfl, e⟩
  | some u => rw [h] at e; cases e
theorem newOf_same {H H' : Hp} : Same (newOf H H') H' := fun _ _ e => (newOf_some e).2
theorem newOf_in {N H H' : Hp} (h1 : ∀ b o, N b = some o → H b = none) (h2 : Same N H') : Same N (newOf H H') := fun b o e => by
  unfold newOf
  rw [h1 b o e]
  exact h2 b o e
theorem newOf_at {H H' : Hp} {b : Addr} {o : HO} (h : H b = none) (e : H' b = some o) : newOf H H' b = some o := by
  unfold newOf
  rw [h]
  exact e
/-- a copy: all of it is new -/
def spKept (K : PySem.W.Frag) (n : Nat) : Sp := fun vs H Q _ => ∃ v d, vs = [v] ∧ Dp K H v d ∧ Alk n d ∧ ∀ v' H', Same H H' → Dp K (newOf H H') v' d → Q v' H'
theorem dpAll_paired {K : PySem.W.Frag} {H : Hp} {F : V → PyData → Prop} (f : ∀ v d, F v d → Dp K H v d) : ∀ {vs : List V} {ds : List PyData}, Paired F vs ds → DpAll K H vs ds
  | _, _, .nil => .nil
  | _, _, .cons h t => .cons (f _ _ h) (dpAll_paired f t)
/-- a copy of an element: new since H, and not at D -/
def DpN (K : PySem.W.Frag) (H : Hp) (D : Addr) (G : Hp) (v : V) (d : PyData) : Prop := ∃ N : Hp, N D = none ∧ (∀ b o, N b = some o → H b = none) ∧ Dp K N v d ∧ Same N G
theorem DpN.stab {K : PySem.W.Frag} {H : Hp} {D : Addr} {G G' : Hp} {v : V} {d : PyData} (b : But D G G') (h : DpN K H D G v d) : DpN K H D G' v d :=
  let ⟨N, h1, h2, h3, h4⟩ := h; ⟨N, h1, h2, h3, fun c o e => b c o (ne_of_none e h1) (h4 c o e)⟩
theorem DpN.dp {K : PySem.W.Frag} {H : Hp} {D : Addr} {G : Hp} {v : V} {d : PyData} (h : DpN K H D G v d) : Dp K (newOf H G) v d :=
  let ⟨_, _, h2, h3, h4⟩ := h; Dp.same (newOf_in h2 h4) h3
theorem kept_step {K : PySem.W.Frag} {H G H4 : Hp} {D : Addr} {v : V} {d : PyData} (sm : Same H G) (nD : G D ≠ none) (h : Dp K (newOf G H4) v d) : DpN K H D H4 v d := by
  refine ⟨newOf G H4, ?_, fun b o e => ?_, h, newOf_same⟩
  · cases h : newOf G H4 D with
    | none => rfl
    | some o => exact absurd (newOf_some h).1 nD
  · have := (newOf_some e).1
    exact Same.free sm this
def tNoE : TE := fun _ _ _ => False
theorem pe_noE {X : Cx} {e : Expr} : PE X e tNoE := ⟨fun _ _ _ _ _ _ h => h.elim⟩
section
variable {P : Program} {w : World} {K : PySem.W.Frag} {mg : Str → Option Value} {base : Heap}
theorem ok_kept0 {f : Addr} {fd : FuncData} (F : Fun K "_law_kept" "_law_kept" s_law_kept f fd) (B : Blt mg) : FnOk P w K mg base CX0 1 f fd ["_law_thing"] (spKept K 0) := by
  refine F.ok sc_law_kept (fun vs H Q E h => ?_) (fun cdv A outer s H vs Q E hr h => ?_)
  · obtain ⟨v, d, rfl, _⟩ := h
    rfl
  · obtain ⟨v, d, rfl, hv, lf, k⟩ := h
    refine ⟨_, pss_cons (ps_if (pt_val (pe_callB (call_isi) (by rfl) B.isinstance boot_isinstance (pa_cons (pv 0) (pa_cons (pe_bltn (v := .ty "list") (by rfl) B.list boot_list rfl) pa_nil)))) pss_never pss_nil)
      (pss_one (ps_ret (pe_ifExp (pt_val (pe_callB (call_isi) (by rfl) B.isinstance boot_isinstance (pa_cons (pv 0) (pa_cons (pe_bltn (v := .ty "tuple") (by rfl) B.tuple boot_tuple rfl) pa_nil)))) pe_noE (pv 0)))), ?_⟩
    obtain ⟨ty, bb, kt, kl, kb, shp, eqv, dty⟩ := leaf_ty (K := K) lf
    refine ⟨_, rfl, v, .ty "list", _, _, false, rfl, .ty "list", (dty _ _ hv _).1, kl, _, rfl, iteF ?_⟩
    refine ⟨_, rfl, v, .ty "tuple", _, _, false, rfl, .ty "tuple", (dty _ _ hv _).1, kt, _, rfl, iteF ?_⟩
    exact ⟨_, rfl, k _ _ (Same.refl _) (dty _ _ hv _).2⟩
theorem ok_keptS {n : Nat} {f : Addr} {fd : FuncData} (F : Fun K "_law_kept" "_law_kept" s_law_kept f fd) (B : Blt mg) (N : At P w K mg base CX0 (n + 1) "_law_kept" ["_law_thing"] (spKept K n) f fd) :
    FnOk P w K mg base CX0 (n + 2) f fd ["_law_thing"] (spKept K (n + 1)) := by
  refine F.ok sc_law_kept (fun vs H Q E h => ?_) (fun cdv A outer s H vs Q E hr h => ?_)
  · obtain ⟨v, d, rfl, _⟩ := h
    rfl
  · obtain ⟨v, d, rfl, hv, al, k⟩ := h
    refine ⟨_, pss_cons (ps_if (pt_val (pe_callB (call_isi) (by rfl) B.isinstance boot_isinstance (pa_cons (pv 0) (pa_cons (pe_bltn (v := .ty "list") (by rfl) B.list boot_list rfl) pa_nil))))
        (pss_one (ps_ret (pe_lc rfl sc_law_kept.nd (pi_list (pv 0)) (blkOk_by (own := [("_law_part", 1)]) (N := n_law_kept) (sc := defScope s_law_kept) (by decide +kernel)) (fun _ _ _ _ _ => pg_name (i := 1) sc_law_kept.nd rfl (Or.inl rfl)) (fun _ _ _ _ _ => pts_nil)
          (fun _ _ _ _ _ => (show PE _ _ (tCall (spKept K n) [] E0 (tCons (tVar 1) tNil)) from pe_at N hr (pa_cons (pv 1) pa_nil)))))) pss_nil)
      (pss_one (ps_ret (pe_ifExp (pt_val (pe_callB (call_isi) (by rfl) B.isinstance boot_isinstance (pa_cons (pv 0) (pa_cons (pe_bltn (v := .ty "tuple") (by rfl) B.tuple boot_tuple rfl) pa_nil)))) (pe_tupleOf (by rfl) B.tuple (pe_lc rfl sc_law_kept.nd (pi_tup (pv 0)) (blkOk_by (own := [("_law_part", 1)]) (N := n_law_kept) (sc := defScope s_law_kept) (by decide +kernel)) (fun _ _ _ _ _ => pg_name (i := 1) sc_law_kept.nd rfl (Or.inl rfl)) (fun _ _ _ _ _ => pts_nil)
          (fun _ _ _ _ _ => (show PE _ _ (tCall (spKept K n) [] E0 (tCons (tVar 1) tNil)) from pe_at N hr (pa_cons (pv 1) pa_nil))))) (pv 0)))), ?_⟩
    rcases al with lf | ⟨ds, hd, hl, hall⟩
    · obtain ⟨ty, bb, kt, kl, kb, shp, eqv, dty⟩ := leaf_ty (K := K) lf
      refine ⟨_, rfl, v, .ty "list", _, _, false, rfl, .ty "list", (dty _ _ hv _).1, kl, _, rfl, iteF ?_⟩
      refine ⟨_, rfl, v, .ty "tuple", _, _, false, rfl, .ty "tuple", (dty _ _ hv _).1, kt, _, rfl, iteF ?_⟩
      exact ⟨_, rfl, k _ _ (Same.refl _) (dty _ _ hv _).2⟩
    · rcases hd with rfl | rfl
      · cases hv with
        | lst hs ha =>
          rename_i a xs
          refine ⟨_, rfl, _, .ty "list", _, _, true, rfl, .ty "list", tyL hs, kit_ty (by decide +kernel), _, rfl, iteT ?_⟩
          have lx := DpAll.len ha
          refine ⟨_, rfl, a, rfl, ⟨_, hs⟩, fun D nD => ?_⟩
          refine lc_fm (walk_list (K := K) (a := a) (xs := xs)) ds (fun _ => true) (fun d => d) (DpN K H D) lx.symm (by rw [lx]; omega) nD (fun _ _ _ _ _ _ b r => r.stab b) (fun G e => e.seq hs) ?_ ?_
          · rintro i d' x G G2 N2 M2 hj sm nn ⟨rfl, hx⟩ _ go
            obtain ⟨v', hv', dv⟩ := DpAll.get ha hj
            obtain rfl : x = v' := Option.some.inj (hx.symm.trans hv')
            exact ⟨rfl, _, rfl, x, d', rfl, Dp.same sm dv, hall _ (List.mem_of_getElem? hj), fun u H4 s4 du => go _ _ rfl s4 (kept_step sm nn du)⟩
          · intro G ys sm eD rel
            rw [List.filter_eq_self.mpr (fun _ _ => rfl), List.map_id'] at rel
            exact k _ _ sm (.lst (SqL.of (newOf_at nD eD)) (dpAll_paired (fun _ _ r => r.dp) rel))
      · cases hv with
        | tup hs ha =>
          rename_i a xs
          refine ⟨_, rfl, _, .ty "list", _, _, false, rfl, .ty "list", tyT hs, kit_ty (by decide +kernel), _, rfl, iteF ?_⟩
          refine ⟨_, rfl, _, .ty "tuple", _, _, true, rfl, .ty "tuple", tyT hs, kit_ty (by decide +kernel), _, rfl, iteT ?_⟩
          have lx := DpAll.len ha
          refine ⟨_, rfl, a, rfl, ⟨_, hs⟩, fun D nD => ?_⟩
          refine lc_fm (walk_tup (K := K) (a := a) (xs := xs)) ds (fun _ => true) (fun d => d) (DpN K H D) lx.symm (by rw [lx]; omega) nD (fun _ _ _ _ _ _ b r => r.stab b) (fun G e => sqT_same hs e) ?_ ?_
          · rintro i d' x G G2 N2 M2 hj sm nn ⟨rfl, hx⟩ _ go
            obtain ⟨v', hv', dv⟩ := DpAll.get ha hj
            obtain rfl : x = v' := Option.some.inj (hx.symm.trans hv')
            exact ⟨rfl, _, rfl, x, d', rfl, Dp.same sm dv, hall _ (List.mem_of_getElem? hj), fun u H4 s4 du => go _ _ rfl s4 (kept_step sm nn du)⟩
          · intro G ys sm eD rel
            rw [List.filter_eq_self.mpr (fun _ _ => rfl), List.map_id'] at rel
            refine .inl ⟨D, _, rfl, SqL.of eD, fun t nt => ?_⟩
            have st := same_new (o := .tup ys) nt
            exact k _ _ (sm.trans st) (.tup (SqT.of (newOf_at (Same.free sm nt) upd_same)) (dpAll_paired (fun _ _ r => by
              obtain ⟨N, h1, h2, h3, h4⟩ := r
              exact Dp.same (newOf_in h2 (h4.trans st)) h3) rel))
theorem ok_kept {f : Addr} {fd : FuncData} (D : DefAt K mg "_law_kept" s_law_kept ["_law_thing"] f fd) (B : Blt mg) : ∀ n, At P w K mg base CX0 (n + 1) "_law_kept" ["_law_thing"] (spKept K n) f fd
  | 0 => D.at (ok_kept0 D.fn B)
  | n + 1 => D.at (ok_keptS D.fn B (ok_kept D B n))
end
/-! ### _law_told: what the package says of a row -/
def lastD (n : Nat) (f : Nat → Nat) (m : Nat) : Option (Nat × Nat) → PyData
  | some _ => .none
  | none => prD (f m / n, f m % n)
def optD : Option Nat → PyData
  | some k => .int (k : Nat)
  | none => .none
abbrev perOf (xs : List (Int × Int)) : Int := pl xs (xs.length - 1) + 3
abbrev frOf (xs : List (Int × Int)) : Nat → Nat := fr (hitsOf xs (perOf xs)) 0
structure ToldS (xs : List (Int × Int)) (gs : List (Nat × Nat)) (m : Nat) (rep : Option (Nat × Nat)) (tk : Option Nat) : Prop where
  t : Ticks xs true 0 gs
  f : Fronts (hitsOf xs (perOf xs)) 0 m
  r : RepS (frOf xs) xs.length m rep
  k : TickS xs.length (frOf xs) m rep (3 * xs.length + 0) tk
noncomputable def toldL (xs : List (Int × Int)) (gs : List (Nat × Nat)) (m : Nat) (rep : Option (Nat × Nat)) (tk : Option Nat) : List PyData :=
  [.list ((great xs false).map prD), intD (pushed xs true), intD (sparedL xs 0 true (xs.length - 1)), .list ((fallsL xs (allT xs.length) [(xs.length - 1, false)]).map intD), .list ((lhL xs).map fun k => PyData.int k),
   intD ((fewT xs (xs.length - 1) 0 false).getD []), .list ((gs.map toI).map stD), .list [.int ((fewest xs).length : Nat)],
   .list [.bool rep.isSome, lastD xs.length (frOf xs) m rep, .int ((frontA (frOf xs) m rep 50 : Nat) - (frOf xs 0 : Nat) + 1 : Int), optD tk]]
theorem lastHit_small {xs : List (Int × Int)} {per B : Int} (h0 : 0 < per) {i : Nat} (hB : pl xs i + ht xs i - pl xs 0 ≤ B) (h1 : 0 ≤ pl xs i + ht xs i - pl xs 0) : lastHit xs per i ≤ B.toNat * xs.length + xs.length := by
  have q1 : (pl xs i + ht xs i - pl xs 0) / per ≤ pl xs i + ht xs i - pl xs 0 := Int.ediv_le_self _ h1
  have q2 : ((pl xs i + ht xs i - pl xs 0) / per).toNat ≤ B.toNat := by omega
  have q3 := Nat.mul_le_mul_right xs.length q2
  have q4 := List.length_filter_le (fun x : Int × Int => decide (x.1 - pl xs 0 ≤ (pl xs i + ht xs i - pl xs 0) % per)) xs
  unfold lastHit
  omega
/-- the lists of a list are new, and none of them is that list -/
structure New11 (H H' : Hp) (p : Addr) (zs : List V) : Prop where
  all : ∀ u ∈ zs, ∃ b ys, u = .ref b ∧ H b = none ∧ b ≠ p ∧ H' b = some (.lst ys) ∧ ys.length ≤ 1000
  one : ∃ b y ys ws, zs[3]? = some (.ref b) ∧ H' b = some (.lst (.ref y :: ys)) ∧ H y = none ∧ y ≠ p ∧ H' y = some (.lst ws) ∧ ws.length ≤ 1000
def spTold (K : PySem.W.Frag) (C : Addr) : Sp := fun vs H Q _ => ∃ (z : Addr) (xs : List (Int × Int)), vs = [.ref z] ∧ RowAt K C H z xs ∧ Wf 0 xs ∧ 0 < xs.length ∧ xs.length ≤ 14 ∧ (∀ x ∈ xs, x.1 ≤ 200 ∧ x.2 ≤ 40) ∧
  ∀ p zs gs m rep tk H', Same H H' → H p = none → H' p = some (.lst zs) → ToldS xs gs m rep tk → DpAll K H' zs (toldL xs gs m rep tk) → New11 H H' p zs → Q (.ref p) H'
theorem sparedL_len (xs : List (Int × Int)) (i : Nat) (r : Bool) (o : Nat) : (sparedL xs i r o).length ≤ xs.length := by
  unfold sparedL
  refine Nat.le_trans (List.length_filter_le _ _) ?_
  unfold fellsL
  rw [List.length_take, List.length_drop]
  have : (leftL xs.length []).length ≤ xs.length := by
    unfold leftL
    exact Nat.le_trans (List.length_filter_le _ _) (by rw [List.length_range]; exact Nat.le_refl _)
  omega
theorem few_len (xs : List (Int × Int)) (i : Nat) : ∀ (ss : List Nat), (∀ s ∈ ss, (rbt xs i s).length ≤ 1000) → ∀ (t : List Nat), few xs i ss = some t → t.length ≤ 1000 := by
  intro ss hr
  unfold few
  have key : ∀ (ss : List Nat) (acc : Option (List Nat)), (∀ s ∈ ss, (rbt xs i s).length ≤ 1000) → (∀ t, acc = some t → t.length ≤ 1000) → ∀ t, ss.foldl (fstep xs i) acc = some t → t.length ≤ 1000 := by
    intro ss
    induction ss with
    | nil => exact fun acc _ h t e => h t e
    | cons s ss ih =>
      intro acc hr h t e
      refine ih (fstep xs i acc s) (fun x hx => hr x (List.mem_cons_of_mem _ hx)) (fun u hu => ?_) t e
      unfold fstep at hu
      split at hu
      · exact h u hu
      · cases acc with
        | none => cases hu; exact hr s List.mem_cons_self
        | some v =>
          dsimp only at hu
          split at hu
          · cases hu; exact hr s List.mem_cons_self
          · cases hu; exact h _ rfl
  exact key ss none hr (fun t h => nomatch h)
theorem fewT_len (xs : List (Int × Int)) (h0 : 0 < xs.length) (h14 : xs.length ≤ 14) : ((fewT xs (xs.length - 1) 0 false).getD []).length ≤ 1000 := by
  cases hf : fewT xs (xs.length - 1) 0 false with
  | none => exact Nat.zero_le _
  | some t =>
    show t.length ≤ 1000
    unfold fewT at hf
    split at hf
    · refine few_len xs _ _ (fun s hs => ?_) t hf
      have hs : s < xs.length := beside_lt (r := false) (i := xs.length - 1) (by omega) s (List.mem_of_mem_take hs)
      unfold rbt
      refine Nat.le_trans (List.length_filter_le _ _) ?_
      unfold betw
      simp
      omega
    · cases hf
      exact Nat.zero_le _
theorem few_or {K : PySem.W.Frag} {o : Option (List Nat)} {σ : L2.St} {H : Hp} {Q : VK} (h : ∀ a H', Same H H' → H a = none → H' a = some (.lst (ivs (o.getD []))) → Q (.ref a) H') :
    (o = none → ∀ H', Same H H' → ∃ k, TruV K .non H' k ∧ if k = true then Q .non H' else tLst tNil σ H' Q) ∧ ∀ t, o = some t → ∀ z H', Same H H' → H z = none → H' z = some (.lst (ivs t)) → ∃ k, TruV K (.ref z) H' k ∧ if k = true then Q (.ref z) H' else tLst tNil σ H' Q := by
  have nil : ∀ H', o.getD [] = [] → Same H H' → tLst tNil σ H' Q := fun H' e s => ⟨by show 0 ≤ sizeLine; decide, fun a na => h a _ (s.trans (same_new na)) (Same.free s na) (by rw [e]; exact upd_same)⟩
  refine ⟨fun e H' s => ⟨false, rfl, iteF (nil H' (by rw [e]; rfl) s)⟩, fun t e z H' s n ez => ?_⟩
  cases t with
  | nil => exact ⟨false, .inl ⟨_, SqL.of ez, rfl⟩, iteF (nil H' (by rw [e]; rfl) s)⟩
  | cons x t => exact ⟨true, .inl ⟨_, SqL.of ez, rfl⟩, iteT (h z H' s n (by rw [e]; exact ez))⟩
theorem falls_dp11 {K : PySem.W.Frag} {H0 H : Hp} : ∀ {ys : List V} {ls : List (List Nat)}, Paired (LstAt H0 H) ys ls → DpAll K H ys (ls.map intD)
  | _, _, .nil => .nil
  | _, _, .cons ⟨z, e, _, h⟩ t => by subst e; exact .cons (ints_dp (SqL.of h)) (falls_dp11 t)
theorem ints_all11 {K : PySem.W.Frag} {H : Hp} : ∀ l : List Int, DpAll K H (l.map V.int) (l.map fun k => PyData.int k)
  | [] => .nil
  | k :: l => .cons (.int k) (ints_all11 l)
section
variable {P : Program} {w : World} {K : PySem.W.Frag} {mg : Str → Option Value} {base : Heap}
theorem ok_told11 {f C D W gL pP gP gE gV pI gI pL gO gC gT gFB f1 f2 f3 f4 f5 f6 f7 : Addr} {fd dP dE dV dI' dL dC dT d1 d2 d3 d4 d5 d6 d7 : FuncData} (F : Fun K "_law_told" "_law_told" s_law_told f fd) (B : Blt mg) (R : RowC K mg C) (cE : ClsE K D) (cW : ClsW K W)
    (SL : Sign K C "__len__" gL) (GL : FnR P w K mg base CX0 1 gL (spLen K C)) (pr : PropOf K C "places" pP gP) (P1 : FnOk P w K mg base CX0 1 gP dP ["self"] (spPlaces K C)) (bP : Binds K dP ["self"] [])
    (mE : mg "EndlessRow" = some (.ref D)) (ME : Mk K D gE) (FE : FnOk P w K mg base CX0 3 gE dE ["self", "row", "period"] (spEInit K C D)) (bE : Binds K dE ["self", "row", "period"] [])
    (HV : Meth K D "wave" gV) (FV : FnOk P w K mg base CX0 8 gV dV ["self", "stone"] (spWave K C D W)) (bV : Binds K dV ["self", "stone"] [])
    (prI : PropOf K W "is_endless" pI gI) (PI : FnOk P w K mg base CX0 1 gI dI' ["self"] (spIsEnd K W)) (bI : Binds K dI' ["self"] []) (prL : PropOf K W "last_fallen" pL gO) (PL : FnOk P w K mg base CX0 1 gO dL ["self"] (spLast K W)) (bL : Binds K dL ["self"] [])
    (HC : Meth K W "count_after" gC) (FC : FnOk P w K mg base CX0 3 gC dC ["self", "tick"] (spCountA K W)) (bC : Binds K dC ["self", "tick"] []) (HT : Meth K W "tick_of" gT) (FT : FnOk P w K mg base CX0 3 gT dT ["self", "number", "stone"] (spTickOf K W)) (bT : Binds K dT ["self", "number", "stone"] [])
    (mFB : mg "falls_by" = some (.ref gFB)) (kFB : PySem.W.keepIn K (.ref gFB) = true) (FB : GSt.GFnR P w K mg base 3 gFB (fun vs H Q E => ∃ w0 rest, vs = w0 :: rest ∧ rest.length ≤ 1000 ∧ ∀ p, H p = none → spFalls K C [w0, V.ref p] (upd H p (.tup rest)) Q E))
    (N1 : At P w K mg base CX0 4 "greatest_runs" ["row", "side"] (spGreat K C) f1 d1) (N2 : At P w K mg base CX0 5 "fewest_to_side" ["row", "side"] (spToSide K C) f2 d2) (N3 : At P w K mg base CX0 4 "spared_without" ["row", "stone", "side", "other"] (spSpared K C) f3 d3)
    (N4 : At P w K mg base CX0 6 "least_heights" ["row"] (spLH K C) f4 d4) (N5 : At P w K mg base CX0 7 "fewest_taken" ["row", "stone", "side", "goal"] (spFewT K C) f5 d5) (N6 : At P w K mg base CX0 3 "fall_ticks" ["row", "stone", "side"] (spTicks K C) f6 d6) (N7 : At P w K mg base CX0 5 "fewest_pushes" ["row"] (spFewest K C) f7 d7) :
    FnOk P w K mg base CX0 9 f fd ["_law_one"] (spTold K C) := by
  refine F.ok sc_law_told (fun vs H Q E h => ?_) (fun cdv A outer s H vs Q E hr h => ?_)
  · obtain ⟨z, xs, rfl, _⟩ := h
    rfl
  · obtain ⟨z, xs, rfl, hR, hw, h0, h14, hb, k⟩ := h
    have r7 : Room 7 _ := hr.mono (by decide)
    have r6 : Room 6 _ := hr.mono (by decide)
    have r5 : Room 5 _ := hr.mono (by decide)
    have r4 : Room 4 _ := hr.mono (by decide)
    have r3 : Room 3 _ := hr.mono (by decide)
    have r2 : Room 2 _ := hr.mono (by decide)
    have r1 : Room 1 _ := hr.mono (by decide)
    refine ⟨_, pss_cons (ps_set (i := 1) sc_law_told.nd rfl (Or.inl rfl) (pe_op op_sub (pe_callB (Own.call_len SL.at_ SL.fn GL r2 pass0) (by rfl) B.len PySem.boot_len (pa_cons (pv 0) pa_nil)) (pe_int)))
      (pss_cons (ps_set (i := 2) sc_law_told.nd rfl (Or.inl rfl) (pe_lst (pa_cons (pe_at N1 r4 (pa_cons (pv 0) (pa_cons (pe_str) pa_nil))) (pa_cons (pe_at N2 r5 (pa_cons (pv 0) (pa_cons (pe_str) pa_nil))) (pa_cons (pe_at N3 r4 (pa_cons (pv 0) (pa_cons (pe_int) (pa_cons (pe_str) (pa_cons (pv 1) pa_nil))))) pa_nil)))))
      (pss_cons (ps_set (i := 2) sc_law_told.nd rfl (Or.inl rfl) (pe_op op_cat (pv 2) (pe_lst (pa_cons (pe_listG (E := fun _ _ _ => False) (GSt.pgen_callR FB r3 (by rfl) mFB kFB (pa_cons (pv 0) (pa_cons (pe_tup (pa_cons (pv 1) (pa_cons (pe_str) pa_nil))) pa_nil))) (fun pins σ H s e s' I hc => by obtain ⟨_, _, _, _, _, _, _, _, _, _, _, _, h⟩ := hc; exact h.elim) (fun _ _ _ h => h.elim) r6 (by rfl) B.list boot_list) (pa_cons (pe_at N4 r6 (pa_cons (pv 0) pa_nil)) (pa_cons (pe_orT (pe_at N5 r7 (pa_cons (pv 0) (pa_cons (pv 1) (pa_cons (pe_str) (pa_cons (pe_int) pa_nil))))) (pe_one (pe_lst pa_nil))) pa_nil))))))
      (pss_cons (ps_set (i := 2) sc_law_told.nd rfl (Or.inl rfl) (pe_op op_cat (pv 2) (pe_lst (pa_cons (LiI.pe_listItems rfl (pe_at N6 r3 (pa_cons (pv 0) (pa_cons (pe_int) (pa_cons (pe_str) pa_nil)))) (by rfl) B.list boot_list) (pa_cons (pe_lst (pa_cons (pe_callB call_len_seq (by rfl) B.len PySem.boot_len (pa_cons (pe_at N7 r5 (pa_cons (pv 0) pa_nil)) pa_nil)) pa_nil)) pa_nil)))))
      (pss_cons (ps_set (i := 3) sc_law_told.nd rfl (Or.inl rfl) (pe_meth (pe_make ME FE r4 (by rfl) mE bE .nil pass0 (pa_cons (pv 0) (pa_cons (pe_op op_add (pe_ix ix_tup (pe_prop (pv 0) R.cl pr P1 r2 bP .nil pass0 rfl) (pe_un un_neg pe_int) (fun _ _ => rfl)) (pe_int)) pa_nil))) cE.cl HV FV hr bV .nil pass0 (pa_cons (pe_int) pa_nil)))
      (pss_one (ps_ret (pe_op op_cat (pv 2) (pe_lst (pa_cons (pe_lst (pa_cons (pe_prop (pv 3) cW.cl prI PI r2 bI .nil pass0 rfl) (pa_cons (pe_prop (pv 3) cW.cl prL PL r2 bL .nil pass0 rfl) (pa_cons (pe_meth (pv 3) cW.cl HC FC r3 bC .nil pass0 (pa_cons (pe_int) pa_nil)) (pa_cons (pe_meth (pv 3) cW.cl HT FT r3 bT .nil pass0 (pa_cons (pe_int) (pa_cons (pe_int) pa_nil))) pa_nil))))) pa_nil))))))))), ?_⟩
    have hz : xs.length ≤ 40 := by omega
    have hx := hw.inc
    obtain ⟨dz, tz, uz, ez, hTz, hSz⟩ := id hR
    refine ⟨_, rfl, z, dz, _, rfl, ez, z, xs, rfl, hR, _, rfl, by omega, by omega, _, _, rfl, rfl, ?_⟩
    have hl1 : ((xs.length : Nat) : Int) - 1 = ((xs.length - 1 : Nat) : Int) := by omega
    show gName 1 (V.int (((xs.length : Nat) : Int) - 1)) _ _ _
    rw [hl1]
    refine nm_of ?_
    -- runs, pushes to a side, spared
    refine ⟨_, rfl, z, xs, false, rfl, hR, hz, fun a1 us1 H1 s1 n1 e1 p1 => ?_⟩
    refine ⟨_, rfl, z, xs, true, rfl, hR.same s1, hz, fun a2 H2 s2 n2 e2 => ?_⟩
    have s12 := s1.trans s2
    refine ⟨_, rfl, _, rfl, z, xs, 0, xs.length - 1, true, rfl, hR.same s12, hx, hz, h0, by omega, fun a3 H3 s3 n3 e3 => ?_⟩
    have s13 := s12.trans s3
    refine ⟨by show 3 ≤ sizeLine; decide, fun l1 nl1 => nm_of ?_⟩
    have sl1 := same_new (o := .lst [V.ref a1, V.ref a2, V.ref a3]) nl1
    have s4 := s13.trans sl1
    have n2' := Same.free s1 n2
    have n3' := Same.free s12 n3
    have nl1' := Same.free s13 nl1
    have e1A := sl1 _ _ (s3 _ _ (s2 _ _ e1))
    have p1A := p1.same ((s2.trans s3).trans sl1)
    have e2A := sl1 _ _ (s3 _ _ e2)
    have e3A := sl1 _ _ e3
    have el1 : (upd H3 l1 (.lst [V.ref a1, V.ref a2, V.ref a3])) l1 = some (.lst [V.ref a1, V.ref a2, V.ref a3]) := upd_same
    generalize upd H3 l1 (.lst [V.ref a1, V.ref a2, V.ref a3]) = HA at s4 e1A p1A e2A e3A el1 ⊢
    clear sl1 s13 s12 s3 s2 s1 e1 e2 e3 p1 nl1
    refine ⟨_, rfl, _, rfl, _, rfl, by show 2 ≤ sizeLine; decide, fun tp ntp => ?_⟩
    have stp := same_new (o := .tup [V.int ((xs.length - 1 : Nat) : Int), V.str "left"]) ntp
    refine ⟨_, _, rfl, by show 1 ≤ 1000; decide, fun tq ntq => ?_⟩
    have stq := same_new (o := .tup [V.ref tp]) ntq
    have s6 := stp.trans stq
    have hp0 : (allT xs.length)[xs.length - 1]? = some (some true) := by unfold allT; rw [List.getElem?_replicate, if_pos (by omega)]
    refine ⟨z, tq, xs, [.ref tp], [(xs.length - 1, false)], rfl, hR.same (s4.trans s6), hz, SqT.of upd_same, .cons ⟨tp, rfl, SqT.of (stq _ _ upd_same)⟩ .nil, ⟨hp0, True.intro⟩, by show 1 ≤ 900; decide, fun ys H4 s7 rel => ?_⟩
    refine fun pz npz => ?_
    have spz := same_new (o := .lst ys) npz
    have s8 := (s6.trans s7).trans spz
    have epz : (upd H4 pz (.lst ys)) pz = some (.lst ys) := upd_same
    have npz' := Same.free (s4.trans (s6.trans s7)) npz
    have rel := paired_imp (G := LstAt H (upd H4 pz (.lst ys))) (fun _ _ h => let ⟨y, h1, h2, h3⟩ := h; ⟨y, h1, Same.free (s4.trans s6) h2, spz _ _ h3⟩) rel
    generalize upd H4 pz (.lst ys) = H5 at s8 epz rel ⊢
    clear stp stq s6 s7 spz ntp ntq npz
    have s5 := s4.trans s8
    have e1 := s8 _ _ e1A
    have p1 := p1A.same s8
    have e2 := s8 _ _ e2A
    have e3 := s8 _ _ e3A
    have el1 := s8 _ _ el1
    clear s8 e1A p1A e2A e3A
    -- least heights, fewest taken
    refine ⟨_, rfl, z, xs, rfl, hR.same s5, hz, fun a4 H6 s9 n4 e4 => ?_⟩
    have n4' := Same.free s5 n4
    have s10 := s5.trans s9
    refine ⟨_, rfl, _, rfl, z, xs, xs.length - 1, 0, false, rfl, hR.same s10, hx, hz, by omega, h0, few_or fun a5 H7 s11 n5 e5 => ?_⟩
    have n5' := Same.free s10 n5
    have s12 := s10.trans s11
    refine ⟨by show 3 ≤ sizeLine; decide, fun l2 nl2 => ?_⟩
    have sl2 := same_new (o := .lst [V.ref pz, V.ref a4, V.ref a5]) nl2
    have s911 := s9.trans s11
    refine ⟨l1, l2, _, _, rfl, rfl, sl2 _ _ (s911 _ _ el1), upd_same, by show 3 + 3 ≤ sizeLine; decide, fun l3 nl3 => nm_of ?_⟩
    have sl3 := same_new (o := .lst ([V.ref a1, V.ref a2, V.ref a3] ++ [V.ref pz, V.ref a4, V.ref a5])) nl3
    have s13 := sl2.trans sl3
    have el3 : (upd (upd H7 l2 (.lst [V.ref pz, V.ref a4, V.ref a5])) l3 (.lst ([V.ref a1, V.ref a2, V.ref a3] ++ [V.ref pz, V.ref a4, V.ref a5]))) l3 = some (.lst [V.ref a1, V.ref a2, V.ref a3, V.ref pz, V.ref a4, V.ref a5]) := upd_same
    generalize upd (upd H7 l2 (.lst [V.ref pz, V.ref a4, V.ref a5])) l3 (.lst ([V.ref a1, V.ref a2, V.ref a3] ++ [V.ref pz, V.ref a4, V.ref a5])) = H8 at s13 el3 ⊢
    have sB := s911.trans s13
    have e1 := sB _ _ e1
    have p1 := p1.same sB
    have e2 := sB _ _ e2
    have e3 := sB _ _ e3
    have epz := sB _ _ epz
    have rel := paired_imp (G := LstAt H H8) (fun _ _ h => let ⟨y, h1, h2, h3⟩ := h; ⟨y, h1, h2, sB _ _ h3⟩) rel
    have e4 := s13 _ _ (s11 _ _ e4)
    have e5 := s13 _ _ e5
    have s8 := s12.trans s13
    clear sl2 sl3 s13 s911 sB s12 s11 s10 s9 s5 nl2 nl3 n4 n5 el1
    -- the ticks, the fewest pushes
    refine ⟨_, rfl, _, rfl, z, xs, 0, true, rfl, hR.same s8, hw, hz, h0, fun dt gs H9 s9 n9 ed tks => ?_⟩
    refine ⟨dt, kvs gs, rfl, ed, fun Hb a6 ts exb npl nts pnts e6 prb => ?_⟩
    have s9b : Same H8 Hb := s9.trans exb
    have n6' := Same.free (s8.trans s9) npl
    refine ⟨_, rfl, z, xs, rfl, hR.same (s8.trans s9b), hz, fun zu uu Hc s10 nz ez tups => ?_⟩
    refine ⟨zu, uu, rfl, .inl (SqL.of ez), ?_⟩
    rw [tups.1]
    refine ⟨by show 1 ≤ sizeLine; decide, fun a7 n7 => ?_⟩
    have s7 := same_new (o := .lst [V.int ((fewest xs).length : Nat)]) n7
    have n7' := Same.free ((s8.trans s9b).trans s10) n7
    refine ⟨by show 2 ≤ sizeLine; decide, fun l4 nl4 => ?_⟩
    have sl4 := same_new (o := .lst [V.ref a6, V.ref a7]) nl4
    have sC := (s9b.trans s10).trans (s7.trans sl4)
    refine ⟨l3, l4, _, _, rfl, rfl, sC _ _ el3, upd_same, by show 6 + 2 ≤ sizeLine; decide, fun l5 nl5 => nm_of ?_⟩
    have sl5 := same_new (o := .lst ([V.ref a1, V.ref a2, V.ref a3, V.ref pz, V.ref a4, V.ref a5] ++ [V.ref a6, V.ref a7])) nl5
    have e7 := sl5 _ _ (sl4 _ _ (show (upd Hc a7 (.lst [V.int ((fewest xs).length : Nat)])) a7 = _ from upd_same))
    have el5 : (upd (upd (upd Hc a7 (.lst [V.int ((fewest xs).length : Nat)])) l4 (.lst [V.ref a6, V.ref a7])) l5 (.lst ([V.ref a1, V.ref a2, V.ref a3, V.ref pz, V.ref a4, V.ref a5] ++ [V.ref a6, V.ref a7]))) l5 = some (.lst [V.ref a1, V.ref a2, V.ref a3, V.ref pz, V.ref a4, V.ref a5, V.ref a6, V.ref a7]) := upd_same
    have sD := sC.trans sl5
    have sE : Same Hb (upd (upd (upd Hc a7 (.lst [V.int ((fewest xs).length : Nat)])) l4 (.lst [V.ref a6, V.ref a7])) l5 (.lst ([V.ref a1, V.ref a2, V.ref a3, V.ref pz, V.ref a4, V.ref a5] ++ [V.ref a6, V.ref a7]))) := s10.trans ((s7.trans sl4).trans sl5)
    generalize upd (upd (upd Hc a7 (.lst [V.int ((fewest xs).length : Nat)])) l4 (.lst [V.ref a6, V.ref a7])) l5 (.lst ([V.ref a1, V.ref a2, V.ref a3, V.ref pz, V.ref a4, V.ref a5] ++ [V.ref a6, V.ref a7])) = Hd at e7 el5 sD sE ⊢
    have prl := prb
    have e6 := sE _ _ e6
    have dp6 := DpAll.same (K := K) sE (items_dp prb)
    have e1 := sD _ _ e1
    have p1 := p1.same sD
    have e2 := sD _ _ e2
    have e3 := sD _ _ e3
    have epz := sD _ _ epz
    have rel := paired_imp (G := LstAt H Hd) (fun _ _ h => let ⟨y, h1, h2, h3⟩ := h; ⟨y, h1, h2, sD _ _ h3⟩) rel
    have e4 := sD _ _ e4
    have e5 := sD _ _ e5
    have s14 := s8.trans sD
    clear sl4 sl5 sC sD sE s7 s10 s9b s9 exb s8 el3 n7 nl4 nl5 nz ez tups npl nts pnts prb ed n9
    -- the wave
    have at_ : ∀ k, k < xs.length → 0 ≤ pl xs k ∧ pl xs k ≤ 200 ∧ 1 ≤ ht xs k ∧ ht xs k ≤ 40 := fun k hk => by
      have b := hb xs[k] (List.getElem_mem hk)
      have e := pl_of (xs := xs) (k := k) (x := xs[k]) (by simp [hk])
      have wk := wf_at hw hk
      rw [e.1, e.2] at wk ⊢
      omega
    have bl := at_ (xs.length - 1) (by omega)
    have b0 := at_ 0 h0
    have pp : 0 < perOf xs := by show 0 < pl xs (xs.length - 1) + 3; omega
    have pm : perOf xs ≤ 1000000000 := by show pl xs (xs.length - 1) + 3 ≤ _; omega
    have R14 := hR.same s14
    obtain ⟨dz2, tz2, uz2, ez2, hTz2, hSz2⟩ := id R14
    refine ⟨_, rfl, _, rfl, z, dz2, _, rfl, ez2, z, xs, rfl, R14, hz, fun t1 He s15 nt1 et1 => ?_⟩
    have hat : atI (plV xs) (-1) = some (.int (pl xs (xs.length - 1))) := by
      have h := pl_get (xs := xs) (a := xs.length - 1) (by omega)
      have hl : (plV xs).length = xs.length := by unfold plV; rw [List.length_map]
      refine at_lst ?_ (by omega)
      unfold plV
      rw [List.length_map, List.getElem?_map]
      have hk : xs.length - 1 < xs.length := by omega
      rw [List.getElem?_eq_getElem hk, (pl_of (xs := xs) (k := xs.length - 1) (x := xs[xs.length - 1]) (by simp [hk])).1]
      rfl
    refine ⟨1, rfl, t1, plV xs, (-1), _, rfl, rfl, SqT.of et1, hat, _, _, rfl, rfl, ?_⟩
    refine fun q dy nq ndy nE => ?_
    have s16 := same_new (o := .own q) ndy
    have nq1 : (upd He dy (.own q)) q = none := by rw [upd_ne (fun e => nE e.symm)]; exact nq
    have s17 := s16.trans (same_new (o := .ins D dy []) nq1)
    refine ⟨q, dy, z, xs, perOf xs, rfl, upd_same, (R14.same s15).same s17, hz, h0, by show pl xs (xs.length - 1) - pl xs 0 + 1 ≤ pl xs (xs.length - 1) + 3; omega, pm, fun Hf b18 eq18 => ⟨rfl, ?_⟩⟩
    have s18 : Same He Hf := fun c o e => b18 c o (ne_of_none e nq) (s17 c o e)
    have R18 := (R14.same s15).same s18
    refine ⟨q, dy, _, rfl, eq18, rfl, q, z, xs, perOf xs, 0, rfl, ⟨dy, eq18⟩, R18, hw, hz, h0, pp, pm, fun wv lv m rep Hg s19 nlv Wv0 Fr0 Rp => nm_of ?_⟩
    have s20 : Same Hd Hg := (s15.trans s18).trans s19
    have hl : (hitsOf xs (perOf xs)).length = xs.length := by unfold hitsOf; simp
    have hM : ∀ x ∈ hitsOf xs (perOf xs), x ≤ 10000000 := fun x hx' => by
      unfold hitsOf at hx'
      obtain ⟨j, hj, rfl⟩ := List.mem_map.mp hx'
      have hj := List.mem_range.mp hj
      have bj := at_ j hj
      have mj := inc_le hx (a := 0) (b := j) (Nat.zero_le _) hj
      have := lastHit_small (xs := xs) (per := perOf xs) (B := 240) pp (i := j) (by omega) (by omega)
      have : Int.toNat 240 * xs.length ≤ 240 * 14 := Nat.mul_le_mul (by decide) h14
      omega
    have WP : WaveP xs.length (frOf xs) m rep := by
      have := waveP (hs := hitsOf xs (perOf xs)) (c := 0) (m := m) (rep := rep) (by omega) (by omega) (by omega) hM Fr0 (by rw [hl]; exact Rp)
      rwa [hl] at this
    obtain ⟨dw, vw, ew, _, _⟩ := id Wv0
    refine ⟨_, rfl, _, rfl, wv, dw, _, rfl, ew, wv, lv, _, _, m, rep, _, rfl, Wv0, WP, rfl, ?_⟩
    refine ⟨_, rfl, wv, dw, _, rfl, ew, wv, lv, _, _, m, rep, _, rfl, Wv0, WP, rfl, fun v5 Hh s21 hv5 => ?_⟩
    have W1 := Wv0.same s21
    refine ⟨_, rfl, wv, dw, _, rfl, s21 _ _ ew, rfl, wv, lv, _, _, m, rep, _, rfl, W1, WP, 50, rfl, by decide, fun Hi s22 => ?_⟩
    refine ⟨_, rfl, wv, dw, _, rfl, (s21.trans s22) _ _ ew, rfl, wv, lv, _, _, m, rep, _, rfl, W1.same s22, WP, 3, 0, rfl, by decide, h0, fun tk Hj s23 hTk => ?_⟩
    refine ⟨by show 4 ≤ sizeLine; decide, fun a8 n8 => ?_⟩
    have W8 := same_new (o := .lst [V.bl rep.isSome, v5, V.int ((frontA (frOf xs) m rep 50 : Nat) - (frOf xs 0 : Nat) + 1 : Int), optN tk]) n8
    refine ⟨by show 1 ≤ sizeLine; decide, fun l6 nl6 => ?_⟩
    have W6 := same_new (o := .lst [V.ref a8]) nl6
    have sF := ((s20.trans s21).trans s22).trans s23
    have sG := W8.trans W6
    refine ⟨l5, l6, _, _, rfl, rfl, (sF.trans sG) _ _ el5, upd_same, by show 8 + 1 ≤ sizeLine; decide, fun p np => ?_⟩
    have Wp := same_new (o := .lst ([V.ref a1, V.ref a2, V.ref a3, V.ref pz, V.ref a4, V.ref a5, V.ref a6, V.ref a7] ++ [V.ref a8])) np
    have sH := sF.trans (sG.trans Wp)
    have e8 := Wp _ _ (W6 _ _ (show (upd Hj a8 (.lst [V.bl rep.isSome, v5, V.int ((frontA (frOf xs) m rep 50 : Nat) - (frOf xs 0 : Nat) + 1 : Int), optN tk])) a8 = _ from upd_same))
    have n8' := Same.free (s14.trans sF) n8
    have sJ := s22.trans (s23.trans (sG.trans Wp))
    have dn : ∀ b o, Hd b = some o → b ≠ p := fun b o e z => by
      have := (sF.trans sG) _ _ e
      rw [z, np] at this
      cases this
    have d8 : a8 ≠ p := ne_of_none (W6 _ _ upd_same) np
    have hlf : (fallsL xs (allT xs.length) [(xs.length - 1, false)]).length = 1 := rfl
    have iv : ∀ l : List Nat, (ivs l).length = l.length := fun l => by unfold ivs; rw [List.length_map]
    have lpd : (pushed xs true).length ≤ xs.length := by unfold pushed; rw [List.length_map]; exact great_len xs true
    have lsp : (sparedL xs 0 true (xs.length - 1)).length ≤ xs.length := sparedL_len _ _ _ _
    have lfw := fewT_len xs h0 h14
    have lgs := tks.len
    have lts : ts.length = gs.length := by rw [paired_len prl, kvs_len]
    refine k p _ gs m rep tk _ (s14.trans sH) (Same.free ((s14.trans sF).trans sG) np) upd_same ⟨tks, Fr0, Rp, hTk⟩ ?_ ⟨?_, ?_⟩
    · refine .cons (.lst (SqL.of (sH _ _ e1)) (pairs_all (p1.same sH))) (.cons (ints_dp (SqL.of (sH _ _ e2))) (.cons (ints_dp (SqL.of (sH _ _ e3))) (.cons (.lst (SqL.of (sH _ _ epz)) (DpAll.same sH (falls_dp11 rel))) (.cons (.lst (SqL.of (sH _ _ e4)) (ints_all11 _)) (.cons (ints_dp (SqL.of (sH _ _ e5)))
        (.cons (.lst (SqL.of (sH _ _ e6)) (DpAll.same sH dp6)) (.cons (.lst (SqL.of (sH _ _ e7)) (.cons (.int _) .nil)) (.cons (.lst (SqL.of e8) (.cons (.bl _) (.cons ?_ (.cons (.int _) (.cons ?_ .nil))))) .nil))))))))
      · refine Dp.same sJ ?_
        cases rep with
        | some st =>
          obtain rfl : v5 = .non := hv5
          exact .non
        | none => exact prD_dp hv5
      · cases tk with
        | none => exact .non
        | some t => exact .int _
    · intro u hu
      simp only [List.cons_append, List.nil_append, List.mem_cons, List.not_mem_nil, or_false] at hu
      rcases hu with rfl | rfl | rfl | rfl | rfl | rfl | rfl | rfl | rfl
      · exact ⟨a1, _, rfl, n1, dn _ _ e1, sH _ _ e1, by rw [paired_len p1]; have := great_len xs false; omega⟩
      · exact ⟨a2, _, rfl, n2', dn _ _ e2, sH _ _ e2, by rw [iv]; omega⟩
      · exact ⟨a3, _, rfl, n3', dn _ _ e3, sH _ _ e3, by rw [iv]; omega⟩
      · exact ⟨pz, _, rfl, npz', dn _ _ epz, sH _ _ epz, by rw [paired_len rel, hlf]; decide⟩
      · exact ⟨a4, _, rfl, n4', dn _ _ e4, sH _ _ e4, by rw [List.length_map]; unfold lhL; rw [List.length_map, List.length_range]; omega⟩
      · exact ⟨a5, _, rfl, n5', dn _ _ e5, sH _ _ e5, by rw [iv]; exact lfw⟩
      · exact ⟨a6, _, rfl, n6', dn _ _ e6, sH _ _ e6, by rw [List.length_map, lts]; omega⟩
      · exact ⟨a7, _, rfl, n7', dn _ _ e7, sH _ _ e7, by show 1 ≤ 1000; decide⟩
      · exact ⟨a8, _, rfl, n8', d8, e8, by show 4 ≤ 1000; decide⟩
    · have rel : Paired (LstAt H Hd) ys [fellL xs (allT xs.length) (xs.length - 1) false] := rel
      cases rel with
      | cons h t =>
        cases t
        obtain ⟨y, rfl, hy0, hy⟩ := h
        exact ⟨pz, y, [], _, rfl, sH _ _ epz, hy0, dn _ _ hy, sH _ _ hy, by rw [iv]; have := fellL_len xs (allT xs.length) (xs.length - 1) false; omega⟩
end
/-! ### k11's law -/
theorem ToldS.one {xs : List (Int × Int)} {gs gs' : List (Nat × Nat)} {m m' : Nat} {rep rep' : Option (Nat × Nat)} {tk tk' : Option Nat} (h : ToldS xs gs m rep tk) (h' : ToldS xs gs' m' rep' tk') : gs = gs' ∧ m = m' ∧ rep = rep' ∧ tk = tk' := by
  obtain rfl := h.f.one h'.f
  obtain rfl := h.r.one h'.r
  refine ⟨?_, rfl, rfl, h.k.one h'.k⟩
  have nd : ∀ {gs : List (Nat × Nat)}, gs.Pairwise (fun a b => a.1 < b.1) → gs.Nodup := fun h => h.imp fun q e => by rw [e] at q; exact Nat.lt_irrefl _ q
  have p : gs.Perm gs' := (List.perm_ext_iff_of_nodup (nd h.t.up) (nd h'.t.up)).mpr fun q => by obtain ⟨j, u⟩ := q; rw [h.t.has, h'.t.has]
  exact p.eq_of_pairwise (fun a b _ _ q1 q2 => absurd (Nat.lt_trans q1 q2) (Nat.lt_irrefl _)) h.t.up h'.t.up
theorem alk_int {n : Nat} {i : Int} : Alk n (.int i) := by
  cases n with
  | zero => exact .inl ⟨i, rfl⟩
  | succ n => exact .inl (.inl ⟨i, rfl⟩)
theorem alk_bool {n : Nat} {b : Bool} : Alk n (.bool b) := by
  cases n with
  | zero => exact .inr (.inl ⟨b, rfl⟩)
  | succ n => exact .inl (.inr (.inl ⟨b, rfl⟩))
theorem alk_none {n : Nat} : Alk n .none := by
  cases n with
  | zero => exact .inr (.inr rfl)
  | succ n => exact .inl (.inr (.inr rfl))
theorem alk_list {α : Type} {n : Nat} {l : List α} {f : α → PyData} (hl : l.length ≤ 1000) (h : ∀ x ∈ l, Alk n (f x)) : Alk (n + 1) (.list (l.map f)) := .inr ⟨_, .inl rfl, by rw [List.length_map]; exact hl, fun e he => by
  obtain ⟨x, hx, rfl⟩ := List.mem_map.mp he
  exact h x hx⟩
theorem alk_ints11 {n : Nat} {l : List Nat} (hl : l.length ≤ 1000) : Alk (n + 1) (intD l) := alk_list hl fun _ _ => alk_int
theorem alk_prD {n : Nat} (p : Nat × Nat) : Alk (n + 1) (prD p) := .inr ⟨_, .inr rfl, by show 2 ≤ 1000; decide, fun e he => by
  simp only [List.mem_cons, List.not_mem_nil, or_false] at he
  rcases he with rfl | rfl
  · exact alk_int
  · exact alk_int⟩
theorem alk_stD {n : Nat} (p : Int × Int) : Alk (n + 1) (stD p) := .inr ⟨_, .inr rfl, by show 2 ≤ 1000; decide, fun e he => by
  simp only [List.mem_cons, List.not_mem_nil, or_false] at he
  rcases he with rfl | rfl
  · exact alk_int
  · exact alk_int⟩
theorem told_alk {xs : List (Int × Int)} {gs : List (Nat × Nat)} {m : Nat} {rep : Option (Nat × Nat)} {tk : Option Nat} (hx : xs.length ≤ 40) (h : ToldS xs gs m rep tk) (lfw : ((fewT xs (xs.length - 1) 0 false).getD []).length ≤ 1000) : Alk 3 (.list (toldL xs gs m rep tk)) := by
  have h1 := great_len xs false
  have h2 := great_len xs true
  have h3 := sparedL_len xs 0 true (xs.length - 1)
  have h4 := h.t.len
  refine .inr ⟨_, .inl rfl, by show 9 ≤ 1000; decide, fun e he => ?_⟩
  unfold toldL at he
  simp only [List.mem_cons, List.not_mem_nil, or_false] at he
  rcases he with rfl | rfl | rfl | rfl | rfl | rfl | rfl | rfl | rfl
  · exact alk_list (by omega) fun p _ => alk_prD p
  · exact alk_ints11 (by unfold pushed; rw [List.length_map]; omega)
  · exact alk_ints11 (by omega)
  · exact alk_list (by show 1 ≤ 1000; decide) fun l hl => by
      have hl : l ∈ [fellL xs (allT xs.length) (xs.length - 1) false] := hl
      rw [List.mem_singleton.mp hl]
      exact alk_ints11 (by have := fellL_len xs (allT xs.length) (xs.length - 1) false; omega)
  · exact alk_list (by unfold lhL; rw [List.length_map, List.length_range]; omega) fun _ _ => alk_int
  · exact alk_ints11 lfw
  · exact alk_list (by rw [List.length_map]; omega) fun p _ => alk_stD p
  · exact .inr ⟨_, .inl rfl, by show 1 ≤ 1000; decide, fun e he => by rw [List.mem_singleton.mp he]; exact alk_int⟩
  · exact .inr ⟨_, .inl rfl, by show 4 ≤ 1000; decide, fun e he => by
      simp only [List.mem_cons, List.not_mem_nil, or_false] at he
      rcases he with rfl | rfl | rfl | rfl
      · exact alk_bool
      · cases rep with
        | some st => exact alk_none
        | none => exact alk_prD _
      · exact alk_int
      · cases tk with
        | none => exact alk_none
        | some t => exact alk_int⟩
/-- rows as the law makes them -/
def Good11 (xs : List (Int × Int)) : Prop := Wf 0 xs ∧ 0 < xs.length ∧ xs.length ≤ 14 ∧ ∀ x ∈ xs, x.1 ≤ 200 ∧ x.2 ≤ 40
theorem Wf.shift {d : Int} (hd : 0 ≤ d) : ∀ {xs : List (Int × Int)} {lo lo' : Int}, Wf lo xs → lo' ≤ lo + d → (∀ x ∈ xs, x.1 + d ≤ 1000000000) → Wf lo' (xs.map fun x => (x.1 + d, x.2))
  | [], _, _, _, _, _ => True.intro
  | x :: xs, lo, lo', w, h, hb => ⟨by have := w.1; show lo' ≤ x.1 + d; omega, hb x List.mem_cons_self, w.2.2.1, w.2.2.2.1, Wf.shift hd w.2.2.2.2 (by show x.1 + d + 1 ≤ x.1 + 1 + d; omega) fun y hy => hb y (List.mem_cons_of_mem _ hy)⟩
theorem good_of {xs : List (Int × Int)} {t : Int} (w : Wf 0 xs) (hd : Drawn xs) (hl : xs.length ≤ 7) (t0 : 0 ≤ t) (t1 : t < 9) : Good11 ((0, 1 + t) :: xs.map fun x => (x.1 + 3, x.2)) := by
  have hb : ∀ x ∈ xs, x.1 ≤ 72 ∧ 1 ≤ x.2 ∧ x.2 ≤ 40 := fun x hx => by have := hd x hx; omega
  refine ⟨⟨Int.le_refl _, by show (0 : Int) ≤ 1000000000; decide, by show 1 ≤ 1 + t; omega, by show 1 + t ≤ 1000000000; omega, Wf.shift (by decide) w (by show (0 : Int) + 1 ≤ 0 + 3; decide) fun x hx => by have := hb x hx; omega⟩, Nat.zero_lt_succ _, by rw [List.length_cons, List.length_map]; omega, fun x hx => ?_⟩
  rcases List.mem_cons.mp hx with rfl | hx
  · exact ⟨by show (0 : Int) ≤ 200; decide, by show 1 + t ≤ 40; omega⟩
  · obtain ⟨y, hy, rfl⟩ := List.mem_map.mp hx
    have := hb y hy
    exact ⟨by show y.1 + 3 ≤ 200; omega, this.2.2⟩
/-- what was kept of a row: new since the dice, never changed -/
def KeptAt (K : PySem.W.Frag) (L0 : Addr) (G : Hp) (v : V) (xs : List (Int × Int)) : Prop := ∃ gs m rep tk N, ToldS xs gs m rep tk ∧ N L0 = none ∧ Dp K N v (.list (toldL xs gs m rep tk)) ∧ Same N G
theorem KeptAt.same {K : PySem.W.Frag} {L0 : Addr} {G G' : Hp} {v : V} {xs : List (Int × Int)} (h : KeptAt K L0 G v xs) (s : Same G G') : KeptAt K L0 G' v xs := let ⟨a, b, c, d, N, h1, h2, h3, h4⟩ := h; ⟨a, b, c, d, N, h1, h2, h3, h4.trans s⟩
theorem KeptAt.but {K : PySem.W.Frag} {L0 : Addr} {G G' : Hp} {v : V} {xs : List (Int × Int)} (h : KeptAt K L0 G v xs) (s : But L0 G G') : KeptAt K L0 G' v xs := let ⟨a, b, c, d, N, h1, h2, h3, h4⟩ := h; ⟨a, b, c, d, N, h1, h2, h3, fun x o e => s x o (ne_of_none e h2) (h4 x o e)⟩
theorem Drw.two {K : PySem.W.Frag} {H H' : Hp} {L a l : Addr} {ns : List Int} {zs : List V} (h : Drw K H L a ns) (e : H l = some (.lst zs)) (ne : l ≠ L) (b : But l H H') (na : l ≠ a ∨ ∀ G, SqL K G a (ns.map V.int)) : Drw K H' L a ns := by
  obtain ⟨i, s, r, h1, h2, h3, h4, h5⟩ := h
  refine ⟨i, s, r, b _ _ (Ne.symm ne) h1, h2, h3, h4, ?_⟩
  rcases na with na | na
  · skip
    rcases h5 with (h | ⟨o, h⟩) | h
    · exact .inl (.inl (b _ _ (Ne.symm na) h))
    · exact .inl (.inr ⟨o, b _ _ (Ne.symm na) h⟩)
    · exact .inr h
  · exact na _
theorem drw_far {K : PySem.W.Frag} {H : Hp} {L a l : Addr} {ns : List Int} (h : Drw K H L a ns) (n : H l = none) : l ≠ a ∨ ∀ G, SqL K G a (ns.map V.int) := by
  obtain ⟨_, _, _, _, _, _, _, h5⟩ := h
  have tr : ∀ o, H a = some o → l ≠ a := fun o h e => by rw [← e, n] at h; cases h
  rcases h5 with (h | ⟨o, h⟩) | h
  · exact .inl (tr _ h)
  · exact .inl (tr _ h)
  · exact .inr fun G => .inr h
def RowV (K : PySem.W.Frag) (C : Addr) (G : Hp) (v : V) (xs : List (Int × Int)) : Prop := ∃ z, v = .ref z ∧ RowAt K C G z xs ∧ Good11 xs
def spLaw (K : PySem.W.Frag) : Sp := fun vs H Q _ => ∃ (a : Addr) (ns : List Int), vs = [.ref a] ∧ SqL K H a (ns.map V.int) ∧ ns.length ≤ 63 ∧ ∀ H', Q (.bl true) H'
def scRow11 : Scope := { kind := .function, names := [(".0", .local), ("_law_k", .local), ("_law_row", .globalImplicit), ("_law_taken", .globalImplicit), ("_law_stones", .globalImplicit), ("_law_row_here", .cell)], isGenerator := false, isCoroutine := false }
section
variable {P : Program} {w : World} {K : PySem.W.Frag} {mg : Str → Option Value} {base : Heap}
theorem ok_law {f C f1 f2 f3 f4 f5 f6 f7 : Addr} {fd d1 d2 d3 d4 d5 d6 d7 : FuncData} (F : Fun K "law" "law" s_law f fd) (B : Blt mg)
    (T1 : At P w K mg base CX0 1 "_law_taken" ["_law_row_here", "_law_many"] (spTaken K) f1 d1) (S2 : At P w K mg base CX0 2 "_law_stones" ["_law_row_here", "_law_most"] (spStones K) f2 d2) (R6 : At P w K mg base CX0 6 "_law_row" ["_law_stones_here"] (spRow K C) f3 d3)
    (T9 : At P w K mg base CX0 9 "_law_told" ["_law_one"] (spTold K C) f4 d4) (K4 : At P w K mg base CX0 4 "_law_kept" ["_law_thing"] (spKept K 3) f5 d5) (A4 : At P w K mg base CX0 4 "_law_alike" ["_law_one", "_law_due"] (spAlike K 3) f6 d6)
    (N6 : At P w K mg base CX0 3 "fall_ticks" ["row", "stone", "side"] (spTicks K C) f7 d7) : FnOk P w K mg base CX0 10 f fd ["_law_script"] (spLaw K) := by
  refine F.ok sc_law (fun vs H Q E h => ?_) (fun cdv A outer s H vs Q E hr h => ?_)
  · obtain ⟨a, ns, rfl, _⟩ := h
    rfl
  · obtain ⟨a, ns, rfl, hs, hn, k⟩ := h
    have hu64 := hr.units
    have r6 : Room 6 _ := hr.mono (by decide)
    have r4 : Room 4 _ := hr.mono (by decide)
    have r3 : Room 3 _ := hr.mono (by decide)
    have r2 : Room 2 _ := hr.mono (by decide)
    have r1 : Room 1 _ := hr.mono (by decide)
    refine ⟨_, pss_cons (ps_set (i := 1) sc_law.nd rfl (Or.inr rfl) (pe_lst (pa_cons (pv 0) (pa_cons (pe_int) (pa_cons (pe_int) (pa_cons (pe_int) pa_nil))))))
      (pss_cons (ps_setLc (i := 2) (own := [("_law_k", 5)]) (g := gName 5) (tt := tYes) rfl sc_law.nd rfl rfl (sw_true rfl rfl rfl (by decide +kernel)) (pi_range1 (by rfl) B.range (pa_cons (pe_int) pa_nil)) (blkOk_by (N := n_law) (sc := defScope s_law) (by decide +kernel))
        (fun _ _ _ _ _ => pg_name (i := 5) sc_law.nd rfl (Or.inl rfl)) (fun _ _ _ _ _ => pts_nil)
        (fun _ _ _ _ _ => (show PE _ _ (tCall (spRow K C) [] E0 (tCons (tOp rCat (tLst (tCons (tTup (tCons (tC (.int 0)) (tCons (tOp (rI0 fun i j => .int (i + j)) (tC (.int 1)) (tCall (spTaken K) [] E0 (tCons (tVar 1) (tCons (tC (.int 9)) tNil)))) tNil))) tNil)) (tLc (iList K (tCall (spStones K) [] E0 (tCons (tVar 1) (tCons (tC (.int 7)) tNil)))) (gTup K 2 (gCons (gName 3) (gCons (gName 4) gNil))) tYes (tTup (tCons (tOp (rI0 fun i j => .int (i + j)) (tVar 3) (tC (.int 3))) (tCons (tVar 4) tNil))) [3, 4])) tNil)) from
          pe_at R6 r6 (pa_cons (pe_op op_cat (pe_lst (pa_cons (pe_tup (pa_cons (pe_int) (pa_cons (pe_op op_add (pe_int) (pe_at T1 r1 (pa_cons (pv 1) (pa_cons (pe_int) pa_nil)))) pa_nil))) pa_nil)) (pe_lc (own := [("_law_p", 3), ("_law_h", 4)]) (g := gTup K 2 (gCons (gName 3) (gCons (gName 4) gNil))) (tt := tYes) rfl sc_law.nd (pi_list (pe_at S2 r2 (pa_cons (pv 1) (pa_cons (pe_int) pa_nil)))) (blkOk_by (N := n_law) (sc := scRow11) (by decide +kernel))
            (fun _ _ _ _ _ => (show PG _ _ (gTup K 2 (gCons (gName 3) (gCons (gName 4) gNil))) from pg_tup rfl (pgs_cons (pg_name (i := 3) sc_law.nd rfl (Or.inl rfl)) (pgs_cons (pg_name (i := 4) sc_law.nd rfl (Or.inl rfl)) pgs_nil)))) (fun _ _ _ _ _ => pts_nil) (fun _ _ _ _ _ => pe_tup (pa_cons (pe_op op_add (pv 3) (pe_int)) (pa_cons (pv 4) pa_nil))))) pa_nil))))
      (pss_cons (ps_setLc (i := 6) (own := [("_law_one", 7)]) (g := gName 7) (tt := tYes) rfl sc_law.nd rfl rfl (sw_true rfl rfl rfl (by decide +kernel)) (pi_list (pv 2)) (blkOk_by (N := n_law) (sc := defScope s_law) (by decide +kernel))
        (fun _ _ _ _ _ => pg_name (i := 7) sc_law.nd rfl (Or.inl rfl)) (fun _ _ _ _ _ => pts_nil) (fun _ _ _ _ _ => (show PE _ _ (tCall (spKept K 3) [] E0 (tCons (tCall (spTold K C) [] E0 (tCons (tVar 7) tNil)) tNil)) from pe_at K4 r4 (pa_cons (pe_at T9 hr (pa_cons (pv 7) pa_nil)) pa_nil))))
      (pss_cons (ps_for PassesOwn.never rfl (pi_range1 (by rfl) B.range (pa_cons (pe_at T1 r1 (pa_cons (pv 1) (pa_cons (pe_int) pa_nil))) pa_nil)) (pg_name (i := 8) sc_law.nd rfl (Or.inl rfl))
        (pss_cons (ps_set (i := 5) sc_law.nd rfl (Or.inl rfl) (pe_at T1 r1 (pa_cons (pv 1) (pa_cons (pe_int) pa_nil))))
        (pss_cons (ps_set (i := 9) sc_law.nd rfl (Or.inl rfl) (pe_at T9 hr (pa_cons (pe_ix ix_list (pv 2) (pv 5) (fun _ _ => rfl)) pa_nil)))
        (pss_cons (ps_if (pt_not (pt_val (pe_at A4 r4 (pa_cons (pv 9) (pa_cons (pe_ix ix_list (pv 6) (pv 5) (fun _ _ => rfl)) pa_nil))))) (pss_one (ps_ret pe_bl)) pss_nil)
        (pss_cons (ps_expr (pe_bm0 PySem.F.plainAttrs_dict PySem.F.slot_dict_clear PySem.F.type_dict_clear mtd_clear (pe_at N6 r3 (pa_cons (pe_ix ix_list (pv 2) (pv 5) (fun _ _ => rfl)) (pa_cons (pe_int) (pa_cons (pe_str) pa_nil))))))
        (pss_cons (ps_expr (pe_bm PySem.F.plainAttrs_list PySem.F.slot_list_append PySem.F.type_list_append mt_append (pe_ix ix_list (pe_ix ix_list (pv 9) (pe_int) (fun _ _ => rfl)) (pe_int) (fun _ _ => rfl)) (pa_cons (pe_int) pa_nil)))
        (pss_one (ps_for PassesOwn.never rfl (pi_list (pv 9)) (pg_name (i := 10) sc_law.nd rfl (Or.inl rfl))
          (pss_cons (ps_expr (pe_bm PySem.F.plainAttrs_list PySem.F.slot_list_append PySem.F.type_list_append mt_append (pv 10) (pa_cons (pe_int) pa_nil)))
          (pss_one (ps_expr (pe_bm0 PySem.F.plainAttrs_list PySem.F.slot_list_reverse PySem.F.type_list_reverse mt_reverse (pv 10)))))))))))))
      (pss_one (ps_ret pe_bl))))), ?_⟩
    refine ⟨_, rfl, by show 4 ≤ sizeLine; decide, fun L0 nL => ?_⟩
    have D0 : Drw K (upd H L0 (.lst [.ref a, .int 0, .int 0, .int 0])) L0 a ns := ⟨0, 0, 0, upd_same, by decide, by decide, by decide, (same_new nL).seq hs⟩
    generalize upd H L0 (.lst [.ref a, .int 0, .int 0, .int 0]) = H1 at D0
    refine nm_of ?_
    clear nL hs
    -- the rows
    refine ⟨2, rfl, by decide, by decide, fun DR nDR => ?_⟩
    have far := drw_far D0 nDR
    have DRL : DR ≠ L0 := fun e => by obtain ⟨y, h⟩ := D0.cell.list; rw [e, h] at nDR; cases nDR
    refine lc_it (walk_range (lo := 0) (n := 2)) (fun i G => Drw K G L0 a ns ∧ ∃ zs xss, G DR = some (.lst zs) ∧ zs.length = i ∧ Paired (RowV K C G) zs xss) ⟨D0.up (same_new nDR), [], [], upd_same, rfl, .nil⟩ (fun _ _ _ _ => True.intro) ?_ ?_
    · rintro i x G G' hi ⟨DG, zs, xss, eG, lz, hz⟩ ⟨rfl, hxx⟩
      refine ⟨rfl, _, rfl, L0, a, ns, 9, rfl, by decide, by decide, DG, fun t G1 t0 t1 D1 b1 => ?_⟩
      refine ⟨_, _, rfl, rfl, by show 2 ≤ sizeLine; decide, fun T0 nT0 => ⟨by show 1 ≤ sizeLine; decide, fun l0 nl0 => ?_⟩⟩
      have s1 := same_new (o := .tup [V.int 0, V.int (1 + t)]) nT0
      have s2 := s1.trans (same_new (o := .lst [V.ref T0]) nl0)
      have D2 := D1.up s2
      have eT0 : (upd (upd G1 T0 (.tup [V.int 0, V.int (1 + t)])) l0 (.lst [V.ref T0])) T0 = some (.tup [V.int 0, V.int (1 + t)]) := same_new nl0 _ _ upd_same
      have el0 : (upd (upd G1 T0 (.tup [V.int 0, V.int (1 + t)])) l0 (.lst [V.ref T0])) l0 = some (.lst [V.ref T0]) := upd_same
      have l0L : l0 ≠ L0 := fun e => by obtain ⟨y, h⟩ := (D1.up s1).cell.list; rw [e, h] at nl0; cases nl0
      have T0L : T0 ≠ L0 := by obtain ⟨y, h⟩ := D1.cell.list; exact (ne_of_none h nT0).symm
      generalize upd (upd G1 T0 (.tup [V.int 0, V.int (1 + t)])) l0 (.lst [V.ref T0]) = G2 at s2 D2 eT0 el0 ⊢
      refine ⟨_, rfl, L0, a, ns, 7, rfl, by decide, by decide, D2, fun sl us xs G3 D3 b3 nsl esl hS hw hd hl => ?_⟩
      have eT3 := b3 _ _ T0L eT0
      have el3 := b3 _ _ l0L el0
      refine ⟨sl, rfl, ⟨_, SqL.of esl⟩, fun D5 nD5 => ?_⟩
      have lx : us.length = xs.length := hS.1
      refine lc_fm (walk_list (K := K) (a := sl) (xs := us)) xs (fun _ => true) (fun x => (x.1 + 3, x.2)) (fun G v (x : Int × Int) => ∃ b : Addr, v = .ref b ∧ SqT K G b [.int x.1, .int x.2]) lx.symm (by omega) nD5 (fun H H' v b acc hD bt ⟨c, h1, h2⟩ => ⟨c, h1, sqT_but h2 hD bt⟩) (fun G e => e.seq (SqL.of esl)) ?_ ?_
      · rintro j y x G4 G5 N5 M5 hj sm _ ⟨rfl, hx⟩ _ go
        obtain ⟨c, hc, hsc⟩ := hS.2 j y hj
        obtain rfl := Option.some.inj (hx.symm.trans hc)
        refine ⟨c, _, rfl, sqT_same hsc sm, rfl, _, _, rfl, _, _, rfl, rfl, rfl, ?_⟩
        refine ⟨_, rfl, _, _, rfl, rfl, _, rfl, by show 2 ≤ sizeLine; decide, fun t5 nt5 => ?_⟩
        exact go _ _ rfl (same_new nt5) ⟨t5, rfl, SqT.of upd_same⟩
      · intro G4 ys sm eD5 rel
        rw [List.filter_eq_self.mpr (fun _ _ => rfl)] at rel
        have el4 := sm _ _ el3
        refine ⟨l0, D5, _, _, rfl, rfl, el4, eD5, by rw [paired_len rel, List.length_map, sizeLine_eq]; show 1 + xs.length ≤ _; omega, fun l6 nl6 => ?_⟩
        have s6 := same_new (o := .lst ([V.ref T0] ++ ys)) nl6
        have hS6 : StonesAt K (upd G4 l6 (.lst ([V.ref T0] ++ ys))) ([V.ref T0] ++ ys) ((0, 1 + t) :: xs.map fun x => (x.1 + 3, x.2)) := by
          refine StonesAt.append (xs := [(0, 1 + t)]) (StonesAt.one (SqT.of (s6 _ _ (sm _ _ eT3)))) ⟨paired_len rel, fun k x hk => ?_⟩
          obtain ⟨v, hv, c, rfl, hc⟩ := paired_at rel hk
          exact ⟨c, hv, sqT_same hc s6⟩
        have good := good_of hw hd (by omega) t0 t1
        refine ⟨l6, _, _, rfl, SqL.of upd_same, hS6, good.1, by have := good.2.2.1; omega, fun z G7 s7 nz rz => ?_⟩
        obtain ⟨yL, eL⟩ := DG.cell.list
        obtain ⟨yL2, eL2⟩ := D2.cell.list
        have s37 := (sm.trans s6).trans s7
        have e7 : G7 DR = some (.lst zs) := s37 _ _ (b3 _ _ DRL (s2 _ _ (b1 _ _ DRL eG)))
        have h7 : Paired (RowV K C G7) zs xss := paired_imp (fun _ _ r => let ⟨z, r1, r2, r3⟩ := r; ⟨z, r1, (((r2.but eL b1).same s2).but eL2 b3).same s37, r3⟩) hz
        have D7 := D3.up s37
        refine ⟨zs, e7, by rw [lz, sizeLine_eq]; omega, ?_, zs ++ [.ref z], xss ++ [(0, 1 + t) :: xs.map fun x => (x.1 + 3, x.2)], upd_same, by rw [List.length_append, lz]; rfl, ?_⟩
        · exact D7.two e7 DRL but_upd far
        · exact paired_snoc (paired_imp (fun _ _ r => let ⟨z, r1, r2, r3⟩ := r; ⟨z, r1, r2.but e7 but_upd, r3⟩) h7) ⟨z, rfl, rz.but e7 but_upd, good⟩
    · rintro G ⟨DG, zs, xss, eG, lz, hz⟩
      clear D0 far nDR
      -- what is kept
      refine ⟨_, rfl, DR, rfl, ⟨_, SqL.of eG⟩, fun DK nDK => ?_⟩
      have lxx := paired_len hz
      have DKL : DK ≠ L0 := fun e => by obtain ⟨y, h⟩ := DG.cell.list; rw [e, h] at nDK; cases nDK
      obtain ⟨yL, eL⟩ := DG.cell.list
      refine lc_fm (walk_list (K := K) (a := DR) (xs := zs)) xss (fun _ => true) (fun x => x) (fun G' v xs => ∃ gs m rep tk, ToldS xs gs m rep tk ∧ DpN K G DK G' v (.list (toldL xs gs m rep tk))) lxx.symm (by omega) nDK (fun _ _ _ _ _ _ b ⟨gs, m, rep, tk, r1, r2⟩ => ⟨gs, m, rep, tk, r1, r2.stab b⟩) (fun G' e => e.seq (SqL.of eG)) ?_ ?_
      · rintro i xs x G1 G2 N1 M1 hj sm nn ⟨rfl, hx⟩ _ go
        obtain ⟨v, hv, z, rfl, rz, good⟩ := paired_at hz hj
        obtain rfl := Option.some.inj (hx.symm.trans hv)
        refine ⟨rfl, _, rfl, z, xs, rfl, rz.same sm, good.1, good.2.1, good.2.2.1, good.2.2.2, fun p zs' gs m rep tk G3 s3 np ep hT hD _ => ?_⟩
        refine ⟨_, _, rfl, .lst (SqL.of ep) hD, told_alk (by have := good.2.2.1; omega) hT (fewT_len xs good.2.1 good.2.2.1), fun v' G4 s4 dv => go _ _ rfl (s3.trans s4) ⟨gs, m, rep, tk, hT, ?_⟩⟩
        refine kept_step sm nn (Dp.same (fun b o e => ?_) dv)
        obtain ⟨n1, e1⟩ := newOf_some e
        exact newOf_at (Same.free s3 n1) e1
      · intro G1 ks sm eK rel
        rw [List.filter_eq_self.mpr (fun _ _ => rfl), List.map_id'] at rel
        have D1 := DG.up sm
        have eR1 := sm _ _ eG
        have hz1 : Paired (RowV K C G1) zs xss := paired_imp (fun _ _ ⟨z, r1, r2, r3⟩ => ⟨z, r1, r2.same sm, r3⟩) hz
        have hk1 : Paired (KeptAt K L0 G1) ks xss := paired_imp (fun _ _ ⟨gs, m, rep, tk, r1, N, q1, q2, q3, q4⟩ => ⟨gs, m, rep, tk, N, r1, (by
          cases h : N L0 with
          | none => rfl
          | some o => rw [q2 _ _ h] at eL; cases eL), q3, q4⟩) rel
        have DKR : DR ≠ L0 := DRL
        clear sm rel hz eG DG nDK eL
        -- the turns
        refine ⟨_, rfl, L0, a, ns, 9, rfl, by decide, by decide, D1, fun n G2 n0 n1 D2 b2 => ?_⟩
        obtain ⟨yL, eL⟩ := D1.cell.list
        have eR2 := b2 _ _ DRL eR1
        have eK2 := b2 _ _ DKL eK
        have hz2 : Paired (RowV K C G2) zs xss := paired_imp (fun _ _ ⟨z, r1, r2, r3⟩ => ⟨z, r1, r2.but eL b2, r3⟩) hz1
        have hk2 := paired_imp (fun _ _ r => KeptAt.but r b2) hk1
        clear D1 eR1 eK hz1 hk1 b2 eL
        refine ⟨n, rfl, by omega, by omega, for_range (lo := 0) (n := n.toNat) (fun j σ G => ∃ s3 s4 s5 s7 s8 s9 s10 : Option V, σ = [some (.ref a), some (.ref L0), some (.ref DR), s3, s4, s5, some (.ref DK), s7, s8, s9, s10] ∧ Drw K G L0 a ns ∧ G DR = some (.lst zs) ∧ G DK = some (.lst ks) ∧ Paired (RowV K C G) zs xss ∧ Paired (KeptAt K L0 G) ks xss) ?_ ?_ ?_⟩
        · exact ⟨_, _, _, _, _, _, _, rfl, D2, eR2, eK2, hz2, hk2⟩
        · rintro j σ G hj ⟨s3, s4', s5, s7, s8, s9, s10, rfl, DG, eR, eK, hz, hk⟩
          obtain ⟨yL, eL⟩ := DG.cell.list
          refine nm_of ?_
          refine ⟨_, rfl, L0, a, ns, 2, rfl, by decide, by decide, DG, fun kk G3 k0 k1 D3 b3 => ?_⟩
          have eR3 := b3 _ _ DRL eR
          have eK3 := b3 _ _ DKL eK
          have hz3 : Paired (RowV K C G3) zs xss := paired_imp (fun _ _ ⟨z, r1, r2, r3⟩ => ⟨z, r1, r2.but eL b3, r3⟩) hz
          have hk3 := paired_imp (fun _ _ r => KeptAt.but r b3) hk
          clear DG eR eK hz hk b3 eL
          obtain ⟨kn, rfl⟩ : ∃ kn : Nat, kk = (kn : Int) := ⟨kk.toNat, by omega⟩
          refine nm_of ?_
          obtain ⟨xs, hxs⟩ : ∃ xs, xss[kn]? = some xs := ⟨xss[kn]'(by omega), by simp⟩
          obtain ⟨v, hv, z, rfl, rz, good⟩ := paired_at hz3 hxs
          obtain ⟨u, hu, gs0, m0, rep0, tk0, N0, hT0, hN0, hD0, sN0⟩ := paired_at hk3 hxs
          -- told anew
          refine ⟨_, rfl, _, rfl, DR, zs, ((kn : Nat) : Int), _, rfl, rfl, SqL.of eR3, atI_nat hv, z, xs, rfl, rz, good.1, good.2.1, good.2.2.1, good.2.2.2, fun p ps gs m rep tk G4 s4 np ep hT hD new => ?_⟩
          refine nm_of ?_
          obtain ⟨rfl, rfl, rfl, rfl⟩ := hT0.one hT
          have hal : Alk 3 (.list (toldL xs gs0 m0 rep0 tk0)) := told_alk (by have := good.2.2.1; omega) hT (fewT_len xs good.2.1 good.2.2.1)
          refine ⟨_, rfl, _, rfl, _, rfl, DK, ks, ((kn : Nat) : Int), _, rfl, rfl, SqL.of (s4 _ _ eK3), atI_nat hu, _, _, _, rfl, .lst (SqL.of ep) hD, Dp.same (sN0.trans s4) hD0, hal, fun G5 s5 => ⟨_, rfl, iteF ?_⟩⟩
          have s35 := s4.trans s5
          -- the ticks' own dict
          refine ⟨_, rfl, _, rfl, DR, zs, ((kn : Nat) : Int), _, rfl, rfl, SqL.of (s35 _ _ eR3), atI_nat hv, z, xs, 0, true, rfl, rz.same s35, good.1, by have := good.2.2.1; omega, good.2.1, fun dt gt G6 s6 nd ed _ => ?_⟩
          refine ⟨.inr (.inr (.inl ⟨rfl, .inl ⟨_, ed⟩⟩)), dt, kvs gt, rfl, rfl, ed, ?_⟩
          have s56 : Same G5 (upd G6 dt (.dK [])) := fun b o e => by
            rw [upd_ne (ne_of_none e nd)]
            exact s6 _ _ e
          have s46 := s5.trans s56
          have ep6 := s46 _ _ ep
          have all6 : ∀ u ∈ ps, ∃ b ys, u = .ref b ∧ G3 b = none ∧ b ≠ p ∧ (upd G6 dt (.dK [])) b = some (.lst ys) ∧ ys.length ≤ 1000 := fun u hu => by
            obtain ⟨b, ys, h1, h2, h3, h4, h5⟩ := new.all u hu
            exact ⟨b, ys, h1, h2, h3, s46 _ _ h4, h5⟩
          obtain ⟨b3, y, yt, ws, h3, eb3, ny, nyp, ey, lws⟩ := new.one
          have eb6 := s46 _ _ eb3
          have ey6 := s46 _ _ ey
          have s36 := s4.trans s46
          generalize upd G6 dt (.dK []) = G7 at s36 ep6 all6 eb6 ey6 ⊢
          have lps : ps.length = 9 := DpAll.len hD
          clear new eb3 ey hD s46 s56 s6 nd ed s5 s35 ep hN0 hD0 sN0 hT hT0 hal
          -- a part of a part grows
          refine ⟨_, rfl, p, ps, ((3 : Nat) : Int), _, rfl, rfl, SqL.of ep6, atI_nat h3, b3, _, ((0 : Nat) : Int), _, rfl, rfl, SqL.of eb6, atI_nat (j := 0) rfl, .inl ⟨rfl, _, SqL.of ey6⟩, y, ws, _, rfl, rfl, ey6, by rw [sizeLine_eq]; omega, ?_⟩
          have s37 : Same G3 (upd G7 y (.lst (ws ++ [.int 5]))) := fun b o e => by
            rw [upd_ne (ne_of_none e ny)]
            exact s36 _ _ e
          have ep7 : (upd G7 y (.lst (ws ++ [.int 5]))) p = some (.lst ps) := by rw [upd_ne (Ne.symm nyp)]; exact ep6
          have all7 : ∀ u ∈ ps, ∃ b ys, u = .ref b ∧ G3 b = none ∧ b ≠ p ∧ (upd G7 y (.lst (ws ++ [.int 5]))) b = some (.lst ys) ∧ ys.length ≤ 1001 := fun u hu => by
            obtain ⟨b, ys, h1, h2, h3, h4, h5⟩ := all6 u hu
            by_cases e : b = y
            · subst e
              exact ⟨b, _, h1, h2, h3, upd_same, by rw [List.length_append]; show ws.length + 1 ≤ 1001; omega⟩
            · exact ⟨b, ys, h1, h2, h3, by rw [upd_ne e]; exact h4, by omega⟩
          generalize upd G7 y (.lst (ws ++ [.int 5])) = G8 at s37 ep7 all7 ⊢
          -- every part grows and is turned
          refine ⟨_, rfl, p, rfl, ⟨_, SqL.of ep7⟩, for_list (K := K) (a := p) (xs := ps) (fun i σ G => ∃ s10 : Option V, σ = [some (.ref a), some (.ref L0), some (.ref DR), s3, s4', some (.int (kn : Nat)), some (.ref DK), s7, some (.int (0 + (j : Nat))), some (.ref p), s10] ∧ Same G3 G ∧ G p = some (.lst ps) ∧ ∀ u ∈ ps, ∃ b ys, u = .ref b ∧ G3 b = none ∧ b ≠ p ∧ G b = some (.lst ys) ∧ ys.length ≤ 1001 + i) ?_ ?_ ?_ ?_⟩
          · exact ⟨_, rfl, s37, ep7, all7⟩
          · rintro i σ G _ ⟨_, _, _, e, _⟩
            exact SqL.of e
          · rintro i u σ G hu ⟨s10, rfl, s38, ep8, all8⟩
            have hi : i < 9 := by rw [← lps]; exact (List.getElem?_eq_some_iff.mp hu).1
            obtain ⟨b, ys, rfl, nb, nbp, eb, lys⟩ := all8 u (List.mem_of_getElem? hu)
            refine nm_of ?_
            refine ⟨_, rfl, .inl ⟨rfl, _, SqL.of eb⟩, b, ys, _, rfl, rfl, eb, by rw [sizeLine_eq]; omega, ?_⟩
            refine ⟨_, rfl, .inl ⟨rfl, _, SqL.of upd_same⟩, b, _, rfl, rfl, upd_same, ?_⟩
            rw [upd_upd]
            refine ⟨_, rfl, fun c o e => ?_, ?_, fun u' hu' => ?_⟩
            · rw [upd_ne (ne_of_none e nb)]
              exact s38 _ _ e
            · rw [upd_ne (Ne.symm nbp)]
              exact ep8
            · obtain ⟨b', ys', h1, h2, h3, h4, h5⟩ := all8 u' hu'
              by_cases e : b' = b
              · subst e
                exact ⟨b', _, h1, h2, h3, upd_same, by rw [List.length_reverse, List.length_append]; show ys.length + 1 ≤ 1001 + (i + 1); omega⟩
              · exact ⟨b', ys', h1, h2, h3, by rw [upd_ne e]; exact h4, by omega⟩
          · rintro σ G ⟨s10, rfl, s38, _⟩
            exact ⟨_, _, _, _, _, _, _, rfl, D3.up s38, s38 _ _ eR3, s38 _ _ eK3, paired_imp (fun _ _ ⟨z, r1, r2, r3⟩ => ⟨z, r1, r2.same s38, r3⟩) hz3, paired_imp (fun _ _ r => KeptAt.same r s38) hk3⟩
        · rintro σ G _
          exact k G
end
theorem all_mk {l : PySem.W.OpenLaw} {w : World} {K : PySem.W.Frag} {h : Heap} {mg : Str → Option Value} {fa C f_ini f_len f_add f_cal f_gti f_num f_chn f_cst f_csi f_bes f_fel f_iss f_dis f_rer f_rea f_tic f_wit f_gre f_tos f_few f_bet f_ren f_hfr f_lhs f_spa f_few2 f_upt f_few3 f_las f_nex f_fro f_rep f_tak f_sto f_row f_ali f_tol f_kep f_law : Addr} (X : K.In h) (G : h.Ns mainGlobals mg) (hfa : mg "law" = some (.ref fa))
    {od_ini an_ini od_len an_len od_add an_add od_cal an_cal od_gti an_gti od_num an_num od_chn an_chn od_cst an_cst od_csi an_csi od_bes an_bes od_fel an_fel od_iss an_iss od_dis an_dis od_rer an_rer od_rea an_rea od_tic an_tic od_wit an_wit od_gre an_gre od_tos an_tos od_few an_few od_bet an_bet od_ren an_ren od_hfr an_hfr od_lhs an_lhs od_spa an_spa od_few2 an_few2 od_upt an_upt od_few3 an_few3 od_las an_las od_nex an_nex od_fro an_fro od_rep an_rep od_tak an_tak od_sto an_sto od_row an_row od_ali an_ali od_tol an_tol od_kep an_kep od_law an_law : Option Addr} {sl_ini sl_len sl_add sl_cal sl_gti sl_num sl_chn sl_cst sl_csi sl_bes sl_fel sl_iss sl_dis sl_rer sl_rea sl_tic sl_wit sl_gre sl_tos sl_few sl_bet sl_ren sl_hfr sl_lhs sl_spa sl_few2 sl_upt sl_few3 sl_las sl_nex sl_fro sl_rep sl_tak sl_sto sl_row sl_ali sl_tol sl_kep sl_law : Array (Option Value)} {oc_ini kV_ini dc_ini pm_ini cd_ini ct_ini oc_len kV_len dc_len pm_len cd_len ct_len oc_add kV_add dc_add pm_add cd_add ct_add oc_cal kV_cal dc_cal pm_cal cd_cal ct_cal oc_gti kV_gti dc_gti pm_gti cd_gti ct_gti oc_num kV_num dc_num pm_num cd_num ct_num oc_chn kV_chn dc_chn pm_chn cd_chn ct_chn oc_cst kV_cst dc_cst pm_cst cd_cst ct_cst oc_csi kV_csi dc_csi pm_csi cd_csi ct_csi oc_bes kV_bes dc_bes pm_bes cd_bes ct_bes oc_fel kV_fel dc_fel pm_fel cd_fel ct_fel oc_iss kV_iss dc_iss pm_iss cd_iss ct_iss oc_dis kV_dis dc_dis pm_dis cd_dis ct_dis oc_rer kV_rer dc_rer pm_rer cd_rer ct_rer oc_rea kV_rea dc_rea pm_rea cd_rea ct_rea oc_tic kV_tic dc_tic pm_tic cd_tic ct_tic oc_wit kV_wit dc_wit pm_wit cd_wit ct_wit oc_gre kV_gre dc_gre pm_gre cd_gre ct_gre oc_tos kV_tos dc_tos pm_tos cd_tos ct_tos oc_few kV_few dc_few pm_few cd_few ct_few oc_bet kV_bet dc_bet pm_bet cd_bet ct_bet oc_ren kV_ren dc_ren pm_ren cd_ren ct_ren oc_hfr kV_hfr dc_hfr pm_hfr cd_hfr ct_hfr oc_lhs kV_lhs dc_lhs pm_lhs cd_lhs ct_lhs oc_spa kV_spa dc_spa pm_spa cd_spa ct_spa oc_few2 kV_few2 dc_few2 pm_few2 cd_few2 ct_few2 oc_upt kV_upt dc_upt pm_upt cd_upt ct_upt oc_few3 kV_few3 dc_few3 pm_few3 cd_few3 ct_few3 oc_las kV_las dc_las pm_las cd_las ct_las oc_nex kV_nex dc_nex pm_nex cd_nex ct_nex oc_fro kV_fro dc_fro pm_fro cd_fro ct_fro oc_rep kV_rep dc_rep pm_rep cd_rep ct_rep oc_tak kV_tak dc_tak pm_tak cd_tak ct_tak oc_sto kV_sto dc_sto pm_sto cd_sto ct_sto oc_row kV_row dc_row pm_row cd_row ct_row oc_ali kV_ali dc_ali pm_ali cd_ali ct_ali oc_tol kV_tol dc_tol pm_tol cd_tol ct_tol oc_kep kV_kep dc_kep pm_kep cd_kep ct_kep oc_law kV_law dc_law pm_law cd_law ct_law : Value} {S : Addr} {tP tH tM : Tok} {odS : Option Addr} {itS : Array Value} {nS : Nat} {slS : Array (Option Value)} {tW tX tY : Tok} {D : Addr} {W : Addr} {p_pla f_pla : Addr} {od_pla an_pla : Option Addr} {sl_pla : Array (Option Value)} {oc_pla kV_pla dc_pla pm_pla cd_pla ct_pla : Value} {rs_pla : List Value} {p_get f_get : Addr} {od_get an_get : Option Addr} {sl_get : Array (Option Value)} {oc_get kV_get dc_get pm_get cd_get ct_get : Value} {rs_get : List Value} {f_ein : Addr} {od_ein an_ein : Option Addr} {sl_ein : Array (Option Value)} {oc_ein kV_ein dc_ein pm_ein cd_ein ct_ein : Value} {f_ewa : Addr} {od_ewa an_ewa : Option Addr} {sl_ewa : Array (Option Value)} {oc_ewa kV_ewa dc_ewa pm_ewa cd_ewa ct_ewa : Value} {f_win : Addr} {od_win an_win : Option Addr} {sl_win : Array (Option Value)} {oc_win kV_win dc_win pm_win cd_win ct_win : Value} {f_wen : Addr} {od_wen an_wen : Option Addr} {sl_wen : Array (Option Value)} {oc_wen kV_wen dc_wen pm_wen cd_wen ct_wen : Value} {p_wen : Addr} {rs_wen : List Value} {f_wla : Addr} {od_wla an_wla : Option Addr} {sl_wla : Array (Option Value)} {oc_wla kV_wla dc_wla pm_wla cd_wla ct_wla : Value} {p_wla : Addr} {rs_wla : List Value} {f_wco : Addr} {od_wco an_wco : Option Addr} {sl_wco : Array (Option Value)} {oc_wco kV_wco dc_wco pm_wco cd_wco ct_wco : Value} {f_wfa : Addr} {od_wfa an_wfa : Option Addr} {sl_wfa : Array (Option Value)} {oc_wfa kV_wfa dc_wfa pm_wfa cd_wfa ct_wfa : Value} {f_wti : Addr} {od_wti an_wti : Option Addr} {sl_wti : Array (Option Value)} {oc_wti kV_wti dc_wti pm_wti cd_wti ct_wti : Value} {f_wft : Addr} {od_wft an_wft : Option Addr} {sl_wft : Array (Option Value)} {oc_wft kV_wft dc_wft pm_wft cd_wft ct_wft : Value} {f_fal : Addr} {od_fal an_fal : Option Addr} {sl_fal : Array (Option Value)} {oc_fal kV_fal dc_fal pm_fal cd_fal ct_fal : Value}
    (aC : PySem.W.nsIn K mainGlobals "Row" = some (some (.ref C)))
    (a_ini : PySem.W.findIn K (.ref C) "__init__" = some (some (.ref f_ini)))
    (i_ini : PySem.W.isFn K (.ref f_ini) = true)
    (l_ini : K.lookup f_ini = some ⟨oc_ini, od_ini, .func (PySem.W.fnOf "__init__" "Row.__init__" (defArgs s_Row_init) (defBody s_Row_init) (defScope s_Row_init) .none kV_ini dc_ini pm_ini an_ini cd_ini ct_ini), sl_ini⟩)
    (c_ini : PySem.W.codeIn K cd_ini "Row.__init__" = true)
    (k_ini : PySem.W.keepIn K (.ref f_ini) = true)
    (a_len : PySem.W.findIn K (.ref C) "__len__" = some (some (.ref f_len)))
    (i_len : PySem.W.isFn K (.ref f_len) = true)
    (l_len : K.lookup f_len = some ⟨oc_len, od_len, .func (PySem.W.fnOf "__len__" "Row.__len__" (defArgs s_Row_len) (defBody s_Row_len) (defScope s_Row_len) .none kV_len dc_len pm_len an_len cd_len ct_len), sl_len⟩)
    (c_len : PySem.W.codeIn K cd_len "Row.__len__" = true)
    (k_len : PySem.W.keepIn K (.ref f_len) = true)
    (a_add : PySem.W.findIn K (.ref C) "__add__" = some (some (.ref f_add)))
    (i_add : PySem.W.isFn K (.ref f_add) = true)
    (l_add : K.lookup f_add = some ⟨oc_add, od_add, .func (PySem.W.fnOf "__add__" "Row.__add__" (defArgs s_Row_add) (defBody s_Row_add) (defScope s_Row_add) .none kV_add dc_add pm_add an_add cd_add ct_add), sl_add⟩)
    (c_add : PySem.W.codeIn K cd_add "Row.__add__" = true)
    (k_add : PySem.W.keepIn K (.ref f_add) = true)
    (a_cal : PySem.W.findIn K (.ref C) "__call__" = some (some (.ref f_cal)))
    (i_cal : PySem.W.isFn K (.ref f_cal) = true)
    (l_cal : K.lookup f_cal = some ⟨oc_cal, od_cal, .func (PySem.W.fnOf "__call__" "Row.__call__" (defArgs s_Row_call) (defBody s_Row_call) (defScope s_Row_call) .none kV_cal dc_cal pm_cal an_cal cd_cal ct_cal), sl_cal⟩)
    (c_cal : PySem.W.codeIn K cd_cal "Row.__call__" = true)
    (k_cal : PySem.W.keepIn K (.ref f_cal) = true)
    (n_cal : PySem.W.fnIn K f_cal = true)
    (a_gti : PySem.W.findIn K (.ref C) "__getitem__" = some (some (.ref f_gti)))
    (i_gti : PySem.W.isFn K (.ref f_gti) = true)
    (l_gti : K.lookup f_gti = some ⟨oc_gti, od_gti, .func (PySem.W.fnOf "__getitem__" "Row.__getitem__" (defArgs s_Row_getitem) (defBody s_Row_getitem) (defScope s_Row_getitem) .none kV_gti dc_gti pm_gti an_gti cd_gti ct_gti), sl_gti⟩)
    (c_gti : PySem.W.codeIn K cd_gti "Row.__getitem__" = true)
    (k_gti : PySem.W.keepIn K (.ref f_gti) = true)
    (n_gti : PySem.W.fnIn K f_gti = true)
    (a_num : PySem.W.nsIn K mainGlobals "is_number" = some (some (.ref f_num)))
    (l_num : K.lookup f_num = some ⟨oc_num, od_num, .func (PySem.W.fnOf "is_number" "is_number" (defArgs s_is_number) (defBody s_is_number) (defScope s_is_number) .none kV_num dc_num pm_num an_num cd_num ct_num), sl_num⟩)
    (c_num : PySem.W.codeIn K cd_num "is_number" = true)
    (k_num : PySem.W.keepIn K (.ref f_num) = true)
    (a_chn : PySem.W.nsIn K mainGlobals "check_number" = some (some (.ref f_chn)))
    (l_chn : K.lookup f_chn = some ⟨oc_chn, od_chn, .func (PySem.W.fnOf "check_number" "check_number" (defArgs s_check_number) (defBody s_check_number) (defScope s_check_number) .none kV_chn dc_chn pm_chn an_chn cd_chn ct_chn), sl_chn⟩)
    (c_chn : PySem.W.codeIn K cd_chn "check_number" = true)
    (k_chn : PySem.W.keepIn K (.ref f_chn) = true)
    (a_cst : PySem.W.nsIn K mainGlobals "check_stone" = some (some (.ref f_cst)))
    (l_cst : K.lookup f_cst = some ⟨oc_cst, od_cst, .func (PySem.W.fnOf "check_stone" "check_stone" (defArgs s_check_stone) (defBody s_check_stone) (defScope s_check_stone) .none kV_cst dc_cst pm_cst an_cst cd_cst ct_cst), sl_cst⟩)
    (c_cst : PySem.W.codeIn K cd_cst "check_stone" = true)
    (k_cst : PySem.W.keepIn K (.ref f_cst) = true)
    (a_csi : PySem.W.nsIn K mainGlobals "check_side" = some (some (.ref f_csi)))
    (l_csi : K.lookup f_csi = some ⟨oc_csi, od_csi, .func (PySem.W.fnOf "check_side" "check_side" (defArgs s_check_side) (defBody s_check_side) (defScope s_check_side) .none kV_csi dc_csi pm_csi an_csi cd_csi ct_csi), sl_csi⟩)
    (c_csi : PySem.W.codeIn K cd_csi "check_side" = true)
    (k_csi : PySem.W.keepIn K (.ref f_csi) = true)
    (a_bes : PySem.W.nsIn K mainGlobals "stones_beside" = some (some (.ref f_bes)))
    (l_bes : K.lookup f_bes = some ⟨oc_bes, od_bes, .func (PySem.W.fnOf "stones_beside" "stones_beside" (defArgs s_stones_beside) (defBody s_stones_beside) (defScope s_stones_beside) .none kV_bes dc_bes pm_bes an_bes cd_bes ct_bes), sl_bes⟩)
    (c_bes : PySem.W.codeIn K cd_bes "stones_beside" = true)
    (k_bes : PySem.W.keepIn K (.ref f_bes) = true)
    (a_fel : PySem.W.nsIn K mainGlobals "felled_by" = some (some (.ref f_fel)))
    (l_fel : K.lookup f_fel = some ⟨oc_fel, od_fel, .func (PySem.W.fnOf "felled_by" "felled_by" (defArgs s_felled_by) (defBody s_felled_by) (defScope s_felled_by) .none kV_fel dc_fel pm_fel an_fel cd_fel ct_fel), sl_fel⟩)
    (c_fel : PySem.W.codeIn K cd_fel "felled_by" = true)
    (k_fel : PySem.W.keepIn K (.ref f_fel) = true)
    (a_iss : PySem.W.nsIn K mainGlobals "_is_stone" = some (some (.ref f_iss)))
    (l_iss : K.lookup f_iss = some ⟨oc_iss, od_iss, .func (PySem.W.fnOf "_is_stone" "_is_stone" (defArgs s_is_stone) (defBody s_is_stone) (defScope s_is_stone) .none kV_iss dc_iss pm_iss an_iss cd_iss ct_iss), sl_iss⟩)
    (c_iss : PySem.W.codeIn K cd_iss "_is_stone" = true)
    (k_iss : PySem.W.keepIn K (.ref f_iss) = true)
    (a_dis : PySem.W.nsIn K mainGlobals "_distance" = some (some (.ref f_dis)))
    (l_dis : K.lookup f_dis = some ⟨oc_dis, od_dis, .func (PySem.W.fnOf "_distance" "_distance" (defArgs s_distance) (defBody s_distance) (defScope s_distance) .none kV_dis dc_dis pm_dis an_dis cd_dis ct_dis), sl_dis⟩)
    (c_dis : PySem.W.codeIn K cd_dis "_distance" = true)
    (k_dis : PySem.W.keepIn K (.ref f_dis) = true)
    (a_rer : PySem.W.nsIn K mainGlobals "reaches_runs" = some (some (.ref f_rer)))
    (l_rer : K.lookup f_rer = some ⟨oc_rer, od_rer, .func (PySem.W.fnOf "_reaches" "_reaches" (defArgs s_reaches) (defBody s_reaches) (defScope s_reaches) .none kV_rer dc_rer pm_rer an_rer cd_rer ct_rer), sl_rer⟩)
    (c_rer : PySem.W.codeIn K cd_rer "_reaches" = true)
    (k_rer : PySem.W.keepIn K (.ref f_rer) = true)
    (a_rea : PySem.W.nsIn K mainGlobals "reaches_cutting" = some (some (.ref f_rea)))
    (l_rea : K.lookup f_rea = some ⟨oc_rea, od_rea, .func (PySem.W.fnOf "_reaches" "_reaches" (defArgs s_reaches2) (defBody s_reaches2) (defScope s_reaches2) .none kV_rea dc_rea pm_rea an_rea cd_rea ct_rea), sl_rea⟩)
    (c_rea : PySem.W.codeIn K cd_rea "_reaches" = true)
    (k_rea : PySem.W.keepIn K (.ref f_rea) = true)
    (a_tic : PySem.W.nsIn K mainGlobals "fall_ticks" = some (some (.ref f_tic)))
    (l_tic : K.lookup f_tic = some ⟨oc_tic, od_tic, .func (PySem.W.fnOf "fall_ticks" "fall_ticks" (defArgs s_fall_ticks) (defBody s_fall_ticks) (defScope s_fall_ticks) .none kV_tic dc_tic pm_tic an_tic cd_tic ct_tic), sl_tic⟩)
    (c_tic : PySem.W.codeIn K cd_tic "fall_ticks" = true)
    (k_tic : PySem.W.keepIn K (.ref f_tic) = true)
    (a_wit : PySem.W.nsIn K mainGlobals "_is_within_another" = some (some (.ref f_wit)))
    (l_wit : K.lookup f_wit = some ⟨oc_wit, od_wit, .func (PySem.W.fnOf "_is_within_another" "_is_within_another" (defArgs s_is_within_another) (defBody s_is_within_another) (defScope s_is_within_another) .none kV_wit dc_wit pm_wit an_wit cd_wit ct_wit), sl_wit⟩)
    (c_wit : PySem.W.codeIn K cd_wit "_is_within_another" = true)
    (k_wit : PySem.W.keepIn K (.ref f_wit) = true)
    (a_gre : PySem.W.nsIn K mainGlobals "greatest_runs" = some (some (.ref f_gre)))
    (l_gre : K.lookup f_gre = some ⟨oc_gre, od_gre, .func (PySem.W.fnOf "greatest_runs" "greatest_runs" (defArgs s_greatest_runs) (defBody s_greatest_runs) (defScope s_greatest_runs) .none kV_gre dc_gre pm_gre an_gre cd_gre ct_gre), sl_gre⟩)
    (c_gre : PySem.W.codeIn K cd_gre "greatest_runs" = true)
    (k_gre : PySem.W.keepIn K (.ref f_gre) = true)
    (a_tos : PySem.W.nsIn K mainGlobals "fewest_to_side" = some (some (.ref f_tos)))
    (l_tos : K.lookup f_tos = some ⟨oc_tos, od_tos, .func (PySem.W.fnOf "fewest_to_side" "fewest_to_side" (defArgs s_fewest_to_side) (defBody s_fewest_to_side) (defScope s_fewest_to_side) .none kV_tos dc_tos pm_tos an_tos cd_tos ct_tos), sl_tos⟩)
    (c_tos : PySem.W.codeIn K cd_tos "fewest_to_side" = true)
    (k_tos : PySem.W.keepIn K (.ref f_tos) = true)
    (a_few : PySem.W.nsIn K mainGlobals "fewest_taken" = some (some (.ref f_few)))
    (l_few : K.lookup f_few = some ⟨oc_few, od_few, .func (PySem.W.fnOf "fewest_taken" "fewest_taken" (defArgs s_fewest_taken) (defBody s_fewest_taken) (defScope s_fewest_taken) .none kV_few dc_few pm_few an_few cd_few ct_few), sl_few⟩)
    (c_few : PySem.W.codeIn K cd_few "fewest_taken" = true)
    (k_few : PySem.W.keepIn K (.ref f_few) = true)
    (a_bet : PySem.W.nsIn K mainGlobals "_reaching_between" = some (some (.ref f_bet)))
    (l_bet : K.lookup f_bet = some ⟨oc_bet, od_bet, .func (PySem.W.fnOf "_reaching_between" "_reaching_between" (defArgs s_reaching_between) (defBody s_reaching_between) (defScope s_reaching_between) .none kV_bet dc_bet pm_bet an_bet cd_bet ct_bet), sl_bet⟩)
    (c_bet : PySem.W.codeIn K cd_bet "_reaching_between" = true)
    (k_bet : PySem.W.keepIn K (.ref f_bet) = true)
    (a_ren : PySem.W.nsIn K mainGlobals "_run_end" = some (some (.ref f_ren)))
    (l_ren : K.lookup f_ren = some ⟨oc_ren, od_ren, .func (PySem.W.fnOf "_run_end" "_run_end" (defArgs s_run_end) (defBody s_run_end) (defScope s_run_end) .none kV_ren dc_ren pm_ren an_ren cd_ren ct_ren), sl_ren⟩)
    (c_ren : PySem.W.codeIn K cd_ren "_run_end" = true)
    (k_ren : PySem.W.keepIn K (.ref f_ren) = true)
    (a_hfr : PySem.W.nsIn K mainGlobals "_height_for_run" = some (some (.ref f_hfr)))
    (l_hfr : K.lookup f_hfr = some ⟨oc_hfr, od_hfr, .func (PySem.W.fnOf "_height_for_run" "_height_for_run" (defArgs s_height_for_run) (defBody s_height_for_run) (defScope s_height_for_run) .none kV_hfr dc_hfr pm_hfr an_hfr cd_hfr ct_hfr), sl_hfr⟩)
    (c_hfr : PySem.W.codeIn K cd_hfr "_height_for_run" = true)
    (k_hfr : PySem.W.keepIn K (.ref f_hfr) = true)
    (a_lhs : PySem.W.nsIn K mainGlobals "least_heights" = some (some (.ref f_lhs)))
    (l_lhs : K.lookup f_lhs = some ⟨oc_lhs, od_lhs, .func (PySem.W.fnOf "least_heights" "least_heights" (defArgs s_least_heights) (defBody s_least_heights) (defScope s_least_heights) .none kV_lhs dc_lhs pm_lhs an_lhs cd_lhs ct_lhs), sl_lhs⟩)
    (c_lhs : PySem.W.codeIn K cd_lhs "least_heights" = true)
    (k_lhs : PySem.W.keepIn K (.ref f_lhs) = true)
    (a_spa : PySem.W.nsIn K mainGlobals "spared_without" = some (some (.ref f_spa)))
    (l_spa : K.lookup f_spa = some ⟨oc_spa, od_spa, .func (PySem.W.fnOf "spared_without" "spared_without" (defArgs s_spared_without) (defBody s_spared_without) (defScope s_spared_without) .none kV_spa dc_spa pm_spa an_spa cd_spa ct_spa), sl_spa⟩)
    (c_spa : PySem.W.codeIn K cd_spa "spared_without" = true)
    (k_spa : PySem.W.keepIn K (.ref f_spa) = true)
    (a_few2 : PySem.W.nsIn K mainGlobals "_felled_without" = some (some (.ref f_few2)))
    (l_few2 : K.lookup f_few2 = some ⟨oc_few2, od_few2, .func (PySem.W.fnOf "_felled_without" "_felled_without" (defArgs s_felled_without) (defBody s_felled_without) (defScope s_felled_without) .none kV_few2 dc_few2 pm_few2 an_few2 cd_few2 ct_few2), sl_few2⟩)
    (c_few2 : PySem.W.codeIn K cd_few2 "_felled_without" = true)
    (k_few2 : PySem.W.keepIn K (.ref f_few2) = true)
    (a_upt : PySem.W.nsIn K mainGlobals "_fewest_up_to" = some (some (.ref f_upt)))
    (l_upt : K.lookup f_upt = some ⟨oc_upt, od_upt, .func (PySem.W.fnOf "_fewest_up_to" "_fewest_up_to" (defArgs s_fewest_up_to) (defBody s_fewest_up_to) (defScope s_fewest_up_to) .none kV_upt dc_upt pm_upt an_upt cd_upt ct_upt), sl_upt⟩)
    (c_upt : PySem.W.codeIn K cd_upt "_fewest_up_to" = true)
    (k_upt : PySem.W.keepIn K (.ref f_upt) = true)
    (a_few3 : PySem.W.nsIn K mainGlobals "fewest_pushes" = some (some (.ref f_few3)))
    (l_few3 : K.lookup f_few3 = some ⟨oc_few3, od_few3, .func (PySem.W.fnOf "fewest_pushes" "fewest_pushes" (defArgs s_fewest_pushes) (defBody s_fewest_pushes) (defScope s_fewest_pushes) .none kV_few3 dc_few3 pm_few3 an_few3 cd_few3 ct_few3), sl_few3⟩)
    (c_few3 : PySem.W.codeIn K cd_few3 "fewest_pushes" = true)
    (k_few3 : PySem.W.keepIn K (.ref f_few3) = true)
    (a_las : PySem.W.nsIn K mainGlobals "_last_hit" = some (some (.ref f_las)))
    (l_las : K.lookup f_las = some ⟨oc_las, od_las, .func (PySem.W.fnOf "_last_hit" "_last_hit" (defArgs s_last_hit) (defBody s_last_hit) (defScope s_last_hit) .none kV_las dc_las pm_las an_las cd_las ct_las), sl_las⟩)
    (c_las : PySem.W.codeIn K cd_las "_last_hit" = true)
    (k_las : PySem.W.keepIn K (.ref f_las) = true)
    (a_nex : PySem.W.nsIn K mainGlobals "_next_front" = some (some (.ref f_nex)))
    (l_nex : K.lookup f_nex = some ⟨oc_nex, od_nex, .func (PySem.W.fnOf "_next_front" "_next_front" (defArgs s_next_front) (defBody s_next_front) (defScope s_next_front) .none kV_nex dc_nex pm_nex an_nex cd_nex ct_nex), sl_nex⟩)
    (c_nex : PySem.W.codeIn K cd_nex "_next_front" = true)
    (k_nex : PySem.W.keepIn K (.ref f_nex) = true)
    (a_fro : PySem.W.nsIn K mainGlobals "_fronts_of_wave" = some (some (.ref f_fro)))
    (l_fro : K.lookup f_fro = some ⟨oc_fro, od_fro, .func (PySem.W.fnOf "_fronts_of_wave" "_fronts_of_wave" (defArgs s_fronts_of_wave) (defBody s_fronts_of_wave) (defScope s_fronts_of_wave) .none kV_fro dc_fro pm_fro an_fro cd_fro ct_fro), sl_fro⟩)
    (c_fro : PySem.W.codeIn K cd_fro "_fronts_of_wave" = true)
    (k_fro : PySem.W.keepIn K (.ref f_fro) = true)
    (a_rep : PySem.W.nsIn K mainGlobals "_first_repeat" = some (some (.ref f_rep)))
    (l_rep : K.lookup f_rep = some ⟨oc_rep, od_rep, .func (PySem.W.fnOf "_first_repeat" "_first_repeat" (defArgs s_first_repeat) (defBody s_first_repeat) (defScope s_first_repeat) .none kV_rep dc_rep pm_rep an_rep cd_rep ct_rep), sl_rep⟩)
    (c_rep : PySem.W.codeIn K cd_rep "_first_repeat" = true)
    (k_rep : PySem.W.keepIn K (.ref f_rep) = true)
    (a_tak : PySem.W.nsIn K mainGlobals "_law_taken" = some (some (.ref f_tak)))
    (l_tak : K.lookup f_tak = some ⟨oc_tak, od_tak, .func (PySem.W.fnOf "_law_taken" "_law_taken" (defArgs s_law_taken) (defBody s_law_taken) (defScope s_law_taken) .none kV_tak dc_tak pm_tak an_tak cd_tak ct_tak), sl_tak⟩)
    (c_tak : PySem.W.codeIn K cd_tak "_law_taken" = true)
    (k_tak : PySem.W.keepIn K (.ref f_tak) = true)
    (a_sto : PySem.W.nsIn K mainGlobals "_law_stones" = some (some (.ref f_sto)))
    (l_sto : K.lookup f_sto = some ⟨oc_sto, od_sto, .func (PySem.W.fnOf "_law_stones" "_law_stones" (defArgs s_law_stones) (defBody s_law_stones) (defScope s_law_stones) .none kV_sto dc_sto pm_sto an_sto cd_sto ct_sto), sl_sto⟩)
    (c_sto : PySem.W.codeIn K cd_sto "_law_stones" = true)
    (k_sto : PySem.W.keepIn K (.ref f_sto) = true)
    (a_row : PySem.W.nsIn K mainGlobals "_law_row" = some (some (.ref f_row)))
    (l_row : K.lookup f_row = some ⟨oc_row, od_row, .func (PySem.W.fnOf "_law_row" "_law_row" (defArgs s_law_row) (defBody s_law_row) (defScope s_law_row) .none kV_row dc_row pm_row an_row cd_row ct_row), sl_row⟩)
    (c_row : PySem.W.codeIn K cd_row "_law_row" = true)
    (k_row : PySem.W.keepIn K (.ref f_row) = true)
    (a_ali : PySem.W.nsIn K mainGlobals "_law_alike" = some (some (.ref f_ali)))
    (l_ali : K.lookup f_ali = some ⟨oc_ali, od_ali, .func (PySem.W.fnOf "_law_alike" "_law_alike" (defArgs s_law_alike) (defBody s_law_alike) (defScope s_law_alike) .none kV_ali dc_ali pm_ali an_ali cd_ali ct_ali), sl_ali⟩)
    (c_ali : PySem.W.codeIn K cd_ali "_law_alike" = true)
    (k_ali : PySem.W.keepIn K (.ref f_ali) = true)
    (a_tol : PySem.W.nsIn K mainGlobals "_law_told" = some (some (.ref f_tol)))
    (l_tol : K.lookup f_tol = some ⟨oc_tol, od_tol, .func (PySem.W.fnOf "_law_told" "_law_told" (defArgs s_law_told) (defBody s_law_told) (defScope s_law_told) .none kV_tol dc_tol pm_tol an_tol cd_tol ct_tol), sl_tol⟩)
    (c_tol : PySem.W.codeIn K cd_tol "_law_told" = true)
    (k_tol : PySem.W.keepIn K (.ref f_tol) = true)
    (a_kep : PySem.W.nsIn K mainGlobals "_law_kept" = some (some (.ref f_kep)))
    (l_kep : K.lookup f_kep = some ⟨oc_kep, od_kep, .func (PySem.W.fnOf "_law_kept" "_law_kept" (defArgs s_law_kept) (defBody s_law_kept) (defScope s_law_kept) .none kV_kep dc_kep pm_kep an_kep cd_kep ct_kep), sl_kep⟩)
    (c_kep : PySem.W.codeIn K cd_kep "_law_kept" = true)
    (k_kep : PySem.W.keepIn K (.ref f_kep) = true)
    (a_law : PySem.W.nsIn K mainGlobals "law" = some (some (.ref f_law)))
    (l_law : K.lookup f_law = some ⟨oc_law, od_law, .func (PySem.W.fnOf "law" "law" (defArgs s_law) (defBody s_law) (defScope s_law) .none kV_law dc_law pm_law an_law cd_law ct_law), sl_law⟩)
    (c_law : PySem.W.codeIn K cd_law "law" = true)
    (k_law : PySem.W.keepIn K (.ref f_law) = true)
    (z_isinstance : PySem.W.nsIn K mainGlobals "isinstance" = some none)
    (z_int : PySem.W.nsIn K mainGlobals "int" = some none)
    (z_bool : PySem.W.nsIn K mainGlobals "bool" = some none)
    (z_len : PySem.W.nsIn K mainGlobals "len" = some none)
    (z_tuple : PySem.W.nsIn K mainGlobals "tuple" = some none)
    (z_list : PySem.W.nsIn K mainGlobals "list" = some none)
    (z_range : PySem.W.nsIn K mainGlobals "range" = some none)
    (z_enumerate : PySem.W.nsIn K mainGlobals "enumerate" = some none)
    (z_abs : PySem.W.nsIn K mainGlobals "abs" = some none)
    (z_max : PySem.W.nsIn K mainGlobals "max" = some none)
    (z_min : PySem.W.nsIn K mainGlobals "min" = some none)
    (z_sorted : PySem.W.nsIn K mainGlobals "sorted" = some none)
    (aS : PySem.W.nsIn K mainGlobals "SIDES" = some (some (.ref S)))
    (lS : K.lookup S = some ⟨.type "tuple", odS, .seq itS nS, slS⟩)
    (pS : itS.size ≤ sizeLine)
    (vS : Vals [.str "left", .str "right"] itS.toList)
    (aP : PySem.W.nsIn K mainGlobals "GREATEST_PLACE" = some (some (.int 1000000000 tP)))
    (aH : PySem.W.nsIn K mainGlobals "GREATEST_HEIGHT" = some (some (.int 1000000000 tH)))
    (pg : PySem.W.plainGet K C Str.empty = true)
    (hd : PySem.W.hasDictIn K C = true)
    (po : PySem.W.plainOver K C = true)
    (sa : PySem.W.findIn K (.ref C) "__setattr__" = some (some (.builtin "object.__setattr__")))
    (mk : PySem.W.makesIn K C = true)
    (kc : PySem.W.keepIn K (.ref C) = true)
    (nQ : PySem.W.findIn K (.ref C) "_stones" = some none)
    (mM : PySem.W.findIn K (.ref C) "MAX_STONES" = some (some (.int 40 tM)))
    (gM : PySem.W.specialIn K (.int 40 tM) "__get__" = some none)
    (sf : PySem.W.selfFirst K C = true)
    (ca : PySem.W.findIn K (.ref C) "__class__" = some (some (.builtin "object.__class__")))
    (cn : PySem.W.specialIn K (.builtin "object.__class__") "__get__" = some (some (.builtin "getset_descriptor.__get__")))
    (ct : PySem.W.takesIn K (.builtin "object.__class__") = some true)
    (cm : PySem.W.mroIn K C (.type "object") = some true)
    (z_any : PySem.W.nsIn K mainGlobals "any" = some none)
    (z_dict : PySem.W.nsIn K mainGlobals "dict" = some none)
    (z_divmod : PySem.W.nsIn K mainGlobals "divmod" = some none)
    (aW : PySem.W.nsIn K mainGlobals "GREATEST_PERIOD" = some (some (.int 1000000000 tW)))
    (aX : PySem.W.nsIn K mainGlobals "GREATEST_TICK" = some (some (.int 1000000000000000000 tX)))
    (aY : PySem.W.nsIn K mainGlobals "GREATEST_ROUND" = some (some (.int 1000000000000000000 tY)))
    (aD : PySem.W.nsIn K mainGlobals "EndlessRow" = some (some (.ref D)))
    (pgD : PySem.W.plainGet K D Str.empty = true)
    (hdD : PySem.W.hasDictIn K D = true)
    (poD : PySem.W.plainOver K D = true)
    (saD : PySem.W.findIn K (.ref D) "__setattr__" = some (some (.builtin "object.__setattr__")))
    (mkD : PySem.W.makesIn K D = true)
    (kcD : PySem.W.keepIn K (.ref D) = true)
    (nD0 : PySem.W.findIn K (.ref D) "_row" = some none)
    (nD1 : PySem.W.findIn K (.ref D) "_period" = some none)
    (aWc : PySem.W.nsIn K mainGlobals "Wave" = some (some (.ref W)))
    (pgW : PySem.W.plainGet K W Str.empty = true)
    (hdW : PySem.W.hasDictIn K W = true)
    (poW : PySem.W.plainOver K W = true)
    (saW : PySem.W.findIn K (.ref W) "__setattr__" = some (some (.builtin "object.__setattr__")))
    (mkW : PySem.W.makesIn K W = true)
    (kcW : PySem.W.keepIn K (.ref W) = true)
    (nW0 : PySem.W.findIn K (.ref W) "_count" = some none)
    (nW1 : PySem.W.findIn K (.ref W) "_fronts" = some none)
    (nW2 : PySem.W.findIn K (.ref W) "_repeat" = some none)
    (pa_pla : PySem.W.findIn K (.ref C) "places" = some (some (.ref p_pla)))
    (pb_pla : PySem.W.specialIn K (.ref p_pla) "__get__" = some (some (.builtin "property.__get__")))
    (pc_pla : PySem.W.takesIn K (.ref p_pla) = some true)
    (pd_pla : PySem.W.recIn K p_pla "property" = some (.ref f_pla :: rs_pla))
    (l_pla : K.lookup f_pla = some ⟨oc_pla, od_pla, .func (PySem.W.fnOf "places" "Row.places" (defArgs s_Row_places) (defBody s_Row_places) (defScope s_Row_places) .none kV_pla dc_pla pm_pla an_pla cd_pla ct_pla), sl_pla⟩)
    (c_pla : PySem.W.codeIn K cd_pla "Row.places" = true)
    (k_pla : PySem.W.keepIn K (.ref f_pla) = true)
    (pa_get : PySem.W.findIn K (.ref C) "stones" = some (some (.ref p_get)))
    (pb_get : PySem.W.specialIn K (.ref p_get) "__get__" = some (some (.builtin "property.__get__")))
    (pc_get : PySem.W.takesIn K (.ref p_get) = some true)
    (pd_get : PySem.W.recIn K p_get "property" = some (.ref f_get :: rs_get))
    (l_get : K.lookup f_get = some ⟨oc_get, od_get, .func (PySem.W.fnOf "stones" "Row.stones" (defArgs s_Row_stones) (defBody s_Row_stones) (defScope s_Row_stones) .none kV_get dc_get pm_get an_get cd_get ct_get), sl_get⟩)
    (c_get : PySem.W.codeIn K cd_get "Row.stones" = true)
    (k_get : PySem.W.keepIn K (.ref f_get) = true)
    (a_ein : PySem.W.findIn K (.ref D) "__init__" = some (some (.ref f_ein)))
    (i_ein : PySem.W.isFn K (.ref f_ein) = true)
    (l_ein : K.lookup f_ein = some ⟨oc_ein, od_ein, .func (PySem.W.fnOf "__init__" "EndlessRow.__init__" (defArgs s_EndlessRow_init) (defBody s_EndlessRow_init) (defScope s_EndlessRow_init) .none kV_ein dc_ein pm_ein an_ein cd_ein ct_ein), sl_ein⟩)
    (c_ein : PySem.W.codeIn K cd_ein "EndlessRow.__init__" = true)
    (k_ein : PySem.W.keepIn K (.ref f_ein) = true)
    (a_ewa : PySem.W.findIn K (.ref D) "wave" = some (some (.ref f_ewa)))
    (i_ewa : PySem.W.isFn K (.ref f_ewa) = true)
    (l_ewa : K.lookup f_ewa = some ⟨oc_ewa, od_ewa, .func (PySem.W.fnOf "wave" "EndlessRow.wave" (defArgs s_EndlessRow_wave) (defBody s_EndlessRow_wave) (defScope s_EndlessRow_wave) .none kV_ewa dc_ewa pm_ewa an_ewa cd_ewa ct_ewa), sl_ewa⟩)
    (c_ewa : PySem.W.codeIn K cd_ewa "EndlessRow.wave" = true)
    (k_ewa : PySem.W.keepIn K (.ref f_ewa) = true)
    (a_win : PySem.W.findIn K (.ref W) "__init__" = some (some (.ref f_win)))
    (i_win : PySem.W.isFn K (.ref f_win) = true)
    (l_win : K.lookup f_win = some ⟨oc_win, od_win, .func (PySem.W.fnOf "__init__" "Wave.__init__" (defArgs s_Wave_init) (defBody s_Wave_init) (defScope s_Wave_init) .none kV_win dc_win pm_win an_win cd_win ct_win), sl_win⟩)
    (c_win : PySem.W.codeIn K cd_win "Wave.__init__" = true)
    (k_win : PySem.W.keepIn K (.ref f_win) = true)
    (pa_wen : PySem.W.findIn K (.ref W) "is_endless" = some (some (.ref p_wen)))
    (pb_wen : PySem.W.specialIn K (.ref p_wen) "__get__" = some (some (.builtin "property.__get__")))
    (pc_wen : PySem.W.takesIn K (.ref p_wen) = some true)
    (pd_wen : PySem.W.recIn K p_wen "property" = some (.ref f_wen :: rs_wen))
    (l_wen : K.lookup f_wen = some ⟨oc_wen, od_wen, .func (PySem.W.fnOf "is_endless" "Wave.is_endless" (defArgs s_Wave_is_endless) (defBody s_Wave_is_endless) (defScope s_Wave_is_endless) .none kV_wen dc_wen pm_wen an_wen cd_wen ct_wen), sl_wen⟩)
    (c_wen : PySem.W.codeIn K cd_wen "Wave.is_endless" = true)
    (k_wen : PySem.W.keepIn K (.ref f_wen) = true)
    (pa_wla : PySem.W.findIn K (.ref W) "last_fallen" = some (some (.ref p_wla)))
    (pb_wla : PySem.W.specialIn K (.ref p_wla) "__get__" = some (some (.builtin "property.__get__")))
    (pc_wla : PySem.W.takesIn K (.ref p_wla) = some true)
    (pd_wla : PySem.W.recIn K p_wla "property" = some (.ref f_wla :: rs_wla))
    (l_wla : K.lookup f_wla = some ⟨oc_wla, od_wla, .func (PySem.W.fnOf "last_fallen" "Wave.last_fallen" (defArgs s_Wave_last_fallen) (defBody s_Wave_last_fallen) (defScope s_Wave_last_fallen) .none kV_wla dc_wla pm_wla an_wla cd_wla ct_wla), sl_wla⟩)
    (c_wla : PySem.W.codeIn K cd_wla "Wave.last_fallen" = true)
    (k_wla : PySem.W.keepIn K (.ref f_wla) = true)
    (a_wco : PySem.W.findIn K (.ref W) "count_after" = some (some (.ref f_wco)))
    (i_wco : PySem.W.isFn K (.ref f_wco) = true)
    (l_wco : K.lookup f_wco = some ⟨oc_wco, od_wco, .func (PySem.W.fnOf "count_after" "Wave.count_after" (defArgs s_Wave_count_after) (defBody s_Wave_count_after) (defScope s_Wave_count_after) .none kV_wco dc_wco pm_wco an_wco cd_wco ct_wco), sl_wco⟩)
    (c_wco : PySem.W.codeIn K cd_wco "Wave.count_after" = true)
    (k_wco : PySem.W.keepIn K (.ref f_wco) = true)
    (a_wfa : PySem.W.findIn K (.ref W) "_front_after" = some (some (.ref f_wfa)))
    (i_wfa : PySem.W.isFn K (.ref f_wfa) = true)
    (l_wfa : K.lookup f_wfa = some ⟨oc_wfa, od_wfa, .func (PySem.W.fnOf "_front_after" "Wave._front_after" (defArgs s_Wave_front_after) (defBody s_Wave_front_after) (defScope s_Wave_front_after) .none kV_wfa dc_wfa pm_wfa an_wfa cd_wfa ct_wfa), sl_wfa⟩)
    (c_wfa : PySem.W.codeIn K cd_wfa "Wave._front_after" = true)
    (k_wfa : PySem.W.keepIn K (.ref f_wfa) = true)
    (a_wti : PySem.W.findIn K (.ref W) "tick_of" = some (some (.ref f_wti)))
    (i_wti : PySem.W.isFn K (.ref f_wti) = true)
    (l_wti : K.lookup f_wti = some ⟨oc_wti, od_wti, .func (PySem.W.fnOf "tick_of" "Wave.tick_of" (defArgs s_Wave_tick_of) (defBody s_Wave_tick_of) (defScope s_Wave_tick_of) .none kV_wti dc_wti pm_wti an_wti cd_wti ct_wti), sl_wti⟩)
    (c_wti : PySem.W.codeIn K cd_wti "Wave.tick_of" = true)
    (k_wti : PySem.W.keepIn K (.ref f_wti) = true)
    (a_wft : PySem.W.findIn K (.ref W) "_first_tick" = some (some (.ref f_wft)))
    (i_wft : PySem.W.isFn K (.ref f_wft) = true)
    (l_wft : K.lookup f_wft = some ⟨oc_wft, od_wft, .func (PySem.W.fnOf "_first_tick" "Wave._first_tick" (defArgs s_Wave_first_tick) (defBody s_Wave_first_tick) (defScope s_Wave_first_tick) .none kV_wft dc_wft pm_wft an_wft cd_wft ct_wft), sl_wft⟩)
    (c_wft : PySem.W.codeIn K cd_wft "Wave._first_tick" = true)
    (k_wft : PySem.W.keepIn K (.ref f_wft) = true)
    (a_fal : PySem.W.nsIn K mainGlobals "falls_by" = some (some (.ref f_fal)))
    (l_fal : K.lookup f_fal = some ⟨oc_fal, od_fal, .func (PySem.W.fnOf "falls_by" "falls_by" (defArgs s_falls_by) (defBody s_falls_by) (defScope s_falls_by) .none kV_fal dc_fal pm_fal an_fal cd_fal ct_fal), sl_fal⟩)
    (c_fal : PySem.W.codeIn K cd_fal "falls_by" = true)
    (k_fal : PySem.W.keepIn K (.ref f_fal) = true) :
    ∃ fd : FuncData, (∀ (s : Shared) (v : Value), BindsTo s fd ⟨[v], []⟩ [("_law_script", v)]) ∧ ∀ base : Heap, K.In base → base.Ns mainGlobals mg → FnOk l.prog w K mg base CX0 10 fa fd ["_law_script"] (spLaw K) := by
  have e := hfa.symm.trans (PySem.W.mg_of X G a_law)
  obtain rfl : f_law = fa := by cases e; rfl
  have B : Blt mg := ⟨PySem.W.mg_none_of X G z_isinstance, PySem.W.mg_none_of X G z_int, PySem.W.mg_none_of X G z_bool, PySem.W.mg_none_of X G z_len, PySem.W.mg_none_of X G z_tuple, PySem.W.mg_none_of X G z_list, PySem.W.mg_none_of X G z_range, PySem.W.mg_none_of X G z_enumerate, PySem.W.mg_none_of X G z_abs, PySem.W.mg_none_of X G z_max, PySem.W.mg_none_of X G z_min, PySem.W.mg_none_of X G z_sorted⟩
  have F_ini := fun_mk (st := s_Row_init) l_ini c_ini k_ini
  have F_len := fun_mk (st := s_Row_len) l_len c_len k_len
  have b_len := F_len.binds (ps := ["self"]) fun _ _ _ _ _ _ us hl => match us, hl with | [_], _ => rfl
  have F_add := fun_mk (st := s_Row_add) l_add c_add k_add
  have b_add := F_add.binds (ps := ["self", "other"]) fun _ _ _ _ _ _ us hl => match us, hl with | [_, _], _ => rfl
  have F_cal := fun_mk (st := s_Row_call) l_cal c_cal k_cal
  have b_cal := F_cal.binds (ps := ["self", "stone", "side"]) fun _ _ _ _ _ _ us hl => match us, hl with | [_, _, _], _ => rfl
  have F_gti := fun_mk (st := s_Row_getitem) l_gti c_gti k_gti
  have b_gti := F_gti.binds (ps := ["self", "stone"]) fun _ _ _ _ _ _ us hl => match us, hl with | [_, _], _ => rfl
  have F_num := fun_mk (st := s_is_number) l_num c_num k_num
  have D_num : DefAt K mg "is_number" s_is_number ["value", "least", "greatest"] f_num _ := ⟨F_num, PySem.W.mg_of X G a_num, F_num.binds fun _ _ _ _ _ _ us hl => match us, hl with | [_, _, _], _ => rfl⟩
  have F_chn := fun_mk (st := s_check_number) l_chn c_chn k_chn
  have D_chn : DefAt K mg "check_number" s_check_number ["value", "least", "greatest"] f_chn _ := ⟨F_chn, PySem.W.mg_of X G a_chn, F_chn.binds fun _ _ _ _ _ _ us hl => match us, hl with | [_, _, _], _ => rfl⟩
  have F_cst := fun_mk (st := s_check_stone) l_cst c_cst k_cst
  have D_cst : DefAt K mg "check_stone" s_check_stone ["stone", "count"] f_cst _ := ⟨F_cst, PySem.W.mg_of X G a_cst, F_cst.binds fun _ _ _ _ _ _ us hl => match us, hl with | [_, _], _ => rfl⟩
  have F_csi := fun_mk (st := s_check_side) l_csi c_csi k_csi
  have D_csi : DefAt K mg "check_side" s_check_side ["side"] f_csi _ := ⟨F_csi, PySem.W.mg_of X G a_csi, F_csi.binds fun _ _ _ _ _ _ us hl => match us, hl with | [_], _ => rfl⟩
  have F_bes := fun_mk (st := s_stones_beside) l_bes c_bes k_bes
  have D_bes : DefAt K mg "stones_beside" s_stones_beside ["stone", "side", "count"] f_bes _ := ⟨F_bes, PySem.W.mg_of X G a_bes, F_bes.binds fun _ _ _ _ _ _ us hl => match us, hl with | [_, _, _], _ => rfl⟩
  have F_fel := fun_mk (st := s_felled_by) l_fel c_fel k_fel
  have D_fel : DefAt K mg "felled_by" s_felled_by ["stones", "standing", "stone", "side"] f_fel _ := ⟨F_fel, PySem.W.mg_of X G a_fel, F_fel.binds fun _ _ _ _ _ _ us hl => match us, hl with | [_, _, _, _], _ => rfl⟩
  have F_iss := fun_mk (st := s_is_stone) l_iss c_iss k_iss
  have D_iss : DefAt K mg "_is_stone" s_is_stone ["stone", "least_place"] f_iss _ := ⟨F_iss, PySem.W.mg_of X G a_iss, F_iss.binds fun _ _ _ _ _ _ us hl => match us, hl with | [_, _], _ => rfl⟩
  have F_dis := fun_mk (st := s_distance) l_dis c_dis k_dis
  have D_dis : DefAt K mg "_distance" s_distance ["row", "stone", "other"] f_dis _ := ⟨F_dis, PySem.W.mg_of X G a_dis, F_dis.binds fun _ _ _ _ _ _ us hl => match us, hl with | [_, _, _], _ => rfl⟩
  have F_rer := fun_mk (st := s_reaches) l_rer c_rer k_rer
  have b_rer := F_rer.binds (ps := ["stone", "other"]) fun _ _ _ _ _ _ us hl => match us, hl with | [_, _], _ => rfl
  have F_rea := fun_mk (st := s_reaches2) l_rea c_rea k_rea
  have b_rea := F_rea.binds (ps := ["row", "stone", "other"]) fun _ _ _ _ _ _ us hl => match us, hl with | [_, _, _], _ => rfl
  have F_tic := fun_mk (st := s_fall_ticks) l_tic c_tic k_tic
  have D_tic : DefAt K mg "fall_ticks" s_fall_ticks ["row", "stone", "side"] f_tic _ := ⟨F_tic, PySem.W.mg_of X G a_tic, F_tic.binds fun _ _ _ _ _ _ us hl => match us, hl with | [_, _, _], _ => rfl⟩
  have F_wit := fun_mk (st := s_is_within_another) l_wit c_wit k_wit
  have D_wit : DefAt K mg "_is_within_another" s_is_within_another ["run", "runs"] f_wit _ := ⟨F_wit, PySem.W.mg_of X G a_wit, F_wit.binds fun _ _ _ _ _ _ us hl => match us, hl with | [_, _], _ => rfl⟩
  have F_gre := fun_mk (st := s_greatest_runs) l_gre c_gre k_gre
  have D_gre : DefAt K mg "greatest_runs" s_greatest_runs ["row", "side"] f_gre _ := ⟨F_gre, PySem.W.mg_of X G a_gre, F_gre.binds fun _ _ _ _ _ _ us hl => match us, hl with | [_, _], _ => rfl⟩
  have F_tos := fun_mk (st := s_fewest_to_side) l_tos c_tos k_tos
  have D_tos : DefAt K mg "fewest_to_side" s_fewest_to_side ["row", "side"] f_tos _ := ⟨F_tos, PySem.W.mg_of X G a_tos, F_tos.binds fun _ _ _ _ _ _ us hl => match us, hl with | [_, _], _ => rfl⟩
  have F_few := fun_mk (st := s_fewest_taken) l_few c_few k_few
  have D_few : DefAt K mg "fewest_taken" s_fewest_taken ["row", "stone", "side", "goal"] f_few _ := ⟨F_few, PySem.W.mg_of X G a_few, F_few.binds fun _ _ _ _ _ _ us hl => match us, hl with | [_, _, _, _], _ => rfl⟩
  have F_bet := fun_mk (st := s_reaching_between) l_bet c_bet k_bet
  have D_bet : DefAt K mg "_reaching_between" s_reaching_between ["row", "stone", "spared"] f_bet _ := ⟨F_bet, PySem.W.mg_of X G a_bet, F_bet.binds fun _ _ _ _ _ _ us hl => match us, hl with | [_, _, _], _ => rfl⟩
  have F_ren := fun_mk (st := s_run_end) l_ren c_ren k_ren
  have D_ren : DefAt K mg "_run_end" s_run_end ["row", "stone", "side"] f_ren _ := ⟨F_ren, PySem.W.mg_of X G a_ren, F_ren.binds fun _ _ _ _ _ _ us hl => match us, hl with | [_, _, _], _ => rfl⟩
  have F_hfr := fun_mk (st := s_height_for_run) l_hfr c_hfr k_hfr
  have D_hfr : DefAt K mg "_height_for_run" s_height_for_run ["row", "stone", "side"] f_hfr _ := ⟨F_hfr, PySem.W.mg_of X G a_hfr, F_hfr.binds fun _ _ _ _ _ _ us hl => match us, hl with | [_, _, _], _ => rfl⟩
  have F_lhs := fun_mk (st := s_least_heights) l_lhs c_lhs k_lhs
  have D_lhs : DefAt K mg "least_heights" s_least_heights ["row"] f_lhs _ := ⟨F_lhs, PySem.W.mg_of X G a_lhs, F_lhs.binds fun _ _ _ _ _ _ us hl => match us, hl with | [_], _ => rfl⟩
  have F_spa := fun_mk (st := s_spared_without) l_spa c_spa k_spa
  have D_spa : DefAt K mg "spared_without" s_spared_without ["row", "stone", "side", "other"] f_spa _ := ⟨F_spa, PySem.W.mg_of X G a_spa, F_spa.binds fun _ _ _ _ _ _ us hl => match us, hl with | [_, _, _, _], _ => rfl⟩
  have F_few2 := fun_mk (st := s_felled_without) l_few2 c_few2 k_few2
  have D_few2 : DefAt K mg "_felled_without" s_felled_without ["row", "stone", "side", "other"] f_few2 _ := ⟨F_few2, PySem.W.mg_of X G a_few2, F_few2.binds fun _ _ _ _ _ _ us hl => match us, hl with | [_, _, _, _], _ => rfl⟩
  have F_upt := fun_mk (st := s_fewest_up_to) l_upt c_upt k_upt
  have D_upt : DefAt K mg "_fewest_up_to" s_fewest_up_to ["row", "last", "pushes_for"] f_upt _ := ⟨F_upt, PySem.W.mg_of X G a_upt, F_upt.binds fun _ _ _ _ _ _ us hl => match us, hl with | [_, _, _], _ => rfl⟩
  have F_few3 := fun_mk (st := s_fewest_pushes) l_few3 c_few3 k_few3
  have D_few3 : DefAt K mg "fewest_pushes" s_fewest_pushes ["row"] f_few3 _ := ⟨F_few3, PySem.W.mg_of X G a_few3, F_few3.binds fun _ _ _ _ _ _ us hl => match us, hl with | [_], _ => rfl⟩
  have F_las := fun_mk (st := s_last_hit) l_las c_las k_las
  have D_las : DefAt K mg "_last_hit" s_last_hit ["row", "period", "stone"] f_las _ := ⟨F_las, PySem.W.mg_of X G a_las, F_las.binds fun _ _ _ _ _ _ us hl => match us, hl with | [_, _, _], _ => rfl⟩
  have F_nex := fun_mk (st := s_next_front) l_nex c_nex k_nex
  have D_nex : DefAt K mg "_next_front" s_next_front ["hits", "first", "front"] f_nex _ := ⟨F_nex, PySem.W.mg_of X G a_nex, F_nex.binds fun _ _ _ _ _ _ us hl => match us, hl with | [_, _, _], _ => rfl⟩
  have F_fro := fun_mk (st := s_fronts_of_wave) l_fro c_fro k_fro
  have D_fro : DefAt K mg "_fronts_of_wave" s_fronts_of_wave ["hits", "first"] f_fro _ := ⟨F_fro, PySem.W.mg_of X G a_fro, F_fro.binds fun _ _ _ _ _ _ us hl => match us, hl with | [_, _], _ => rfl⟩
  have F_rep := fun_mk (st := s_first_repeat) l_rep c_rep k_rep
  have D_rep : DefAt K mg "_first_repeat" s_first_repeat ["fronts", "count"] f_rep _ := ⟨F_rep, PySem.W.mg_of X G a_rep, F_rep.binds fun _ _ _ _ _ _ us hl => match us, hl with | [_, _], _ => rfl⟩
  have F_tak := fun_mk (st := s_law_taken) l_tak c_tak k_tak
  have D_tak : DefAt K mg "_law_taken" s_law_taken ["_law_row_here", "_law_many"] f_tak _ := ⟨F_tak, PySem.W.mg_of X G a_tak, F_tak.binds fun _ _ _ _ _ _ us hl => match us, hl with | [_, _], _ => rfl⟩
  have F_sto := fun_mk (st := s_law_stones) l_sto c_sto k_sto
  have D_sto : DefAt K mg "_law_stones" s_law_stones ["_law_row_here", "_law_most"] f_sto _ := ⟨F_sto, PySem.W.mg_of X G a_sto, F_sto.binds fun _ _ _ _ _ _ us hl => match us, hl with | [_, _], _ => rfl⟩
  have F_row := fun_mk (st := s_law_row) l_row c_row k_row
  have D_row : DefAt K mg "_law_row" s_law_row ["_law_stones_here"] f_row _ := ⟨F_row, PySem.W.mg_of X G a_row, F_row.binds fun _ _ _ _ _ _ us hl => match us, hl with | [_], _ => rfl⟩
  have F_ali := fun_mk (st := s_law_alike) l_ali c_ali k_ali
  have D_ali : DefAt K mg "_law_alike" s_law_alike ["_law_one", "_law_due"] f_ali _ := ⟨F_ali, PySem.W.mg_of X G a_ali, F_ali.binds fun _ _ _ _ _ _ us hl => match us, hl with | [_, _], _ => rfl⟩
  have F_tol := fun_mk (st := s_law_told) l_tol c_tol k_tol
  have D_tol : DefAt K mg "_law_told" s_law_told ["_law_one"] f_tol _ := ⟨F_tol, PySem.W.mg_of X G a_tol, F_tol.binds fun _ _ _ _ _ _ us hl => match us, hl with | [_], _ => rfl⟩
  have F_kep := fun_mk (st := s_law_kept) l_kep c_kep k_kep
  have D_kep : DefAt K mg "_law_kept" s_law_kept ["_law_thing"] f_kep _ := ⟨F_kep, PySem.W.mg_of X G a_kep, F_kep.binds fun _ _ _ _ _ _ us hl => match us, hl with | [_], _ => rfl⟩
  have F_law := fun_mk (st := s_law) l_law c_law k_law
  have D_law : DefAt K mg "law" s_law ["_law_script"] f_law _ := ⟨F_law, PySem.W.mg_of X G a_law, F_law.binds fun _ _ _ _ _ _ us hl => match us, hl with | [_], _ => rfl⟩
  have F_pla := fun_mk (st := s_Row_places) l_pla c_pla k_pla
  have b_pla := F_pla.binds (ps := ["self"]) fun _ _ _ _ _ _ us hl => match us, hl with | [_], _ => rfl
  have P_pla : PropOf K C "places" p_pla f_pla := ⟨pa_pla, pb_pla, pc_pla, ⟨rs_pla, pd_pla⟩⟩
  have F_get := fun_mk (st := s_Row_stones) l_get c_get k_get
  have b_get := F_get.binds (ps := ["self"]) fun _ _ _ _ _ _ us hl => match us, hl with | [_], _ => rfl
  have P_get : PropOf K C "stones" p_get f_get := ⟨pa_get, pb_get, pc_get, ⟨rs_get, pd_get⟩⟩
  have F_ein := fun_mk (st := s_EndlessRow_init) l_ein c_ein k_ein
  have b_ein := F_ein.binds (ps := ["self", "row", "period"]) fun _ _ _ _ _ _ us hl => match us, hl with | [_, _, _], _ => rfl
  have F_ewa := fun_mk (st := s_EndlessRow_wave) l_ewa c_ewa k_ewa
  have b_ewa := F_ewa.binds (ps := ["self", "stone"]) fun _ _ _ _ _ _ us hl => match us, hl with | [_, _], _ => rfl
  have F_win := fun_mk (st := s_Wave_init) l_win c_win k_win
  have b_win := F_win.binds (ps := ["self", "row", "period", "stone"]) fun _ _ _ _ _ _ us hl => match us, hl with | [_, _, _, _], _ => rfl
  have F_wen := fun_mk (st := s_Wave_is_endless) l_wen c_wen k_wen
  have b_wen := F_wen.binds (ps := ["self"]) fun _ _ _ _ _ _ us hl => match us, hl with | [_], _ => rfl
  have P_wen : PropOf K W "is_endless" p_wen f_wen := ⟨pa_wen, pb_wen, pc_wen, ⟨rs_wen, pd_wen⟩⟩
  have F_wla := fun_mk (st := s_Wave_last_fallen) l_wla c_wla k_wla
  have b_wla := F_wla.binds (ps := ["self"]) fun _ _ _ _ _ _ us hl => match us, hl with | [_], _ => rfl
  have P_wla : PropOf K W "last_fallen" p_wla f_wla := ⟨pa_wla, pb_wla, pc_wla, ⟨rs_wla, pd_wla⟩⟩
  have F_wco := fun_mk (st := s_Wave_count_after) l_wco c_wco k_wco
  have b_wco := F_wco.binds (ps := ["self", "tick"]) fun _ _ _ _ _ _ us hl => match us, hl with | [_, _], _ => rfl
  have F_wfa := fun_mk (st := s_Wave_front_after) l_wfa c_wfa k_wfa
  have b_wfa := F_wfa.binds (ps := ["self", "tick"]) fun _ _ _ _ _ _ us hl => match us, hl with | [_, _], _ => rfl
  have F_wti := fun_mk (st := s_Wave_tick_of) l_wti c_wti k_wti
  have b_wti := F_wti.binds (ps := ["self", "number", "stone"]) fun _ _ _ _ _ _ us hl => match us, hl with | [_, _, _], _ => rfl
  have F_wft := fun_mk (st := s_Wave_first_tick) l_wft c_wft k_wft
  have b_wft := F_wft.binds (ps := ["self", "ordinal"]) fun _ _ _ _ _ _ us hl => match us, hl with | [_, _], _ => rfl
  have F_fal := fun_mk (st := s_falls_by) l_fal c_fal k_fal
  have L : Lims mg := ⟨⟨tP, PySem.W.mg_of X G aP⟩, ⟨tH, PySem.W.mg_of X G aH⟩⟩
  have R : RowC K mg C := ⟨⟨pg, hd, po, sa⟩, nQ, ⟨_, mM, ⟨tM, rfl⟩, gM, by decide⟩, PySem.W.mg_of X G aC, sf, ca, cn, ct, cm⟩
  have M : Mk K C f_ini := ⟨mk, a_ini, i_ini, kc⟩
  have hS : ∀ H : Hp, SqT K H S [.str "left", .str "right"] := fun H => .inr ⟨_, itS, nS, lS, rfl, rfl, pS, vS⟩
  refine ⟨PySem.W.fnOf "law" "law" (defArgs s_law) (defBody s_law) (defScope s_law) .none kV_law dc_law pm_law an_law cd_law ct_law, fun s v => .of_eq rfl, fun base _ _ => ?_⟩
  have A_num := D_num.at (ok_num (P := l.prog) (w := w) (base := base) F_num B)
  have A_cst := D_cst.at (ok_checkStone F_cst A_num)
  have A_csi := D_csi.at (ok_checkSide (P := l.prog) (w := w) (base := base) F_csi (PySem.W.mg_of X G aS) hS)
  have A_bes := D_bes.at (ok_beside (P := l.prog) (w := w) (base := base) F_bes B)
  have A_fel := D_fel.at (ok_felled F_fel B A_bes)
  have A_iss := D_iss.at (ok_isStone F_iss B L A_num)
  have G_ini : FnR l.prog w K mg base CX0 3 f_ini (spMake K C) := ok_init F_ini B R A_iss
  have G_len := toR (ok_len (P := l.prog) (w := w) (base := base) F_len B R) b_len
  have G_add := toR (ok_add F_add B R M G_ini) b_add
  have G_cal := toR (ok_call F_cal B R A_cst A_csi A_fel) b_cal
  have G_gti := toR (ok_item F_gti B R A_cst) b_gti
  have O_pla := ok_places (P := l.prog) (w := w) (base := base) F_pla B R
  have O_get := ok_get (P := l.prog) (w := w) (base := base) F_get R
  have A_dis := D_dis.at (ok_dist F_dis B R P_pla O_pla b_pla)
  have A_chn := D_chn.at (ok_checkNum F_chn A_num)
  have mS := PySem.W.mg_of X G aS
  have SL : Sign K C "__len__" f_len := ⟨a_len, i_len⟩
  have SG : Sign K C "__getitem__" f_gti := ⟨a_gti, i_gti⟩
  have OC : StX.CallO K C f_cal := ⟨a_cal, i_cal, n_cal⟩
  have A_rer : At l.prog w K mg base CX0 1 "reaches_runs" ["stone", "other"] (spReaches K) f_rer _ := ⟨ok_reaches F_rer B, PySem.W.mg_of X G a_rer, F_rer.kp, b_rer⟩
  have A_rea : At l.prog w K mg base CX0 5 "reaches_cutting" ["row", "stone", "other"] (spTouch K C) f_rea _ := ⟨ok_touch F_rea R SG n_gti G_gti A_dis, PySem.W.mg_of X G a_rea, F_rea.kp, b_rea⟩
  have A_tic := D_tic.at (ok_ticks F_tic B R SL G_len P_get O_get b_get A_cst A_csi A_bes A_rer)
  have A_wit := D_wit.at (ok_within (P := l.prog) (w := w) (base := base) F_wit (PySem.W.mg_none_of X G z_any))
  have A_gre := D_gre.at (ok_great F_gre B R OC G_cal SL G_len A_csi A_wit)
  have A_tos := D_tos.at (ok_toSide F_tos A_gre)
  have A_bet := D_bet.at (ok_betw F_bet B A_rea)
  have A_few := D_few.at (ok_fewT F_few B R OC G_cal SL G_len A_cst A_bes A_bet A_rea)
  have A_upt := D_upt.at (ok_upTo F_upt B OC G_cal)
  have A_few3 := D_few3.at (ok_fewest F_few3 B SL G_len A_upt)
  have A_tak := D_tak.at (ok_taken (P := l.prog) (w := w) (base := base) F_tak B)
  have A_sto := D_sto.at (ok_stones F_sto B A_tak)
  have A_row := D_row.at (ok_row F_row B R M G_ini G_add ⟨a_add, i_add⟩)
  have cE : ClsE K D := ⟨⟨pgD, hdD, poD, saD⟩, nD0, nD1⟩
  have cW : ClsW K W := ⟨⟨pgW, hdW, poW, saW⟩, nW0, nW1, nW2⟩
  have zV := PySem.W.mg_none_of X G z_divmod
  have A_few2 := D_few2.at (ok_felledW F_few2 B R SL G_len P_get O_get b_get A_fel)
  have A_spa := D_spa.at (ok_spared F_spa B R OC G_cal SL G_len A_cst A_few2)
  have A_las := D_las.at (ok_lastHit F_las B R zV SL G_len SG n_gti G_gti P_pla O_pla b_pla)
  have A_nex := D_nex.at (ok_next (P := l.prog) (w := w) (base := base) F_nex B zV)
  have A_fro := D_fro.at (ok_fronts F_fro B A_nex)
  have A_rep := D_rep.at (ok_repeat (P := l.prog) (w := w) (base := base) F_rep B zV)
  have O_ein := ok_eInit F_ein B R cE ⟨_, PySem.W.mg_of X G aW, ⟨tW, rfl⟩⟩ SL G_len P_pla O_pla b_pla A_chn
  have O_win := ok_wInit F_win B R cW SL G_len A_las A_fro A_rep
  have O_ewa := ok_wave F_ewa B cE (PySem.W.mg_of X G aWc) SL G_len A_cst ⟨mkW, a_win, i_win, kcW⟩ O_win b_win
  have O_wen := ok_isEnd (P := l.prog) (w := w) (mg := mg) (base := base) F_wen cW
  have O_wla := ok_last (P := l.prog) (w := w) (mg := mg) (base := base) F_wla cW zV
  have O_wfa := ok_frontA (P := l.prog) (w := w) (base := base) F_wfa B cW zV
  have O_wco := ok_countA F_wco cW ⟨_, PySem.W.mg_of X G aX, ⟨tX, rfl⟩⟩ A_chn ⟨a_wfa, i_wfa, k_wfa⟩ O_wfa b_wfa
  have O_wft := ok_firstT (P := l.prog) (w := w) (base := base) F_wft B cW
  have O_wti := ok_tickOf F_wti B cW ⟨_, PySem.W.mg_of X G aY, ⟨tY, rfl⟩⟩ A_chn A_cst ⟨a_wft, i_wft, k_wft⟩ O_wft b_wft
  have A_ren := D_ren.at (ok_runEnd F_ren OC G_cal)
  have A_hfr := D_hfr.at (ok_hfr F_hfr B SL G_len A_bes A_ren A_dis)
  have A_lhs := D_lhs.at (ok_LH F_lhs B mS hS SL G_len A_hfr)
  have G_fal := ok_falls F_fal B R A_cst A_csi A_fel P_get O_get b_get
  have A_ali := ok_alike (P := l.prog) (w := w) (base := base) D_ali B 3
  have A_kep := ok_kept (P := l.prog) (w := w) (base := base) D_kep B 3
  have A_tol := D_tol.at (ok_told11 F_tol B R cE cW SL G_len P_pla O_pla b_pla (PySem.W.mg_of X G aD) ⟨mkD, a_ein, i_ein, kcD⟩ O_ein b_ein ⟨a_ewa, i_ewa, k_ewa⟩ O_ewa b_ewa P_wen O_wen b_wen P_wla O_wla b_wla ⟨a_wco, i_wco, k_wco⟩ O_wco b_wco ⟨a_wti, i_wti, k_wti⟩ O_wti b_wti (PySem.W.mg_of X G a_fal) k_fal G_fal A_gre A_tos A_spa A_lhs A_few A_tic A_few3)
  exact ok_law F_law B A_tak A_sto A_row A_tol A_kep A_ali A_tic
theorem walk {l : PySem.W.OpenLaw} {q : Program} {loose : List Str} {XP : (Str → Option Value) → Heap → Prop} {YP : World → Heap → Prop} {d : DefRec} {K : Params → PySem.W.Frag} (hn : l.most = some 63) (hdf : d.params.defaults = [])
    (hY : ∀ (w : World) (h : Heap), YP w h → (K w.params).In h)
    (F : ∀ (w : World) (mg : Str → Option Value) (fa : Addr) (h : Heap), (K w.params).In h → h.Ns mainGlobals mg → mg d.name = some (.ref fa) →
      ∃ fd : FuncData, (∀ (s : Shared) (u : Value), BindsTo s fd ⟨[u], []⟩ [("_law_script", u)]) ∧ ∀ base : Heap, (K w.params).In base → base.Ns mainGlobals mg → FnOk l.prog w (K w.params) mg base CX0 10 fa fd ["_law_script"] (spLaw (K w.params))) :
    PySem.W.WalkO q loose XP YP l.row.toRowW d [] (fun f vs => PySem.call f vs) :=
  L2.walk_of (n := 63) (k := 10) (x := "_law_script") (CX := fun _ => CX0) (sp := fun w => spLaw (K w.params)) hn (by decide) hdf ⟨rfl, by decide, by decide⟩ hY F (fun _ _ a ns hl _ hS => ⟨a, ns, rfl, hS, hl, fun _ => rfl⟩) fun _ _ _ _ _ z => z
end RD
end
open PySem PySem.W PyProof.Rows
set_option maxRecDepth 100000 in
set_option maxHeartbeats 0 in
theorem PySem.Challenge.cw_rowdominoes_k11_repeated_calls_holds : PySem.Challenge.rw_rowdominoes_k11_repeated_calls.Holds := by
  w_on; o_law; k_head; (case hw => w_witness2)
  k_fill
  refine RD.walk (l := PySem.Challenge.rw_rowdominoes_k11_repeated_calls) rfl rfl (fun w h Y => PySem.W.kIn_of Y) ?F
  case F =>
    intro w mg fa h KX G hmg
    refine' RD.all_mk KX G hmg ?aC ?a_ini ?i_ini ?l_ini ?c_ini ?k_ini ?a_len ?i_len ?l_len ?c_len ?k_len ?a_add ?i_add ?l_add ?c_add ?k_add ?a_cal ?i_cal ?l_cal ?c_cal ?k_cal ?n_cal ?a_gti ?i_gti ?l_gti ?c_gti ?k_gti ?n_gti ?a_num ?l_num ?c_num ?k_num ?a_chn ?l_chn ?c_chn ?k_chn ?a_cst ?l_cst ?c_cst ?k_cst ?a_csi ?l_csi ?c_csi ?k_csi ?a_bes ?l_bes ?c_bes ?k_bes ?a_fel ?l_fel ?c_fel ?k_fel ?a_iss ?l_iss ?c_iss ?k_iss ?a_dis ?l_dis ?c_dis ?k_dis ?a_rer ?l_rer ?c_rer ?k_rer ?a_rea ?l_rea ?c_rea ?k_rea ?a_tic ?l_tic ?c_tic ?k_tic ?a_wit ?l_wit ?c_wit ?k_wit ?a_gre ?l_gre ?c_gre ?k_gre ?a_tos ?l_tos ?c_tos ?k_tos ?a_few ?l_few ?c_few ?k_few ?a_bet ?l_bet ?c_bet ?k_bet ?a_ren ?l_ren ?c_ren ?k_ren ?a_hfr ?l_hfr ?c_hfr ?k_hfr ?a_lhs ?l_lhs ?c_lhs ?k_lhs ?a_spa ?l_spa ?c_spa ?k_spa ?a_few2 ?l_few2 ?c_few2 ?k_few2 ?a_upt ?l_upt ?c_upt ?k_upt ?a_few3 ?l_few3 ?c_few3 ?k_few3 ?a_las ?l_las ?c_las ?k_las ?a_nex ?l_nex ?c_nex ?k_nex ?a_fro ?l_fro ?c_fro ?k_fro ?a_rep ?l_rep ?c_rep ?k_rep ?a_tak ?l_tak ?c_tak ?k_tak ?a_sto ?l_sto ?c_sto ?k_sto ?a_row ?l_row ?c_row ?k_row ?a_ali ?l_ali ?c_ali ?k_ali ?a_tol ?l_tol ?c_tol ?k_tol ?a_kep ?l_kep ?c_kep ?k_kep ?a_law ?l_law ?c_law ?k_law ?z_isinstance ?z_int ?z_bool ?z_len ?z_tuple ?z_list ?z_range ?z_enumerate ?z_abs ?z_max ?z_min ?z_sorted ?aS ?lS ?pS ?vS ?aP ?aH ?pg ?hd ?po ?sa ?mk ?kc ?nQ ?mM ?gM ?sf ?ca ?cn ?ct ?cm ?z_any ?z_dict ?z_divmod ?aW ?aX ?aY ?aD ?pgD ?hdD ?poD ?saD ?mkD ?kcD ?nD0 ?nD1 ?aWc ?pgW ?hdW ?poW ?saW ?mkW ?kcW ?nW0 ?nW1 ?nW2 ?pa_pla ?pb_pla ?pc_pla ?pd_pla ?l_pla ?c_pla ?k_pla ?pa_get ?pb_get ?pc_get ?pd_get ?l_get ?c_get ?k_get ?a_ein ?i_ein ?l_ein ?c_ein ?k_ein ?a_ewa ?i_ewa ?l_ewa ?c_ewa ?k_ewa ?a_win ?i_win ?l_win ?c_win ?k_win ?pa_wen ?pb_wen ?pc_wen ?pd_wen ?l_wen ?c_wen ?k_wen ?pa_wla ?pb_wla ?pc_wla ?pd_wla ?l_wla ?c_wla ?k_wla ?a_wco ?i_wco ?l_wco ?c_wco ?k_wco ?a_wfa ?i_wfa ?l_wfa ?c_wfa ?k_wfa ?a_wti ?i_wti ?l_wti ?c_wti ?k_wti ?a_wft ?i_wft ?l_wft ?c_wft ?k_wft ?a_fal ?l_fal ?c_fal ?k_fal
    (case aC => k_is)
    (case a_ini => k_is)
    (case i_ini => k_is)
    (case l_ini => k_is)
    (case c_ini => k_is)
    (case k_ini => k_is)
    (case a_len => k_is)
    (case i_len => k_is)
    (case l_len => k_is)
    (case c_len => k_is)
    (case k_len => k_is)
    (case a_add => k_is)
    (case i_add => k_is)
    (case l_add => k_is)
    (case c_add => k_is)
    (case k_add => k_is)
    (case a_cal => k_is)
    (case i_cal => k_is)
    (case l_cal => k_is)
    (case c_cal => k_is)
    (case k_cal => k_is)
    (case n_cal => k_is)
    (case a_gti => k_is)
    (case i_gti => k_is)
    (case l_gti => k_is)
    (case c_gti => k_is)
    (case k_gti => k_is)
    (case n_gti => k_is)
    (case a_num => k_is)
    (case l_num => k_is)
    (case c_num => k_is)
    (case k_num => k_is)
    (case a_chn => k_is)
    (case l_chn => k_is)
    (case c_chn => k_is)
    (case k_chn => k_is)
    (case a_cst => k_is)
    (case l_cst => k_is)
    (case c_cst => k_is)
    (case k_cst => k_is)
    (case a_csi => k_is)
    (case l_csi => k_is)
    (case c_csi => k_is)
    (case k_csi => k_is)
    (case a_bes => k_is)
    (case l_bes => k_is)
    (case c_bes => k_is)
    (case k_bes => k_is)
    (case a_fel => k_is)
    (case l_fel => k_is)
    (case c_fel => k_is)
    (case k_fel => k_is)
    (case a_iss => k_is)
    (case l_iss => k_is)
    (case c_iss => k_is)
    (case k_iss => k_is)
    (case a_dis => k_is)
    (case l_dis => k_is)
    (case c_dis => k_is)
    (case k_dis => k_is)
    (case a_rer => k_is)
    (case l_rer => k_is)
    (case c_rer => k_is)
    (case k_rer => k_is)
    (case a_rea => k_is)
    (case l_rea => k_is)
    (case c_rea => k_is)
    (case k_rea => k_is)
    (case a_tic => k_is)
    (case l_tic => k_is)
    (case c_tic => k_is)
    (case k_tic => k_is)
    (case a_wit => k_is)
    (case l_wit => k_is)
    (case c_wit => k_is)
    (case k_wit => k_is)
    (case a_gre => k_is)
    (case l_gre => k_is)
    (case c_gre => k_is)
    (case k_gre => k_is)
    (case a_tos => k_is)
    (case l_tos => k_is)
    (case c_tos => k_is)
    (case k_tos => k_is)
    (case a_few => k_is)
    (case l_few => k_is)
    (case c_few => k_is)
    (case k_few => k_is)
    (case a_bet => k_is)
    (case l_bet => k_is)
    (case c_bet => k_is)
    (case k_bet => k_is)
    (case a_ren => k_is)
    (case l_ren => k_is)
    (case c_ren => k_is)
    (case k_ren => k_is)
    (case a_hfr => k_is)
    (case l_hfr => k_is)
    (case c_hfr => k_is)
    (case k_hfr => k_is)
    (case a_lhs => k_is)
    (case l_lhs => k_is)
    (case c_lhs => k_is)
    (case k_lhs => k_is)
    (case a_spa => k_is)
    (case l_spa => k_is)
    (case c_spa => k_is)
    (case k_spa => k_is)
    (case a_few2 => k_is)
    (case l_few2 => k_is)
    (case c_few2 => k_is)
    (case k_few2 => k_is)
    (case a_upt => k_is)
    (case l_upt => k_is)
    (case c_upt => k_is)
    (case k_upt => k_is)
    (case a_few3 => k_is)
    (case l_few3 => k_is)
    (case c_few3 => k_is)
    (case k_few3 => k_is)
    (case a_las => k_is)
    (case l_las => k_is)
    (case c_las => k_is)
    (case k_las => k_is)
    (case a_nex => k_is)
    (case l_nex => k_is)
    (case c_nex => k_is)
    (case k_nex => k_is)
    (case a_fro => k_is)
    (case l_fro => k_is)
    (case c_fro => k_is)
    (case k_fro => k_is)
    (case a_rep => k_is)
    (case l_rep => k_is)
    (case c_rep => k_is)
    (case k_rep => k_is)
    (case a_tak => k_is)
    (case l_tak => k_is)
    (case c_tak => k_is)
    (case k_tak => k_is)
    (case a_sto => k_is)
    (case l_sto => k_is)
    (case c_sto => k_is)
    (case k_sto => k_is)
    (case a_row => k_is)
    (case l_row => k_is)
    (case c_row => k_is)
    (case k_row => k_is)
    (case a_ali => k_is)
    (case l_ali => k_is)
    (case c_ali => k_is)
    (case k_ali => k_is)
    (case a_tol => k_is)
    (case l_tol => k_is)
    (case c_tol => k_is)
    (case k_tol => k_is)
    (case a_kep => k_is)
    (case l_kep => k_is)
    (case c_kep => k_is)
    (case k_kep => k_is)
    (case a_law => k_is)
    (case l_law => k_is)
    (case c_law => k_is)
    (case k_law => k_is)
    (case z_isinstance => k_is)
    (case z_int => k_is)
    (case z_bool => k_is)
    (case z_len => k_is)
    (case z_tuple => k_is)
    (case z_list => k_is)
    (case z_range => k_is)
    (case z_enumerate => k_is)
    (case z_abs => k_is)
    (case z_max => k_is)
    (case z_min => k_is)
    (case z_sorted => k_is)
    (case aS => k_is)
    (case lS => k_is)
    (case pS => decide)
    (case vS => exact .cons ⟨_, rfl⟩ (.cons ⟨_, rfl⟩ .nil))
    (case aP => k_is)
    (case aH => k_is)
    (case pg => k_is)
    (case hd => k_is)
    (case po => k_is)
    (case sa => k_is)
    (case mk => k_is)
    (case kc => k_is)
    (case nQ => k_is)
    (case mM => k_is)
    (case gM => k_is)
    (case sf => k_is)
    (case ca => k_is)
    (case cn => k_is)
    (case ct => k_is)
    (case cm => k_is)
    (case z_any => k_is)
    (case z_dict => k_is)
    (case z_divmod => k_is)
    (case aW => k_is)
    (case aX => k_is)
    (case aY => k_is)
    (case aD => k_is)
    (case pgD => k_is)
    (case hdD => k_is)
    (case poD => k_is)
    (case saD => k_is)
    (case mkD => k_is)
    (case kcD => k_is)
    (case nD0 => k_is)
    (case nD1 => k_is)
    (case aWc => k_is)
    (case pgW => k_is)
    (case hdW => k_is)
    (case poW => k_is)
    (case saW => k_is)
    (case mkW => k_is)
    (case kcW => k_is)
    (case nW0 => k_is)
    (case nW1 => k_is)
    (case nW2 => k_is)
    (case pa_pla => k_is)
    (case pb_pla => k_is)
    (case pc_pla => k_is)
    (case pd_pla => k_is)
    (case l_pla => k_is)
    (case c_pla => k_is)
    (case k_pla => k_is)
    (case pa_get => k_is)
    (case pb_get => k_is)
    (case pc_get => k_is)
    (case pd_get => k_is)
    (case l_get => k_is)
    (case c_get => k_is)
    (case k_get => k_is)
    (case a_ein => k_is)
    (case i_ein => k_is)
    (case l_ein => k_is)
    (case c_ein => k_is)
    (case k_ein => k_is)
    (case a_ewa => k_is)
    (case i_ewa => k_is)
    (case l_ewa => k_is)
    (case c_ewa => k_is)
    (case k_ewa => k_is)
    (case a_win => k_is)
    (case i_win => k_is)
    (case l_win => k_is)
    (case c_win => k_is)
    (case k_win => k_is)
    (case pa_wen => k_is)
    (case pb_wen => k_is)
    (case pc_wen => k_is)
    (case pd_wen => k_is)
    (case l_wen => k_is)
    (case c_wen => k_is)
    (case k_wen => k_is)
    (case pa_wla => k_is)
    (case pb_wla => k_is)
    (case pc_wla => k_is)
    (case pd_wla => k_is)
    (case l_wla => k_is)
    (case c_wla => k_is)
    (case k_wla => k_is)
    (case a_wco => k_is)
    (case i_wco => k_is)
    (case l_wco => k_is)
    (case c_wco => k_is)
    (case k_wco => k_is)
    (case a_wfa => k_is)
    (case i_wfa => k_is)
    (case l_wfa => k_is)
    (case c_wfa => k_is)
    (case k_wfa => k_is)
    (case a_wti => k_is)
    (case i_wti => k_is)
    (case l_wti => k_is)
    (case c_wti => k_is)
    (case k_wti => k_is)
    (case a_wft => k_is)
    (case i_wft => k_is)
    (case l_wft => k_is)
    (case c_wft => k_is)
    (case k_wft => k_is)
    (case a_fal => k_is)
    (case l_fal => k_is)
    (case c_fal => k_is)
    (case k_fal => k_is)
#print axioms PySem.Challenge.cw_rowdominoes_k11_repeated_calls_holds
