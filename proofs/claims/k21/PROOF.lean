import PyProof.Rows.All
import Wide.All
import OpenK.AllK
import Wide.FinOn
import KE.KOpsOwn
import KE.GoesMore
import KE.GoesEnum
import HandS.ForMost
import HandS.Star
import HandS.Conv
import HandS.Deep
import HandS.DictTup
import HandS.IsInst
import HandS.Walk
import HandS.SlotsOwn
import HandS.TupAny
import HandS.Property
import KE.KDflt
import HandS.Lambda
import HandS.EndTab
import HandS.Nested
import HandS.Words
import HandS.SetFor
import HandS.ExcIs
import HandS.ExcField
import KE.KExcIs
import HandS.More
import PyProof.InstEq
import KE.KItemsList
import KE.KDictWalk
import HandS.SortInts
import HandS.ListItems
import HandS.DictComp
import HandS.Iter
import HandS.Sort
import OpenK.KMeth
import HandS.Strs
import HandS.List
import HandS.Style
import PyProof.EqAt
import PyProof.EqKinds
import PyProof.TupleCall
import KE.KDictList
import HandS.Base
import HandS.Call
import HandS.Dict
import HandS.TupMul
import HandS.OwnEq
import HandS.EndOwn
import KE.KNestM
import HandS.ExcSuper
import HandS.ExcInit
import HandS.RaiseMore
import HandS.FStr
import HandS.WordsExc
import HandS.TupSets
import PySem.Challenge.RW_rowdominoes_k21_whole_rounds_of_endless
set_option Elab.async false
set_option maxRecDepth 100000
section
set_option maxHeartbeats 4000000
/-! Own signs of own classes, as rules of the hand layer. -/
namespace Own
open PySem PySem.Spec PyProof.Rows L2

section
variable {X : Cx} {CX : CXT} {n : Nat} {C g : Addr} {sp : Sp} {E : XK}

/-- an instance of C, as the library's rules want it -/
theorem insAt {pins : List (Addr × Obj)} {sl : L2.St} {H : Hp} {st : Shared} {a dx : Addr} {fs : List (Str × V)} (inv : Inv X pins sl H st) (ea : H a = some (.ins C dx fs)) :
    ∃ od, PySem.W.InstAt st.heap a (PySem.W.instObj C dx) C (some od) := by
  obtain ⟨mm, ob, _⟩ := ins_get inv.hok ea
  obtain ⟨od, at1, _⟩ := ob.look
  exact ⟨od, at1⟩
/-- the def of a sign, called with the object and one more -/
theorem run2 {pins : List (Addr × Obj)} {sl : L2.St} {H : Hp} {st : Shared} {Q : VK} {a : Addr} {y : V} {u : Value} (F : FnR X.prog X.w X.K X.mg X.base CX n g sp) (hr : Room n X.A) (hx : Passes CX X E) (inv : Inv X pins sl H st) (ry : RelV y u)
    (h : sp [.ref a, y] H Q E) : wpAny (model X.prog X.w) X.A (call (.ref g) [.ref a, u]) (PySem.W.CmpBack (EP X pins sl Q)) X.xe st := by
  have go := wpAny_call (run_fnR (us := [.ref a, u]) (vs := [.ref a, y]) F hr hx inv (.cons rfl (.cons ry .nil)) h)
  refine wpAny_mono go (fun r st' z => ?_) fun _ _ z => z
  obtain ⟨z', H', inv', rz, qz⟩ := z
  exact SlX.cmpback rz ⟨z', H', inv', rz, qz⟩

/-- x op y: the class of x has the sign's def, y is an instance of it, too -/
def rBin (C : Addr) (sp : Sp) (E : XK) : R2 := fun x y H Q => ∃ a dx fs b dy gs, x = .ref a ∧ y = .ref b ∧ H a = some (.ins C dx fs) ∧ H b = some (.ins C dy gs) ∧ sp [x, y] H Q E
theorem op_bin {op : Operator} (hc : PySem.W.selfFirst X.K C = true) (hs : PySem.W.findIn X.K (.ref C) (PySem.dunder op.info.2) = some (some (.ref g))) (hf : PySem.W.isFn X.K (.ref g) = true)
    (F : FnR X.prog X.w X.K X.mg X.base CX n g sp) (hr : Room n X.A) (hx : Passes CX X E) : OpR X (binaryOp op) (rBin C sp E) := by
  intro pins st sl H x y v u Q inv rx ry h
  obtain ⟨a, dx, fs, b, dy, gs, rfl, rfl, ea, eb, h⟩ := h
  obtain rfl : v = Value.ref a := rx
  obtain rfl : u = Value.ref b := ry
  obtain ⟨_, ja⟩ := insAt inv ea
  obtain ⟨_, jb⟩ := insAt inv eb
  obtain ⟨_, fr⟩ := inv.fr
  exact PySem.W.binop_K fr inv.ok.mod.kin ja jb.type hc hs hf (run2 (y := .ref b) F hr hx inv rfl h)

/-- x op y: y an int, a bool, None or a text -/
def flatTy : V → Option String
  | .int _ => some "int"
  | .bl _ => some "bool"
  | .non => some "NoneType"
  | .str _ => some "str"
  | _ => none
theorem typeOf_flat {y : V} {u : Value} {t : String} (h : flatTy y = some t) (r : RelV y u) : typeOf u = pure (.type t) := by
  cases y with
  | int i => obtain ⟨k, rfl⟩ := r; cases h; rfl
  | bl i => cases r; cases h; rfl
  | non => cases r; cases h; rfl
  | str i => obtain ⟨k, rfl⟩ := r; cases h; rfl
  | byt i => cases h
  | flt i => cases h
  | ref i => cases h
  | ty i => cases h
def rBinF (K : PySem.W.Frag) (C : Addr) (nm : String) (sp : Sp) (E : XK) : R2 := fun x y H Q => ∃ a dx fs t fo ro, x = .ref a ∧ H a = some (.ins C dx fs) ∧ flatTy y = some t ∧
  PySem.W.findIn K (.type t) (PySem.dunder nm) = some fo ∧ PySem.W.findIn K (.type t) (dunderR nm) = some ro ∧ PySem.W.subIn K (.type t) (.ref C) = some false ∧ sp [x, y] H Q E

/-- len(x): the class of x has __len__ -/
def rLen (C : Addr) (sp : Sp) (E : XK) : List V → Hp → VK → Prop := fun xs H Q => ∃ a dx fs, xs = [.ref a] ∧ H a = some (.ins C dx fs) ∧ sp [.ref a] H (fun z H' => ∃ k : Int, z = .int k ∧ 0 ≤ k ∧ k < 2 ^ 63 ∧ Q z H') E
theorem call_len (hs : PySem.W.findIn X.K (.ref C) "__len__" = some (some (.ref g))) (hf : PySem.W.isFn X.K (.ref g) = true) (F : FnR X.prog X.w X.K X.mg X.base CX n g sp) (hr : Room (n + 1) X.A) (hx : Passes CX X E) :
    CallR X (.builtin "len") (rLen C sp E) := by
  intro pins st sl H xs us Q inv r h
  obtain ⟨a, dx, fs, rfl, ea, h⟩ := h
  obtain ⟨u, rfl, ru⟩ := r.one
  obtain rfl : u = Value.ref a := ru
  obtain ⟨_, ja⟩ := insAt inv ea
  obtain ⟨_, fr⟩ := inv.fr
  have go := wpAny_call (SlX.run_at (A := X.A.in1) (us := [.ref a]) (ws := [.ref a]) F hr.in1 inv.env0.in1 hx inv (.cons rfl .nil) h)
  refine PySem.W.len_K fr inv.ok.mod.kin ja hs hf (wpAny_mono go (fun v st' z => ?_) fun _ _ z => z)
  obtain ⟨z', H', inv', rz, k, rfl, h0, h1, qz⟩ := z
  obtain ⟨t, rfl⟩ := rz
  exact ⟨⟨h0, h1⟩, .int k, H', inv'.tok _, ⟨_, rfl⟩, qz⟩
end

/-! ### C(), C(e), C(*e) where __init__ has a star -/
section
variable {X : Cx} {CX : CXT} {k : Nat} {f C : Addr} {sp : Sp} {E : XK} {x : Str} {e : Expr} {te : TE} {p ps pos : Pos}
theorem pe_makeR0 (M : Mk X.K C f) (F : FnR X.prog X.w X.K X.mg X.base CX k f sp) (hr : Room (k + 1) X.A) (hg : Gl X x) (hm : X.mg x = some (.ref C)) (hx : Passes CX X E) (hdb : (x == ("__debug__" : Str)) = false := by decide) :
    PE X (.Call (.Name x p) [] [] pos) (StX.tMakeR C sp E tNil) := by
  refine ⟨fun pins st sl H Q inv h => wpAny_Call_Name_kw (ld_glob inv hg hm ?_ hdb)⟩
  exact PySem.W.callWith_K0 inv.kIn M.kp (StX.run_makeR (us := []) M F hr hx inv .nil h)
/-- C(*e) -/
def tMakeS (K : PySem.W.Frag) (C : Addr) (sp : Sp) (E : XK) (te : TE) : TE := fun sl H Q => te sl H fun y H1 => ∃ a xs, y = V.ref a ∧ (SqT K H1 a xs ∨ SqL K H1 a xs) ∧ ∀ z dz, H1 z = Option.none → H1 dz = Option.none → dz ≠ z →
  sp (V.ref z :: xs) (upd (upd H1 dz (.own z)) z (.ins C dz [])) (fun v H2 => v = .non ∧ Q (.ref z) H2) E
theorem pe_makeS (M : Mk X.K C f) (F : FnR X.prog X.w X.K X.mg X.base CX k f sp) (hr : Room (k + 1) X.A) (hg : Gl X x) (hm : X.mg x = some (.ref C)) (hx : Passes CX X E) (he : PE X e te) (hdb : (x == ("__debug__" : Str)) = false := by decide)
    (hst : starEach [.Starred e ps] X.env = [(true, eval e X.env)] := by rfl) : PE X (.Call (.Name x p) [.Starred e ps] [] pos) (tMakeS X.K C sp E te) := by
  refine ⟨fun pins st sl H Q inv h => wpAny_Call_Name_kw (ld_glob inv hg hm ?_ hdb)⟩
  refine PySem.W.callWith_S (h₀ := X.base) inv.ok.mod.kin M.kp (thn (he.run pins st sl H _ inv h) fun v s1 z => ?_) hst
  obtain ⟨y, H1, inv1, ry, a, xs, ey, hxs, q⟩ := z
  subst ey
  obtain rfl : v = Value.ref a := ry
  exact StX.star_any inv1 hxs fun us s2 inv2 rv => ⟨inv2.kIn, StX.run_makeR M F hr hx inv2 rv q⟩
end

/-! ### enumerate(tuple) -/
section
def Item (K : PySem.W.Frag) (a : Addr) : It :=
  ⟨fun i H => ∃ (xs : List V) (x : V), SqT K H a xs ∧ xs[i]? = some x, fun i H v H' => ∃ T x, v = .ref T ∧ H T = none ∧ H' = upd H T (.tup [.int (i : Nat), x]) ∧ ∀ ys, SqT K H a ys → ys[i]? = some x, fun i H => ∃ ys : List V, SqT K H a ys ∧ ys.length = i⟩
theorem walk_item {K : PySem.W.Frag} {a : Addr} {xs : List V} : Walk (Item K a) xs.length (fun H => SqT K H a xs) (YPair (fun i => some (.int (i : Nat))) (fun i => xs[i]?)) := by
  refine ⟨fun i _ hi q => ⟨xs, xs[i], q, by simp [hi]⟩, fun _ q => ⟨xs, q, rfl⟩, fun i H v H' _ q y => ?_⟩
  obtain ⟨T, x, e1, e2, e3, e4⟩ := y
  exact ⟨T, .int (i : Nat), x, e1, e2, e3, rfl, e4 xs q⟩
theorem two_cases {b en it : Addr} (hb : b ∈ [en, it]) : b = en ∨ b = it := by simpa using hb
theorem turn_item {P : Program} {w : World} {K : PySem.W.Frag} {elts : List Expr} {kk : Nat} {tpos : Pos} (a en it : Addr) (hat : a ≠ it) :
    Turn P w K (.Tuple elts kk tpos) (Item K a) [en, it] en (fun i h => (∃ old, IsEnum h en it ((i : Nat) : Int) old) ∧ h.IsTupleIter it a i ∧ en ≠ it ∧ en ≠ a) where
  mem := by simp
  obj := fun i h st b hb => by
    obtain ⟨⟨_, q⟩, ⟨oo, q1, _, q2⟩, _⟩ := st
    rcases two_cases hb with rfl | rfl
    · exact ⟨_, q, fun v z => nomatch z⟩
    · exact ⟨oo, q1, fun v z => by rw [q2] at z; cases z⟩
  keep := fun i h h' st k => let ⟨⟨old, q⟩, q1, q2⟩ := st; ⟨⟨old, k en (by simp) _ q⟩, q1.at fun o z => k it (by simp) o z, q2⟩
  item := by
    intro X hP hw hK hc i pins st sl H E inv free now hg
    subst hP hw hK
    obtain ⟨⟨old, q⟩, q1, q2, q3⟩ := now
    obtain ⟨xs, x, hq, hx⟩ := hg
    obtain ⟨its, rv, hp, _⟩ := inv.tuple hq
    obtain ⟨u, hu, ru⟩ := rv.get hx
    have lt1 : en < st.heap.objs.size := Heap.lt_size q
    have lt2 : it < st.heap.objs.size := by obtain ⟨_, z, _⟩ := q1; exact Heap.lt_size z
    have lt3 : a < st.heap.objs.size := by obtain ⟨_, z, _⟩ := hp; exact Heap.lt_size z
    have dr := Draws.tuple (prog := X.prog) (w := X.w) (A := X.A.in1) (show X.A.in1.handled = none from inv.ok.hd hc) it a hat its.toArray
    have hi : i < its.toArray.size := by
      have := (List.getElem?_eq_some_iff.mp hu).1
      simpa using this
    refine wpAny_pyNext_enum_itemD dr q ⟨q1, hp⟩ hi q2 (by simp [q2, q3]) fun x' h1 tk hx' ho hs1 hT hsz hk => ?_
    obtain rfl : x' = u := by
      have z : its.toArray[i]? = some u := by simpa using hu
      rw [z] at hx'
      exact (Option.some.inj hx').symm
    refine ⟨_, rfl, wpAny_letOwnedTupleGo_enum (s := { st with heap := h1, toks := tk + 1 }) ho fun h2 he2 sb => ?_⟩
    have hT2 : h2.get? st.heap.objs.size = some { cls := .type "tuple", data := .seq #[.int i tk, x'] } := (sb.2 _ (Nat.ne_of_gt lt1)).trans hT
    have pair : ObjOk X.prog X.w (upd H st.heap.objs.size (.tup [.int (i : Nat), x])) h2 st.heap.objs.size (.tup [.int (i : Nat), x]) :=
      ⟨by show 2 ≤ sizeLine; decide, [.int i tk, x'], .cons ⟨_, rfl⟩ (.cons ru .nil), ⟨_, hT2, rfl, _, rfl⟩⟩
    have inv2 : Inv X pins sl (upd H st.heap.objs.size (.tup [.int (i : Nat), x])) { st with heap := h2, toks := tk + 1 } :=
      inv.turnedNew (ch := [en, it]) (fun b ob hb z => (sb.2 b (fun y => hb (by simp [y]))).trans (hk b ob (fun y => hb (by simp [y])) (fun y => hb (by simp [y])) z)) free (Nat.le_refl _) pair
    refine ⟨.ref st.heap.objs.size, _, inv2, rfl, ⟨_, x, rfl, inv.hok.fresh (Nat.le_refl _), rfl, fun ys hy => by rw [inv.tuple_inj hy hq]; exact hx⟩, ⟨⟨x', ?_⟩, hs1.1.at fun o z => (sb.2 it (Ne.symm q2)).trans z, q2, q3⟩, fun b hb => ?_⟩
    · have e1 : ((i + 1 : Nat) : Int) = (i : Int) + 1 := by omega
      rw [e1]
      exact he2
    · have hb' : b < st.heap.objs.size := by
        rcases two_cases hb with rfl | rfl
        · exact lt1
        · exact lt2
      rw [upd_ne (Nat.ne_of_lt hb')]
      exact (free b hb).1
  done := by
    intro X hP hw hK hc i pins st sl H E inv free now hg
    subst hP hw hK
    obtain ⟨⟨old, q⟩, q1, q2, q3⟩ := now
    obtain ⟨xs, hq, hx⟩ := hg
    obtain ⟨its, rv, hp, _⟩ := inv.tuple hq
    obtain ⟨f0, f1, f2, f3, f4, f5⟩ := free it (by simp)
    have len := rv.length
    have dr := Draws.tuple (prog := X.prog) (w := X.w) (A := X.A.in1) (show X.A.in1.handled = none from inv.ok.hd hc) it a hat (its.toArray)
    have hn : i = its.toArray.size := by rw [List.size_toArray, ← len, hx]
    subst hn
    exact wpAny_pyNext_enum_endD dr q ⟨q1, hp⟩ fun h1 eb => ⟨rfl, inv.turned (t' := st.toks) (fun b o hb z => eb b o hb z) f0 f1 f3 f4 f5⟩
  self := fun A i s Q E now h => let ⟨⟨_, q⟩, _⟩ := now; wpAny_pyIter_enum q h

theorem new_enum {v : Value} {o : Obj} {G : Heap → Prop} (B : Begins v o G) :
    Meets (Builtin.«enumerate.__new__» ⟨[.type "enumerate", v], []⟩) (fun _ R st => G st.heap ∧
      R (.ok (.ret (.ref (st.heap.push o).objs.size))) { st with heap := (st.heap.push o).push { cls := .type "enumerate", data := .fields #[.none, .bool false, .ref st.heap.objs.size, rawInt 0, .none, .none] } }) :=
  .of_wp fun prog w A R st h => by
    obtain ⟨hp, g, d, tk, os⟩ := st; obtain ⟨h1, h⟩ := h
    have hsub := sub_enumerate
    have it1 : ∀ {A' : Around} {E : Value → Shared → Prop} {Q : Value → Shared → Prop}, Q (.ref hp.objs.size) ⟨hp.push o, g, d, tk, os⟩ → wpAny (model prog w) A' (pyIter v) Q E ⟨hp, g, d, tk, os⟩ :=
      fun z => B.iter prog w _ _ ⟨hp, g, d, tk, os⟩ _ h1 z
    wp_walk using it1
    refine wpAny_stack_any fun fs => wpAny_pure ?_
    split
    · rename_i c _ _ _ _ _
      cases (c == Value.type "enumerate")
      · wp_walk using it1
        exact ⟨_, rfl, h⟩
      · wp_walk using it1
        exact ⟨_, rfl, h⟩
    · wp_walk using it1
      exact ⟨_, rfl, h⟩
section
variable {prog : Program} {w : World} {A : Around} {E : Value → Shared → Prop} {st : Shared}
theorem call_enum {v : Value} {o : Obj} {G : Heap → Prop} {Q : Value → Shared → Prop} (B : Begins v o G) (h1 : G st.heap)
    (h : ∀ h', IsEnum h' (st.heap.objs.size + 1) st.heap.objs.size 0 .none → h'.get? st.heap.objs.size = some o → h'.objs.size = st.heap.objs.size + 2 →
      (∀ b u, st.heap.get? b = some u → h'.get? b = some u) → Q (.ref (st.heap.objs.size + 1)) { st with heap := h' }) :
    wpAny (model prog w) A (call (.type "enumerate") [v]) Q E st := by
  refine callType_new F.called_enumerate (by decide) (F.typeCall_enumerate_1 _) (F.newCall_enumerate_1 _) (fun obj => F.args_object_init_2 obj _) F.entry_enumerate_new (new_enum B) ⟨h1, ?_⟩
  have sz : (st.heap.push o).objs.size = st.heap.objs.size + 1 := Heap.size_push ..
  show _ ∧ _
  rw [sz]
  have en : IsEnum ((st.heap.push o).push { cls := .type "enumerate", data := .fields #[.none, .bool false, .ref st.heap.objs.size, rawInt 0, .none, .none] }) (st.heap.objs.size + 1) st.heap.objs.size 0 .none := by
    have z := Heap.get?_push_size (st.heap.push o) (o := { cls := .type "enumerate", data := .fields #[.none, .bool false, .ref st.heap.objs.size, rawInt 0, .none, .none] }) rfl
    rw [sz] at z
    exact z
  exact ⟨⟨_, en, rfl⟩, h _ en (Heap.get?_push_of_some _ (Heap.get?_push_size _ B.free)) (by rw [Heap.size_push, sz]) fun b u z => Heap.get?_push_of_some _ (Heap.get?_push_of_some _ z)⟩
end
def iEnumT (K : PySem.W.Frag) (ta : TA) : TI := fun sl H R => ta sl H fun vs H1 => ∃ a xs, vs = [.ref a] ∧ SqT K H1 a xs ∧ R (Item K a) H1
theorem pi_enumT {X : Cx} {e : Expr} {ta : TA} {p pos tpos : Pos} {elts : List Expr} {kk : Nat} (hg : Gl X "enumerate") (hm : X.mg "enumerate" = none) (ha : PA X [e] ta) (hs : starEach [e] X.env = [(false, eval e X.env)] := by rfl) :
    PI X (.Tuple elts kk tpos) (.Call (.Name "enumerate" p) [e] [] pos) (iEnumT X.K ta) := by
  refine ⟨fun pins st sl H R inv h => Call_ (ld_blt inv hg hm boot_enumerate (PyProof.Rows.callWith_type1 (thn (ha.run pos pins st sl H _ inv h) fun us s1 z => ?_) hs rfl))⟩
  obtain ⟨vs, H1, inv1, r1, a, xs, ex, hq, q⟩ := z
  subst ex
  obtain ⟨u, rfl, ru⟩ := r1.one
  obtain rfl : u = Value.ref a := ru
  obtain ⟨its, rv, hp, _⟩ := inv1.tuple hq
  have lt3 : a < s1.heap.objs.size := by obtain ⟨_, z, _⟩ := hp; exact Heap.lt_size z
  refine call_enum (begins_tuple a its.toArray) hp fun h' en hit hsz hk => wpAny_pyIter_enum en ?_
  have inv2 : Inv X pins sl H1 { s1 with heap := h' } := inv1.kept (t' := s1.toks) hk
  refine ⟨s1.heap.objs.size + 1, [s1.heap.objs.size + 1, s1.heap.objs.size], _, _, H1, rfl, inv2, turn_item a (s1.heap.objs.size + 1) s1.heap.objs.size (Nat.ne_of_lt lt3), ⟨⟨.none, en⟩, ⟨_, hit, rfl, rfl⟩, Nat.succ_ne_self _, Nat.ne_of_gt (Nat.lt_succ_of_lt lt3)⟩, fun b hb => ?_, q⟩
  have low : s1.heap.objs.size ≤ b := by
    rcases two_cases hb with rfl | rfl
    · exact Nat.le_add_right _ _
    · exact Nat.le_refl _
  exact inv1.fpOk low (inv1.hok.fresh low)
end

/-! ### list(range(a, b, -1)) -/
section
def dnV (a b : Int) : List V := (List.range (a - b).toNat).map fun i => V.int (a - (i : Nat))
theorem dnV_length (a b : Int) : (dnV a b).length = (a - b).toNat := by unfold dnV; simp
def tDown (ta : TA) : TE := fun sl H Q => ta sl H fun vs H1 => ∃ i j : Int, vs = [.int i, .int j, .int (-1)] ∧ -1000000 ≤ i ∧ i ≤ 1000000 ∧ -1000000 ≤ j ∧ j ≤ 1000000 ∧ ∀ q, H1 q = none → Q (.ref q) (upd H1 q (.lst (dnV i j)))
theorem pe_listDown {X : Cx} {a b c : Expr} {ta : TA} {p pos rp rpos : Pos} (hc : X.calm = true) (hg : Gl X "list") (hm : X.mg "list" = none) (hg2 : Gl X "range") (hm2 : X.mg "range" = none) (ha : PA X [a, b, c] ta)
    (hs : starEach [a, b, c] X.env = (false, eval a X.env) :: starEach [b, c] X.env := by rfl) (hpl : (backTo rpos (starEach [b, c] X.env)).any (·.1) = false := by rfl)
    (na : starEach [.Call (.Name "range" rp) [a, b, c] [] rpos] X.env = (false, eval (.Call (.Name "range" rp) [a, b, c] [] rpos) X.env) :: starEach [] X.env := by rfl) :
    PE X (.Call (.Name "list" p) [.Call (.Name "range" rp) [a, b, c] [] rpos] [] pos) (tDown ta) := by
  refine ⟨fun pins st sl H Q inv h => ?_⟩
  refine Call_ (ld_blt inv hg hm boot_list (PyProof.Rows.callWith_type1 (args_cons ?_ na) na))
  refine Call_ (ld_blt inv hg2 hm2 boot_range (PyProof.Rows.callWith_type1 (thn (ha.run rpos pins st sl H _ inv h) fun us s1 z => ?_) hs hpl))
  obtain ⟨vs, H1, inv1, r1, i, j, e, b1, b2, b3, b4, q⟩ := z
  subst e
  cases r1 with
  | cons r rr =>
    cases rr with
    | cons r' rr =>
      cases rr with
      | cons r'' rr =>
        cases rr
        obtain ⟨t, rfl⟩ := r
        obtain ⟨t', rfl⟩ := r'
        obtain ⟨t'', rfl⟩ := r''
        obtain ⟨c0, c1, c2, c3⟩ := RgC.neg (i := i) (j := j) (by omega) (by omega) (by omega) (by omega)
        refine call_range_3 c0 (args_nil ?_) (.inl (PyProof.noPylong_small c1))
        have inv2 : Inv X pins sl H1 { s1 with heap := s1.heap.push { cls := .type "range", data := .fields #[.int i t, .int j t', .int (-1) t''] } } := inv1.kept (t' := s1.toks) fun b o e => Heap.get?_push_of_some _ e
        refine call_list_range (n := (i - j).toNat) (inv2.ok.hd hc) (IsRange.new ..) c2 c3 (by omega) fun h' tk acc c' hk e' hi => ?_
        refine ⟨.ref _, upd H1 _ (.lst (dnV i j)), inv2.laid hk (Nat.le_refl _) (show ObjOk X.prog X.w _ _ _ (.lst (dnV i j)) from ⟨?_, acc.toList, c', ?_, ?_⟩), rfl, q _ (inv2.hok.fresh (Nat.le_refl _))⟩
        · rw [dnV_length, sizeLine_eq]; omega
        · have e : acc.toList.length = (i - j).toNat := by rw [Array.length_toList]; exact hi.1
          unfold dnV
          rw [← e]
          refine vals_of_get acc.toList _ fun k u hk => ?_
          obtain ⟨t, rfl⟩ := hi.2 k u (by rw [← hk, Array.getElem?_toList])
          exact ⟨t, by congr 1; omega⟩
        · rw [Array.toArray_toList]; exact e'
end
end Own

/-! Lambdas as values: made, kept in lists, handed to a def that calls them. -/
namespace LamV
open PySem PySem.Spec PyProof.Rows L2 LamX NdefX
/-- a lambda as it was made -/
structure LF where
  qual : Str
  params : Arguments
  body : Expr
  scope : Scope
  cl : List (Str × Addr)
  dV : Value
  c : Addr
abbrev LF.data (F : LF) (doc pm ctv : Value) : FuncData := PySem.W.kdv_fn "<lambda>" F.qual F.params (.expr F.body) F.scope F.cl F.dV doc pm (.ref F.c) ctv
/-- at f stands the lambda F -/
def LamO (f : Addr) (F : LF) : HO := .ext fun h => ∃ (doc pm ctv : Value), h.get? f = some ({ cls := .type "function", data := .func (F.data doc pm ctv) } : Obj)
theorem lamO_at {P : Program} {w : World} {H : Hp} {hp : Heap} {f : Addr} {F : LF} (ok : HOk P w H hp) (e : H f = some (LamO f F)) : ∃ (doc pm ctv : Value), hp.get? f = some ({ cls := .type "function", data := .func (F.data doc pm ctv) } : Obj) :=
  (ok f _ e).1
section
variable {X : Cx} {pins : List (Addr × Obj)} {sl : L2.St} {H : Hp} {st : Shared}
theorem lamO_laid {F : LF} {ob : Obj} {tk : Nat} {doc pm ctv : Value} (inv : Inv X pins sl H st) (eo : ob = { cls := .type "function", data := .func (F.data doc pm ctv) }) :
    Inv X pins sl (upd H st.heap.objs.size (LamO st.heap.objs.size F)) { st with heap := st.heap.push ob, toks := tk } := by
  subst eo
  have got : (st.heap.push ({ cls := .type "function", data := .func (F.data doc pm ctv) } : Obj)).get? st.heap.objs.size = some ({ cls := .type "function", data := .func (F.data doc pm ctv) } : Obj) := Heap.get?_push_size _ rfl
  exact inv.laid (a := st.heap.objs.size) (fun _ _ q => Heap.get?_push_of_some _ q) (Nat.le_refl _) ⟨⟨doc, pm, ctv, got⟩, ⟨_, got⟩, fun _ _ ⟨a, b, c, z⟩ k => ⟨a, b, c, k _ z⟩⟩
/-- what a new lambda leaves -/
def Born (T : List (Addr × Str)) (H : Hp) (Q : VK) (F : Addr → LF) : Prop :=
  ∀ (f c' : Addr) (H1 : Hp), ExtN H H1 → (∀ b, H1 b = none → H b = none) → Tabs T H1 → H f = none → H1 f = some (LamO f (F c')) → H1 c' = some (CodeO c' (F c').qual) → Q (.ref f) H1
theorem born {T : List (Addr × Str)} {c P : Addr} {params : Arguments} {body : Expr} {scope : Scope} {pos : Pos} {dV : Value} {Q : VK} (inv : Inv X pins sl H st) (TB : TabB X.base X.mg c P) (ec : X.env.code = .ref c)
    (inT : (P, X.env.qual ++ "<lambda>") ∈ T) (one : ∀ p ∈ T, p.1 = P → p.2 = X.env.qual ++ "<lambda>") (tabs : Tabs T H) (frees : ∀ y ∈ scope.names, y.2 = .free → ∃ c, X.env.cells.lookup y.1 = some c)
    (k : Born T H Q fun c' => ⟨X.env.qual ++ "<lambda>", params, body, scope, cloFrom X.env.cells scope.names [], dV, c'⟩) :
    wpAny (model X.prog X.w) X.A (makeTail "<lambda>" (X.env.qual ++ "<lambda>") params (.expr body) scope X.env dV .none none pos pos.line) (EP X pins sl Q) X.xe st := by
  obtain ⟨ps, eP, trip, all⟩ := tabs _ inT
  have bmP : st.heap.BuiltinsAt X.mg P := TB.bm.keeps inv.bk
  have atP : st.heap.get? P = some { cls := .none, data := .fields ps } := inv.hok P _ eP
  cases found : codeAmong pos ps.toList with
  | none =>
    refine PySem.W.kdv_makeTail (mg := X.mg) (c := c) (P := P) (ps := ps) (closure_ok frees) inv.ok.glob (inv.mod.glob.keeps inv.bk) ec (TB.code.keeps inv.bk) atP trip found TB.gP bmP fun c' ctv doc hp tk but ge lt rec tb => ?_
    obtain ⟨c2, oc, vs, t, e2, hoc, hd, hv⟩ := rec
    cases e2
    have nc : H c' = none := inv.hok.fresh ge
    have j1 := inv_table (t' := tk) (more := #[rawInt pos.line, rawInt pos.col, .ref c']) (h' := hp) inv eP (fun b o n q => but b o n q) tb ge ⟨oc, vs, t, hoc, hd, hv⟩
    have ex : ExtN H (upd (upd H P (.tbl (ps ++ #[rawInt pos.line, rawInt pos.col, .ref c']))) c' (CodeO c' (X.env.qual ++ "<lambda>"))) := fun b o q n => by
      rw [upd_ne (ne_of_none q nc), upd_ne (fun z => n ps (by rw [z, eP] at q; exact (Option.some.inj q).symm))]
      exact q
    have eL : (ps ++ #[rawInt pos.line, rawInt pos.col, .ref c']).toList = ps.toList ++ [rawInt pos.line, rawInt pos.col, .ref c'] := by simp
    have t1 : Tabs T (upd (upd H P (.tbl (ps ++ #[rawInt pos.line, rawInt pos.col, .ref c']))) c' (CodeO c' (X.env.qual ++ "<lambda>"))) := fun p hp => by
      by_cases same : p.1 = P
      · rw [one p hp same, same]
        refine ⟨_, by rw [upd_ne (ne_of_none eP nc), upd_same], by rw [eL]; exact PySem.TriplesOk_snoc _ _ _ _ trip, fun p' cv q => ?_⟩
        rw [eL] at q
        rcases among_app _ trip q with z | z
        · obtain ⟨c0, q1, q2⟩ := all p' cv z
          exact ⟨c0, q1, ex _ _ q2 codeO_ne⟩
        · exact ⟨c', z, upd_same⟩
      · obtain ⟨ps', q1, q2, q3⟩ := tabs p hp
        refine ⟨ps', by rw [upd_ne (ne_of_none q1 nc), upd_ne same]; exact q1, q2, fun p' cv q => ?_⟩
        obtain ⟨c0, r1, r2⟩ := q3 p' cv q
        exact ⟨c0, r1, ex _ _ r2 codeO_ne⟩
    have nf := j1.hok.fresh (Nat.le_refl _)
    have j2 := lamO_laid (F := ⟨X.env.qual ++ "<lambda>", params, body, scope, cloFrom X.env.cells scope.names [], dV, c'⟩) (tk := tk) (doc := doc) (pm := (X.mg "__name__").getD .none) (ctv := ctv) j1 rfl
    refine ⟨.ref hp.objs.size, _, j2, rfl, k hp.objs.size c' _ (fun b o q n => ?_) (fun b q => upd_none (upd_none (upd_none q))) (fun p hp => (t1 p hp).ext fun b o q => ?_) (inv.hok.fresh (Nat.le_trans ge (Nat.le_of_lt lt))) upd_same ?_⟩
    · have q1 := ex b o q n
      exact (upd_ne (ne_of_none q1 nf)).trans q1
    · exact (upd_ne (ne_of_none q nf)).trans q
    · exact (upd_ne (Nat.ne_of_lt lt)).trans upd_same
  | some cv =>
    obtain ⟨c', ecv, known⟩ := all pos cv found
    subst ecv
    refine PySem.W.kdv_makeTailHit (mg := X.mg) (c := c) (P := P) (ps := ps) (closure_ok frees) inv.ok.glob (inv.mod.glob.keeps inv.bk) ec (TB.code.keeps inv.bk) atP trip found bmP fun ctv doc hp tk keep sz => ?_
    have j1 : Inv X pins sl H { st with heap := hp, toks := tk } := inv.kept keep
    have nf : H hp.objs.size = none := j1.hok.fresh (Nat.le_refl _)
    have j2 := lamO_laid (F := ⟨X.env.qual ++ "<lambda>", params, body, scope, cloFrom X.env.cells scope.names [], dV, c'⟩) (tk := tk) (doc := doc) (pm := (X.mg "__name__").getD .none) (ctv := ctv) j1 rfl
    refine ⟨.ref hp.objs.size, _, j2, rfl, k hp.objs.size c' _ (fun b o q n => ?_) (fun b q => upd_none q) (fun p hp => (tabs p hp).ext fun b o q => ?_) nf upd_same ?_⟩
    · exact (upd_ne (ne_of_none q nf)).trans q
    · exact (upd_ne (ne_of_none q nf)).trans q
    · exact (upd_ne (ne_of_none known nf)).trans known
/-! ### the expression -/
def tLamN (T : List (Addr × Str)) (F : Addr → LF) : TE := fun _ H Q => Tabs T H ∧ Born T H Q F
def tLamD (T : List (Addr × Str)) (te : TE) (F : Addr → Addr → LF) : TE := fun sl H Q => te sl H fun v H1 => Tabs T H1 ∧ ∀ t, H1 t = none → Born T (upd H1 t (.tup [v])) Q (F t)
theorem pe_lam0 {T : List (Addr × Str)} {c P : Addr} {params : Arguments} {body : Expr} {scope : Scope} {pos : Pos} (TB : TabB X.base X.mg c P) (ec : X.env.code = .ref c) (inT : (P, X.env.qual ++ "<lambda>") ∈ T)
    (one : ∀ p ∈ T, p.1 = P → p.2 = X.env.qual ++ "<lambda>") (frees : ∀ y ∈ scope.names, y.2 = .free → X.env.scope.names.lookup y.1 = some .cell ∨ X.env.scope.names.lookup y.1 = some .free) (nod : defaultsOf params X.env = ([], [])) :
    PE X (.Lambda params body scope pos) (tLamN T fun c' => ⟨X.env.qual ++ "<lambda>", params, body, scope, cloFrom X.env.cells scope.names [], .none, c'⟩) := by
  refine ⟨fun pins st sl H Q inv h => PySem.W.kla_eval nod ?_⟩
  rw [makeFunction_eq]
  simp only [List.zip_nil_right, List.filterMap_nil, List.isEmpty_nil, if_true, pure_bind]
  exact born inv TB ec inT one h.1 (fun y hy e => (frees y hy e).elim (fun z => inv.ok.has _ (.inl z)) fun z => inv.ok.has _ (.inr z)) h.2
theorem pe_lam1 {T : List (Addr × Str)} {c P : Addr} {params : Arguments} {body e : Expr} {scope : Scope} {pos : Pos} {te : TE} (TB : TabB X.base X.mg c P) (ec : X.env.code = .ref c) (inT : (P, X.env.qual ++ "<lambda>") ∈ T)
    (one : ∀ p ∈ T, p.1 = P → p.2 = X.env.qual ++ "<lambda>") (frees : ∀ y ∈ scope.names, y.2 = .free → X.env.scope.names.lookup y.1 = some .cell ∨ X.env.scope.names.lookup y.1 = some .free) (ed : params.defaults = [e]) (ek : params.kw_defaults = []) (he : PE X e te) :
    PE X (.Lambda params body scope pos) (tLamD T te fun t c' => ⟨X.env.qual ++ "<lambda>", params, body, scope, cloFrom X.env.cells scope.names [], .ref t, c'⟩) := by
  refine ⟨fun pins st sl H Q inv h => PySem.W.kdv_lam (by rw [ed]; rfl) ek ?_⟩
  rw [ed]
  refine PySem.W.kdv_all1 (wpAny_mono (he.run pins st sl H _ inv h) (fun u s1 q => PySem.W.kdv_all0 ?_) fun _ _ z => z)
  obtain ⟨v, H1, i1, rv, tabs, k⟩ := q
  rw [makeFunction_eq]
  simp only [List.zip_nil_right, List.filterMap_nil, List.isEmpty_nil, if_true, pure_bind, List.isEmpty_cons, Bool.false_eq_true, if_false]
  refine wpAny_bind (wpAny_newTextTuple ?_)
  have nt : H1 s1.heap.objs.size = none := i1.hok.fresh (Nat.le_refl _)
  have i2 : Inv X pins sl (upd H1 s1.heap.objs.size (.tup [v])) { s1 with heap := s1.heap.push { cls := .type "tuple", data := .seq [u].toArray }, toks := s1.toks } :=
    i1.laid (fun _ _ z => Heap.get?_push_of_some _ z) (Nat.le_refl _) ⟨by show 1 ≤ sizeLine; decide, [u], .cons rv .nil, ⟨_, Heap.get?_push_size _ rfl, rfl, _, rfl⟩⟩
  exact born i2 TB ec inT one (fun p hp => (tabs p hp).ext fun b o z => (upd_ne (ne_of_none z nt)).trans z) (fun y hy e => (frees y hy e).elim (fun z => i2.ok.has _ (.inl z)) fun z => i2.ok.has _ (.inr z)) (k _ nt)
end
/-! ### the body -/
/-- captured names, globals, and own names that the maker's frame has not -/
structure LamN (N : List Str) (sc scope : Scope) : Prop where
  kind : scope.kind = .function
  co : scope.isCoroutine = false
  gen : scope.isGenerator = false
  own : ∀ y ∈ scope.names, y.2 ≠ .cell ∧ (y.2 = .local → y.1 ∉ N)
  free : ∀ y ∈ scope.names, y.2 = .free → sc.names.lookup y.1 = some .cell ∨ sc.names.lookup y.1 = some .free
def lamNB (N : List Str) (sc scope : Scope) : Bool :=
  decide (scope.kind = .function) && !scope.isCoroutine && !scope.isGenerator && scope.names.all fun y => !decide (y.2 = .cell) && (!decide (y.2 = .local) || !N.contains y.1) && (!decide (y.2 = .free) || decide (sc.names.lookup y.1 = some .cell) || decide (sc.names.lookup y.1 = some .free))
theorem lamN_by {N : List Str} {sc scope : Scope} (h : lamNB N sc scope = true) : LamN N sc scope := by
  unfold lamNB at h
  simp only [Bool.and_eq_true, Bool.or_eq_true, Bool.not_eq_true', decide_eq_true_eq, decide_eq_false_iff_not, List.all_eq_true] at h
  obtain ⟨⟨⟨a, b⟩, c⟩, d⟩ := h
  refine ⟨a, b, c, fun y hy => ⟨(d y hy).1.1, fun e z => ?_⟩, fun y hy e => ?_⟩
  · rcases (d y hy).1.2 with q | q
    · exact q e
    · rw [List.contains_iff_mem.mpr z] at q
      cases q
  · rcases (d y hy).2 with (q | q) | q
    · exact absurd e q
    · exact .inl q
    · exact .inr q
/-- the maker's cells stand as they stood -/
def Kept (X : Cx) (h0 : Heap) (HZ : Hp) (h : Heap) : Prop := ∀ y c, X.env.cells.lookup y = some c → HZ c = none ∧ ∀ o, h0.get? c = some o → ∃ sl, h.get? c = some { o with slots := sl }
section
variable {X : Cx} {pins : List (Addr × Obj)} {sl : L2.St} {H HZ : Hp} {st s1 : Shared}
theorem enter {A : Around} {outer : List Env} {E : XK} {scope : Scope} {f c' : Addr} {h1 : Heap} {tk : Nat} {bs : List (Str × Value)} (inv : Inv X pins sl H st) (L : LamN X.N X.env.scope scope) (e0 : Env0 X.prog X.w X.K X.mg X.base A outer s1 HZ) (hd : A.handled = none)
    (kept : Kept X st.heap HZ s1.heap) (ns : h1.Ns s1.heap.objs.size fun y => bs.reverse.lookup y) (grow : ∀ b o, s1.heap.get? b = some o → h1.get? b = some o) :
    Inv (lamCx X A outer s1 HZ E scope f c') [] sl HZ { s1 with heap := h1, toks := tk } := by
  have frees : ∀ y ∈ scope.names, y.2 = .free → ∃ c, X.env.cells.lookup y.1 = some c := fun y hy e => (L.free y hy e).elim (fun z => inv.ok.has _ (.inl z)) fun z => inv.ok.has _ (.inr z)
  have same : ∀ {y c}, (cloFrom X.env.cells scope.names []).lookup y = some c → X.env.cells.lookup y = some c := fun {y c} e => clo_cm frees e
  have cell : ∀ {y : Str} {c : Addr} {v : Option Value}, X.env.cells.lookup y = some c → st.heap.IsCell c v → h1.IsCell c v := fun {y c v} q ⟨o, ho, hv⟩ => by
    obtain ⟨sl, z⟩ := (kept y c q).2 o ho
    exact ⟨_, grow _ _ z, hv⟩
  have noex : ∀ b : Addr, b ∉ (lamCx X A outer s1 HZ E scope f c').ex := fun b z => absurd (show b ∈ ([] : List Addr) from z) (by simp)
  refine ⟨⟨e0.mod, L.kind, rfl, rfl, Nat.le_refl _, fun y z c a b => inv.ok.inj y z c (same a) (same b), fun y hy => ?_, fun y c z _ => ?_, fun _ => hd, Around.frames_deeper e0.frames, .inr ⟨rfl, rfl⟩, fun b z => absurd z (noex b), e0.bs, e0.bsz, fun b _ _ => noex b,
      fun b z => absurd z (noex b), e0.funs, e0.frf⟩,
    rfl, e0.bare, Un.kept grow, ⟨_, ns, fun i y v a b d => ?_⟩, fun y c e => ?_, e0.hok.fresh (Nat.le_refl _), fun y c e => (kept y c (same e)).1, fun q hq => absurd (show q ∈ ([] : List (Addr × Obj)) ++ [] from hq) (by simp), e0.hok.kept grow, inv.len⟩
  · have hy : scope.names.lookup y = some .cell ∨ scope.names.lookup y = some .free := hy
    rcases hy with z | z
    · exact absurd rfl (L.own _ (PySem.mem_of_lookup z)).1
    · obtain ⟨c, q⟩ := frees _ (PySem.mem_of_lookup z) rfl
      exact ⟨c, clo_has frees (PySem.mem_of_lookup z) q⟩
  · have z : false = true := z
    cases z
  · have d : Vis scope y := d
    have a : X.N[i]? = some y := a
    rcases d with k | k | k
    · exact absurd (List.mem_of_getElem? a) ((L.own _ (PySem.mem_of_lookup k)).2 rfl)
    · exact absurd rfl (L.own _ (PySem.mem_of_lookup k)).1
    · obtain ⟨m, hn, look⟩ := inv.loc
      have fr := L.free _ (PySem.mem_of_lookup k) rfl
      obtain ⟨u, r, q⟩ := look i y v a b (fr.elim (fun z => .inr (.inl z)) fun z => .inr (.inr z))
      obtain ⟨c1, h1'⟩ := frees _ (PySem.mem_of_lookup k) rfl
      refine ⟨u, r, .inr ⟨.inr k, c1, clo_has frees (PySem.mem_of_lookup k) h1', ?_⟩⟩
      rcases q with ⟨k', _⟩ | ⟨_, c2, q1, q2⟩
      · have k' : X.env.scope.names.lookup y = some .local := k'
        rcases fr with z | z <;> rw [show X.env.scope.names.lookup y = _ from z] at k' <;> cases k'
      · have e : c2 = c1 := Option.some.inj (q1.symm.trans h1')
        subst e
        exact cell h1' q2
  · obtain ⟨w', z⟩ := inv.cell y c (same e)
    exact ⟨w', cell (same e) z⟩
/-- a call without arguments finds its bindings -/
def Bound (P : Program) (w : World) (F : LF) (D : Hp → Prop) : Prop := ∀ (s : Shared) (H : Hp), HOk P w H s.heap → D H → ∀ doc pm ctv, ∃ bs, BindsTo s (F.data doc pm ctv) ⟨[], []⟩ bs ∧ ∀ y ∈ bs, F.scope.names.lookup y.1 = some .local
/-- v(), in the def that got the lambda: that def's context, entered at s1 with H1 -/
theorem pe_act {CXg : CXT} {Eg : XK} {Ng : List Str} {qg : Str} {sg : Scope} {g f : Addr} {cdg : Value} {F : LF} {D : Hp → Prop} {k i : Nat} {a : Str} {pn : List (Addr × Obj)} {xe : Value → Shared → Prop} {W : WX} {E : XK} {tb : TE} {p1 p2 : Pos} {H1 : Hp}
    (inv : Inv X pins sl H st) (eq : F.qual = X.env.qual ++ "<lambda>") (ec : F.cl = cloFrom X.env.cells F.scope.names []) (L : LamN X.N X.env.scope F.scope) (bd : Bound X.prog X.w F D) (kept : Kept X st.heap H1 s1.heap)
    (tk : Takes ((cxOf CXg X.prog X.w X.K X.mg X.base Ng qg sg g cdg X.A X.stack s1 H1 Eg).tr pn xe) W) (hW : ∀ cls d σ' H', E cls d H' → W cls d σ' H') (hr : Room (k + 1) (X.A.deeper (envOfC qg sg s1.heap.objs.size g cdg)))
    (hbody : ∀ (A : Around) (outer : List Env) (s : Shared) (H : Hp), Room k (A.deeper (lamEnv X F.scope s.heap.objs.size f F.c)) → PE (lamCx X A outer s H E F.scope f F.c) F.body tb)
    (hN : Ng[i]? = some a) (hv : Vis sg a) (hd : (a == ("__debug__" : Str)) = false := by decide) (hcd : (a == ("__classdict__" : Str)) = false := by decide) :
    PE ((cxOf CXg X.prog X.w X.K X.mg X.base Ng qg sg g cdg X.A X.stack s1 H1 Eg).tr pn xe) (.Call (.Name a p1) [] [] p2)
      (fun σZ HZ Q => σZ[i]? = some (some (.ref f)) ∧ HZ f = some (LamO f F) ∧ HZ F.c = some (CodeO F.c F.qual) ∧ D HZ ∧ tb sl HZ Q) := by
  refine ⟨fun pinsZ sZ σZ HZ Q IZ h => ?_⟩
  obtain ⟨at_, isF, isC, dv, go⟩ := h
  refine wpAny_Call_Name_kw (thn ((pe_var (pos := p1) (i := i) hN hv hd hcd).run pinsZ sZ σZ HZ (fun v H2 => v = .ref f ∧ H2 = HZ) IZ ⟨.ref f, at_, rfl, rfl⟩) fun u s2 ⟨v, H2, J, rv, qv⟩ => ?_)
  obtain ⟨ev, eH⟩ := qv
  subst ev
  rw [eH] at J
  obtain rfl : u = Value.ref f := rv
  obtain ⟨doc, pm, ctv, ob⟩ := lamO_at J.hok isF
  refine PySem.W.callWith_F0 ⟨_, _, _, _, ob⟩ ?_
  have un : Un (frs X.stack) [] H1 HZ s1.heap s2.heap := J.base
  have kept2 : Kept X st.heap HZ s2.heap := fun y c q => by
    obtain ⟨n1, k1⟩ := kept y c q
    obtain ⟨v0, o0, ho0, _⟩ := inv.cell y c q
    obtain ⟨sl0, z0⟩ := k1 o0 ho0
    refine ⟨un.free c _ z0 n1 (by simp), fun o ho => ?_⟩
    obtain ⟨sl1, z1⟩ := k1 o ho
    obtain ⟨sl2, z2⟩ := un.any z1 n1 (by simp)
    exact ⟨sl2, z2⟩
  obtain ⟨bs, bto, bl⟩ := bd s2 HZ J.hok dv doc pm ctv
  have rc : codeAny (model X.prog X.w) (X.A.deeper (envOfC qg sg s1.heap.objs.size g cdg)) (.call (.ref f) ⟨[], []⟩) (CR (L2.CX X.prog X.w) (envOfC qg sg s1.heap.objs.size g cdg :: X.stack) X.prog X.w HZ s2 Q E) s2 := by
    refine PySem.W.kla_callFunE hr.depth ob rfl L.co L.gen rfl (codeO_at J.hok isC) (bto _ _ _ _ ?_)
    refine wpAny_newFunctionEnv (fun y hy => (L.own y hy).1) bl (fun h1 ns sb => ⟨J.nolimit.fresh _ sb, ?_⟩) L.kind
    have grow : ∀ b o, s2.heap.get? b = some o → h1.get? b = some o := fun b o e => sb.extBut b o (Nat.ne_of_lt (Heap.lt_size e)) (Heap.get?_push_of_some _ e)
    have start : Inv (lamCx X (X.A.deeper (envOfC qg sg s1.heap.objs.size g cdg)) (envOfC qg sg s1.heap.objs.size g cdg :: X.stack) s2 HZ E F.scope f F.c) [] sl HZ { s2 with heap := h1, toks := s2.toks + bs.length } :=
      enter inv L J.env0 hr.hd kept2 ns grow
    show codeAny _ _ (.expr F.body (PySem.W.envX F.qual F.scope s2.heap.objs.size f (.ref F.c) F.cl)) _ _
    rw [eq, ec]
    refine PySem.W.kla_codeExpr (wpAny_mono ((hbody _ _ s2 HZ (hr.deeper _)).run [] _ _ HZ Q start go) (fun v s' q => ?_) fun e s' q => q)
    obtain ⟨u', H', J', rv', q'⟩ := q
    exact ⟨u', H', J'.os, J'.bare, J'.base, J'.hok, rv', q'⟩
  have ps : Passes (L2.CX X.prog X.w) ((cxOf CXg X.prog X.w X.K X.mg X.base Ng qg sg g cdg X.A X.stack s1 H1 Eg).tr pn xe) E := passes_call tk hW
  refine wpAny_call (codeAny_mono rc fun r s' q => ?_)
  match r, q with
  | .error e, q => exact ps pinsZ σZ HZ s2 e s' J q
  | .ok (.ret u), q => exact J.after q
  | .ok .next, q => exact False.elim q
  | .ok .brk, q => exact False.elim q
  | .ok .cont, q => exact False.elim q
/-- the def that calls what it got, at the first slot: TT tells what it makes of the lambda's reading -/
def Gives (X : Cx) (Ng : List Str) (x : Str) (sg : Scope) (g : Addr) (cdg : Value) (bg : List Stmt) (a : Str) (TT : (XK → Hp → VK → Prop) → Hp → VK → Prop) : Prop :=
  ∀ (f : Addr) (is : Hp → Prop) (s : Shared) (H : Hp) (Q : VK) (tl : XK → Hp → VK → Prop),
    (∀ (W : WX) (pn : List (Addr × Obj)) (xe : Value → Shared → Prop) (E : XK) (p1 p2 : Pos), Takes ((cxOf CX0 X.prog X.w X.K X.mg X.base Ng x sg g cdg X.A X.stack s H E0).tr pn xe) W → (∀ cls d σ' H', E cls d H' → W cls d σ' H') →
      PE ((cxOf CX0 X.prog X.w X.K X.mg X.base Ng x sg g cdg X.A X.stack s H E0).tr pn xe) (.Call (.Name a p1) [] [] p2) (fun σZ HZ Q => σZ[0]? = some (some (.ref f)) ∧ is HZ ∧ tl E HZ Q)) →
    is H → TT tl H Q →
    ∃ t, PSs (cxOf CX0 X.prog X.w X.K X.mg X.base Ng x sg g cdg X.A X.stack s H E0).nox bg t ∧ t { nx := fun _ H' => Q .non H', rt := Q } (L2.start Ng [.ref f]) H
/-- a written lambda's place in the maker's frame: its words, and its body's reading -/
structure Form where
  params : Arguments
  body : Expr
  scope : Scope
  t : XK → TE
def LF.is (F : LF) (f : Addr) (D : Hp → Prop) (HZ : Hp) : Prop := HZ f = some (LamO f F) ∧ HZ F.c = some (CodeO F.c F.qual) ∧ D HZ
/-- F is the lambda of these words, made here -/
structure LF.Of (F : LF) (X : Cx) (o : Form) (D : Hp → Prop) (k : Nat) : Prop where
  qual : F.qual = X.env.qual ++ "<lambda>"
  body : F.body = o.body
  scope : F.scope = o.scope
  cl : F.cl = cloFrom X.env.cells F.scope.names []
  names : LamN X.N X.env.scope F.scope
  bound : Bound X.prog X.w F D
  reads : ∀ (A : Around) (outer : List Env) (s : Shared) (H : Hp) (E : XK) (f c' : Addr), Room k (A.deeper (lamEnv X o.scope s.heap.objs.size f c')) → PE (lamCx X A outer s H E o.scope f c') o.body (o.t E)
theorem code_give {x a : Str} {g f : Addr} {k : Nat} {pg : Arguments} {bg : List Stmt} {sg : Scope} {dV kV doc pm cdv ct oc : Value} {an od : Option Addr} {osl : Array (Option Value)} {Ng : List Str} {TT : (XK → Hp → VK → Prop) → Hp → VK → Prop}
    {F : LF} {o : Form} {D : Hp → Prop} {H1 : Hp} {Q : VK} (inv : Inv X pins sl H st) (of : F.Of X o D k)
    (lk : X.K.lookup g = some ⟨oc, od, .func (PySem.W.fnOf x x pg bg sg dV kV doc pm an cdv ct), osl⟩) (hcg : PySem.W.codeIn X.K cdv x = true) (hb : L2.Binds X.K (PySem.W.fnOf x x pg bg sg dV kV doc pm an cdv ct) [a] []) (Sg : FnScope Ng [a] sg) (hNg : Ng[0]? = some a) (hva : Vis sg a)
    (hG : Gives X Ng x sg g cdv bg a TT) (hr : Room (k + 2) X.A) (e0 : Env0 X.prog X.w X.K X.mg X.base X.A X.stack s1 H1) (kept : Kept X st.heap H1 s1.heap) (is : F.is f D H1) (go : TT (fun E H' Q' => o.t E sl H' Q') H1 Q)
    (hd : (a == ("__debug__" : Str)) = false := by decide) (hcd : (a == ("__classdict__" : Str)) = false := by decide) :
    codeAny (model X.prog X.w) X.A (.call (.ref g) ⟨[.ref f], []⟩) (CR CX0 X.stack X.prog X.w H1 s1 Q E0) s1 := by
  refine run_ofS (N := Ng) (ps := [a]) (us := [.ref f]) (vs := [.ref f]) lk hcg Sg hr e0 (hb s1 [.ref f] (e0.mod.kin.keeps fun b o e => (e0.bs b o e).1) rfl) (.cons rfl .nil) rfl fun hr' => ?_
  obtain ⟨eq, eb, es, ec, L, bd, hbody⟩ := of
  have hb' : ∀ (E : XK) (A : Around) (outer : List Env) (s : Shared) (H : Hp), Room k (A.deeper (lamEnv X F.scope s.heap.objs.size f F.c)) → PE (lamCx X A outer s H E F.scope f F.c) F.body (o.t E) := by
    rw [es, eb]
    exact fun E A outer s H r => hbody A outer s H E f F.c r
  obtain ⟨t', ht', hq'⟩ := hG f (F.is f D) s1 H1 Q (fun E H' Q' => o.t E sl H' Q') (fun W pn xe E p1 p2 tk hW => ⟨fun pinsZ sZ σZ HZ Q' IZ h =>
    (pe_act (i := 0) inv eq ec L bd kept tk hW hr' (hb' E) hNg hva hd hcd).run pinsZ sZ σZ HZ Q' IZ ⟨h.1, h.2.1.1, h.2.1.2.1, h.2.1.2.2, h.2.2⟩⟩) is go
  exact ⟨t', ht'.nox, hq'⟩
theorem Kept.here (inv : Inv X pins sl H st) : Kept X st.heap H st.heap := fun y c q => ⟨inv.freeC y c q, fun o ho => ⟨o.slots, ho⟩⟩
/-- back from the call -/
theorem back {Y : Cx} {pinsY : List (Addr × Obj)} {slY : L2.St} {HY : Hp} {sY : Shared} {Q : VK} {v : Value} {args : Args} (J : Inv Y pinsY slY HY sY)
    (rc : codeAny (model Y.prog Y.w) Y.A (.call v args) (CR CX0 Y.stack Y.prog Y.w HY sY Q E0) sY) : wpAny (model Y.prog Y.w) Y.A (call v args.pos args.kw) (EP Y pinsY slY Q) Y.xe sY := by
  refine wpAny_call (codeAny_mono rc fun r s' q => ?_)
  match r, q with
  | .ok (.ret u), q => exact J.after q
  | .error e, q => exact False.elim q
  | .ok .brk, q => exact False.elim q
  | .ok .cont, q => exact False.elim q
  | .ok .next, q => exact False.elim q
/-- the reading of x(e), e a lambda made in the frame of X at the slots sl -/
def tGive (X : Cx) (k : Nat) (TT : (XK → Hp → VK → Prop) → Hp → VK → Prop) (ta : TA) (sl : L2.St) : TE := fun slY H Q => ta slY H fun vs H1 =>
  ∃ (f : Addr) (F : LF) (o : Form) (D : Hp → Prop), vs = [.ref f] ∧ F.Of X o D k ∧ F.is f D H1 ∧ TT (fun E H' Q' => o.t E sl H' Q') H1 Q
theorem pe_give {x a : Str} {g : Addr} {k : Nat} {pg : Arguments} {bg : List Stmt} {sg : Scope} {dV kV doc pm cdv ct oc : Value} {an od : Option Addr} {osl : Array (Option Value)} {Ng : List Str} {TT : (XK → Hp → VK → Prop) → Hp → VK → Prop} {e : Expr} {ta : TA} {p pos : Pos}
    (hg : Gl X x) (hm : X.mg x = some (.ref g)) (hk : PySem.W.keepIn X.K (.ref g) = true)
    (lk : X.K.lookup g = some ⟨oc, od, .func (PySem.W.fnOf x x pg bg sg dV kV doc pm an cdv ct), osl⟩) (hcg : PySem.W.codeIn X.K cdv x = true) (hb : L2.Binds X.K (PySem.W.fnOf x x pg bg sg dV kV doc pm an cdv ct) [a] []) (Sg : FnScope Ng [a] sg) (hNg : Ng[0]? = some a) (hva : Vis sg a)
    (hG : Gives X Ng x sg g cdv bg a TT) (hr : Room (k + 2) X.A) (ha : PA X [e] ta) (he : starEach [e] X.env = [(false, eval e X.env)] := by rfl)
    (hdb : (x == ("__debug__" : Str)) = false := by decide) (hd : (a == ("__debug__" : Str)) = false := by decide) (hcd : (a == ("__classdict__" : Str)) = false := by decide) :
    PE X (.Call (.Name x p) [e] [] pos) (fun sl H Q => tGive X k TT ta sl sl H Q) := by
  refine ⟨fun pins st sl H Q inv h => wpAny_Call_Name_kw (ld_glob inv hg hm ?_ hdb)⟩
  refine PySem.W.callWith_K (h₀ := X.base) inv.ok.mod.kin hk (thn (ha.run pos pins st sl H _ inv h) fun us s1 ⟨vs, H1, J, r, q⟩ => ⟨J.kIn, ?_⟩) he (by rfl)
  obtain ⟨f, F, o, D, rfl, of, is, go⟩ := q
  obtain ⟨u, rfl, ru⟩ : ∃ u, us = [u] ∧ RelV (.ref f) u := by
    cases r with
    | cons a b => cases b; exact ⟨_, rfl, a⟩
  obtain rfl : u = .ref f := ru
  exact back (args := ⟨[.ref f], []⟩) J (code_give J of lk hcg hb Sg hNg hva hG hr J.env0 (Kept.here J) is go hd hcd)
/-- .. in a block of the frame of X -/
theorem pe_giveB {x a : Str} {g : Addr} {k : Nat} {pg : Arguments} {bg : List Stmt} {sg : Scope} {dV kV doc pm cdv ct oc : Value} {an od : Option Addr} {osl : Array (Option Value)} {Ng : List Str} {TT : (XK → Hp → VK → Prop) → Hp → VK → Prop} {e : Expr} {ta : TA} {p pos : Pos}
    {scope : Scope} {cenv : Env} {fp : List Addr} (inv : Inv X pins sl H st) (nfp : ∀ b ∈ fp, ∀ y c, X.env.cells.lookup y = some c → c ≠ b) (hg : Gl (X.blk st H scope cenv fp) x) (hm : X.mg x = some (.ref g)) (hk : PySem.W.keepIn X.K (.ref g) = true)
    (lk : X.K.lookup g = some ⟨oc, od, .func (PySem.W.fnOf x x pg bg sg dV kV doc pm an cdv ct), osl⟩) (hcg : PySem.W.codeIn X.K cdv x = true) (hb : L2.Binds X.K (PySem.W.fnOf x x pg bg sg dV kV doc pm an cdv ct) [a] []) (Sg : FnScope Ng [a] sg) (hNg : Ng[0]? = some a) (hva : Vis sg a)
    (hG : Gives X Ng x sg g cdv bg a TT) (hr : Room (k + 2) X.A) (ha : PA (X.blk st H scope cenv fp) [e] ta) (he : starEach [e] cenv = [(false, eval e cenv)] := by rfl)
    (hdb : (x == ("__debug__" : Str)) = false := by decide) (hd : (a == ("__debug__" : Str)) = false := by decide) (hcd : (a == ("__classdict__" : Str)) = false := by decide) :
    PE (X.blk st H scope cenv fp) (.Call (.Name x p) [e] [] pos) (tGive X k TT ta sl) := by
  refine ⟨fun pinsY sY slY HY Q invY h => wpAny_Call_Name_kw (ld_glob invY hg hm ?_ hdb)⟩
  refine PySem.W.callWith_K (h₀ := X.base) invY.ok.mod.kin hk (thn (ha.run pos pinsY sY slY HY _ invY h) fun us s1 ⟨vs, H1, J, r, q⟩ => ⟨J.kIn, ?_⟩) he (by rfl)
  obtain ⟨f, F, o, D, rfl, of, is, go⟩ := q
  obtain ⟨u, rfl, ru⟩ : ∃ u, us = [u] ∧ RelV (.ref f) u := by
    cases r with
    | cons a b => cases b; exact ⟨_, rfl, a⟩
  obtain rfl : u = .ref f := ru
  have un := J.base
  have kept : Kept X st.heap H1 s1.heap := fun y c q => by
    have out : c ∉ fp := fun z => nfp c z y c q rfl
    obtain ⟨v0, o0, ho0, _⟩ := inv.cell y c q
    have n0 := inv.freeC y c q
    exact ⟨un.free c _ ho0 n0 out, fun o ho => un.any ho n0 out⟩
  exact back (Y := X.blk st H scope cenv fp) (args := ⟨[.ref f], []⟩) J (code_give (X := X) inv of lk hcg hb Sg hNg hva hG hr J.env0 kept is go hd hcd)
/-! ### a comprehension that keeps nothing, its test told of the frame as it stands -/
def tNone (wi : TI) (g : TG) (tt : L2.St → TT) (vs : List Nat) : TE := fun sl H Q => wi sl H fun J H1 => ∀ D, H1 D = none → ∃ W : Nat → Nat → Hp → Prop, (∃ m, W 0 m (upd H1 D (.lst []))) ∧
  ∀ i m G, W i m G → (J.stop i G ∧ Q (.ref D) G) ∨ (J.go i G ∧ ∀ x G1, J.yld i G x G1 → g x (wipe sl vs) G1 fun s2 G2 => wipe s2 vs = wipe sl vs ∧ tt sl s2 G2 fun b G3 => b = false ∧ ∃ m', m' < m ∧ W (i + 1) m' G3)
theorem pe_none {elt tg iter : Expr} {ifs : List Expr} {scope : Scope} {own : List (Str × Nat)} {pos : Pos} {wi : TI} {g : TG} {tt : L2.St → TT} (calm : X.calm = true) (nd : X.N.Nodup) (hi : PI X tg iter wi) (ok : BlkOk X.N X.env.scope scope own)
    (hg : ∀ (s : Shared) (H : Hp) (C : Addr) (cl : List (Str × Addr)) (fp : List Addr), PG (X.blk s H scope (compEnvC scope cl C X.env) fp) tg g)
    (ht : ∀ (pins : List (Addr × Obj)) (st : Shared) (sl : L2.St) (H : Hp) (C : Addr) (cl : List (Str × Addr)) (fp : List Addr), Inv X pins sl H st → (∀ b ∈ fp, ∀ y c, X.env.cells.lookup y = some c → c ≠ b) → PTs (X.blk st H scope (compEnvC scope cl C X.env) fp) ifs (tt sl))
    (hs : ∀ x, foldedSetIterable iter X.env x = pure x := by intro _; rfl) : PE X (.ListComp elt [⟨tg, iter, ifs, 0⟩] scope pos) (tNone wi g tt (own.map (·.2))) := by
  refine ⟨fun pins st sl H Q inv h => ?_⟩
  rw [eval_ListComp]
  have frees : ∀ y ∈ scope.names, y.2 = .free → ∃ c, X.env.cells.lookup y.1 = some c := fun y hy e => (ok.free y hy e).elim (fun z => inv.ok.has _ (.inl z)) fun z => inv.ok.has _ (.inr z)
  refine wpAny_comprehension_free (use := none) rfl hs (closure_ok frees) ok.kind (fun y hy e => (ok.uniq y hy).trans (by rw [e])) (thn (hi.run pins st sl H _ inv h) fun _ _ go => thn go fun _ sa found => ?_)
  obtain ⟨it, fp, tn, J, H1, rfl, ia, T, ta, fa, more⟩ := found
  refine wpAny_newObj_type (newEnv_comp ?_) (by show 0 ≤ sizeLine; decide)
  have nD : H1 sa.heap.objs.size = none := ia.hok.fresh (Nat.le_refl _)
  obtain ⟨W, ⟨m0, w0⟩, each⟩ := more _ nD
  generalize eD : sa.heap.objs.size = D at nD w0 each ⊢
  have small : ∀ b ∈ fp, b < sa.heap.objs.size := fun b hb => let ⟨_, e, _⟩ := T.obj _ _ ta b hb; Heap.lt_size e
  -- the new list is laid
  obtain ⟨sb, esb⟩ : ∃ sb : Shared, sb = { sa with heap := sa.heap.push { cls := .type "list", data := .seq ([] : List Value).toArray } } := ⟨_, rfl⟩
  have grow1 : ∀ b o, sa.heap.get? b = some o → sb.heap.get? b = some o := fun b o e => by rw [esb]; exact Heap.get?_push_of_some _ e
  have ib : Inv X pins sl (upd H1 D (.lst [])) sb := by
    rw [esb, ← eD]
    exact ia.laid (t' := sa.toks) (fun _ _ e => Heap.get?_push_of_some _ e) (Nat.le_refl _) ⟨Nat.zero_le _, [], 0, .nil, Heap.get?_push_size _ rfl⟩
  have fb : ∀ b ∈ fp, FpOk X pins (upd H1 D (.lst [])) b ∧ b < sb.heap.objs.size := fun b hb => by
    have lt := small b hb
    refine ⟨⟨(upd_ne (by rw [← eD]; exact Nat.ne_of_lt lt)).trans (fa b hb).1, (fa b hb).2⟩, ?_⟩
    rw [esb, Heap.size_push]
    exact Nat.lt_succ_of_lt lt
  rw [← esb]
  -- the block
  have ic := block_start ib ok nd fb
  generalize eC : sb.heap.objs.size = C at ic ⊢
  generalize eG : upd H1 D (.lst []) = G at ib fb ic w0
  have pg := hg sb G C (cellsFrom (C + 1) scope.names (cloFrom X.env.cells scope.names [])) fp
  have pt := ht pins sb sl G C (cellsFrom (C + 1) scope.names (cloFrom X.env.cells scope.names [])) fp ib fun b hb y c e => (fb b hb).1.2.2.2.2.1 y c e
  generalize eE : compEnvC scope (cellsFrom (C + 1) scope.names (cloFrom X.env.cells scope.names [])) C X.env = ce at ic pg pt
  have lE : ce.locals = C := by rw [← eE]; rfl
  generalize esc : ({ sb with heap := pushCells (sb.heap.push { cls := .type "dict", data := .dict #[] }) scope.names } : Shared) = sc at ic
  have tc : tn 0 sc.heap := T.keep _ _ _ ta fun b _ o e => by rw [← esc]; exact pushCells_keeps _ _ _ _ (Heap.get?_push_of_some _ (grow1 b o e))
  have held : ∀ {s2 : L2.St} {G2 : Hp} {t2 : Shared}, Inv (X.blk sb G scope ce fp) [] s2 G2 t2 → (∀ b ∈ fp, G2 b = none) → ∀ b ∈ fp, FpOk (X.blk sb G scope ce fp) [] G2 b := fun iv nb b hb =>
    ⟨nb b hb, (iv.ok.exf b hb).1, iv.ok.exfs b hb, .inl hb, fun y c e => (iv.ok.exf b hb).2 y c e, fun p hp => absurd (show p ∈ ([] : List (Addr × Obj)) ++ [] from hp) (by simp)⟩
  have turns : codeAny (model X.prog X.w) X.A (.compLoop (.ListComp elt [⟨tg, iter, ifs, 0⟩] scope pos) 0 (.ref it) (.ref D) ce) (compPost (model X.prog X.w) X.A X.xe none (EP X pins sl Q) (.ref D) C) sc := by
    refine compLoop_any (fun m t => ∃ i G2, Inv (X.blk sb G scope ce fp) [] (wipe sl (own.map (·.2))) G2 t ∧ tn i t.heap ∧ (∀ b ∈ fp, G2 b = none) ∧ W i m G2) ?_ m0 ⟨0, G, ic, tc, fun b hb => (fb b hb).1.1, w0⟩
    rintro m t ⟨i, G2, i2, t2, n2, w2⟩
    cases each i m G2 w2 with
    | inl stop =>
      refine thnF (T.done (X.blk sb G scope ce fp) rfl rfl rfl calm i [] t _ G2 (fun _ _ => False) i2 (held i2 n2) t2 stop.1) fun r t3 done => ?_
      obtain ⟨rfl, i3⟩ := done
      have i4 : Inv X pins sl G2 t3 := ib.call' (ch := fp) i3.os i3.base i3.hok i3.bare fun b hb => ⟨(fb b hb).1.2.2.2.1, (fb b hb).1.2.1, (fb b hb).1.2.2.2.2.1, (fb b hb).1.2.2.2.2.2⟩
      have nC : G2 C = none := by rw [← lE]; exact i3.free
      obtain ⟨names, hn, _⟩ := i3.loc
      have hn : t3.heap.Ns ce.locals names := hn
      rw [lE] at hn
      obtain ⟨f0, f1, f2, f3, f4, f5⟩ := ib.fpOk (Nat.le_of_eq eC) nC
      exact ⟨names, hn, fun hp sbt => ⟨.ref D, G2, i4.turned (t' := t3.toks) (fun b o nb e => (sbt.2 b nb).trans e) f0 f1 f3 f4 f5, rfl, stop.2⟩⟩
    | inr next =>
      refine thnF (T.item (X.blk sb G scope ce fp) rfl rfl rfl calm i [] t _ G2 (fun _ _ => False) i2 (held i2 n2) t2 next.1) fun r t3 came => ?_
      obtain ⟨u, rfl, kept⟩ := came
      refine thnF kept fun _ t4 got => ?_
      obtain ⟨x, G4, i4, r4, y4, tn4, n4⟩ := got
      refine thnF (pg.run _ t4 _ G4 x u _ (i4.pinned (held i4 n4) (T.obj _ _ tn4)) r4 (next.2 x G4 y4)) fun _ t5 put => ?_
      obtain ⟨s5, G5, i5, e5, q5⟩ := put
      refine thnF (pt.run _ t5 s5 G5 _ i5 q5) fun b t6 told => ?_
      obtain ⟨G6, i6, eb, m', lt, w6⟩ := told
      subst eb
      have pin : ∀ b ∈ fp, ∀ o, t4.heap.get? b = some o → t6.heap.get? b = some o ∧ G6 b = none := fun b hb o e =>
        have z := i6.pin (b, o) (List.mem_append_right _ (List.mem_append_right _ (mem_pinsAt hb e)))
        ⟨z.1, z.2.1⟩
      simp only [Bool.false_eq_true, if_false]
      refine ⟨m', lt, i + 1, G6, (i6.unpinned (pins := [])).weak (by rw [← e5, wipe_length]) (fun j v e => ?_), T.keep _ _ _ tn4 fun b hb o e => (pin b hb o e).1, fun b hb => ?_, w6⟩
      · rw [← e5] at e
        exact (wipe_some e).1
      · obtain ⟨o, e, _⟩ := T.obj _ _ tn4 b hb
        exact (pin b hb o e).2
  have fine := codeAny_compStart_list turns (T.self X.A 0 _ _ _ tc turns)
  rw [← eE] at fine
  subst eC
  exact fine
end
end LamV

namespace LamV
open PySem PySem.Spec PyProof.Rows L2
/-! ### list.count over nested data, isinstance of a caught exception with or without fields -/
def rCountD (K : PySem.W.Frag) : V → List V → Hp → VK → Prop := fun x xs H Q => ∃ (a : Addr) (y : V) (d : PyData) (ds : List PyData), x = .ref a ∧ xs = [y] ∧ Dp K H (.ref a) (.list ds) ∧ Dp K H y d ∧ SeqAt.shaped (.list ds) = true ∧ SeqAt.shaped d = true ∧ Q (.int (ds.countP fun z => PyData.eqv z d : Nat)) H
section
variable {X : Cx}
theorem mt_countD (hu : X.A.units + 65 < cLine) : MtR X "list.count" (rCountD X.K) := by
  intro pins st sl H x xs v us Q inv rx rxs h
  obtain ⟨a, y, d, ds, rfl, rfl, dl, dy, sh, sd, q⟩ := h
  obtain rfl : v = .ref a := rx
  obtain ⟨uy, rfl, ry⟩ := rxs.one
  obtain ⟨bs, r1⟩ := Dp.reads inv d y uy dy ry
  have lay : PyData.canLayAll0 ds = true := SeqAt.canLay_of_shaped sh
  cases dl with
  | lst hs ha =>
    obtain ⟨its, rv, ⟨⟨cls, dd, data, sls⟩, n, ho, hc, _, hdt⟩, _⟩ := inv.list hs
    simp only at hc hdt
    subst hc hdt
    obtain ⟨as, reads⟩ := Dp.readsAll inv ds _ its ha rv
    have em : its.map (SeqAt.readOf st.heap) = ds := SeqAt.readsAll_map ds its as lay reads
    refine call_meets PySem.F.slot_list_count ⟨_, ho, rfl⟩ PySem.F.entry_list_count (PySem.F.args_list_count_2 _ _) (SeqAt.list_countAt a its.toArray n dd sls uy (fun u => PyData.eqv (SeqAt.readOf st.heap u) d)) ⟨ho, SeqAt.items_eqAt (vs := its.toArray) reads r1 lay (SeqAt.canLay_of_shaped sd) (room_in_shaped sd hu), ?_⟩
    refine ⟨.int (ds.countP fun z => PyData.eqv z d : Nat), H, inv.tok _, ⟨st.toks, ?_⟩, q⟩
    rw [← em, List.countP_map]
    rfl
/-- isinstance(e, c), e the caught exception of the class D, its dict at d if it has one -/
def rIsD (K : PySem.W.Frag) (D a : Addr) (d : Option Addr) : List V → Hp → VK → Prop := fun xs H Q => ∃ (c : V) (cv : Value) (b : Bool), xs = [.ref a, c] ∧ (∀ u, RelV c u → u = cv) ∧ PySem.W.kitOne K (.ref D) cv = some b ∧ (∀ dd, d = some dd → ∃ fs, H dd = some (.xd fs)) ∧ Q (.bl b) H
theorem call_isD {a D : Addr} {oe : Obj} {d : Option Addr} {pn : List (Addr × Obj)} (C : ExcC X.K D) (hz : Zc (.ref D) d oe) (hf : ∃ vs, oe.data = .fields vs) : CallR (X.suite a ((a, oe) :: pn)) (.builtin "isinstance") (rIsD X.K D a d) := by
  intro pins st sl H xs us Q inv r h
  obtain ⟨c, cv, b, rfl, one, is, dict, q⟩ := h
  cases r with
  | cons rx rr =>
    obtain ⟨ut, rfl, rt⟩ := Vals.one rr
    obtain rfl := one _ rt
    obtain rfl := (show _ = Value.ref a from rx)
    obtain ⟨got, _⟩ := inv.pin (a, oe) (List.mem_append.mpr (.inl List.mem_cons_self))
    obtain ⟨vs, hv⟩ := hf
    have fin : ∀ tk, EP (X.suite a ((a, oe) :: pn)) pins sl Q (.bool b) { st with toks := tk } := fun tk => ⟨.bl b, H, inv.kept (t' := tk) fun _ _ z => z, rfl, q⟩
    have nc : PySem.W.notCls oe = true := by
      unfold PySem.W.notCls
      rw [hv] <;> rfl
    cases d with
    | none => exact PySem.W.kia_one (PySem.W.handS_kitx_exc C.hg C.hk C.hs C.hd C.ha C.hn C.ht C.hm) inv.kIn (show PySem.W.InstAt st.heap a oe D none from ⟨got, hz.1, nc, by rw [hz.2]; trivial⟩) is (fun z => nomatch z) fin
    | some dd =>
      obtain ⟨fs, ed⟩ := dict dd rfl
      obtain ⟨mA, ns, _⟩ := (show ObjOk X.prog X.w H st.heap dd (.xd fs) from inv.hok dd _ ed)
      obtain ⟨od, ho, _⟩ := lookIn_ns ns
      exact PySem.W.kia_one (PySem.W.kitx_exc (by obtain ⟨cd, e, _⟩ := PySem.W.any_some C.hd; rw [e]; rfl) C.hg C.hk C.hs C.ha C.hn C.ht C.hm) inv.kIn (show PySem.W.InstAt st.heap a oe D (some od) from ⟨got, hz.1, nc, by rw [hz.2]; exact ho⟩) is (fun z => nomatch z) fin
end
end LamV

/-! x != y and x == y of instances whose class has its own __eq__ alone. -/
namespace Own
open PySem PySem.Spec PyProof.Rows L2
section
variable {prog : Program} {w : World} {A : Around} {E : Value → Shared → Prop} {s : Shared} {K : PySem.W.Frag} {x y C g : Addr} {ox oy : Obj} {od od' : Option Obj}
/-- object.__ne__ asks __eq__ -/
theorem ne_body {Q : Fin → Shared → Prop} (hu : A.units < cLine) (KX : K.In s.heap) (I : PySem.W.InstAt s.heap x ox C od) (hs : PySem.W.findIn K (.ref C) "__eq__" = some (some (.ref g))) (hf : PySem.W.isFn K (.ref g) = true)
    (h : wpAny (model prog w) A (call (.ref g) [.ref x, .ref y]) (fun v s' => ∃ b, v = .bool b ∧ Q (.done (.ret (.bool !b))) s') E s) : wpAny (model prog w) A (Builtin.«object.__ne__» ⟨[.ref x, .ref y], []⟩) Q E s := by
  unfold Builtin.«object.__ne__»
  refine wpAny_bind (wpAny_of_eq (a := ((Value.ref x : Value), [Value.ref y])) (by first | rfl | (simp only [slotArgs]; rfl)) ?_)
  refine wpAny_bind (wpAny_cRoomFor hu ?_)
  refine wpAny_bind (PySem.W.ifBound_K (args := [.ref y]) KX I hs hf (wpAny_mono h (fun v s' z => ?_) fun _ _ z => z))
  obtain ⟨b, rfl, q⟩ := z
  exact wpAny_bind (wpAny_pure (wpAny_pure q))
theorem rich_ne {Q : Value → Shared → Prop} (hu : A.units + 1 < cLine) (KX : K.In s.heap) (I : PySem.W.InstAt s.heap x ox C od) (J : PySem.W.InstAt s.heap y oy C od') (hn : PySem.W.findIn K (.ref C) "__ne__" = some (some (.builtin "object.__ne__")))
    (ho : PySem.W.subIn K (.ref C) (.type "object") = some true) (hs : PySem.W.findIn K (.ref C) "__eq__" = some (some (.ref g))) (hf : PySem.W.isFn K (.ref g) = true)
    (h : wpAny (model prog w) A.in1 (call (.ref g) [.ref x, .ref y]) (fun v s' => ∃ b, v = .bool b ∧ Q (.bool !b) s') E s) : wpAny (model prog w) A (richCompare .NotEq (.ref x) (.ref y)) Q E s := by
  have one : wpAny (model prog w) A (tryCompare (.ref x) "__ne__" (.ref y)) (fun r s' => ∃ v, r = some v ∧ Q v s') E s := by
    unfold tryCompare
    have sub : PySem.W.Looks (model prog w) s.heap (isInstance (.ref x) (.type "object")) true := (I.type).andThen (PySem.W.looks_subIn KX ho)
    have run : wpAny (model prog w) A (call (.builtin "object.__ne__") [.ref x, .ref y]) (fun v s' => ∃ b, v = .bool b ∧ Q (.bool b) s') E s := by
      refine wpAny_call (codeAny_call_builtin PySem.F.cmp_object.ne.plain PySem.F.cmpEntry_ne (PySem.W.check_slot PySem.F.cmpKind_ne PySem.F.cmpSplit_ne sub (PySem.F.cmpArgs_ne _ _) ?_))
      refine ne_body (A := A.in1) (by show A.units + 1 < cLine; exact hu) KX I hs hf (wpAny_mono h (fun v s' z => ?_) fun _ _ z => z)
      obtain ⟨b, rfl, q⟩ := z
      exact ⟨b, rfl, _, rfl, q⟩
    refine wpAny_bind ?_
    simp only [callSpecialIfBound?, bindSpecialIfBound?]
    refine wpAny_holding (wpAny_bind (wpAny_bind (wpAny_bind (I.type.here ((PySem.W.looks_findIn KX hn).here ?_)))))
    refine wpAny_bind (wpAny_askSetting (wpAny_ite ?_))
    have fin : wpAny (model prog w) A (call (.builtin "object.__ne__") ([.ref x] ++ [.ref y]) >>= fun v => pure (some v)) (fun r s' => wpAny (model prog w) A (match r with | some .notImplemented | none => pure none | some v => pure (some v) : Sem (Option Value)) (fun r s' => ∃ v, r = some v ∧ Q v s') E s') E s :=
      wpAny_bind (wpAny_mono run (fun v s' z => by obtain ⟨b, rfl, q⟩ := z; exact wpAny_pure (wpAny_pure ⟨_, rfl, q⟩)) fun _ _ z => z)
    split
    · rw [PySem.F.cmp_object.ne.bind (.ref x)]
      exact wpAny_bind (wpAny_pure (wpAny_pure fin))
    · rw [PySem.F.cmp_object.ne.bind (.ref x)]
      exact wpAny_tryCatch (wpAny_bind (wpAny_pure (wpAny_pure fin)))
  unfold richCompare
  simp only [PySem.oneThing_ref]
  refine wpAny_holding (wpAny_bind (wpAny_cRoomFor (by omega) (wpAny_bind (I.type.here (wpAny_bind (J.type.here ?_))))))
  rw [if_neg (by simp)]
  refine wpAny_bind (wpAny_pure ?_)
  simp only [Bool.false_eq_true, if_false]
  refine wpAny_bind (wpAny_mono one (fun r s' z => ?_) fun _ _ e => e)
  obtain ⟨v, rfl, q⟩ := z
  exact wpAny_pure q
end
section
variable {X : Cx} {CX : CXT} {n : Nat} {C g : Addr} {sp : Sp} {E : XK}
/-- x == y, x != y: instances of C that hold attributes; the own __eq__ answers with a truth value -/
def rOwnEq (neg : Bool) (C : Addr) (sp : Sp) (E : XK) : R2 := fun x y H Q => ∃ a dx fs b dy gs, x = .ref a ∧ y = .ref b ∧ H a = some (.ins C dx fs) ∧ H b = some (.ins C dy gs) ∧ sp [x, y] H (fun v H' => ∃ r, v = .bl r ∧ Q (.bl (if neg then !r else r)) H') E
theorem op_neOwn (hn : PySem.W.findIn X.K (.ref C) "__ne__" = some (some (.builtin "object.__ne__"))) (ho : PySem.W.subIn X.K (.ref C) (.type "object") = some true) (hs : PySem.W.findIn X.K (.ref C) "__eq__" = some (some (.ref g))) (hf : PySem.W.isFn X.K (.ref g) = true)
    (F : FnR X.prog X.w X.K X.mg X.base CX n g sp) (hr : Room (n + 1) X.A) (hx : Passes CX X E) : OpR X (compareOp .NotEq) (rOwnEq true C sp E) := by
  intro pins st sl H x y v u Q inv rx ry h
  obtain ⟨a, dx, fs, b, dy, gs, rfl, rfl, ea, eb, q⟩ := h
  obtain rfl := (show v = Value.ref a from rx)
  obtain rfl := (show u = Value.ref b from ry)
  obtain ⟨oa, ia⟩ := insAt inv ea
  obtain ⟨ob, ib⟩ := insAt inv eb
  show wpAny _ _ (richCompare .NotEq (.ref a) (.ref b)) _ _ _
  refine rich_ne (hu_of hr) inv.kIn ia ib hn ho hs hf (wpAny_mono (wpAny_call (SlX.run_at (us := [.ref a, .ref b]) (ws := [.ref a, .ref b]) F (Room.in1 hr) inv.env0.in1 hx inv (.cons rfl (.cons rfl .nil)) q)) (fun w s' z => ?_) fun _ _ z => z)
  obtain ⟨z', H', inv', rz, r, ez, qz⟩ := z
  subst ez
  obtain rfl := (show w = Value.bool r from rz)
  exact ⟨r, rfl, .bl (!r), H', inv', rfl, qz⟩
/-- o.m(), m a def with a star -/
theorem pe_methR0 {k : Nat} {f : Addr} {m : Str} {o : Expr} {ta : TE} {apos pos : Pos} {pl : Sem Bool} (he : PE X o ta) (c : Cls X.K C) (hm : Meth X.K C m f) (F : FnR X.prog X.w X.K X.mg X.base CX k f sp) (hr : Room k X.A) (hx : Passes CX X E)
    (ht : eval (.Call (.Attribute o m apos) [] [] pos) X.env = (do let ov ← eval o X.env; standAt apos.atName; let (f, first) ← holding [ov] (getMethod ov m pl); callWith pos f first (backTo pos (starEach [] X.env)) (backToKw pos (keywordEach [] X.env))) := by rfl) :
    PE X (.Call (.Attribute o m apos) [] [] pos) (tMethR C m sp E ta tNil) := by
  refine ⟨fun pins st sl H Q inv h => PySem.W.methodCall_KW (pl := pl) (thn (he.run pins st sl H _ inv h) fun u s1 got => ?_) ht⟩
  obtain ⟨x, H1, i1, rx, a, dx, fs, rfl, ea, lk, q⟩ := got
  obtain rfl := (show u = Value.ref a from rx)
  refine getmeth_ok i1 ea c hm lk ?_
  exact PySem.W.callWith_K0 (first := [.ref a]) i1.kIn hm.kp (wpAny_call (run_fnR (us := [.ref a]) (vs := [.ref a]) F hr hx i1 (.cons rfl .nil) q))
end
end Own

/-! Dicts with int keys: sorted, min, max of them; sorted(d.items()) of ints; x not in a tuple of data. -/
namespace DictI
open PySem PySem.Spec PyProof.Rows L2
section
variable {X : Cx}
theorem keyInt {knd : Bool} {i : Int} {v : Value} (h : keyIs (Sum.inl i : Key) v = true) : ∃ t, v = .int i t := by
  have r : RelV (.int i) v := relV_key h
  exact r
theorem ints_at {vs : List (Key × Value)} {acc : List Value} {ns : List Int} (hkeys : vs.map (·.1) = ns.map Sum.inl) (hal : acc.length = ns.length)
    (hv : ∀ (j : Nat) (v : Value), acc[j]? = some v → ∃ k x, vs[j]? = some (k, x) ∧ keyIs k v = true) : IntsAre acc ns := by
  have each : ∀ v ∈ acc, ∃ i t, v = Value.int i t := fun v hv' => by
    obtain ⟨j, hj⟩ := List.mem_iff_getElem?.mp hv'
    obtain ⟨k, x, e1, e2⟩ := hv j v hj
    have e3 : (vs.map (·.1))[j]? = some k := by rw [List.getElem?_map, e1]; rfl
    rw [hkeys, List.getElem?_map] at e3
    cases e4 : ns[j]? with
    | none => rw [e4] at e3; cases e3
    | some i =>
      rw [e4] at e3
      obtain rfl : Sum.inl i = k := Option.some.inj e3
      obtain ⟨t, rfl⟩ := keyInt (knd := true) e2
      exact ⟨i, t, rfl⟩
  have e : acc.map SrtO.iv = ns := by
    apply List.ext_getElem?
    intro j
    rw [List.getElem?_map]
    cases ha : acc[j]? with
    | none =>
      have : ns.length ≤ j := by rw [← hal]; exact List.getElem?_eq_none_iff.mp ha
      rw [List.getElem?_eq_none_iff.mpr this]
      rfl
    | some v =>
      obtain ⟨k, x, e1, e2⟩ := hv j v ha
      have e3 : (vs.map (·.1))[j]? = some k := by rw [List.getElem?_map, e1]; rfl
      rw [hkeys, List.getElem?_map] at e3
      cases e4 : ns[j]? with
      | none => rw [e4] at e3; cases e3
      | some i =>
        rw [e4] at e3
        obtain rfl : Sum.inl i = k := Option.some.inj e3
        obtain ⟨t, rfl⟩ := keyInt (knd := true) e2
        rfl
  have := SrtO.ints_iv each
  rwa [e] at this
def rSortedDI : List V → Hp → VK → Prop := fun xs H Q => ∃ (a : Addr) (kvs : List (Key × V)) (ns : List Int), xs = [.ref a] ∧ Rd H a (.dK kvs) ∧ kvs.map (·.1) = ns.map Sum.inl ∧
    ∀ (ys : List Int) (p : Addr), ys.Perm ns → ys.Pairwise (· ≤ ·) → H p = none → Q (.ref p) (upd H p (.lst (ys.map V.int)))
/-- sorted(d), d's keys ints -/
theorem cr_sortedDI (hcalm : X.calm = true) : CallR X (.builtin "sorted") rSortedDI := by
  intro pins s σ H xs us Q I r q
  obtain ⟨a, kvs, ns, ex, hd, hks, q⟩ := q
  subst ex
  obtain ⟨u, eu, rx⟩ := vals1 r
  subst eu
  cases rx
  obtain ⟨z, lo, vs, rel, dd⟩ := dk_rd I.hok hd
  obtain ⟨ep, hat⟩ := dd.dictAt
  have hkeys : vs.map (·.1) = ns.map Sum.inl := rel.keys.symm.trans hks
  have hl : vs.length = ns.length := by
    have e := congrArg List.length hkeys
    rw [List.length_map, List.length_map] at e
    exact e
  have h16 : vs.length ≤ sizeLine := by rw [← Paired.length rel]; exact z
  refine Calls.call_function_entry PyProof.Rows.kind_sorted PyProof.Rows.plain_sorted PyProof.Rows.entry_sorted (PyProof.Rows.args_sorted1 _) ?_
  unfold Builtin.«sorted»
  refine wpAny_bind (m := checkCount "sorted" 1 1 _) (wpAny_pure ?_)
  refine wpAny_bind (PySem.W.kdu_collect (A := X.A.in1) (PySem.W.kdl_dict (knd := mixKind X.prog X.w) (kvs := vs) (ep := ep) lo) (I.ok.hd hcalm) hat h16 fun h' tk acc hk hacc => ?_)
  have hal : acc.toList.length = ns.length := by rw [Array.length_toList, hacc.1, hl]
  have hi : IntsAre acc.toList ns := ints_at hkeys hal fun j v e => hacc.2 j v (by rw [← Array.getElem?_toList]; exact e)
  have I1 : Inv X pins σ H { s with heap := h', toks := tk } := I.kept hk
  have hz : acc.toList.length ≤ sizeLine := by rw [hal, ← hl]; exact h16
  refine wpAny_bind (wpAny_newList ?_ hz)
  have hoL : (h'.push (seqObj "list" acc.toList.toArray 0)).get? h'.objs.size = some (seqObj "list" acc.toList.toArray 0) := Heap.get?_push_size _ rfl
  show wpAny _ _ _ _ _ { s with heap := h'.push (seqObj "list" acc.toList.toArray 0), toks := tk }
  refine wpAny_bind (wpAny_holding (wpAny_call_entry PyProof.Rows.slot_list_sort ⟨_, hoL, rfl⟩ PyProof.Rows.entry_list_sort
    (SrtO.list_sort_ord SrtO.swo_int hoL hz (fun h2 => SrtO.ints_sortable hi h2) fun out h1 h2 => ⟨_, rfl, ?_⟩) (PyProof.Rows.args_list_sort _)))
  obtain ⟨k1, k2, k3⟩ := SrtO.ints_out hi h1 h2
  obtain ⟨e', he'⟩ := PyProof.Rows.sortedHeap_at (vs := acc.toList) (out := out.toArray) hoL
  have hlen : ((out.map SrtO.iv).map V.int).length ≤ sizeLine := by
    rw [List.length_map, k2.length_eq, ← hl]
    exact h16
  refine wpAny_pure ⟨_, rfl, .ref h'.objs.size, upd H h'.objs.size (.lst ((out.map SrtO.iv).map V.int)), I1.laid (t' := tk) (fun b u e => ?_) (Nat.le_refl _)
    (show ObjOk X.prog X.w _ _ _ (.lst ((out.map SrtO.iv).map V.int)) from ⟨hlen, out, e', vals_of_ints k1, he'⟩), rfl, q _ _ k2 k3 (I1.hok.fresh (Nat.le_refl _))⟩
  have hb : b < h'.objs.size := Heap.lt_size e
  rw [PyProof.Rows.sortedHeap_old (Nat.ne_of_lt hb) (by rw [size_push']; exact Nat.lt_succ_of_lt hb)]
  exact Heap.get?_push_of_some _ e
def rBestDI (le : Int → Int → Prop) : List V → Hp → VK → Prop := fun xs H Q => ∃ (a : Addr) (kvs : List (Key × V)) (ns : List Int), xs = [.ref a] ∧ Rd H a (.dK kvs) ∧ kvs.map (·.1) = ns.map Sum.inl ∧ 0 < ns.length ∧
    ∀ m, m ∈ ns → (∀ y ∈ ns, le m y) → Q (.int m) H
theorem key_at {vs : List (Key × Value)} {ns : List Int} (hkeys : vs.map (·.1) = ns.map Sum.inl) {i : Nat} {v : Value} (h : ∃ k x, vs[i]? = some (k, x) ∧ keyIs k v = true) : ∃ t, v = .int (ns.getD i 0) t := by
  obtain ⟨k, x, e1, e2⟩ := h
  have e3 : (vs.map (·.1))[i]? = some k := by rw [List.getElem?_map, e1]; rfl
  rw [hkeys, List.getElem?_map] at e3
  cases e4 : ns[i]? with
  | none => rw [e4] at e3; cases e3
  | some j =>
    rw [e4] at e3
    obtain rfl : Sum.inl j = k := Option.some.inj e3
    rw [List.getD_eq_getElem?_getD, e4]
    exact keyInt (knd := true) e2
theorem getD_in {ns : List Int} {i : Nat} (h : i < ns.length) : ns.getD i 0 ∈ ns := by
  rw [List.getD_eq_getElem?_getD, List.getElem?_eq_getElem h]
  exact List.getElem_mem h
theorem in_getD {ns : List Int} {y : Int} (h : y ∈ ns) : ∃ j, j < ns.length ∧ ns.getD j 0 = y := by
  obtain ⟨j, hj, e⟩ := List.mem_iff_getElem.mp h
  exact ⟨j, hj, by rw [List.getD_eq_getElem?_getD, List.getElem?_eq_getElem hj]; exact e⟩
/-- min(d), d's keys ints -/
theorem cr_minDI (hc : X.calm = true) : CallR X (.builtin "min") (rBestDI (· ≤ ·)) := by
  intro pins s σ H xs us Q I r h
  obtain ⟨a, kvs, ns, rfl, hd, hks, hne, q⟩ := h
  rw [Vals.ref1 r]
  obtain ⟨z, lo, vs, rel, dd⟩ := dk_rd I.hok hd
  obtain ⟨ep, hat⟩ := dd.dictAt
  have hkeys : vs.map (·.1) = ns.map Sum.inl := rel.keys.symm.trans hks
  have hl : vs.length = ns.length := by
    have e := congrArg List.length hkeys
    rw [List.length_map, List.length_map] at e
    exact e
  have ha : a < s.heap.objs.size := hat.lt_size
  refine call_min_walk (wpAny_pyIter_dict lo hat ?_)
  refine ⟨_, _, _, _, _, _, fun i j => decide (ns.getD i 0 < ns.getD j 0), rfl, Walks.dictKeys (A := X.A.in1) (I.ok.hd hc) _ a (Nat.ne_of_lt ha) vs ep, ⟨⟨_, Heap.get?_push_size _ rfl, rfl, rfl⟩, hat.push _⟩, fun b hb => ?_, by omega, CmpOf.ints_lt (fun i => ns.getD i 0) (fun i v z => key_at hkeys z), fun v h' tk hv' hk => ?_⟩
  · show b < (s.heap.push _).objs.size
    rw [size_push']
    rcases List.mem_cons.mp hb with z | z
    · rw [z]
      exact Nat.lt_succ_self _
    · rw [List.mem_singleton.mp z]
      exact Nat.lt_succ_of_lt ha
  · obtain ⟨t, rfl⟩ := key_at hkeys hv'
    obtain ⟨m1', m2'⟩ := argBest_lt (fun i => ns.getD i 0) (vs.length - 1)
    refine ⟨.int _, H, I.kept fun b o e => hk b o (fun z => ?_) (Heap.get?_push_of_some _ e), ⟨t, rfl⟩, q _ (getD_in (by omega)) fun y hy => ?_⟩
    · rw [List.mem_singleton.mp z] at e
      exact absurd (Heap.lt_size e) (Nat.lt_irrefl _)
    · obtain ⟨j, hj, rfl⟩ := in_getD hy
      exact m2' j (by omega)
/-- max(d), d's keys ints -/
theorem cr_maxDI (hc : X.calm = true) : CallR X (.builtin "max") (rBestDI (· ≥ ·)) := by
  intro pins s σ H xs us Q I r h
  obtain ⟨a, kvs, ns, rfl, hd, hks, hne, q⟩ := h
  rw [Vals.ref1 r]
  obtain ⟨z, lo, vs, rel, dd⟩ := dk_rd I.hok hd
  obtain ⟨ep, hat⟩ := dd.dictAt
  have hkeys : vs.map (·.1) = ns.map Sum.inl := rel.keys.symm.trans hks
  have hl : vs.length = ns.length := by
    have e := congrArg List.length hkeys
    rw [List.length_map, List.length_map] at e
    exact e
  have ha : a < s.heap.objs.size := hat.lt_size
  refine call_max_walk (wpAny_pyIter_dict lo hat ?_)
  refine ⟨_, _, _, _, _, _, fun i j => decide (ns.getD i 0 > ns.getD j 0), rfl, Walks.dictKeys (A := X.A.in1) (I.ok.hd hc) _ a (Nat.ne_of_lt ha) vs ep, ⟨⟨_, Heap.get?_push_size _ rfl, rfl, rfl⟩, hat.push _⟩, fun b hb => ?_, by omega, CmpOf.ints_gt (fun i => ns.getD i 0) (fun i v z => key_at hkeys z), fun v h' tk hv' hk => ?_⟩
  · show b < (s.heap.push _).objs.size
    rw [size_push']
    rcases List.mem_cons.mp hb with z | z
    · rw [z]
      exact Nat.lt_succ_self _
    · rw [List.mem_singleton.mp z]
      exact Nat.lt_succ_of_lt ha
  · obtain ⟨t, rfl⟩ := key_at hkeys hv'
    obtain ⟨m1', m2'⟩ := argBest_gt (fun i => ns.getD i 0) (vs.length - 1)
    refine ⟨.int _, H, I.kept fun b o e => hk b o (fun z => ?_) (Heap.get?_push_of_some _ e), ⟨t, rfl⟩, q _ (getD_in (by omega)) fun y hy => ?_⟩
    · rw [List.mem_singleton.mp z] at e
      exact absurd (Heap.lt_size e) (Nat.lt_irrefl _)
    · obtain ⟨j, hj, rfl⟩ := in_getD hy
      exact m2' j (by omega)
/-- x not in a tuple of data -/
def rNotInT (K : PySem.W.Frag) : R2 := fun x y H Q => ∃ d ds, Dp K H x d ∧ Dp K H y (.tuple ds) ∧ SeqAt.shaped d = true ∧ SeqAt.shaped (.list ds) = true ∧ Q (.bl (!ds.any fun z => PyData.eqv z d)) H
theorem op_notInT (hu : X.A.units + 65 < cLine) : OpR X (compareOp .NotIn) (rNotInT X.K) := by
  intro pins s σ H x y v u Q I rx ry h
  obtain ⟨d, ds, hd, he, sd, se, q⟩ := h
  obtain ⟨as, r1⟩ := Dp.reads I d x v hd rx
  obtain ⟨bs, r2⟩ := Dp.reads I (.tuple ds) y u he ry
  exact SeqAt.notIn_tuple_reads r2 r1 (SeqAt.canLay_of_shaped se) (SeqAt.canLay_of_shaped sd) (room_in_shaped sd hu) ⟨.bl _, H, I, rfl, q⟩
/-- d.items() as a value, d's keys ints or texts -/
def rItemsK : V → List V → Hp → VK → Prop := fun x xs H Q => ∃ (a : Addr) (kvs : List (Key × V)), x = .ref a ∧ xs = [] ∧ H a = some (.dK kvs) ∧ ∀ p, H p = none → Q (.ref p) (upd H p (DX.itemsO p a))
theorem mt_itemsK : MtR X "dict.items" rItemsK := by
  intro pins s σ H x xs v us Q I rx rxs h
  obtain ⟨a, kvs, rfl, rfl, ha, q⟩ := h
  cases rx
  cases rxs
  obtain ⟨z, hs0, vs, kv, hdo⟩ := I.hok a _ ha
  refine call_meetsIn F.slot_dict_items hdo.typeIs F.entry_dict_items (F.args_dict_items_1 _) (meets_dict_items (mixKind X.prog X.w) a hs0) ⟨⟨vs, hdo⟩, ?_⟩
  have hf : H s.heap.objs.size = none := I.hok.fresh (Nat.le_refl _)
  exact ⟨.ref s.heap.objs.size, upd H s.heap.objs.size (DX.itemsO s.heap.objs.size a), I.laid (t' := s.toks) (fun b u e => Heap.get?_push_of_some _ e) (Nat.le_refl _) (DX.itemsO_ok (Heap.get?_push_size _ rfl)), rfl, q _ hf⟩
abbrev entI (e : Int × Int) : Key × V := (Sum.inl e.1, V.int e.2)
def addrV : Value → Addr
  | .ref b => b
  | _ => 0
/-- sorted(d.items()), keys and values ints -/
def rSortIK : List V → Hp → VK → Prop := fun vs H Q => ∃ (p a : Addr) (fs : List (Int × Int)), vs = [.ref p] ∧ H p = some (DX.itemsO p a) ∧ H a = some (.dK (fs.map entI)) ∧
  ∀ (H' : Hp) (l : Addr) (ts : List Addr) (ys : List (Int × Int)), (∀ b o, H b = some o → H' b = some o) → H l = none → ys.Perm fs → ys.Pairwise (fun x y => SrtO.lexB y x = false) → H' l = some (.lst (ts.map V.ref)) →
    Paired (fun (t : Addr) (y : Int × Int) => H' t = some (.tup [.int y.1, .int y.2])) ts ys → Q (.ref l) H'
theorem paired_map {α β γ : Type} {F : α → β → Prop} (f : γ → α) (g : γ → β) : ∀ {l : List γ}, (∀ x ∈ l, F (f x) (g x)) → Paired F (l.map f) (l.map g)
  | [], _ => .nil
  | x :: l, h => .cons (h x (by simp)) (paired_map f g fun z hz => h z (by simp [hz]))
theorem cr_sortedIK (hc : X.calm = true) : CallR X (.builtin "sorted") rSortIK := by
  intro pins s σ H xs us Q I r h
  obtain ⟨p, a, fs, rfl, hp, ha, q⟩ := h
  obtain rfl := Vals.ref1 r
  have view : s.heap.IsItemsView p a := (show ObjOk X.prog X.w H s.heap p (DX.itemsO p a) from I.hok p _ hp).1
  obtain ⟨z, lo, vs, rel, dd⟩ := dk_of I.hok ha
  obtain ⟨ep, hat⟩ := dd.dictAt
  have l1 : (fs.map entI).length = vs.length := Paired.length rel
  rw [List.length_map] at l1 z
  have hh : X.A.handled = none := I.ok.hd hc
  refine Calls.call_function_entry PyProof.Rows.kind_sorted PyProof.Rows.plain_sorted PyProof.Rows.entry_sorted (PyProof.Rows.args_sorted1 _) ?_
  unfold Builtin.«sorted»
  refine wpAny_bind (m := checkCount "sorted" 1 1 _) (wpAny_pure ?_)
  obtain ⟨es, ep', raw, esz, eat⟩ := dd.raw
  refine wpAny_bind (DT.collectI (A := X.A.in1) (es := es) (ep := ep') hh view raw (by omega) fun h' tk as hk hlt0 hl hG => ?_)
  have hz : (as.map Value.ref).length ≤ sizeLine := by rw [List.length_map, hl]; omega
  refine wpAny_bind (wpAny_newList ?_ hz)
  have laf : as.length = fs.length := by omega
  have nd : as.Nodup := hG.rise.imp (fun h => Nat.ne_of_lt h)
  -- the pairs that were made
  have pr : ∀ (j : Nat) (b : Addr), as[j]? = some b → ∃ (e : Int × Int) (t u : Tok), fs[j]? = some e ∧ h'.get? b = some { cls := .type "tuple", data := .seq #[Value.int e.1 t, Value.int e.2 u] } := by
    intro j b hj
    obtain ⟨en, he, f3⟩ := hG.pairs j b hj
    obtain ⟨hjs, rfl⟩ := Array.getElem?_eq_some_iff.mp he
    obtain ⟨⟨k, x⟩, f1⟩ : ∃ p, vs[j]? = some p := ⟨vs[j]'(by omega), by simp⟩
    obtain ⟨f2, fx⟩ := eat j hjs k x f1
    obtain ⟨qv, g1, g2, g3⟩ := DX.pget rel f1
    have g3 : RelV qv.2 x := g3
    rw [← fx] at g3
    rw [List.getElem?_map] at g1
    cases hfj : fs[j]? with
    | none => rw [hfj] at g1; cases g1
    | some e =>
      rw [hfj] at g1
      obtain rfl : entI e = qv := Option.some.inj g1
      have f2' : keyIs (Sum.inl e.1 : Key) es[j].key = true := by
        have : (entI e).1 = k := g2
        rw [← this] at f2
        exact f2
      obtain ⟨t, et⟩ := keyInt (knd := true) f2'
      obtain ⟨u, eu⟩ : ∃ u, es[j].val = Value.int e.2 u := g3
      rw [et, eu] at f3
      exact ⟨e, t, u, rfl, f3⟩
  -- each pair's ints
  let k : Value → Int × Int := fun v => fs.getD (as.idxOf (addrV v)) (0, 0)
  have k_at : ∀ (j : Nat) (b : Addr) (e : Int × Int), as[j]? = some b → fs[j]? = some e → k (.ref b) = e := fun j b e hj he => by
    obtain ⟨hlt, rfl⟩ := List.getElem?_eq_some_iff.mp hj
    show fs.getD (as.idxOf as[j]) (0, 0) = e
    rw [nd.idxOf_getElem, List.getD_eq_getElem?_getD, he]
    rfl
  -- the heap of the sort
  have hoL : (h'.push (seqObj "list" (as.map Value.ref).toArray 0)).get? h'.objs.size = some (seqObj "list" (as.map Value.ref).toArray 0) := Heap.get?_push_size _ rfl
  have ka : ∀ b o, h'.get? b = some o → (h'.push (seqObj "list" (as.map Value.ref).toArray 0)).get? b = some o := fun b o e => Heap.get?_push_of_some _ e
  have ne0 : ∀ b o, h'.get? b = some o → b ≠ h'.objs.size := fun b o e => Nat.ne_of_lt (Heap.lt_size e)
  have hls : h'.objs.size < (h'.push (seqObj "list" (as.map Value.ref).toArray 0)).objs.size := by rw [size_push']; exact Nat.lt_succ_self _
  show wpAny _ _ _ _ _ { s with heap := h'.push (seqObj "list" (as.map Value.ref).toArray 0), toks := tk }
  generalize h'.push (seqObj "list" (as.map Value.ref).toArray 0) = h2 at hoL ka hls ⊢
  have hp2 : ∀ v ∈ as.map Value.ref, Srt.IsPair h2 v (k v).1 (k v).2 := fun v hv => by
    obtain ⟨b, hb, rfl⟩ := List.mem_map.mp hv
    obtain ⟨j, hj⟩ := List.mem_iff_getElem?.mp hb
    obtain ⟨e, t, u, he, hg⟩ := pr j b hj
    rw [k_at j b e hj he]
    exact ⟨b, _, t, u, 0, rfl, ka _ _ hg, rfl, rfl⟩
  refine wpAny_bind (wpAny_holding (wpAny_call_entry PyProof.Rows.slot_list_sort ⟨_, hoL, rfl⟩ PyProof.Rows.entry_list_sort
    (SrtO.list_sort_ord (s := { s with heap := h2, toks := tk }) (SrtO.swo_lex k) hoL hz (fun hlen => SrtO.pairs_sortableO (by omega) hp2 fun o e => ?_) fun out o1 o2 => ⟨_, rfl, ?_⟩) (PyProof.Rows.args_list_sort _)))
  · have e' : some o = some (seqObj "list" (as.map Value.ref).toArray 0) := e.symm.trans hoL
    cases e'
    intro c
    exact absurd (Value.type.inj c) (by decide)
  -- what came out
  have back : ∀ l : List Addr, (l.map Value.ref).map addrV = l := fun l => by rw [List.map_map]; exact List.map_id _
  have tsp : (out.map addrV).Perm as := by
    have := o2.perm.map addrV
    rwa [back] at this
  have outE : out = (out.map addrV).map Value.ref := by
    rw [List.map_map]
    refine ((List.map_id _).symm).trans (List.map_congr_left fun v hv => ?_)
    obtain ⟨b, _, rfl⟩ := List.mem_map.mp (o2.perm.mem_iff.mp hv)
    rfl
  generalize out.map addrV = ts at tsp outE
  subst outE
  have hperm : (ts.map fun b => k (.ref b)).Perm fs := by
    refine (tsp.map fun b => k (.ref b)).trans (.of_eq ?_)
    apply List.ext_getElem?
    intro j
    rw [List.getElem?_map]
    cases hj : as[j]? with
    | none =>
      have : fs.length ≤ j := by rw [← laf]; exact List.getElem?_eq_none_iff.mp hj
      rw [List.getElem?_eq_none_iff.mpr this]
      rfl
    | some b =>
      obtain ⟨e, _, _, he, _⟩ := pr j b hj
      rw [he]
      exact congrArg some (k_at j b e hj he)
  have hsort : (ts.map fun b => k (.ref b)).Pairwise (fun x y => SrtO.lexB y x = false) := by
    rw [List.pairwise_map]
    have := o1
    unfold SrtO.Srtd at this
    rw [List.pairwise_map] at this
    exact this
  have kF : ∀ b o, b ≠ h'.objs.size → h2.get? b = some o → (sortedHeap h2 h'.objs.size (as.map Value.ref) (ts.map Value.ref).toArray).get? b = some o := fun b o hb e => (PyProof.Rows.sortedHeap_old hb (Heap.lt_size e)).trans e
  have kS : ∀ b o, s.heap.get? b = some o → (sortedHeap h2 h'.objs.size (as.map Value.ref) (ts.map Value.ref).toArray).get? b = some o := fun b o e => kF b o (ne0 _ _ (hk b o e)) (ka _ _ (hk b o e))
  obtain ⟨eF, heF⟩ := PyProof.Rows.sortedHeap_at (vs := as.map Value.ref) (out := (ts.map Value.ref).toArray) hoL
  have I1 : Inv X pins σ H { s with heap := sortedHeap h2 h'.objs.size (as.map Value.ref) (ts.map Value.ref).toArray, toks := tk } := I.kept (t' := tk) kS
  have hlt : s.heap.objs.size ≤ h'.objs.size := Nat.le_of_lt hlt0
  have hn0 : H h'.objs.size = none := I.hok.fresh hlt
  have hlen : (ts.map V.ref).length ≤ sizeLine := by rw [List.length_map, tsp.length_eq, ← List.length_map (f := Value.ref)]; exact hz
  have I2 : Inv X pins σ (upd H h'.objs.size (.lst (ts.map V.ref))) { s with heap := sortedHeap h2 h'.objs.size (as.map Value.ref) (ts.map Value.ref).toArray, toks := tk } :=
    I1.take (h' := sortedHeap h2 h'.objs.size (as.map Value.ref) (ts.map Value.ref).toArray) (t' := tk) (fun b ob _ e => e) (I.fpOk hlt hn0) ⟨hlen, ts.map Value.ref, eF, LiI.vals_refs ts, heF⟩
  obtain ⟨H2, I3, g, qt⟩ := DX.takeT (P := fun b vs => vs = [.int (k (.ref b)).1, .int (k (.ref b)).2]) I as _ I2 nd fun b hb => by
    obtain ⟨j, hj⟩ := List.mem_iff_getElem?.mp hb
    obtain ⟨e, t, u, he, hg⟩ := pr j b hj
    have hbl : s.heap.objs.size ≤ b := Nat.le_of_lt (hG.above b hb)
    refine ⟨hbl, ?_, _, rfl, fun H3 => ⟨(by rw [sizeLine_eq]; show 2 ≤ 16777216; omega), [Value.int e.1 t, Value.int e.2 u], ?_, ⟨_, kF _ _ (ne0 _ _ hg) (ka _ _ hg), rfl, 0, rfl⟩⟩⟩
    · rw [upd_ne (ne0 _ _ hg)]
      exact I.hok.fresh hbl
    · rw [k_at j b e hj he]
      exact .cons ⟨_, rfl⟩ (.cons ⟨_, rfl⟩ .nil)
  have gr : ∀ b o, H b = some o → H2 b = some o := fun b o e => g b o (by rw [upd_ne (ne_of_none e hn0)]; exact e)
  refine wpAny_pure ⟨_, rfl, .ref h'.objs.size, H2, I3, rfl, q H2 h'.objs.size ts (ts.map fun b => k (.ref b)) gr hn0 hperm hsort (g _ _ upd_same) ?_⟩
  have := paired_map (F := fun (t : Addr) (y : Int × Int) => H2 t = some (.tup [.int y.1, .int y.2])) (fun b : Addr => b) (fun b => k (.ref b)) (l := ts) fun b hb => by
    obtain ⟨vs, rfl, hv⟩ := qt b (tsp.mem_iff.mp hb)
    exact hv
  rwa [List.map_id'] at this
end
/-- {k: v for x in ..}: over whatever is walked -/
theorem dc_it {J : It} {n : Nat} {G : Hp → Prop} {Y : Nat → Hp → V → Hp → Prop} (w : Walk J n G Y) {g : TG} {tt : TT} {tk tv : TE} {vs : List Nat} {σ : L2.St} {H1 : Hp} {D : Addr} {Qd : Hp → Prop} (Pv : Nat → Hp → Prop) (h0 : Pv 0 (upd H1 D (.dK []))) (hG : ∀ i H, i ≤ n → Pv i H → G H)
    (hs : ∀ i x H H', i < n → Pv i H → Y i H x H' → g x (wipe σ vs) H' fun σ2 H2 => wipe σ2 vs = wipe σ vs ∧ tt σ2 H2 fun b H3 =>
      if b = true then tk σ2 H3 fun y H4 => tv σ2 H4 fun z H5 => ∃ kvs k, y = kV k ∧ H5 D = some (.dK kvs) ∧ kvs.length < sizeLine ∧ Pv (i + 1) (upd H5 D (.dK (putK kvs k z))) else Pv (i + 1) H3) (hd : ∀ H, Pv n H → Qd H) :
    ∃ W : Nat → Nat → Hp → Prop, (∃ m, W 0 m (upd H1 D (.dK []))) ∧ ∀ i m H, W i m H →
      (J.stop i H ∧ Qd H) ∨ (J.go i H ∧ ∃ Nx : Hp → Prop, (∀ H', Nx H' → ∃ m', m' < m ∧ W (i + 1) m' H') ∧ ∀ x H', J.yld i H x H' → g x (wipe σ vs) H' fun σ2 H2 => wipe σ2 vs = wipe σ vs ∧ tt σ2 H2 fun b H3 =>
        if b = true then tk σ2 H3 fun y H4 => tv σ2 H4 fun z H5 => ∃ kvs k, y = kV k ∧ H5 D = some (.dK kvs) ∧ kvs.length < sizeLine ∧ Nx (upd H5 D (.dK (putK kvs k z))) else Nx H3) := by
  refine ⟨fun i m H => m = n - i ∧ i ≤ n ∧ Pv i H, ⟨n, by simp, Nat.zero_le _, h0⟩, ?_⟩
  rintro i m H ⟨rfl, hi, p⟩
  have q := hG i H hi p
  by_cases hlt : i < n
  · exact .inr ⟨w.goes i H hlt q, Pv (i + 1), fun H' p' => ⟨n - (i + 1), by omega, rfl, hlt, p'⟩, fun x H' y => hs i x H H' hlt p (w.yields i H x H' hlt q y)⟩
  · have e : i = n := by omega
    subst e
    exact .inl ⟨w.stops H q, hd H p⟩
section
variable {X : Cx} {a b c d : Expr} {ta tb tc td : TE} {pos : Pos}
/-- a op1 b op2 c op3 d, as a test -/
def tChain3 (r r' r'' : R2) (ta tb tc td : TE) : TT := fun σ H Q => ta σ H fun x H1 => tb σ H1 fun y H2 => r x y H2 fun e H3 => ∃ k, e = .bl k ∧
  (if k = true then tc σ H3 fun z H4 => r' y z H4 fun e' H5 => ∃ k', e' = .bl k' ∧ (if k' = true then td σ H5 fun u H6 => r'' z u H6 fun e'' H7 => ∃ k'', e'' = .bl k'' ∧ Q k'' H7 else Q false H5) else Q false H3)
theorem pt_chain3 {op op' op'' : CmpOp} {r r' r'' : R2} (ho : OpR X (compareOp op) r) (ho' : OpR X (compareOp op') r') (ho'' : OpR X (compareOp op'') r'') (ha : PE X a ta) (hb : PE X b tb) (hc : PE X c tc) (hd : PE X d td)
    (hm : lastMarks [op, op', op''] [b, c, d] = false := by with_unfolding_all rfl) : PT X (.Compare a [op, op', op''] [b, c, d] pos) (tChain3 r r' r'' ta tb tc td) := by
  refine ⟨fun pins s σ H Q I h => ?_⟩
  refine isTrue_chain (thn (ha.run pins s σ H _ I h) fun v s1 ⟨x, H1, I1, r1, q1⟩ => test_link (thn (hb.run pins s1 σ H1 _ I1 q1) fun u s2 ⟨y, H2, I2, r2, q2⟩ =>
    thn (ho pins s2 σ H2 x y v u _ I2 r1 r2 q2) fun d s3 ⟨z, H3, I3, r3, k, e, q3⟩ => ?_)) hm
  subst e
  cases r3
  refine wpAny_truthy_bool ?_
  cases k with
  | false => exact ite_ff ⟨H3, I3, q3⟩
  | true =>
    refine ite_tt (test_link (thn (hc.run pins s3 σ H3 _ I3 q3) fun w' s4 ⟨z', H4, I4, r4, q4⟩ => thn (ho' pins s4 σ H4 y z' u w' _ I4 r2 r4 q4) fun d' s5 ⟨z2, H5, I5, r5, k2, e2, q5⟩ => ?_))
    subst e2
    cases r5
    refine wpAny_truthy_bool ?_
    cases k2 with
    | false => exact ite_ff ⟨H5, I5, q5⟩
    | true =>
      refine ite_tt (test_last (thn (hd.run pins s5 σ H5 _ I5 q5) fun w'' s6 ⟨z'', H6, I6, r6, q6⟩ => thn (ho'' pins s6 σ H6 z' z'' w' w'' _ I6 r4 r6 q6) fun d'' s7 ⟨z3, H7, I7, r7, k3, e3, q7⟩ => ?_))
      subst e3
      cases r7
      exact wpAny_truthy_bool ⟨H7, I7, q7⟩
end
end DictI

/-! # own subscripts, and ranges kept in a name (own work) -/
open PySem PyProof PyProof.Rows L2
namespace Cut
section
variable {X : Cx} {CX : CXT} {n : Nat} {C g : Addr} {sp : Sp} {E : XK}
/-- x[y]: the class of x has __getitem__ -/
def rSub (C : Addr) (sp : Sp) (E : XK) : R2 := fun x y H Q => ∃ a dx fs, x = .ref a ∧ H a = some (.ins C dx fs) ∧ sp [x, y] H Q E
theorem pe_sub {a b : Expr} {ta tb : TE} {pos : Pos} (hs : PySem.W.findIn X.K (.ref C) "__getitem__" = some (some (.ref g))) (hf : PySem.W.fnIn X.K g = true) (hfn : PySem.W.isFn X.K (.ref g) = true)
    (F : FnR X.prog X.w X.K X.mg X.base CX n g sp) (hr : Room (n + 1) X.A) (hx : Passes CX X E) (ha : PE X a ta) (hb : PE X b tb)
    (hsl : ∀ x i, subscripted b true (.ref x) i = runValue (.builtin "lifetime.subscript" ⟨[.ref x, i], []⟩)) : PE X (.Subscript a b pos) (tOp (rSub C sp E) ta tb) := by
  refine ⟨fun pins s σ H Q I h => ?_⟩
  refine Subscript_ (binT ha hb I h fun v u s2 x y H2 I2 rx ry q => ?_)
  obtain ⟨a', dx, fs, rfl, ea, q⟩ := q
  obtain rfl : v = Value.ref a' := rx
  obtain ⟨_, ja⟩ := Own.insAt I2 ea
  obtain ⟨_, fr⟩ := I2.fr
  have go := wpAny_call (SlX.run_at (A := X.A.in1) (us := [.ref a', u]) (ws := [.ref a', y]) F hr.in1 I2.env0.in1 hx I2 (.cons rfl (.cons ry .nil)) q)
  exact PySem.W.sub_K fr I2.ok.mod.kin ja hs hf hfn (wpAny_mono go (fun v st' z => z) fun _ _ z => z) (hsl _ _)
/-- a range that stands in a name, walked -/
def iRngO (te : TE) : TI := fun sl H R => te sl H fun x H1 => ∃ a lo hi, x = .ref a ∧ H1 a = some (.rng lo hi) ∧ (-(2 ^ 62) ≤ lo ∧ lo < 2 ^ 62 ∧ -(2 ^ 62) ≤ hi ∧ hi < 2 ^ 62) ∧ R (Itr lo (hi - lo).toNat) H1
theorem pi_rngO {tg l : Expr} {tl : TE} (hl : PE X l tl) : PI X tg l (iRngO tl) := by
  refine ⟨fun pins s σ H R I h => ?_⟩
  refine thn (hl.run pins s σ H _ I h) fun v s1 ⟨x, H1, I1, r1, q1⟩ => ?_
  obtain ⟨a, lo, hi, rfl, ha, ⟨h1, h2, h3, h4⟩, q⟩ := q1
  obtain rfl : v = Value.ref a := r1
  obtain ⟨t, u, w', ho⟩ := I1.hok a _ ha
  refine wpAny_pyIter_range (a := lo) (b := hi) (c := 1) ho (small_one h1 h2 h3 h4) ?_
  refine ⟨s1.heap.objs.size, [s1.heap.objs.size], _, _, H1, rfl, I1.kept (t' := s1.toks) fun b o e => Heap.get?_push_of_some _ e, turn_range _ lo (hi - lo).toNat, ?_, fun b hb => ?_, q⟩
  · have e1 : lo + ((0 : Nat) : Int) * 1 = lo := by simp
    have e2 : (((hi - lo).toNat : Nat) : Int) - ((0 : Nat) : Int) = Builtin.Range.rangeSize lo hi 1 := by rw [rangeSize_one]; split <;> omega
    show IsRangeIter _ _ (lo + ((0 : Nat) : Int) * 1) ((((hi - lo).toNat : Nat) : Int) - ((0 : Nat) : Int)) 1
    rw [e1, e2]
    exact Heap.get?_push_size _ rfl
  · have e : b = s1.heap.objs.size := by simpa using hb
    subst e
    exact I1.fpOk (Nat.le_refl _) (I1.hok.fresh (Nat.le_refl _))
end
end Cut

/-! # set(xs), xs a list of ints (own work) -/
open PySem PySem.Spec PyProof.Rows L2
namespace SetL
abbrev frO (w : World) : Obj := { cls := .type "set", dict := none, data := .set #[] 0 (.fresh 0 0 (!w.params.followText "set-order")) }
section
variable {P : Program} {w : World} {A : Around} {E : Value → Shared → Prop} {s : Shared}
theorem init_list {l : Addr} {items : Array Value} (ns : List Int) {R : Value → Shared → Prop} (hh : A.handled = none) (hl : s.heap.IsList l items) (hit : IntsAre items.toList ns) (few : ns.length + 1 < scanBound)
    (hR : ∀ (h' : Heap) (tk c : Nat), SetR w h' s.heap.objs.size (fun j => decide (j ∈ ns)) c → c ≤ ns.length → (∀ b o, s.heap.get? b = some o → h'.get? b = some o) → R .none { s with heap := h', toks := tk }) :
    codeAny (model P w) A (.call (.builtin "set.__init__") ⟨[.ref s.heap.objs.size, .ref l], []⟩) (wants R E) { s with heap := s.heap.push (frO w) } := by
  have eS : (s.heap.push (frO w)).get? s.heap.objs.size = some (frO w) := Heap.get?_push_size _ rfl
  have tS : Shared.TypeIs { s with heap := s.heap.push (frO w) } (.ref s.heap.objs.size) "set" := ⟨_, eS, rfl⟩
  have el : items.size = ns.length := by have z := IntsAre.length hit; rwa [Array.length_toList] at z
  refine codeAny_call_builtin F.called_set.init.plain F.entry_set_init (check_set_init_1 tS ?_)
  obtain ⟨⟨k1, k2, k3, k4⟩, gl, ck, kn, dk⟩ := hl
  dsimp only at ck dk
  subst ck
  subst dk
  have gl2 : (s.heap.push (frO w)).get? l = some ⟨.type "list", k2, .seq items kn, k4⟩ := Heap.get?_push_of_some _ gl
  have ll : (s.heap.push (frO w)).IsList l items := ⟨_, gl2, rfl, kn, rfl⟩
  have lt : l < s.heap.objs.size := Heap.lt_size gl
  have sz : (s.heap.push (frO w)).objs.size = s.heap.objs.size + 1 := Heap.size_push ..
  have q1 := F.sub_list_set
  have q2 := F.sub_list_frozenset
  have q3 : (Value.type "list" == Value.type "dict") = false := by decide
  unfold Builtin.«set.__init__» noKeywords Builtin.Frozenset.updateFrom
  generalize hp : pyIter = it
  wp_walk
  subst hp
  refine wpAny_pyIter_list ll (wpAny_bind (wpAny_runValue ?_))
  have nfp : s.heap.objs.size ∉ [(s.heap.push (frO w)).objs.size, l] := fun hm => by
    rcases List.mem_cons.mp hm with e | e
    · rw [sz] at e
      exact Nat.ne_of_lt (Nat.lt_succ_self _) e
    · exact Nat.ne_of_gt lt (List.mem_singleton.mp e)
  have nI : l ≠ (s.heap.push (frO w)).objs.size := by
    rw [sz]
    exact Nat.ne_of_lt (Nat.lt_succ_of_lt lt)
  refine set_update_ints (Walks.list (by simp [hh]) _ l nI items).toS s.heap.objs.size nfp ns el few (fun i v hv => ?val) _ 0 _ rfl (Nat.zero_le _) ⟨⟨_, Heap.get?_push_size _ rfl, rfl, rfl⟩, ll.push _⟩ ⟨0, Nat.le_refl 0, setR_new_at (Heap.get?_push_of_some _ eS)⟩ fun s' c mv hc hS => ?fin
  case val =>
    have hi : i < items.size := (Array.getElem?_eq_some_iff.mp hv).1
    obtain ⟨t, e⟩ := IntsAre.int_at hit i v (by rw [Array.getElem?_toList]; exact hv)
    exact ⟨ns.getD i 0, t, by simp [List.getD, show i < ns.length by omega], e⟩
  case fin =>
    have e1 : s' = { s with heap := s'.heap, toks := s'.toks } := by
      have a1 := mv.gens
      have a2 := mv.drawn
      have a3 := mv.os
      cases s'
      cases s
      simp only at a1 a2 a3
      subst a1 a2 a3
      rfl
    show wpAny _ _ (pure ()) _ _ s'
    refine wpAny_pure ?_
    show wpAny _ _ (ret Value.none) _ _ s'
    rw [e1]
    refine wpAny_pure (hR s'.heap s'.toks c hS (by omega) fun b o e => ?_)
    have hb : b < s.heap.objs.size := Heap.lt_size e
    refine mv.heap b o ?_ (Heap.get?_push_of_some _ (Heap.get?_push_of_some _ e))
    intro hm
    rcases List.mem_cons.mp hm with q | q
    · exact Nat.ne_of_lt hb q
    · have q := List.mem_singleton.mp q
      rw [sz] at q
      exact Nat.ne_of_lt (Nat.lt_succ_of_lt hb) q
theorem call_setL {l : Addr} {items : Array Value} (ns : List Int) {Q : Value → Shared → Prop} (hh : A.handled = none) (hl : s.heap.IsList l items) (hit : IntsAre items.toList ns) (few : ns.length + 1 < scanBound)
    (hQ : ∀ (h' : Heap) (tk c : Nat), SetR w h' s.heap.objs.size (fun j => decide (j ∈ ns)) c → c ≤ ns.length → (∀ b o, s.heap.get? b = some o → h'.get? b = some o) → Q (.ref s.heap.objs.size) { s with heap := h', toks := tk }) :
    wpAny (model P w) A (call (.type "set") [.ref l]) Q E s := by
  obtain ⟨c, tl, m1⟩ := F.called_set.mro
  have m2 := F.called_set.made
  have m3 := F.called_set.sub
  have m4 := F.called_set.notType
  have m5 := F.called_set.canCreate
  have m6 := F.typeCall_set_1 (.ref l)
  refine wpAny_call (codeAny_of_tree (show wpAny _ _ (callAny (.type "set") _) _ _ _ from wpAny_pure ⟨Code.quiet_builtin _ (by decide +kernel), codeAny_builtin F.entry_type_call ?_⟩))
  rw [Around.under_plain (weight_type_call_type "set" [.ref l] []) rfl]
  repeat any_goals first | assumption | wp_step
  refine codeAny_mono (code_set_led1 (.ref l) (E := E) (Q₁ := fun v u => v = .ref s.heap.objs.size ∧ u = { s with heap := s.heap.push (frO w) }) ⟨rfl, rfl⟩) fun r u hr => ?_
  match r, hr with
  | .error e, hr => exact hr
  | .ok (.ret v), hr =>
    obtain ⟨rfl, rfl⟩ := hr
    have tS : Shared.TypeIs { s with heap := s.heap.push (frO w) } (.ref s.heap.objs.size) "set" := ⟨_, Heap.get?_push_size _ rfl, rfl⟩
    have m7 := F.called_set.init.lookup
    have m8 := F.called_set.init.bind (.ref s.heap.objs.size)
    repeat any_goals first | assumption | wp_step
    refine codeAny_mono (init_list (E := E) (R := fun v u => v = .none ∧ Q (.ref s.heap.objs.size) u) ns ?_ hl hit few fun h' tk c a b d => ⟨rfl, hQ h' tk c a b d⟩) fun r2 u2 hr2 => ?_
    · simp [hh]
    match r2, hr2 with
    | .error e, hr2 => exact hr2
    | .ok (.ret v2), hr2 =>
      obtain ⟨rfl, q⟩ := hr2
      repeat any_goals first | assumption | wp_step
end
section
variable {X : Cx}
/-- set(xs), xs a list of ints -/
def rSetL (K : PySem.W.Frag) (w : World) : List V → Hp → VK → Prop := fun xs H Q => ∃ (l : Addr) (ns : List Int), xs = [V.ref l] ∧ SqL K H l (ns.map V.int) ∧ ns.length ≤ 1000 ∧ ∀ a c, H a = none → c ≤ ns.length → Q (.ref a) (upd H a (SetO w a (fun j => decide (j ∈ ns)) c))
theorem cr_setL (hc : X.calm = true) : CallR X (.type "set") (rSetL X.K X.w) := by
  intro pins s sl H xs us Q inv r h
  obtain ⟨l, ns, rfl, hl, few, q⟩ := h
  rw [Vals.ref1 r]
  obtain ⟨its, rv, pl, _⟩ := inv.list hl
  have fresh : H s.heap.objs.size = none := inv.hok.fresh (Nat.le_refl _)
  refine call_setL ns (inv.ok.hd hc) pl.isList (ints_of_vals rv) (by unfold scanBound; omega) fun h' tk c R lc k => ?_
  exact ⟨.ref s.heap.objs.size, upd H s.heap.objs.size (SetO X.w s.heap.objs.size (fun j => decide (j ∈ ns)) c), inv.laid (t' := tk) k (Nat.le_refl _) (setO_new R), rfl, q _ c fresh lc⟩
end
end SetL

/-! ~x of instances whose class has its own __invert__. -/
namespace Own
open PySem PySem.Spec PyProof.Rows L2
section
variable {X : Cx} {CX : CXT} {n : Nat} {C g : Addr} {sp : Sp} {E : XK}
def rInvO (C : Addr) (sp : Sp) (E : XK) : V → Hp → VK → Prop := fun x H Q => ∃ a dx fs, x = .ref a ∧ H a = some (.ins C dx fs) ∧ sp [x] H Q E
theorem un_invO (hs : PySem.W.findIn X.K (.ref C) "__invert__" = some (some (.ref g))) (hf : PySem.W.isFn X.K (.ref g) = true) (F : FnR X.prog X.w X.K X.mg X.base CX n g sp) (hr : Room n X.A) (hx : Passes CX X E) : UnR X (unaryOp .Invert) (rInvO C sp E) := by
  intro pins st sl H x v Q inv rx h
  obtain ⟨a, dx, fs, rfl, ea, h⟩ := h
  obtain rfl : v = Value.ref a := rx
  obtain ⟨_, ja⟩ := insAt inv ea
  have go := wpAny_call (run_fnR (us := [.ref a]) (vs := [.ref a]) F hr hx inv (.cons rfl .nil) h)
  unfold unaryOp
  refine wpAny_holding ?_
  show wpAny _ _ (callSpecial? (.ref a) "__invert__" >>= fun r => match r with | some r => pure r | none => _) _ _ _
  refine wpAny_bind (PySem.W.special_fn inv.kIn ja hs (beq_iff_eq.mp hf) (wpAny_mono go (fun v st' z => ?_) fun _ _ z => z))
  exact wpAny_pure z
end
end Own

/-! t[::-1], t a tuple. -/
namespace TRev
open PySem PySem.Spec PyProof PyProof.Rows L2 HT
open PySem.SeqAt
open PySem.AutoSeq1 (wpAny_loadPart')
open PySem.MeetsSeq PySem.MeetsSeq2 PySem.MeetsSeq3
theorem fm_congr {α β : Type} {f g : α → Option β} : ∀ {l : List α}, (∀ x ∈ l, f x = g x) → l.filterMap f = l.filterMap g
  | [], _ => rfl
  | x :: l, h => by
    rw [List.filterMap_cons, List.filterMap_cons, h x List.mem_cons_self, fm_congr fun y hy => h y (List.mem_cons_of_mem _ hy)]
section
variable {prog : Program} {w : World} {A : Around} {E : Value → Shared → Prop} {s : Shared}
theorem applied_rev {sl : Addr} {vl vu vs : Value} {n : Nat} {Q : Int × Int × Nat → Shared → Prop} (hs : s.heap.IsSliceOf sl vl vu vs) (pl : IsPart vl none) (pu : IsPart vu none) (ps : IsPart vs (some (-1)))
    (h : Q ((n : Int) - 1, -1, n) s) : wpAny (model prog w) A (Builtin.Slice.sliceApplied (.ref sl) (pure (n : Int))) Q E s := by
  obtain ⟨os, hos, hcs, hds⟩ := id hs
  unfold Builtin.Slice.sliceApplied Builtin.Slice.sliceFields
  refine wpAny_bind (wpAny_bind (wpAny_field hos hds (x := vl) rfl (wpAny_bind (wpAny_field hos hds (x := vu) rfl (wpAny_bind (wpAny_field hos hds (x := vs) rfl (wpAny_pure ?_)))))))
  refine wpAny_bind (slicePart_ ps ?_)
  show wpAny _ _ (if ((-1 : Int) == 0) = true then _ else _) _ _ s
  rw [if_neg (by decide)]
  refine wpAny_bind (slicePart_ pl (wpAny_bind (slicePart_ pu (wpAny_bind (wpAny_pure ?_)))))
  show wpAny _ _ (pure ((n : Int) - 1, (-1 : Int), Builtin.Slice.slicePlaces ((n : Int) - 1) (-1) (-1))) _ _ s
  have e : Builtin.Slice.slicePlaces ((n : Int) - 1) (-1) (-1) = n := by
    unfold Builtin.Slice.slicePlaces
    rw [if_neg (by decide)]
    split
    · have : (-(-1) : Int) = 1 := by decide
      rw [this, Int.ediv_one]
      omega
    · omega
  rw [e]
  exact wpAny_pure h
theorem pick_rev (xs : Array Value) : ((List.range xs.size).filterMap fun (m : Nat) => xs[((xs.size : Int) - 1 + (m : Int) * (-1)).toNat]?).toArray = xs.toList.reverse.toArray := by
  congr 1
  have e : (List.range xs.size).filterMap (fun (m : Nat) => xs[((xs.size : Int) - 1 + (m : Int) * (-1)).toNat]?) = (List.range xs.size).filterMap (fun (m : Nat) => xs.toList.reverse[m]?) := by
    refine fm_congr fun m hm => ?_
    have hm := List.mem_range.mp hm
    rw [List.getElem?_reverse (by rw [Array.length_toList]; exact hm), Array.getElem?_toList, Array.length_toList]
    congr 1
    omega
  rw [e]
  have l : xs.size = xs.toList.reverse.length := by simp
  rw [l]
  generalize xs.toList.reverse = ys
  refine List.ext_getElem? fun k => ?_
  have : (List.range ys.length).filterMap (fun m => ys[m]?) = ys := by
    induction ys with
    | nil => rfl
    | cons y ys ih =>
      rw [List.length_cons, List.range_succ_eq_map, List.filterMap_cons]
      simp only [List.getElem?_cons_zero]
      rw [List.filterMap_map]
      congr 1
  rw [this]
theorem getItem_rev {t sl : Addr} {items : Array Value} {vl vu vs : Value} {Q : Value → Shared → Prop} (ht : IsTup s.heap t items) (hs : s.heap.IsSliceOf sl vl vu vs) (pl : IsPart vl none) (pu : IsPart vu none) (ps : IsPart vs (some (-1)))
    (h : Q (.ref s.heap.objs.size) { s with heap := s.heap.push { cls := .type "tuple", data := .seq items.toList.reverse.toArray } })
    (hsz : items.size ≤ sizeLine) : wpAny (model prog w) A (getItem (.ref t) (.ref sl)) Q E s := by
  have htake : sizeOk (.seq items.toList.reverse.toArray) := by
    show items.toList.reverse.toArray.size ≤ sizeLine
    rw [List.size_toArray, List.length_reverse, Array.length_toList]
    omega
  obtain ⟨os, hos, hcs, hds⟩ := id hs
  have hTs : s.TypeIs (.ref sl) "slice" := ⟨os, hos, hcs⟩
  unfold getItem
  try with_reducible refine wpAny_holding ?_
  first | refine wpAny_bind (wpAny_pure ?_) | skip
  refine wpAny_bind (wpAny_sequenceKey ht.typeIs (by decide) ?_)
  refine wpAny_bind (wpAny_callSpecial?_slot (name := Str.ofString "__getitem__") ht.typeIs PyProof.Rows.slot_tuple_getitem
    (wpAny_call_entry PyProof.Rows.slot_tuple_getitem ht.typeIs entry_tuple_getitem ?_ (args_tuple_getitem _ _)))
  show wpAny _ _ (Builtin.Tuple.tupleItemsOf (.ref t) >>= _) _ _ s
  refine wpAny_bind (tupleItemsOf_ ht ?_)
  refine wpAny_bind (wpAny_typeOf hTs ?_)
  rw [if_pos (by decide)]
  refine wpAny_bind (applied_rev hs pl pu ps ?_)
  show wpAny _ _ (if (((items.size : Int) - 1) == 0 && (-1 : Int) == 1 && items.size == items.size) = true then _ else _) _ _ s
  rw [if_neg (by rw [show ((-1 : Int) == 1) = false from rfl, Bool.and_false, Bool.false_and]; exact Bool.false_ne_true), pick_rev]
  first
    | exact wpAny_bind (m := Builtin.Tuple.tupleExact _) (wpAny_newObj_type (wpAny_pure ⟨_, rfl, wpAny_pure h⟩) htake)
    | exact wpAny_bind (m := Builtin.Tuple.tupleExact _) (wpAny_newObj_type (wpAny_bind (wpAny_pure (wpAny_pure ⟨_, rfl, wpAny_pure h⟩))) htake)
    | exact wpAny_bind (wpAny_bind (m := Builtin.Tuple.tupleExact _) (wpAny_newObj_type (wpAny_pure (wpAny_pure ⟨_, rfl, wpAny_pure h⟩)) htake))
    | exact wpAny_bind (wpAny_bind (m := Builtin.Tuple.tupleExact _) (wpAny_newObj_type (wpAny_pure ⟨_, rfl, wpAny_pure h⟩) htake))
end
section
variable {X : Cx}
def tRevT (K : PySem.W.Frag) (te : TE) : TE := fun σ H Q => te σ H fun x H1 => ∃ a xs, x = .ref a ∧ SqT K H1 a xs ∧ ∀ p, H1 p = none → Q (.ref p) (upd H1 p (.tup xs.reverse))
theorem pe_revT {e : Expr} {te : TE} {k : Nat} {p1 p2 p3 pos : Pos} (he : PE X e te) : PE X (.Subscript e (.Slice none none (some (.UnaryOp .USub (.Constant (.int 1) k p1) p2)) p3) pos) (tRevT X.K te) := by
  refine ⟨fun pins s σ H Q I h => ?_⟩
  refine Subscript_ (thn (he.run pins s σ H _ I h) fun v s1 ⟨x, H1, I1, r1, q1⟩ => ?_)
  obtain ⟨a, xs, ex, hx, q⟩ := q1
  subst ex
  cases r1
  have hst : PO X (some (.UnaryOp .USub (.Constant (.int 1) k p1) p2)) (tPart (tUn (rU fun i => .int (-i)) (tC (.int 1)))) := po_some (pe_un un_neg pe_int)
  refine wpAny_Slice (thn (po_none.run pins s1 σ H1 (fun o H2 => o = none ∧ H2 = H1) I1 ⟨rfl, rfl⟩) fun vl s2 ⟨l, H2, I2, pl, el, e2⟩ => ?_)
  subst el e2
  refine thn (po_none.run pins s2 σ H2 (fun o H3 => o = none ∧ H3 = H2) I2 ⟨rfl, rfl⟩) fun vu s3 ⟨u, H3, I3, pu, eu, e3⟩ => ?_
  subst eu e3
  refine thn (hst.run pins s3 σ H3 (fun o H4 => o = some (-1) ∧ H4 = H3) I3 ⟨1, rfl, -1, rfl, rfl, rfl⟩) fun vs s4 ⟨o, H4, I4, ps, eo, e4⟩ => ?_
  subst eo e4
  have I5 : Inv X pins σ H4 { s4 with heap := s4.heap.push { cls := .type "slice", data := .fields #[vl, vu, vs] } } := I4.kept (t' := s4.toks) fun b ob q => Heap.get?_push_of_some _ q
  obtain ⟨its, r, ht, hz⟩ := I5.tuple hx
  show wpAny (model X.prog X.w) X.A (subscriptTail e (.Slice none none (some (.UnaryOp .USub (.Constant (.int 1) k p1) p2)) p3) (.ref a) (.ref s4.heap.objs.size)) (EP X pins σ Q) X.xe _
  refine tail_any (ops := [.ref a, .ref s4.heap.objs.size]) ht.typeIs PyProof.Rows.slot_tuple_getitem.lookup ?_ (by with_unfolding_all rfl)
  have hlen : its.toArray.size = xs.length := by rw [List.size_toArray]; exact r.length.symm
  refine getItem_rev ht (Heap.IsSliceOf.new _ vl vu vs) pl pu ps ?_ (by rw [hlen]; exact hz)
  refine ⟨.ref _, _, I5.laid (t' := s4.toks) (o := .tup xs.reverse) (fun b ob q => Heap.get?_push_of_some _ q) (Nat.le_refl _) ?_, rfl, q _ (I5.hok.fresh (Nat.le_refl _))⟩
  exact ⟨by rw [List.length_reverse]; exact hz, _, r.reverse, IsTup.new _ _⟩
end
end TRev

/-! x op y: the class of x has the sign's def and no reflected one, y is an int. -/
namespace Own
open PySem PySem.Spec PyProof.Rows L2
section
variable {prog : Program} {w : World} {A : Around} {E : Value → Shared → Prop} {s : Shared} {K : PySem.W.Frag} {x C L f : Addr} {h₀ : Heap} {m : Str → Option Value} {ox : Obj} {od : Option Obj}
theorem binop_I {op : Operator} {i : Int} {t : Tok} {fo ro : Value} {Q : Value → Shared → Prop} (X : K.In s.heap) (I : PySem.W.InstAt s.heap x ox C od) (hc : PySem.W.selfFirst K C = true)
    (hs : PySem.W.findIn K (.ref C) (PySem.dunder op.info.2) = some (some (.ref f))) (hf : PySem.W.isFn K (.ref f) = true) (hr : PySem.W.findIn K (.ref C) (PySem.dunderR op.info.2) = some none) (ho : PySem.W.subIn K (.type "int") (.ref C) = some false)
    (h1 : PySem.W.findIn K (.type "int") (PySem.dunder op.info.2) = some (some fo)) (h2 : PySem.W.findIn K (.type "int") (PySem.dunderR op.info.2) = some (some ro)) (n1 : isSeqSlot (some fo) = false)
    (h : wpAny (model prog w) A (call (.ref f) [.ref x, .int i t]) (PySem.W.CmpBack Q) E s) : wpAny (model prog w) A (binaryOp op (.ref x) (.int i t)) Q E s := by
  obtain ⟨cd, hcd, hm⟩ := PySem.W.any_some hc
  obtain ⟨rest, hm⟩ : ∃ rest, cd.mro = .ref C :: rest := by
    cases q : cd.mro with
    | nil => rw [q] at hm; cases hm
    | cons a r => rw [q] at hm; exact ⟨r, by rw [List.head?_cons] at hm; cases (beq_iff_eq.mp hm); rfl⟩
  unfold binaryOp
  refine wpAny_holding (wpAny_bind ?_)
  unfold binaryOp1
  refine wpAny_bind (I.type.here (wpAny_bind ?_))
  show wpAny _ _ (pure (Value.type "int") : Sem Value) _ _ _
  refine wpAny_pure (wpAny_bind ((PySem.W.fills_K X hcd hm hs).here ?_))
  have ne : ((Value.ref C) == (Value.type "int")) = false := rfl
  rw [ne]
  simp only [Bool.false_eq_true, if_false, if_true]
  refine wpAny_bind ?_
  have right : PySem.W.Looks (model prog w) s.heap (fillsNumberSlot (.type "int") op.info.2) true := by
    intro A Q E s k q
    unfold fillsNumberSlot
    refine wpAny_bind (PySem.W.looks_findIn X h1 A _ E s k ?_)
    refine wpAny_bind (PySem.W.looks_findIn X h2 A _ E s k ?_)
    refine wpAny_pure ?_
    rw [n1]
    exact q
  refine right.here ?_
  simp only [Bool.and_self, if_true]
  refine wpAny_bind ((PySem.W.looks_subIn X ho).here ?_)
  simp only [Bool.false_eq_true, if_false]
  have mine : PySem.W.Looks (model prog w) s.heap (numberSlotInPython (.ref C) op.info.2) true := by
    intro A Q E s k q
    unfold numberSlotInPython
    refine wpAny_bind (PySem.W.looks_findIn X hs A _ E s k ?_)
    refine wpAny_bind (m := calledByName _ _ _) ?_
    unfold calledByName
    refine wpAny_pure ?_
    refine wpAny_bind (PySem.W.looks_findIn X hr A _ E s k ?_)
    refine wpAny_bind (wpAny_pure ?_)
    exact wpAny_pure q
  refine wpAny_bind (mine.here ?_)
  simp only [if_true]
  refine wpAny_bind (m := numberSlotInPython (.type "int") _) ?_
  unfold numberSlotInPython
  refine wpAny_pure ?_
  simp only [Bool.not_false, if_true]
  refine wpAny_bind ((PySem.W.looks_findIn X h2).here ?_)
  refine wpAny_bind (m := tryMethod (.ref x) _ (.int i t)) ?_
  unfold tryMethod
  refine wpAny_bind (PySem.W.special_fn X I hs (beq_iff_eq.mp hf) (wpAny_mono h (fun v s' hv => ?_) fun _ _ e => e))
  cases v <;> first | exact hv.elim | exact wpAny_pure (wpAny_pure (wpAny_pure hv))
end
section
variable {X : Cx} {CX : CXT} {n : Nat} {C g : Addr} {sp : Sp} {E : XK}
def rBinI (C : Addr) (sp : Sp) (E : XK) : R2 := fun x y H Q => ∃ a dx fs i, x = .ref a ∧ y = .int i ∧ H a = some (.ins C dx fs) ∧ sp [x, y] H Q E
theorem op_binI {op : Operator} {fo ro : Value} (hc : PySem.W.selfFirst X.K C = true) (hs : PySem.W.findIn X.K (.ref C) (PySem.dunder op.info.2) = some (some (.ref g))) (hf : PySem.W.isFn X.K (.ref g) = true) (hr' : PySem.W.findIn X.K (.ref C) (PySem.dunderR op.info.2) = some none)
    (ho : PySem.W.subIn X.K (.type "int") (.ref C) = some false) (h1 : PySem.W.findIn X.K (.type "int") (PySem.dunder op.info.2) = some (some fo)) (h2 : PySem.W.findIn X.K (.type "int") (PySem.dunderR op.info.2) = some (some ro)) (n1 : isSeqSlot (some fo) = false)
    (F : FnR X.prog X.w X.K X.mg X.base CX n g sp) (hr : Room n X.A) (hx : Passes CX X E) : OpR X (binaryOp op) (rBinI C sp E) := by
  intro pins st sl H x y v u Q inv rx ry h
  obtain ⟨a, dx, fs, i, rfl, rfl, ea, h⟩ := h
  obtain rfl : v = Value.ref a := rx
  obtain ⟨t, rfl⟩ := ry
  obtain ⟨_, ja⟩ := insAt inv ea
  exact binop_I inv.kIn ja hc hs hf hr' ho h1 h2 n1 (run2 (y := .int i) F hr hx inv ⟨t, rfl⟩ h)
end
end Own

/-! list(d.values()). -/
namespace LiV
open PySem PySem.Spec PyProof.Rows L2
def tListVals (te : TE) : TE := fun σ H Q => te σ H fun x H1 => ∃ (d : Addr) (kvs : List (Key × V)), x = .ref d ∧ H1 d = some (.dK kvs) ∧ ∀ p, H1 p = none → Q (.ref p) (upd H1 p (.lst (kvs.map (·.2))))
theorem vals_get {kvs : List (Key × V)} {vs : List (Key × Value)} {acc : List Value} (kv : KV kvs vs) (hl : acc.length = vs.length) (h : ∀ (j : Nat) (v : Value), acc[j]? = some v → ∃ k, vs[j]? = some (k, v)) : Vals (kvs.map (·.2)) acc := by
  induction kv generalizing acc with
  | nil => cases acc with
    | nil => exact .nil
    | cons _ _ => cases hl
  | @cons a b l1 l2 r t ih =>
    cases acc with
    | nil => cases hl
    | cons x acc =>
      obtain ⟨k, e⟩ := h 0 x rfl
      have e : b = (k, x) := by simpa using e
      subst e
      refine .cons r.2 (ih (by simpa using hl) fun j v q => ?_)
      obtain ⟨k', e'⟩ := h (j + 1) v (by simpa using q)
      exact ⟨k', by simpa using e'⟩
section
variable {X : Cx} {e : Expr} {te : TE} {p apos cpos pos : Pos}
theorem pe_listVals (hc : X.calm = true) (he : PE X e te) (hg : Gl X "list") (hm : X.mg "list" = none) (hv : bootBuiltins "list" = some (.type "list")) (hbase : attributeBase e "values" X.env (eval e X.env) = eval e X.env := by rfl) (hline : (apos.endLine == cpos.line) = true := by rfl)
    (hs : starEach [.Call (.Attribute e "values" apos) [] [] cpos] X.env = (false, eval (.Call (.Attribute e "values" apos) [] [] cpos) X.env) :: starEach [] X.env := by rfl) :
    PE X (.Call (.Name "list" p) [.Call (.Attribute e "values" apos) [] [] cpos] [] pos) (tListVals te) := by
  refine ⟨fun pins s σ H Q I hq => ?_⟩
  refine wpAny_Call_Name_kw (ld_blt I hg hm hv ?_)
  refine PyProof.Rows.callWith_type1 ?_ hs rfl
  rw [hs]
  show wpAny _ _ (spliced ((false, eval (.Call (.Attribute e "values" apos) [] [] cpos) X.env) :: backTo pos (starEach [] X.env))) _ _ s
  refine Calls.spliced_cons ?_
  refine wpAny_Call_method (T := "dict") (id := "dict.values") hbase rfl hline F.plainAttrs_dict F.slot_dict_values F.type_dict_values (thn (he.run pins s σ H _ I hq) fun u s1 ⟨x, H1, I1, rx, d, kvs, ex, hd, q⟩ => ?_)
  subst ex
  obtain rfl : u = Value.ref d := rx
  obtain ⟨hz, hs0, vs, kv, hdo⟩ := I1.hok d _ hd
  obtain ⟨ep, hat⟩ := hdo.dictAt
  have lk : kvs.length = vs.length := Paired.length kv
  have I2 : Inv X pins σ H1 { s1 with heap := s1.heap.push { cls := .type "dict_values", data := .fields #[.ref d] } } := I1.kept (t' := s1.toks) fun b ob q => Heap.get?_push_of_some _ q
  refine ⟨hdo.typeIs, hdo.mapOf.noDict, ?_⟩
  show wpAny _ _ (callWith cpos (.builtin "dict.values") [.ref d] [] []) _ X.xe s1
  refine method_meetsIn F.slot_dict_values F.entry_dict_values rfl (PySem.evalArgs_none ⟨rfl, hdo.typeIs, F.args_dict_values_1 _, _, meets_dict_values (mixKind X.prog X.w) d hs0, ⟨vs, hdo⟩, ?_⟩)
  refine Calls.spliced_nil ?_
  refine PySem.W.kdl_call (PySem.W.kdl_values (knd := mixKind X.prog X.w) (d := d) (kvs := vs) (ep := ep)) (I1.ok.hd hc) ⟨⟨_, Heap.get?_push_size _ rfl, rfl, rfl⟩, hat.push _⟩ (by omega) fun h' tk acc c' hk hD hacc => ?_
  have hvv : Vals (kvs.map (·.2)) acc.toList := vals_get kv (by rw [Array.length_toList]; exact hacc.1) fun j v e => hacc.2 j v (by rw [← Array.getElem?_toList]; exact e)
  exact ⟨.ref _, upd H1 _ (.lst (kvs.map (·.2))), I2.laid (t' := tk) hk (Nat.le_refl _) (show ObjOk X.prog X.w _ _ _ (.lst (kvs.map (·.2))) from ⟨by rw [List.length_map]; exact hz, acc.toList, c', hvv, by rw [Array.toArray_toList]; exact hD⟩), rfl, q _ (I2.hok.fresh (Nat.le_refl _))⟩
end
end LiV

/-! (v,) * k, k from 0 on. -/
namespace TOne
open PySem PySem.Spec PyProof.Rows L2
open PySem.AutoSeq1 (wpAny_loadPart')
theorem mul_one (l : Addr) (items : Array Value) (n : Nat) (dd : Option Addr) (sl : Array (Option Value)) (u : Tok) :
    Meets (Builtin.«tuple.__mul__» ⟨[.ref l, .int 1 u], []⟩) (fun _ R s => s.heap.get? l = some { cls := .type "tuple", dict := dd, data := .seq items n, slots := sl } ∧ R (.ok (.ret (.ref l))) s) :=
  .of_wp fun prog w A R s h => by
    obtain ⟨hp, g, d, tk, os⟩ := s
    obtain ⟨hl, h⟩ := h
    have f1 := AutoSeq1.idx_int
    have c1 : (items.isEmpty || (1 : Int) == 1) = true := by simp
    wp_walk using wpAny_loadPart' hl
    exact ⟨_, rfl, h⟩
theorem mul_zero (l : Addr) (items : Array Value) (n : Nat) (dd : Option Addr) (sl : Array (Option Value)) (u : Tok) (hi : items.isEmpty = false) :
    Meets (Builtin.«tuple.__mul__» ⟨[.ref l, .int 0 u], []⟩) (fun _ R s => s.heap.get? l = some { cls := .type "tuple", dict := dd, data := .seq items n, slots := sl } ∧
      R (.ok (.ret (Value.ref s.heap.objs.size))) { s with heap := s.heap.push { cls := Value.type "tuple", data := Data.seq #[] }, toks := s.toks }) :=
  .of_wp fun prog w A R s h => by
    obtain ⟨hp, g, d, tk, os⟩ := s
    obtain ⟨hl, h⟩ := h
    have f1 := AutoSeq1.idx_int
    have c1 : (items.isEmpty || (0 : Int) == 1) = false := by rw [hi]; rfl
    have c2 : (decide ((0 : Int) ≤ 0) || items.isEmpty) = true := by simp
    wp_walk using wpAny_loadPart' hl
    repeat (first
      | (refine wpAny_ite_false (decide_eq_false (by rw [c1]; exact Bool.false_ne_true)) ?_; wp_walk using wpAny_loadPart' hl)
      | (refine wpAny_ite_true (decide_eq_true c2) ?_; wp_walk using wpAny_loadPart' hl))
    exact ⟨_, rfl, h⟩
def rRep1 (K : PySem.W.Frag) : R2 := fun x y H Q => ∃ (l : Addr) (k : Nat) (v : V), x = .ref l ∧ y = .int (k : Nat) ∧ SqT K H l [v] ∧ k ≤ 1000 ∧ ∀ p H', Same H H' → SqT K H' p (List.replicate k v) → Q (.ref p) H'
section
variable {X : Cx}
theorem op_rep1 : OpR X (binaryOp .Mult) (rRep1 X.K) := by
  intro pins s σ H x y v u Q I rx ry h
  obtain ⟨l, k, v0, rfl, rfl, hT, hz, q⟩ := h
  by_cases h2 : 2 ≤ k
  · refine op_repT pins s σ H _ _ v u Q I rx ry ⟨l, (k : Nat), [v0], rfl, rfl, hT, (fun z => nomatch z), by omega, by omega, by simp, fun p hp => q p _ (fun b o e => by rw [upd_ne (fun z => by rw [z, hp] at e; cases e)]; exact e) (SqT.of ?_)⟩
    rw [upd_same, Int.toNat_natCast]
    congr 2
    clear h2 q hz ry
    induction k with
    | zero => rfl
    | succ k ih => rw [List.replicate_succ, List.flatten_cons, ih, List.replicate_succ]; rfl
  · cases rx
    obtain ⟨t, rfl⟩ := ry
    obtain ⟨its, r, ⟨⟨cls, dd, data, sl⟩, ho, hc, n, hd⟩, hs⟩ := I.tuple hT
    simp only at hc hd
    subst hc hd
    have hle : its.length = 1 := r.length.symm
    have hi : its.toArray.isEmpty = false := by
      cases its with
      | nil => cases hle
      | cons a b => rfl
    match k, h2, q with
    | 1, _, q =>
      refine wpAny_binaryOp_repeat_ref (T := "tuple") (U := "int") (by decide) ⟨_, ho, rfl⟩ (fun s' => typeIs_int s' 1 t) noFill_tuple_mul F.fills_int_mul F.slot_int_rmul repeat_tuple F.slot_int_index.lookup
        (call_meets F.slot_int_rmul (typeIs_int s 1 t) F.entry_int_rmul (F.args_int_rmul_2 _ _) (int_rmul_tuple 1 t l its.toArray n dd sl)
          ⟨ho, rfl, ⟨_, ho, rfl⟩, call_meets F.slot_tuple_mul ⟨_, ho, rfl⟩ F.entry_tuple_mul (F.args_tuple_mul_2 _ _) (mul_one l its.toArray n dd sl t) ⟨ho, ?_⟩⟩)
      exact ⟨.ref l, _, I, rfl, q l H (fun _ _ e => e) hT⟩
    | 0, _, q =>
      refine wpAny_binaryOp_repeat_ref (T := "tuple") (U := "int") (by decide) ⟨_, ho, rfl⟩ (fun s' => typeIs_int s' 0 t) noFill_tuple_mul F.fills_int_mul F.slot_int_rmul repeat_tuple F.slot_int_index.lookup
        (call_meets F.slot_int_rmul (typeIs_int s 0 t) F.entry_int_rmul (F.args_int_rmul_2 _ _) (int_rmul_tuple 0 t l its.toArray n dd sl)
          ⟨ho, rfl, ⟨_, ho, rfl⟩, call_meets F.slot_tuple_mul ⟨_, ho, rfl⟩ F.entry_tuple_mul (F.args_tuple_mul_2 _ _) (mul_zero l its.toArray n dd sl t hi) ⟨ho, ?_⟩⟩)
      have np : H s.heap.objs.size = none := I.hok.fresh (Nat.le_refl _)
      refine ⟨.ref s.heap.objs.size, _, I.laid (t' := s.toks) (o := .tup []) (fun b ob e => Heap.get?_push_of_some _ e) (Nat.le_refl _) ?_, rfl, q _ _ (fun b o e => by rw [upd_ne (fun z => by rw [z, np] at e; cases e)]; exact e) (SqT.of upd_same)⟩
      exact ⟨by show 0 ≤ sizeLine; decide, _, .nil, IsTup.new _ _⟩
    | k + 2, h2, _ => exact absurd (Nat.le_add_left 2 k) h2
end
end TOne

/-! x in o, x not in o: o an instance whose class has its own __contains__ that gives a bool. -/
namespace Own
open PySem PySem.Spec PyProof.Rows L2
section
variable {M : Model} {A : Around} {E : Value → Shared → Prop} {s : Shared} {K : PySem.W.Frag} {a C g : Addr} {ox : Obj} {od : Option Obj} {v : Value}
theorem contains_own {Q : Bool → Shared → Prop} (X : K.In s.heap) (I : PySem.W.InstAt s.heap a ox C od) (hs : PySem.W.findIn K (.ref C) "__contains__" = some (some (.ref g))) (hf : PySem.W.isFn K (.ref g) = true)
    (h : wpAny M A (call (.ref g) [.ref a, v]) (fun r s' => ∃ b, r = .bool b ∧ Q b s') E s) : wpAny M A (contains (.ref a) v) Q E s := by
  have sp : ∀ {R : Option Value → Shared → Prop}, R (some (.ref g)) s → wpAny M A (specialOf (.ref a) "__contains__") R E s := fun {R} r => wpAny_bind (I.type.here ((PySem.W.looks_findIn X hs).here r))
  unfold contains
  refine wpAny_holding ?_
  refine wpAny_bind (sp ?_)
  rw [if_neg (show ¬ ((some (Value.ref g) == some Value.none) = true) from Bool.false_ne_true)]
  have call' : wpAny M A (callSpecialUnlessNone? (.ref a) "__contains__" [v] (do rule "in.none"; raiseError "TypeError" s!"'{← typeNameOf (.ref a)}' object is not a container")) (fun r s' => ∃ b, r = some (Value.bool b) ∧ Q b s') E s := by
    simp only [callSpecialUnlessNone?]
    refine wpAny_bind (sp ?_)
    refine wpAny_holding ?_
    refine wpAny_bind ((PySem.W.bind_fn X _ (beq_iff_eq.mp hf)).here ?_)
    show wpAny _ _ (if (Value.ref g == Value.none) = true then _ else _) _ _ _
    rw [if_neg (show ¬ ((Value.ref g == Value.none) = true) from Bool.false_ne_true)]
    refine wpAny_bind (wpAny_mono h (fun r s' z => ?_) fun _ _ z => z)
    obtain ⟨b, rfl, q⟩ := z
    exact wpAny_pure ⟨b, rfl, q⟩
  show wpAny M A (callSpecialUnlessNone? (.ref a) "__contains__" [v] _ >>= _) Q E s
  refine wpAny_bind (wpAny_mono call' (fun r s' z => ?_) fun _ _ z => z)
  obtain ⟨b, rfl, q⟩ := z
  exact wpAny_truthy_bool q
end
section
variable {X : Cx} {CX : CXT} {n : Nat} {C g : Addr} {sp : Sp} {E : XK}
def rInO (neg : Bool) (C : Addr) (sp : Sp) (E : XK) : V → V → Hp → VK → Prop := fun x y H Q => ∃ a dx fs, y = .ref a ∧ H a = some (.ins C dx fs) ∧ sp [y, x] H (fun v H' => ∃ b, v = .bl b ∧ Q (.bl (if neg then !b else b)) H') E
theorem in_run (hs : PySem.W.findIn X.K (.ref C) "__contains__" = some (some (.ref g))) (hf : PySem.W.isFn X.K (.ref g) = true) (F : FnR X.prog X.w X.K X.mg X.base CX n g sp) (hr : Room n X.A) (hx : Passes CX X E)
    {pins : List (Addr × Obj)} {st : Shared} {sl : L2.St} {H : Hp} {x : V} {a dx : Addr} {fs : List (Str × V)} {u : Value} {Q : Bool → Hp → Prop} {R : Bool → Shared → Prop} (inv : Inv X pins sl H st) (rx : RelV x u) (ea : H a = some (.ins C dx fs))
    (h : sp [.ref a, x] H (fun v H' => ∃ b, v = .bl b ∧ Q b H') E) (go : ∀ b st' H', Inv X pins sl H' st' → Q b H' → R b st') : wpAny (model X.prog X.w) X.A (contains (.ref a) u) R X.xe st := by
  obtain ⟨_, ja⟩ := insAt inv ea
  refine contains_own inv.kIn ja hs hf (wpAny_mono (wpAny_call (run_fnR (us := [.ref a, u]) (vs := [.ref a, x]) F hr hx inv (.cons rfl (.cons rx .nil)) h)) (fun r st' z => ?_) fun _ _ z => z)
  obtain ⟨y, H', inv', ry, b, rfl, q⟩ := z
  obtain rfl : r = Value.bool b := ry
  exact ⟨b, rfl, go b st' H' inv' q⟩
theorem op_inO (hs : PySem.W.findIn X.K (.ref C) "__contains__" = some (some (.ref g))) (hf : PySem.W.isFn X.K (.ref g) = true) (F : FnR X.prog X.w X.K X.mg X.base CX n g sp) (hr : Room n X.A) (hx : Passes CX X E) : OpR X (compareOp .In) (rInO false C sp E) := by
  intro pins st sl H x y v u Q inv rx ry h
  obtain ⟨a, dx, fs, rfl, ea, h⟩ := h
  obtain rfl : u = Value.ref a := ry
  show wpAny _ _ (contains (.ref a) v >>= fun b => pure (Value.bool b)) _ _ _
  refine wpAny_bind (in_run hs hf F hr hx inv rx ea h fun b st' H' inv' q => wpAny_pure ⟨.bl b, H', inv', rfl, q⟩)
theorem op_notInO (hs : PySem.W.findIn X.K (.ref C) "__contains__" = some (some (.ref g))) (hf : PySem.W.isFn X.K (.ref g) = true) (F : FnR X.prog X.w X.K X.mg X.base CX n g sp) (hr : Room n X.A) (hx : Passes CX X E) : OpR X (compareOp .NotIn) (rInO true C sp E) := by
  intro pins st sl H x y v u Q inv rx ry h
  obtain ⟨a, dx, fs, rfl, ea, h⟩ := h
  obtain rfl : u = Value.ref a := ry
  show wpAny _ _ (contains (.ref a) v >>= fun b => pure (Value.bool (!b))) _ _ _
  refine wpAny_bind (in_run hs hf F hr hx inv rx ea h fun b st' H' inv' q => wpAny_pure ⟨.bl (!b), H', inv', rfl, q⟩)
end
end Own

namespace RD
open PySem PySem.Spec PyProof.Rows L2
def top (i : Nat) : Stmt := PySem.Challenge.pw_rowdominoes_k21_whole_rounds_of_endless.main.body.getD i (.Pass ⟨0, 0, 0, 0⟩)
abbrev s_InvalidRow_init : Stmt := inClass (top 3) 0
abbrev s_is_number : Stmt := top 9
abbrev s_check_number : Stmt := top 10
abbrev s_check_stone : Stmt := top 11
abbrev s_check_side : Stmt := top 12
abbrev s_stones_beside : Stmt := top 16
abbrev s_felled_by : Stmt := top 17
abbrev s_is_stone : Stmt := top 18
abbrev s_Row_init : Stmt := inClass (top 19) 1
abbrev s_Row_stones : Stmt := inClass (top 19) 3
abbrev s_Row_places : Stmt := inClass (top 19) 4
abbrev s_Row_len : Stmt := inClass (top 19) 5
abbrev s_Row_getitem : Stmt := inClass (top 19) 6
abbrev s_Row_iter : Stmt := inClass (top 19) 7
abbrev s_Row_contains : Stmt := inClass (top 19) 8
abbrev s_Row_add : Stmt := inClass (top 19) 9
abbrev s_Row_rshift : Stmt := inClass (top 19) 10
abbrev s_Row_invert : Stmt := inClass (top 19) 11
abbrev s_Row_eq : Stmt := inClass (top 19) 12
abbrev s_Row_call : Stmt := inClass (top 19) 13
abbrev s_last_hit : Stmt := top 24
abbrev s_next_front : Stmt := top 25
abbrev s_fronts_of_wave : Stmt := top 26
abbrev s_first_repeat : Stmt := top 27
abbrev s_EndlessRow_init : Stmt := inClass (top 28) 0
abbrev s_EndlessRow_row : Stmt := inClass (top 28) 1
abbrev s_EndlessRow_period : Stmt := inClass (top 28) 2
abbrev s_EndlessRow_wave : Stmt := inClass (top 28) 3
abbrev s_Wave_init : Stmt := inClass (top 29) 0
abbrev s_Wave_is_endless : Stmt := inClass (top 29) 1
abbrev s_Wave_last_fallen : Stmt := inClass (top 29) 2
abbrev s_Wave_count_after : Stmt := inClass (top 29) 3
abbrev s_Wave_front_after : Stmt := inClass (top 29) 4
abbrev s_Wave_tick_of : Stmt := inClass (top 29) 5
abbrev s_Wave_first_tick : Stmt := inClass (top 29) 6
abbrev s_fall_ticks : Stmt := top 31
abbrev s_reaches : Stmt := top 32
abbrev s_law_taken : Stmt := top 34
abbrev s_law_great : Stmt := top 35
abbrev s_law_stones : Stmt := top 36
abbrev s_law_row : Stmt := top 37
abbrev s_law_are_rounds : Stmt := top 38
abbrev s_law_are_twice : Stmt := top 39
abbrev s_law : Stmt := top 40
abbrev n_is_number : List Str := ["value", "least", "greatest"]
theorem sc_is_number : FnScope ["value", "least", "greatest"] ["value", "least", "greatest"] (defScope s_is_number) := ⟨rfl, rfl, rfl, by decide +kernel, rfl, by decide +kernel, by decide +kernel⟩
abbrev n_check_number : List Str := ["value", "least", "greatest"]
theorem sc_check_number : FnScope ["value", "least", "greatest"] ["value", "least", "greatest"] (defScope s_check_number) := ⟨rfl, rfl, rfl, by decide +kernel, rfl, by decide +kernel, by decide +kernel⟩
abbrev n_check_stone : List Str := ["stone", "count"]
theorem sc_check_stone : FnScope ["stone", "count"] ["stone", "count"] (defScope s_check_stone) := ⟨rfl, rfl, rfl, by decide +kernel, rfl, by decide +kernel, by decide +kernel⟩
abbrev n_check_side : List Str := ["side"]
theorem sc_check_side : FnScope ["side"] ["side"] (defScope s_check_side) := ⟨rfl, rfl, rfl, by decide +kernel, rfl, by decide +kernel, by decide +kernel⟩
abbrev n_stones_beside : List Str := ["stone", "side", "count"]
theorem sc_stones_beside : FnScope ["stone", "side", "count"] ["stone", "side", "count"] (defScope s_stones_beside) := ⟨rfl, rfl, rfl, by decide +kernel, rfl, by decide +kernel, by decide +kernel⟩
abbrev n_felled_by : List Str := ["stones", "standing", "stone", "side", "start", "reach", "felled", "other", "place", "height", "distance"]
theorem sc_felled_by : FnScope ["stones", "standing", "stone", "side", "start", "reach", "felled", "other", "place", "height", "distance"] ["stones", "standing", "stone", "side"] (defScope s_felled_by) := ⟨rfl, rfl, rfl, by decide +kernel, rfl, by decide +kernel, by decide +kernel⟩
abbrev n_is_stone : List Str := ["stone", "least_place", "place", "height"]
theorem sc_is_stone : FnScope ["stone", "least_place", "place", "height"] ["stone", "least_place"] (defScope s_is_stone) := ⟨rfl, rfl, rfl, by decide +kernel, rfl, by decide +kernel, by decide +kernel⟩
abbrev n_Row_init : List Str := ["self", "stones", "least_place", "index", "stone"]
theorem sc_Row_init : FnScope ["self", "stones", "least_place", "index", "stone"] ["self", "stones"] (defScope s_Row_init) := ⟨rfl, rfl, rfl, by decide +kernel, rfl, by decide +kernel, by decide +kernel⟩
abbrev n_Row_stones : List Str := ["self"]
theorem sc_Row_stones : FnScope ["self"] ["self"] (defScope s_Row_stones) := ⟨rfl, rfl, rfl, by decide +kernel, rfl, by decide +kernel, by decide +kernel⟩
abbrev n_Row_places : List Str := ["self", "place", "_"]
theorem sc_Row_places : FnScope ["self", "place", "_"] ["self"] (defScope s_Row_places) := ⟨rfl, rfl, rfl, by decide +kernel, rfl, by decide +kernel, by decide +kernel⟩
abbrev n_Row_len : List Str := ["self"]
theorem sc_Row_len : FnScope ["self"] ["self"] (defScope s_Row_len) := ⟨rfl, rfl, rfl, by decide +kernel, rfl, by decide +kernel, by decide +kernel⟩
abbrev n_Row_getitem : List Str := ["self", "stone"]
theorem sc_Row_getitem : FnScope ["self", "stone"] ["self", "stone"] (defScope s_Row_getitem) := ⟨rfl, rfl, rfl, by decide +kernel, rfl, by decide +kernel, by decide +kernel⟩
abbrev n_Row_iter : List Str := ["self"]
theorem sc_Row_iter : FnScope ["self"] ["self"] (defScope s_Row_iter) := ⟨rfl, rfl, rfl, by decide +kernel, rfl, by decide +kernel, by decide +kernel⟩
abbrev n_Row_contains : List Str := ["self", "place"]
theorem sc_Row_contains : FnScope ["self", "place"] ["self", "place"] (defScope s_Row_contains) := ⟨rfl, rfl, rfl, by decide +kernel, rfl, by decide +kernel, by decide +kernel⟩
abbrev n_Row_add : List Str := ["self", "other", "stones"]
theorem sc_Row_add : FnScope ["self", "other", "stones"] ["self", "other"] (defScope s_Row_add) := ⟨rfl, rfl, rfl, by decide +kernel, rfl, by decide +kernel, by decide +kernel⟩
abbrev n_Row_rshift : List Str := ["self", "distance", "stones", "place", "height"]
theorem sc_Row_rshift : FnScope ["self", "distance", "stones", "place", "height"] ["self", "distance"] (defScope s_Row_rshift) := ⟨rfl, rfl, rfl, by decide +kernel, rfl, by decide +kernel, by decide +kernel⟩
abbrev n_Row_invert : List Str := ["self", "places", "stones", "place", "height"]
theorem sc_Row_invert : FnScope ["self", "places", "stones", "place", "height"] ["self"] (defScope s_Row_invert) := ⟨rfl, rfl, rfl, by decide +kernel, rfl, by decide +kernel, by decide +kernel⟩
abbrev n_Row_eq : List Str := ["self", "other"]
theorem sc_Row_eq : FnScope ["self", "other"] ["self", "other"] (defScope s_Row_eq) := ⟨rfl, rfl, rfl, by decide +kernel, rfl, by decide +kernel, by decide +kernel⟩
abbrev n_Row_call : List Str := ["self", "stone", "side", "standing", "felled"]
theorem sc_Row_call : FnScope ["self", "stone", "side", "standing", "felled"] ["self", "stone", "side"] (defScope s_Row_call) := ⟨rfl, rfl, rfl, by decide +kernel, rfl, by decide +kernel, by decide +kernel⟩
abbrev n_last_hit : List Str := ["row", "period", "stone", "place", "height", "start", "rounds", "rest", "reached", "other"]
theorem sc_last_hit : FnScope ["row", "period", "stone", "place", "height", "start", "rounds", "rest", "reached", "other"] ["row", "period", "stone"] (defScope s_last_hit) := ⟨rfl, rfl, rfl, by decide +kernel, rfl, by decide +kernel, by decide +kernel⟩
abbrev n_next_front : List Str := ["hits", "first", "front", "count", "reached", "ordinal", "number", "stone"]
theorem sc_next_front : FnScope ["hits", "first", "front", "count", "reached", "ordinal", "number", "stone"] ["hits", "first", "front"] (defScope s_next_front) := ⟨rfl, rfl, rfl, by decide +kernel, rfl, by decide +kernel, by decide +kernel⟩
abbrev n_fronts_of_wave : List Str := ["hits", "first", "fronts", "_", "front"]
theorem sc_fronts_of_wave : FnScope ["hits", "first", "fronts", "_", "front"] ["hits", "first"] (defScope s_fronts_of_wave) := ⟨rfl, rfl, rfl, by decide +kernel, rfl, by decide +kernel, by decide +kernel⟩
abbrev n_first_repeat : List Str := ["fronts", "count", "tick_with", "tick", "front", "_", "stone", "earlier"]
theorem sc_first_repeat : FnScope ["fronts", "count", "tick_with", "tick", "front", "_", "stone", "earlier"] ["fronts", "count"] (defScope s_first_repeat) := ⟨rfl, rfl, rfl, by decide +kernel, rfl, by decide +kernel, by decide +kernel⟩
abbrev n_EndlessRow_init : List Str := ["self", "row", "period"]
theorem sc_EndlessRow_init : FnScope ["self", "row", "period"] ["self", "row", "period"] (defScope s_EndlessRow_init) := ⟨rfl, rfl, rfl, by decide +kernel, rfl, by decide +kernel, by decide +kernel⟩
abbrev n_EndlessRow_row : List Str := ["self"]
theorem sc_EndlessRow_row : FnScope ["self"] ["self"] (defScope s_EndlessRow_row) := ⟨rfl, rfl, rfl, by decide +kernel, rfl, by decide +kernel, by decide +kernel⟩
abbrev n_EndlessRow_period : List Str := ["self"]
theorem sc_EndlessRow_period : FnScope ["self"] ["self"] (defScope s_EndlessRow_period) := ⟨rfl, rfl, rfl, by decide +kernel, rfl, by decide +kernel, by decide +kernel⟩
abbrev n_EndlessRow_wave : List Str := ["self", "stone"]
theorem sc_EndlessRow_wave : FnScope ["self", "stone"] ["self", "stone"] (defScope s_EndlessRow_wave) := ⟨rfl, rfl, rfl, by decide +kernel, rfl, by decide +kernel, by decide +kernel⟩
abbrev n_Wave_init : List Str := ["self", "row", "period", "stone", "hits", "other"]
theorem sc_Wave_init : FnScope ["self", "row", "period", "stone", "hits", "other"] ["self", "row", "period", "stone"] (defScope s_Wave_init) := ⟨rfl, rfl, rfl, by decide +kernel, rfl, by decide +kernel, by decide +kernel⟩
abbrev n_Wave_is_endless : List Str := ["self"]
theorem sc_Wave_is_endless : FnScope ["self"] ["self"] (defScope s_Wave_is_endless) := ⟨rfl, rfl, rfl, by decide +kernel, rfl, by decide +kernel, by decide +kernel⟩
abbrev n_Wave_last_fallen : List Str := ["self"]
theorem sc_Wave_last_fallen : FnScope ["self"] ["self"] (defScope s_Wave_last_fallen) := ⟨rfl, rfl, rfl, by decide +kernel, rfl, by decide +kernel, by decide +kernel⟩
abbrev n_Wave_count_after : List Str := ["self", "tick"]
theorem sc_Wave_count_after : FnScope ["self", "tick"] ["self", "tick"] (defScope s_Wave_count_after) := ⟨rfl, rfl, rfl, by decide +kernel, rfl, by decide +kernel, by decide +kernel⟩
abbrev n_Wave_front_after : List Str := ["self", "tick", "start", "ticks", "stones", "times", "rest"]
theorem sc_Wave_front_after : FnScope ["self", "tick", "start", "ticks", "stones", "times", "rest"] ["self", "tick"] (defScope s_Wave_front_after) := ⟨rfl, rfl, rfl, by decide +kernel, rfl, by decide +kernel, by decide +kernel⟩
abbrev n_Wave_tick_of : List Str := ["self", "number", "stone", "ordinal", "start", "ticks", "stones", "times"]
theorem sc_Wave_tick_of : FnScope ["self", "number", "stone", "ordinal", "start", "ticks", "stones", "times"] ["self", "number", "stone"] (defScope s_Wave_tick_of) := ⟨rfl, rfl, rfl, by decide +kernel, rfl, by decide +kernel, by decide +kernel⟩
abbrev n_Wave_first_tick : List Str := ["self", "ordinal", "tick", "front"]
theorem sc_Wave_first_tick : FnScope ["self", "ordinal", "tick", "front"] ["self", "ordinal"] (defScope s_Wave_first_tick) := ⟨rfl, rfl, rfl, by decide +kernel, rfl, by decide +kernel, by decide +kernel⟩
abbrev n_fall_ticks : List Str := ["row", "stone", "side", "stones", "ticks", "other", "hits", "fallen"]
theorem sc_fall_ticks : FnScope ["row", "stone", "side", "stones", "ticks", "other", "hits", "fallen"] ["row", "stone", "side"] (defScope s_fall_ticks) := ⟨rfl, rfl, rfl, by decide +kernel, rfl, by decide +kernel, by decide +kernel⟩
abbrev n_reaches : List Str := ["stone", "other", "place", "height"]
theorem sc_reaches : FnScope ["stone", "other", "place", "height"] ["stone", "other"] (defScope s_reaches) := ⟨rfl, rfl, rfl, by decide +kernel, rfl, by decide +kernel, by decide +kernel⟩
abbrev n_law_taken : List Str := ["_law_row_here", "_law_many", "_law_found", "_law_cell"]
theorem sc_law_taken : FnScope ["_law_row_here", "_law_many", "_law_found", "_law_cell"] ["_law_row_here", "_law_many"] (defScope s_law_taken) := ⟨rfl, rfl, rfl, by decide +kernel, rfl, by decide +kernel, by decide +kernel⟩
abbrev n_law_great : List Str := ["_law_row_here", "_law_many"]
theorem sc_law_great : FnScope ["_law_row_here", "_law_many"] ["_law_row_here", "_law_many"] (defScope s_law_great) := ⟨rfl, rfl, rfl, by decide +kernel, rfl, by decide +kernel, by decide +kernel⟩
abbrev n_law_stones : List Str := ["_law_row_here", "_law_most", "_law_found", "_law_place", "_law_k"]
theorem sc_law_stones : FnScope ["_law_row_here", "_law_most", "_law_found", "_law_place", "_law_k"] ["_law_row_here", "_law_most"] (defScope s_law_stones) := ⟨rfl, rfl, rfl, by decide +kernel, rfl, by decide +kernel, by decide +kernel⟩
abbrev n_law_row : List Str := ["_law_stones_here", "_law_row_here", "_law_stone"]
theorem sc_law_row : FnScope ["_law_stones_here", "_law_row_here", "_law_stone"] ["_law_stones_here"] (defScope s_law_row) := ⟨rfl, rfl, rfl, by decide +kernel, rfl, by decide +kernel, by decide +kernel⟩
abbrev n_law_are_rounds : List Str := ["_law_one", "_law_wave", "_law_period", "_law_rounds", "_law_stone", "_law_long", "_law_count", "_law_k", "_law_ticks", "_law_number"]
theorem sc_law_are_rounds : FnScope ["_law_one", "_law_wave", "_law_period", "_law_rounds", "_law_stone", "_law_long", "_law_count", "_law_k", "_law_ticks", "_law_number"] ["_law_one", "_law_wave", "_law_period", "_law_rounds", "_law_stone"] (defScope s_law_are_rounds) := ⟨rfl, rfl, rfl, by decide +kernel, rfl, by decide +kernel, by decide +kernel⟩
abbrev n_law_are_twice : List Str := ["_law_row_here", "_law_one", "_law_period", "_law_wave", "_law_stone", "_law_count", "_law_other", "_law_last", "_law_turn", "_law_tick", "_law_number", "_law_place"]
theorem sc_law_are_twice : FnScope ["_law_row_here", "_law_one", "_law_period", "_law_wave", "_law_stone", "_law_count", "_law_other", "_law_last", "_law_turn", "_law_tick", "_law_number", "_law_place"] ["_law_row_here", "_law_one", "_law_period", "_law_wave", "_law_stone"] (defScope s_law_are_twice) := ⟨rfl, rfl, rfl, by decide +kernel, rfl, by decide +kernel, by decide +kernel⟩
abbrev n_law : List Str := ["_law_script", "_law_row_here", "_law_turn", "_law_one", "_law_period", "_law_stone", "_law_wave"]
theorem sc_law : FnScope ["_law_script", "_law_row_here", "_law_turn", "_law_one", "_law_period", "_law_stone", "_law_wave"] ["_law_script"] (defScope s_law) := ⟨rfl, rfl, rfl, by decide +kernel, rfl, by decide +kernel, by decide +kernel⟩
/-! ### the built-in names that the program leaves as they are -/
structure Blt (mg : Str → Option Value) : Prop where
  isinstance : mg "isinstance" = none
  int : mg "int" = none
  bool : mg "bool" = none
  len : mg "len" = none
  tuple : mg "tuple" = none
  list : mg "list" = none
  range : mg "range" = none
  enumerate : mg "enumerate" = none
  abs : mg "abs" = none
  max : mg "max" = none
  min : mg "min" = none
  sorted : mg "sorted" = none
/-! ### numbers and checks -/
/-- values whose kind is known -/
def Known (K : PySem.W.Frag) (H : Hp) : V → Prop
  | .int _ => True
  | .bl _ => True
  | .non => True
  | .str _ => True
  | .ref a => TyX K H (.ref a) (.type "tuple") ∨ TyX K H (.ref a) (.type "list")
  | _ => False
def numB : V → Int → Int → Bool
  | .int i, lo, hi => decide (lo ≤ i) && decide (i ≤ hi)
  | _, _, _ => false
def spNum (K : PySem.W.Frag) : Sp := fun vs H Q _ => ∃ v lo hi, vs = [v, .int lo, .int hi] ∧ Known K H v ∧ Q (.bl (numB v lo hi)) H
theorem known_ty {K : PySem.W.Frag} {H : Hp} {v : V} (h : Known K H v) : ∃ (t : String) (b c : Bool), TyX K H v (.type t) ∧ PySem.W.kitOne K (.type t) (.type "int") = some b ∧ PySem.W.kitOne K (.type t) (.type "bool") = some c ∧
    ((b = true ∧ c = false ∧ ∃ i, v = .int i) ∨ ((b = false ∨ c = true) ∧ ∀ i, v ≠ .int i)) := by
  cases v with
  | int i => exact ⟨"int", true, false, .base (.int i), kit_ty (by decide +kernel), kit_ty (by decide +kernel), .inl ⟨rfl, rfl, i, rfl⟩⟩
  | bl i => exact ⟨"bool", true, true, .base (.bl i), kit_ty (by decide +kernel), kit_ty (by decide +kernel), .inr ⟨.inr rfl, fun i z => nomatch z⟩⟩
  | non => exact ⟨"NoneType", false, false, .base .non, kit_ty (by decide +kernel), kit_ty (by decide +kernel), .inr ⟨.inl rfl, fun i z => nomatch z⟩⟩
  | str i => exact ⟨"str", false, false, .base (.str i), kit_ty (by decide +kernel), kit_ty (by decide +kernel), .inr ⟨.inl rfl, fun i z => nomatch z⟩⟩
  | ref a =>
    rcases h with h | h
    · exact ⟨"tuple", false, false, h, kit_ty (by decide +kernel), kit_ty (by decide +kernel), .inr ⟨.inl rfl, fun i z => nomatch z⟩⟩
    · exact ⟨"list", false, false, h, kit_ty (by decide +kernel), kit_ty (by decide +kernel), .inr ⟨.inl rfl, fun i z => nomatch z⟩⟩
  | byt _ => exact h.elim
  | flt _ => exact h.elim
  | ty _ => exact h.elim
theorem numB_no {v : V} {lo hi : Int} (h : ∀ i, v ≠ .int i) : numB v lo hi = false := by
  cases v with
  | int i => exact absurd rfl (h i)
  | _ => rfl
section
variable {P : Program} {w : World} {K : PySem.W.Frag} {mg : Str → Option Value} {base : Heap}
theorem ok_num {f : Addr} {fd : FuncData} (F : Fun K "is_number" "is_number" s_is_number f fd) (B : Blt mg) : FnOk P w K mg base CX0 1 f fd ["value", "least", "greatest"] (spNum K) := by
  refine F.ok sc_is_number (fun vs H Q E h => ?_) (fun cdv A outer s H vs Q E hr h => ?_)
  · obtain ⟨v, lo, hi, rfl, _⟩ := h
    rfl
  · obtain ⟨v, lo, hi, rfl, kn, h⟩ := h
    refine ⟨_, pss_one (ps_ret (pe_and (pe_callB call_isi (by rfl) B.isinstance boot_isinstance (pa_cons (pv 0) (pa_cons (pe_bltn (v := .ty "int") (by rfl) B.int boot_int rfl) pa_nil)))
      (pe_and (pe_not (pe_callB call_isi (by rfl) B.isinstance boot_isinstance (pa_cons (pv 0) (pa_cons (pe_bltn (v := .ty "bool") (by rfl) B.bool boot_bool rfl) pa_nil))))
      (pe_one (pe_chain op_le op_le (pv 1) (pv 0) (pv 2)))))), ?_⟩
    obtain ⟨t, b, c, ty, k1, k2, alt⟩ := known_ty kn
    refine ⟨_, rfl, _, _, _, _, b, rfl, .ty "int", ty, k1, b, rfl, ?_⟩
    rcases alt with ⟨rfl, rfl, i, rfl⟩ | ⟨alt, no⟩
    · refine iteT ⟨_, rfl, _, _, _, _, false, rfl, .ty "bool", ty, k2, false, rfl, true, rfl, ?_⟩
      refine iteT ⟨_, rfl, _, rfl, lo, i, rfl, rfl, _, rfl, ?_⟩
      refine ite2 (fun q => ?_) (fun q => ?_)
      · refine ⟨_, rfl, i, hi, rfl, rfl, ?_⟩
        have e : numB (.int i) lo hi = decide (i ≤ hi) := by
          show (decide (lo ≤ i) && decide (i ≤ hi)) = _
          rw [q, Bool.true_and]
        rw [e] at h
        exact h
      · have e : numB (.int i) lo hi = false := by
          show (decide (lo ≤ i) && decide (i ≤ hi)) = _
          rw [Bool.eq_false_iff.mpr q, Bool.false_and]
        rw [e] at h
        exact h
    · rw [numB_no no] at h
      cases b with
      | false => exact iteF h
      | true =>
        rcases alt with z | rfl
        · cases z
        · refine iteT ⟨_, rfl, _, _, _, _, true, rfl, .ty "bool", ty, k2, true, rfl, false, rfl, ?_⟩
          exact iteF h
end
/-! ### defs as they stand, and how they are called -/
structure DefAt (K : PySem.W.Frag) (mg : Str → Option Value) (x : Str) (st : Stmt) (ps : List Str) (f : Addr) (fd : FuncData) : Prop where
  fn : Fun K x x st f fd
  m : mg x = some (.ref f)
  b : Binds K fd ps []
structure At (P : Program) (w : World) (K : PySem.W.Frag) (mg : Str → Option Value) (base : Heap) (CX : CXT) (k : Nat) (x : Str) (ps : List Str) (sp : Sp) (f : Addr) (fd : FuncData) : Prop where
  ok : FnOk P w K mg base CX k f fd ps sp
  m : mg x = some (.ref f)
  kp : PySem.W.keepIn K (.ref f) = true
  b : Binds K fd ps []
theorem DefAt.at {P : Program} {w : World} {K : PySem.W.Frag} {mg : Str → Option Value} {base : Heap} {CX : CXT} {k : Nat} {x : Str} {st : Stmt} {ps : List Str} {sp : Sp} {f : Addr} {fd : FuncData} (D : DefAt K mg x st ps f fd)
    (ok : FnOk P w K mg base CX k f fd ps sp) : At P w K mg base CX k x ps sp f fd := ⟨ok, D.m, D.fn.kp, D.b⟩
section
variable {X : Cx} {k : Nat} {x : Str} {ps : List Str} {sp : Sp} {f : Addr} {fd : FuncData} {p pos : Pos} {e : Expr} {es : List Expr} {t : TA}
theorem pe_at (G : At X.prog X.w X.K X.mg X.base CX0 k x ps sp f fd) (hr : Room k X.A) (ha : PA X (e :: es) t) (hg : Gl X x := by rfl) (hdb : (x == ("__debug__" : Str)) = false := by decide)
    (he : starEach (e :: es) X.env = (false, eval e X.env) :: starEach es X.env := by rfl) (hpl : (backTo pos (starEach es X.env)).any (·.1) = false := by rfl) :
    PE X (.Call (.Name x p) (e :: es) [] pos) (tCall sp [] E0 t) := pe_call G.ok hr hg G.m G.kp G.b .nil pass0 ha hdb he hpl
end
/-! ### heaps that only grow -/
theorem sqT_same {K : PySem.W.Frag} {H H' : Hp} {a : Addr} {xs : List V} (h : SqT K H a xs) (e : Same H H') : SqT K H' a xs := SqT.ext h e
theorem same_new {H : Hp} {p : Addr} {o : HO} (h : H p = none) : Same H (upd H p o) := fun b u e => by rw [upd_ne (ne_of_none e h)]; exact e
/-- all but what stands at l is as it was -/
def But (l : Addr) (H H' : Hp) : Prop := ∀ b o, b ≠ l → H b = some o → H' b = some o
theorem Same.but {H H' : Hp} (e : Same H H') (l : Addr) : But l H H' := fun b o _ h => e b o h
theorem But.trans {l : Addr} {H H1 H2 : Hp} (a : But l H H1) (b : But l H1 H2) : But l H H2 := fun c o n h => b c o n (a c o n h)
theorem but_upd {H : Hp} {l : Addr} {o : HO} : But l H (upd H l o) := fun b u n e => by rw [upd_ne n]; exact e
theorem But.new {H H1 : Hp} {l p : Addr} {o : HO} (a : But l H H1) (h : H1 p = none) : But l H (upd H1 p o) := a.trans (Same.but (same_new h) l)
/-- laid ahead of which the heap was as H -/
theorem But.same {H H1 : Hp} {l : Addr} (a : But l H H1) (h : H l = none) : Same H H1 := fun b o e => a b o (ne_of_none e h) e

/-! ### stones: pairs of a place and a height -/
def StonesAt (K : PySem.W.Frag) (H : Hp) (vs : List V) (xs : List (Int × Int)) : Prop :=
  vs.length = xs.length ∧ ∀ (k : Nat) (x : Int × Int), xs[k]? = some x → ∃ a : Addr, vs[k]? = some (V.ref a) ∧ SqT K H a [.int x.1, .int x.2]
theorem StonesAt.same {K : PySem.W.Frag} {H H' : Hp} {vs : List V} {xs : List (Int × Int)} (h : StonesAt K H vs xs) (e : Same H H') : StonesAt K H' vs xs :=
  ⟨h.1, fun k x q => let ⟨a, q1, q2⟩ := h.2 k x q; ⟨a, q1, sqT_same q2 e⟩⟩
theorem StonesAt.nil {K : PySem.W.Frag} {H : Hp} : StonesAt K H [] [] := ⟨rfl, fun k x q => by simp at q⟩
theorem StonesAt.append {K : PySem.W.Frag} {H : Hp} {vs us : List V} {xs ys : List (Int × Int)} (h : StonesAt K H vs xs) (g : StonesAt K H us ys) : StonesAt K H (vs ++ us) (xs ++ ys) := by
  refine ⟨by rw [List.length_append, List.length_append, h.1, g.1], fun k x q => ?_⟩
  by_cases hk : k < xs.length
  · rw [List.getElem?_append_left hk] at q
    rw [List.getElem?_append_left (by rw [h.1]; exact hk)]
    exact h.2 k x q
  · rw [List.getElem?_append_right (by omega)] at q
    rw [List.getElem?_append_right (by rw [h.1]; omega), h.1]
    exact g.2 _ x q
theorem StonesAt.one {K : PySem.W.Frag} {H : Hp} {a : Addr} {x : Int × Int} (h : SqT K H a [.int x.1, .int x.2]) : StonesAt K H [.ref a] [x] := by
  refine ⟨rfl, fun k y q => ?_⟩
  cases k with
  | zero => simp at q; subst q; exact ⟨a, rfl, h⟩
  | succ k => simp at q
/-! ### sides -/
def sideS : Bool → Str
  | true => "right"
  | false => "left"
/-- the numbers beside a stone, the nearest one first -/
def beside (r : Bool) (i n : Nat) : List Nat := if r then (List.range (n - (i + 1))).map (fun k => i + 1 + k) else (List.range i).map (fun k => i - 1 - k)
def ivs (ns : List Nat) : List V := ns.map fun (k : Nat) => V.int (k : Int)
def spBeside : Sp := fun vs H Q _ => ∃ (i n : Nat) (r : Bool), vs = [.int i, .str (sideS r), .int n] ∧ i < n ∧ n ≤ 100 ∧ ∀ q, H q = none → Q (.ref q) (upd H q (.lst (ivs (beside r i n))))
def spCheckStone : Sp := fun vs H Q _ => ∃ (i n : Nat), vs = [.int i, .int n] ∧ i < n ∧ Q .non H
def spCheckSide : Sp := fun vs H Q _ => ∃ r : Bool, vs = [.str (sideS r)] ∧ Q .non H
section
variable {P : Program} {w : World} {K : PySem.W.Frag} {mg : Str → Option Value} {base : Heap}
theorem ok_checkStone {f g : Addr} {fd gd : FuncData} (F : Fun K "check_stone" "check_stone" s_check_stone f fd) (N : At P w K mg base CX0 1 "is_number" ["value", "least", "greatest"] (spNum K) g gd) :
    FnOk P w K mg base CX0 2 f fd ["stone", "count"] spCheckStone := by
  refine F.ok sc_check_stone (fun vs H Q E h => ?_) (fun cdv A outer s H vs Q E hr h => ?_)
  · obtain ⟨i, n, rfl, _⟩ := h
    rfl
  · obtain ⟨i, n, rfl, hi, h⟩ := h
    refine ⟨_, pss_one (ps_if (pt_not (pt_val (pe_at N hr (pa_cons (pv 0) (pa_cons (pe_int) (pa_cons (pe_op op_sub (pv 1) (pe_int)) pa_nil)))))) (pss_one ps_never) pss_nil), ?_⟩
    refine ⟨_, rfl, _, rfl, _, _, rfl, rfl, _, _, _, rfl, True.intro, _, rfl, ?_⟩
    have e : numB (.int (i : Int)) 0 ((n : Int) - 1) = true := by
      show (decide (0 ≤ (i : Int)) && decide ((i : Int) ≤ (n : Int) - 1)) = true
      simp; omega
    rw [e]
    exact iteF h
theorem sides_in {r : Bool} {ys : List V} (h : ys = [V.str "left", V.str "right"]) : inV (.str (sideS r)) ys = true := by
  subst h
  cases r <;> decide +kernel
theorem ok_checkSide {f S : Addr} {fd : FuncData} (F : Fun K "check_side" "check_side" s_check_side f fd) (mS : mg "SIDES" = some (.ref S)) (hS : ∀ H, SqT K H S [.str "left", .str "right"]) : FnOk P w K mg base CX0 1 f fd ["side"] spCheckSide := by
  refine F.ok sc_check_side (fun vs H Q E h => ?_) (fun cdv A outer s H vs Q E hr h => ?_)
  · obtain ⟨r, rfl, _⟩ := h
    rfl
  · obtain ⟨r, rfl, h⟩ := h
    refine ⟨_, pss_one (ps_if (pt_cmpR (op_notIn_seq) (pv 0) (pe_glob (v := .ref S) (by rfl) mS rfl) (by rfl)) (pss_one ps_never) pss_nil), ?_⟩
    refine ⟨_, rfl, S, _, rfl, .inr (hS H), rfl, rfl, _, rfl, ?_⟩
    rw [if_pos rfl, sides_in rfl]
    exact iteF h
theorem right_eq {r : Bool} : decide (V.str (sideS r) = V.str "right") = r := by cases r <;> decide +kernel
theorem beside_right {i n : Nat} (h : i < n) : Own.dnV 0 0 = [] ∧ rgV ((i : Int) + 1) (n : Int) = ivs (beside true i n) := by
  refine ⟨rfl, ?_⟩
  unfold rgV ivs beside
  rw [if_pos rfl, List.map_map]
  have e : ((n : Int) - ((i : Int) + 1)).toNat = n - (i + 1) := by omega
  rw [e]
  exact List.map_congr_left fun k _ => congrArg V.int (show (i : Int) + 1 + (k : Int) = ((i + 1 + k : Nat) : Int) by omega)
theorem beside_left {i n : Nat} : Own.dnV ((i : Int) - 1) (-1) = ivs (beside false i n) := by
  unfold Own.dnV ivs beside
  rw [if_neg (by decide), List.map_map]
  have e : ((i : Int) - 1 - (-1)).toNat = i := by omega
  rw [e]
  exact List.map_congr_left fun k hk => by have := List.mem_range.mp hk; exact congrArg V.int (show (i : Int) - 1 - (k : Int) = ((i - 1 - k : Nat) : Int) by omega)
theorem ok_beside {f : Addr} {fd : FuncData} (F : Fun K "stones_beside" "stones_beside" s_stones_beside f fd) (B : Blt mg) : FnOk P w K mg base CX0 1 f fd ["stone", "side", "count"] spBeside := by
  refine F.ok sc_stones_beside (fun vs H Q E h => ?_) (fun cdv A outer s H vs Q E hr h => ?_)
  · obtain ⟨i, n, r, rfl, _⟩ := h
    rfl
  · obtain ⟨i, n, r, rfl, hi, hn, h⟩ := h
    refine ⟨_, pss_cons (ps_if (pt_cmpR (op_eq) (pv 1) (pe_str) (nomark _)) (pss_one (ps_ret (pe_listRg rfl (by rfl) B.list (prg_2 (by rfl) B.range (pe_op op_add (pv 0) (pe_int)) (pv 2))))) pss_nil)
      (pss_one (ps_ret (Own.pe_listDown rfl (by rfl) B.list (by rfl) B.range (pa_cons (pe_op op_sub (pv 0) (pe_int)) (pa_cons (pe_un un_neg pe_int) (pa_cons (pe_un un_neg pe_int) pa_nil)))))), ?_⟩
    refine ⟨_, rfl, rfl, _, rfl, ?_⟩
    rw [right_eq]
    cases r with
    | true =>
      refine iteT ⟨_, rfl, _, _, rfl, rfl, _, rfl, _, _, rfl, rfl, ⟨by omega, by omega, by omega, by omega, by omega⟩, fun q hq => ?_⟩
      rw [(beside_right hi).2]
      exact h q hq
    | false =>
      refine iteF ⟨_, rfl, _, _, rfl, rfl, _, rfl, _, rfl, (i : Int) - 1, -1, rfl, by omega, by omega, by omega, by omega, fun q hq => ?_⟩
      rw [beside_left (n := n)]
      exact h q hq
end
/-! ### which stones a push fells -/
def ab (z : Int) : Int := if z < 0 then -z else z
def mx (i j : Int) : Int := if j > i then j else i
/-- one stone after another, as far as the reach goes -/
def scan (xs : List (Int × Int)) (sd : List Bool) (p0 : Int) : Int → List Nat → List Nat
  | _, [] => []
  | r, o :: os => match xs[o]? with
    | none => []
    | some x => if ab (x.1 - p0) > r then [] else if sd[o]? = some true then o :: scan xs sd p0 (mx r (ab (x.1 - p0) + x.2)) os else scan xs sd p0 r os
def felled (xs : List (Int × Int)) (sd : List Bool) (i : Nat) (r : Bool) : List Nat := match xs[i]? with
  | none => []
  | some x => i :: scan xs sd x.1 x.2 (beside r i xs.length)
theorem beside_lt {r : Bool} {i n : Nat} (hi : i < n) : ∀ k ∈ beside r i n, k < n := by
  intro k hk
  cases r with
  | true =>
    simp [beside] at hk
    obtain ⟨j, h1, h2⟩ := hk
    omega
  | false =>
    simp [beside] at hk
    obtain ⟨j, h1, h2⟩ := hk
    omega
theorem beside_len {r : Bool} {i n : Nat} (hi : i < n) : (beside r i n).length ≤ n := by
  cases r <;> simp [beside] <;> omega
theorem scan_len (xs : List (Int × Int)) (sd : List Bool) (p0 : Int) : ∀ (os : List Nat) (r : Int), (scan xs sd p0 r os).length ≤ os.length
  | [], r => by simp [scan]
  | o :: os, r => by
    unfold scan
    split
    · simp
    · rename_i x hx
      split
      · simp
      · split
        · have := scan_len xs sd p0 os (mx r (ab (x.1 - p0) + x.2)); simp; exact this
        · have := scan_len xs sd p0 os r; simp; omega
def spFelled (K : PySem.W.Frag) : Sp := fun vs H Q _ => ∃ (t b : Addr) (us : List V) (xs : List (Int × Int)) (sd : List Bool) (i : Nat) (r : Bool), vs = [.ref t, .ref b, .int i, .str (sideS r)] ∧ SqT K H t us ∧ StonesAt K H us xs ∧ SqL K H b (sd.map V.bl) ∧ sd.length = xs.length ∧ i < xs.length ∧ xs.length ≤ 40 ∧
  ∀ (ns : List Int) (p : Addr) (H' : Hp), ns.Perm ((felled xs sd i r).map fun (k : Nat) => (k : Int)) → ns.Pairwise (· ≤ ·) → Same H H' → H p = none → H' p = some (.lst (ns.map V.int)) → Q (.ref p) H'
theorem sqL_same {K : PySem.W.Frag} {H H' : Hp} {a : Addr} {xs : List V} (e : Same H H') (h : SqL K H a xs) : SqL K H' a xs := e.seq h
theorem ivs_get {ns : List Nat} {k : Nat} {v : V} (h : (ivs ns)[k]? = some v) : ∃ o, ns[k]? = some o ∧ v = V.int (o : Int) := by
  unfold ivs at h
  rw [List.getElem?_map] at h
  cases e : ns[k]? with
  | none => rw [e] at h; cases h
  | some o => rw [e] at h; exact ⟨o, rfl, (Option.some.inj h).symm⟩
theorem drop_get {α : Type} {l : List α} {k : Nat} {o : α} (h : l[k]? = some o) : l.drop k = o :: l.drop (k + 1) := by
  obtain ⟨h1, h2⟩ := List.getElem?_eq_some_iff.mp h
  rw [List.drop_eq_getElem_cons h1, h2]
section
variable {P : Program} {w : World} {K : PySem.W.Frag} {mg : Str → Option Value} {base : Heap}
theorem ok_felled {f g : Addr} {fd gd : FuncData} (F : Fun K "felled_by" "felled_by" s_felled_by f fd) (B : Blt mg) (N : At P w K mg base CX0 1 "stones_beside" ["stone", "side", "count"] spBeside g gd) :
    FnOk P w K mg base CX0 2 f fd ["stones", "standing", "stone", "side"] (spFelled K) := by
  refine F.ok sc_felled_by (fun vs H Q E h => ?_) (fun cdv A outer s H vs Q E hr h => ?_)
  · obtain ⟨t, b, us, xs, sd, i, r, rfl, _⟩ := h
    rfl
  · obtain ⟨t, b, us, xs, sd, i, r, rfl, hT, hS, hB, hl, hi, hn, k⟩ := h
    refine ⟨_, pss_cons (ps_asg (pe_ix ix_tup (pv 0) (pv 2) (fun _ _ => rfl)) (pg_tup rfl (pgs_cons (pg_name (i := 4) sc_felled_by.nd rfl (Or.inl rfl)) (pgs_cons (pg_name (i := 5) sc_felled_by.nd rfl (Or.inl rfl)) pgs_nil))))
      (pss_cons (ps_set (i := 6) sc_felled_by.nd rfl (Or.inl rfl) (pe_lst (pa_cons (pv 2) pa_nil)))
      (pss_cons (ps_for PassesOwn.never rfl (pi_list (pe_at N hr (pa_cons (pv 2) (pa_cons (pv 3) (pa_cons (pe_callB call_len_seq (by rfl) B.len PySem.boot_len (pa_cons (pv 0) pa_nil)) pa_nil))))) (pg_name (i := 7) sc_felled_by.nd rfl (Or.inl rfl))
        (pss_cons (ps_asg (pe_ix ix_tup (pv 0) (pv 7) (fun _ _ => rfl)) (pg_tup rfl (pgs_cons (pg_name (i := 8) sc_felled_by.nd rfl (Or.inl rfl)) (pgs_cons (pg_name (i := 9) sc_felled_by.nd rfl (Or.inl rfl)) pgs_nil))))
        (pss_cons (ps_set (i := 10) sc_felled_by.nd rfl (Or.inl rfl) (pe_callB (call_abs) (by rfl) B.abs boot_abs (pa_cons (pe_op op_sub (pv 8) (pv 4)) pa_nil)))
        (pss_cons (ps_if (pt_cmpR (op_gt) (pv 10) (pv 5) (nomark _)) (pss_one ps_break) pss_nil)
        (pss_one (ps_if (pt_val (pe_ix ix_list (pv 1) (pv 7) (fun _ _ => rfl))) (pss_cons (ps_expr (pe_bm PySem.F.plainAttrs_list PySem.F.slot_list_append PySem.F.type_list_append mt_append (pv 6) (pa_cons (pv 7) pa_nil))) (pss_one (ps_set (i := 5) sc_felled_by.nd rfl (Or.inl rfl) (pe_callB ((call_max2 rfl)) (by rfl) B.max boot_max (pa_cons (pv 5) (pa_cons (pe_op op_add (pv 10) (pv 9)) pa_nil)))))) pss_nil))))))
      (pss_one (ps_ret (pe_callB (cr_sortedI) (by rfl) B.sorted boot_sorted (pa_cons (pv 6) pa_nil)))))), ?_⟩
    obtain ⟨x, hx⟩ : ∃ x, xs[i]? = some x := ⟨xs[i], by simp [hi]⟩
    obtain ⟨a, ha, hsa⟩ := hS.2 i x hx
    -- start, reach = stones[stone]
    refine ⟨_, rfl, _, rfl, t, us, _, _, rfl, rfl, hT, atI_nat ha, a, _, rfl, hsa, rfl, _, _, rfl, _, _, rfl, rfl, ?_⟩
    -- felled = [stone]
    refine ⟨_, rfl, (by show 1 ≤ sizeLine; decide), fun pf nf => ?_⟩
    have s1 := same_new (o := .lst [V.int (i : Int)]) nf
    -- the stones beside
    refine ⟨_, rfl, _, rfl, _, rfl, t, us, rfl, .inr (sqT_same hT s1), ?_⟩
    refine ⟨i, xs.length, r, by rw [hS.1]; rfl, hi, by omega, fun q nq => ?_⟩
    have s2 := same_new (o := .lst (ivs (beside r i xs.length))) nq
    have hpq : pf ≠ q := ne_of_none upd_same nq
    have nf2 : H q = none := Same.free s1 nq
    have fin : ∀ (acc : List Nat) (H3 : Hp), felled xs sd i r = i :: acc → But pf H H3 → H3 pf = some (.lst (ivs (i :: acc))) → ∀ (s7 s8 s9 s10 : Option V) (rr : V),
        tRet (tCB (rSortedI K) (tCons (tVar 6) tNil)) { nx := fun _ H' => Q .non H', rt := Q } [some (.ref t), some (.ref b), some (.int i), some (.str (sideS r)), some (.int x.1), some rr, some (.ref pf), s7, s8, s9, s10] H3 := by
      intro acc H3 e1 e2 e3 s7 s8 s9 s10 rr
      refine ⟨_, rfl, pf, (i :: acc).map fun (k : Nat) => (k : Int), rfl, SqL.of (by rw [e3]; unfold ivs; rw [List.map_map]; rfl), fun ns' p pm rs np => ?_⟩
      have sm : Same H H3 := But.same e2 nf
      exact k ns' p _ (by rw [e1]; exact pm) rs (sm.trans (same_new np)) (Same.free sm np) upd_same
    refine ⟨q, rfl, ⟨_, SqL.of upd_same⟩, for_list (K := K) (a := q) (xs := ivs (beside r i xs.length)) (fun j σ H3 => ∃ (acc : List Nat) (rr : Int) (s7 s8 s9 s10 : Option V),
        σ = [some (.ref t), some (.ref b), some (.int i), some (.str (sideS r)), some (.int x.1), some (.int rr), some (.ref pf), s7, s8, s9, s10] ∧
        felled xs sd i r = i :: acc ++ scan xs sd x.1 rr ((beside r i xs.length).drop j) ∧ But pf H H3 ∧ H3 pf = some (.lst (ivs (i :: acc))) ∧ H3 q = some (.lst (ivs (beside r i xs.length))) ∧ acc.length ≤ j) ?_ ?_ ?_ ?_⟩
    · refine ⟨[], x.2, none, none, none, none, rfl, ?_, (Same.but s1 pf).trans (Same.but s2 pf), ?_, upd_same, Nat.le_refl _⟩
      · unfold felled
        rw [hx]
        rfl
      · rw [upd_ne hpq]
        exact upd_same
    · rintro j σ H3 _ ⟨_, _, _, _, _, _, _, _, _, _, e, _⟩
      exact SqL.of e
    · rintro j y σ H3 hy ⟨acc, rr, s7, s8, s9, s10, rfl, ef, bt, e1, e2, hacc⟩
      obtain ⟨o, ho, rfl⟩ := ivs_get hy
      have hj : j < (beside r i xs.length).length := (List.getElem?_eq_some_iff.mp ho).1
      have holt : o < xs.length := beside_lt hi o (List.mem_of_getElem? ho)
      obtain ⟨z, hz⟩ : ∃ z, xs[o]? = some z := ⟨xs[o], by simp [holt]⟩
      obtain ⟨c, hc, hsc⟩ := hS.2 o z hz
      have sm : Same H H3 := But.same bt nf
      -- place, height = stones[other]
      refine ⟨_, rfl, _, rfl, t, us, _, _, rfl, rfl, sqT_same hT sm, atI_nat hc, c, _, rfl, sqT_same hsc sm, rfl, _, _, rfl, _, _, rfl, rfl, ?_⟩
      -- distance = abs(place - start)
      refine ⟨_, rfl, _, rfl, _, _, rfl, rfl, _, rfl, ?_⟩
      -- if distance > reach: break
      refine ⟨_, rfl, _, rfl, _, _, rfl, rfl, _, rfl, ?_⟩
      rw [drop_get ho] at ef
      refine ite2 (fun hgt => ?_) (fun hgt => ?_)
      · have hgt' : ab (z.1 - x.1) > rr := of_decide_eq_true hgt
        have e0 : felled xs sd i r = i :: acc := by
          rw [ef]
          unfold scan
          rw [hz]
          simp only [hgt', if_true, List.append_nil]
        exact fin acc H3 e0 bt e1 _ _ _ _ _
      · have hgt' : ¬ ab (z.1 - x.1) > rr := fun z => hgt (decide_eq_true z)
        obtain ⟨d, hd⟩ : ∃ d, sd[o]? = some d := ⟨sd[o]'(by omega), by simp⟩
        have hd2 : (sd.map V.bl)[o]? = some (.bl d) := by rw [List.getElem?_map, hd]; rfl
        refine ⟨_, rfl, _, rfl, b, _, _, _, rfl, rfl, sqL_same sm hB, atI_nat hd2, d, rfl, ?_⟩
        cases d with
        | true =>
          refine iteT ⟨_, rfl, .inl ⟨rfl, _, SqL.of e1⟩, _, rfl, pf, _, _, rfl, rfl, e1, ?_, ?_⟩
          · unfold ivs
            rw [List.length_map, List.length_cons, sizeLine_eq]
            have := beside_len (r := r) hi
            omega
          refine ⟨_, rfl, _, rfl, _, rfl, _, _, rfl, rfl, _, _, rfl, ?_⟩
          refine ⟨acc ++ [o], mx rr (ab (z.1 - x.1) + z.2), _, _, _, _, rfl, ?_, bt.trans but_upd, ?_, ?_, ?_⟩
          · rw [ef]
            conv => lhs; unfold scan
            rw [hz]
            simp only [hgt', if_false, hd, if_true, List.cons_append, List.append_assoc, List.nil_append]
          · rw [upd_same]
            unfold ivs
            simp
          · rw [upd_ne hpq.symm]
            exact e2
          · simp; omega
        | false =>
          refine iteF ⟨acc, rr, _, _, _, _, rfl, ?_, bt, e1, e2, by omega⟩
          rw [ef]
          conv => lhs; unfold scan
          rw [hz]
          simp only [hgt', if_false, hd, Option.some.injEq, Bool.false_eq_true]
    · rintro σ H3 ⟨acc, rr, s7, s8, s9, s10, rfl, ef, bt, e1, e2, hacc⟩
      have e0 : felled xs sd i r = i :: acc := by
        rw [ef, List.drop_of_length_le (by unfold ivs; simp)]
        simp [scan]
      exact fin acc H3 e0 bt e1 _ _ _ _ _
end
/-! ### a stone of a row -/
theorem tyT {K : PySem.W.Frag} {H : Hp} {a : Addr} {xs : List V} (h : SqT K H a xs) : TyX K H (.ref a) (.type "tuple") := by
  rcases h with (h | ⟨o, h⟩) | ⟨o, its, n, h, c, _⟩
  · exact .base (.tup h)
  · exact .fTuple h
  · exact .kTuple h c
theorem tyL {K : PySem.W.Frag} {H : Hp} {a : Addr} {xs : List V} (h : SqL K H a xs) : TyX K H (.ref a) (.type "list") := by
  rcases h with (h | ⟨o, h⟩) | ⟨o, its, n, h, c, _⟩
  · exact .base (.lst h)
  · exact .base (.frz h)
  · exact .kList h c
/-- what a value is as a stone of a place from lo on -/
inductive StoneV (K : PySem.W.Frag) (H : Hp) (lo : Int) : V → Bool → Prop where
  | no {v : V} (k : Known K H v) (n : ∀ a, v = .ref a → TyX K H (.ref a) (.type "list")) : StoneV K H lo v false
  | len {a : Addr} {xs : List V} (h : SqT K H a xs) (n : xs.length ≠ 2) : StoneV K H lo (.ref a) false
  | two {a : Addr} {p h : V} (q : SqT K H a [p, h]) (kp : Known K H p) (kh : Known K H h) : StoneV K H lo (.ref a) (numB p lo 1000000000 && numB h 1 1000000000)
def spIsStone (K : PySem.W.Frag) : Sp := fun vs H Q _ => ∃ v lo b, vs = [v, .int lo] ∧ StoneV K H lo v b ∧ Q (.bl b) H
structure Lims (mg : Str → Option Value) : Prop where
  place : ∃ t, mg "GREATEST_PLACE" = some (.int 1000000000 t)
  height : ∃ t, mg "GREATEST_HEIGHT" = some (.int 1000000000 t)
/-- the class Row as the top has made it -/
structure RowC (K : PySem.W.Frag) (mg : Str → Option Value) (C : Addr) : Prop where
  cl : Cls K C
  nS : NoAttr K C "_stones"
  max : ∃ u, Con K C "MAX_STONES" (.int 40) u
  mgC : mg "Row" = some (.ref C)
  first : PySem.W.selfFirst K C = true
  ca : PySem.W.findIn K (.ref C) "__class__" = some (some (.builtin "object.__class__"))
  cn : PySem.W.specialIn K (.builtin "object.__class__") "__get__" = some (some (.builtin "getset_descriptor.__get__"))
  ct : PySem.W.takesIn K (.builtin "object.__class__") = some true
  cm : PySem.W.mroIn K C (.type "object") = some true
theorem RowC.ty {K : PySem.W.Frag} {mg : Str → Option Value} {C : Addr} (R : RowC K mg C) {H : Hp} {a dx : Addr} {fs : List (Str × V)} (h : H a = some (.ins C dx fs)) : TyX K H (.ref a) (.ref C) := .base (.ins h R.cl R.ca R.cn R.ct R.cm)
theorem kit_self {K : PySem.W.Frag} {C : Addr} : PySem.W.kitOne K (.ref C) (.ref C) = some true := by
  unfold PySem.W.kitOne
  rw [if_pos (by simp)]
/-- places that rise from lo on, heights that stones can have -/
def Wf : Int → List (Int × Int) → Prop
  | _, [] => True
  | lo, x :: xs => lo ≤ x.1 ∧ x.1 ≤ 1000000000 ∧ 1 ≤ x.2 ∧ x.2 ≤ 1000000000 ∧ Wf (x.1 + 1) xs
theorem Wf.get : ∀ {xs : List (Int × Int)} {lo : Int} {k : Nat} {x : Int × Int}, Wf lo xs → xs[k]? = some x → (k = 0 → lo ≤ x.1) ∧ (∀ y, 0 < k → xs[k - 1]? = some y → y.1 + 1 ≤ x.1) ∧ x.1 ≤ 1000000000 ∧ 1 ≤ x.2 ∧ x.2 ≤ 1000000000
  | [], _, _, _, _, e => by simp at e
  | z :: xs, lo, 0, x, w, e => by
    simp at e
    subst e
    exact ⟨fun _ => w.1, fun y h => absurd h (by decide), w.2.1, w.2.2.1, w.2.2.2.1⟩
  | z :: xs, lo, k + 1, x, w, e => by
    simp at e
    have ih := Wf.get w.2.2.2.2 e
    refine ⟨fun h => by omega, fun y _ hy => ?_, ih.2.2⟩
    cases k with
    | zero => simp at hy; subst hy; exact ih.1 rfl
    | succ k => simp at hy; exact ih.2.1 y (Nat.succ_pos _) (by simpa using hy)
def rowF (t : Addr) : List (Str × V) := [("_stones", .ref t)]
def RowAt (K : PySem.W.Frag) (C : Addr) (H : Hp) (p : Addr) (xs : List (Int × Int)) : Prop := ∃ dx t us, H p = some (.ins C dx (rowF t)) ∧ SqT K H t us ∧ StonesAt K H us xs
theorem RowAt.same {K : PySem.W.Frag} {C : Addr} {H H' : Hp} {p : Addr} {xs : List (Int × Int)} (h : RowAt K C H p xs) (e : Same H H') : RowAt K C H' p xs :=
  let ⟨dx, t, us, h1, h2, h3⟩ := h; ⟨dx, t, us, e _ _ h1, sqT_same h2 e, h3.same e⟩
def spInitB (K : PySem.W.Frag) (C : Addr) : Sp := fun vs H Q _ => ∃ (p dx t : Addr) (us : List V) (xs : List (Int × Int)), vs = [.ref p, .ref t] ∧ H p = some (.ins C dx []) ∧ SqT K H t us ∧ StonesAt K H us xs ∧ Wf 0 xs ∧ xs.length ≤ 40 ∧
  ∀ H', But p H H' → H' p = some (.ins C dx (rowF t)) → Q .non H'
section
variable {P : Program} {w : World} {K : PySem.W.Frag} {mg : Str → Option Value} {base : Heap}
/-- a def with one parameter and a star -/
theorem star1 {x qual p1 pv' : Str} {st : Stmt} {f : Addr} {fd : FuncData} {N : List Str} {k : Nat} {sp : Sp} (F : Fun K x qual st f fd) (S : FnScope N ([p1] ++ [pv']) (defScope st))
    (h0 : ∀ (kV doc pm : Value) (an : Option Addr) (cdv ct a : Value), bindArgs (PySem.W.fnOf x qual (defArgs st) (defBody st) (defScope st) .none kV doc pm an cdv ct) ⟨[a], []⟩ = (newTuple [] >>= fun t => pure [(p1, a), (pv', t)]))
    (h1 : ∀ (kV doc pm : Value) (an : Option Addr) (cdv ct a r : Value) (rs : List Value), bindArgs (PySem.W.fnOf x qual (defArgs st) (defBody st) (defScope st) .none kV doc pm an cdv ct) ⟨a :: r :: rs, []⟩ = (newTuple (r :: rs) >>= fun t => pure [(p1, a), (pv', t)]))
    (hbody : ∀ (cdv : Value) (A : Around) (outer : List Env) (s : Shared) (H : Hp) (vs : List V) (Q : VK) (E : XK), Room k (A.deeper (envOfC qual (defScope st) s.heap.objs.size f cdv)) → sp vs H Q E →
      ∃ t, PSs (cxOf CX0 P w K mg base N qual (defScope st) f cdv A outer s H E).nox (defBody st) t ∧ t { nx := fun _ H' => Q .non H', rt := Q } (start N vs) H) :
    FnR P w K mg base CX0 (k + 1) f (fun vs H Q E => ∃ w0 rest, vs = w0 :: rest ∧ rest.length ≤ 1000 ∧ ∀ p, H p = none → sp [w0, V.ref p] (upd H p (.tup rest)) Q E) := by
  obtain ⟨oc, od, kV, doc, pm, an, cdv, ct, osl, rfl, lk, hcd⟩ := F.ex
  have base := StX.fn_star (CX := CX0) (P := P) (w := w) (mg := mg) (base := base) (k := k) (ps := [p1]) (sp := sp) lk hcd S (fun _ _ _ _ _ _ _ _ _ _ _ z => z)
    (StX.bind_star1 (B := fun us => bindArgs (PySem.W.fnOf x qual (defArgs st) (defBody st) (defScope st) .none kV doc pm an cdv ct) ⟨us, []⟩) (fun a => h0 kV doc pm an cdv ct a) (fun a r rs => h1 kV doc pm an cdv ct a r rs))
    (fun A outer s H vs Q E hr hsp => by
      obtain ⟨t, h, q⟩ := hbody cdv A outer s H vs Q E hr hsp
      exact ⟨t, h.nox, q⟩)
  refine base.imp fun vs H Q E h => ?_
  obtain ⟨w0, rest, rfl, hz, h⟩ := h
  exact ⟨[w0], rest, rfl, rfl, by rw [sizeLine_eq]; omega, fun p hp => h p hp⟩
theorem ok_isStone {f g : Addr} {fd gd : FuncData} (F : Fun K "_is_stone" "_is_stone" s_is_stone f fd) (B : Blt mg) (L : Lims mg) (N : At P w K mg base CX0 1 "is_number" ["value", "least", "greatest"] (spNum K) g gd) :
    FnOk P w K mg base CX0 2 f fd ["stone", "least_place"] (spIsStone K) := by
  obtain ⟨⟨tp, mp⟩, ⟨th, mh⟩⟩ := id L
  refine F.ok sc_is_stone (fun vs H Q E h => ?_) (fun cdv A outer s H vs Q E hr h => ?_)
  · obtain ⟨v, lo, b, rfl, _⟩ := h
    rfl
  · obtain ⟨v, lo, b, rfl, sv, k⟩ := h
    refine ⟨_, pss_cons (ps_if (PW.pt (pw_or (pt_not (pt_val (pe_callB (call_isi) (by rfl) B.isinstance boot_isinstance (pa_cons (pv 0) (pa_cons (pe_bltn (v := .ty "tuple") (by rfl) B.tuple boot_tuple rfl) pa_nil))))) (pw_or1 (pt_cmpR (op_ne) (pe_callB call_len_seq (by rfl) B.len PySem.boot_len (pa_cons (pv 0) pa_nil)) (pe_int) (nomark _))))) (pss_one (ps_ret pe_bl)) pss_nil)
      (pss_cons (ps_asg (pv 0) (pg_tup rfl (pgs_cons (pg_name (i := 2) sc_is_stone.nd rfl (Or.inl rfl)) (pgs_cons (pg_name (i := 3) sc_is_stone.nd rfl (Or.inl rfl)) pgs_nil))))
      (pss_one (ps_ret (pe_and (pe_at N hr (pa_cons (pv 2) (pa_cons (pv 1) (pa_cons (pe_glob (v := .int 1000000000) (by rfl) mp ⟨_, rfl⟩) pa_nil)))) (pe_one (pe_at N hr (pa_cons (pv 3) (pa_cons (pe_int) (pa_cons (pe_glob (v := .int 1000000000) (by rfl) mh ⟨_, rfl⟩) pa_nil))))))))), ?_⟩
    cases sv with
    | no kn n =>
      have ty : ∃ t : String, TyX K H v (.type t) ∧ PySem.W.kitOne K (.type t) (.type "tuple") = some false := by
        cases v with
        | int i => exact ⟨_, .base (.int i), kit_ty (by decide +kernel)⟩
        | bl i => exact ⟨_, .base (.bl i), kit_ty (by decide +kernel)⟩
        | non => exact ⟨_, .base .non, kit_ty (by decide +kernel)⟩
        | str i => exact ⟨_, .base (.str i), kit_ty (by decide +kernel)⟩
        | ref a => exact ⟨_, n a rfl, kit_ty (by decide +kernel)⟩
        | byt _ => exact kn.elim
        | flt _ => exact kn.elim
        | ty _ => exact kn.elim
      obtain ⟨t, ty, kt⟩ := ty
      refine ⟨_, rfl, v, .ty "tuple", _, _, false, rfl, .ty _, ty, kt, false, rfl, ?_⟩
      refine iteT ?_
      exact iteT k
    | @len a xs hx n =>
      refine ⟨_, rfl, _, .ty "tuple", _, _, true, rfl, .ty _, tyT hx, kit_ty (by decide +kernel), true, rfl, ?_⟩
      refine iteF ?_
      refine ⟨_, rfl, a, xs, rfl, .inr hx, rfl, _, rfl, ?_⟩
      have e : (!decide (V.int (xs.length : Int) = V.int 2)) = true := by
        rw [dec_int]; simp; omega
      rw [e]
      exact iteT k
    | @two a p h q kp kh =>
      refine ⟨_, rfl, _, .ty "tuple", _, _, true, rfl, .ty _, tyT q, kit_ty (by decide +kernel), true, rfl, ?_⟩
      refine iteF ?_
      refine ⟨_, rfl, a, [p, h], rfl, .inr q, rfl, _, rfl, ?_⟩
      refine iteF ?_
      refine ⟨_, rfl, a, [p, h], rfl, q, rfl, _, _, rfl, _, _, rfl, rfl, ?_⟩
      refine ⟨_, rfl, _, rfl, _, _, _, rfl, kp, _, rfl, ?_⟩
      cases e : numB p lo 1000000000 with
      | true =>
        refine iteT ⟨_, rfl, _, _, _, rfl, kh, ?_⟩
        rw [e, Bool.true_and] at k
        exact k
      | false =>
        rw [e, Bool.false_and] at k
        exact iteF k
theorem numB_int {i lo hi : Int} (h1 : lo ≤ i) (h2 : i ≤ hi) : numB (.int i) lo hi = true := by
  show (decide (lo ≤ i) && decide (i ≤ hi)) = true
  rw [decide_eq_true h1, decide_eq_true h2]; rfl
theorem ok_init {f g C : Addr} {fd gd : FuncData} (F : Fun K "__init__" "Row.__init__" s_Row_init f fd) (B : Blt mg) (R : RowC K mg C) (N : At P w K mg base CX0 2 "_is_stone" ["stone", "least_place"] (spIsStone K) g gd) :
    FnR P w K mg base CX0 3 f (fun vs H Q E => ∃ w0 rest, vs = w0 :: rest ∧ rest.length ≤ 1000 ∧ ∀ p, H p = none → spInitB K C [w0, V.ref p] (upd H p (.tup rest)) Q E) := by
  refine star1 F sc_Row_init (fun _ _ _ _ _ _ _ => rfl) (fun _ _ _ _ _ _ _ _ _ => rfl) (fun cdv A outer s H vs Q E hr h => ?_)
  obtain ⟨p, dx, t, us, xs, rfl, hp, hT, hS, hw, hz, k⟩ := h
  obtain ⟨um, cm⟩ := R.max
  refine ⟨_, pss_cons (ps_set (i := 2) sc_Row_init.nd rfl (Or.inl rfl) (pe_int)) (pss_cons (ps_for PassesOwn.never rfl (Own.pi_enumT (by rfl) B.enumerate (pa_cons (pv 1) pa_nil)) (pg_tup rfl (pgs_cons (pg_name (i := 3) sc_Row_init.nd rfl (Or.inl rfl)) (pgs_cons (pg_name (i := 4) sc_Row_init.nd rfl (Or.inl rfl)) pgs_nil)))
      (pss_cons (ps_if (PW.pt (pw_or (pt_cmpR (op_eq) (pv 3) (pe_con (pv 0) rfl) (nomark _)) (pw_or1 (pt_not (pt_val (pe_at N hr (pa_cons (pv 4) (pa_cons (pv 2) pa_nil)))))))) (pss_one ps_never) pss_nil)
      (pss_one (ps_set (i := 2) sc_Row_init.nd rfl (Or.inl rfl) (pe_op op_add (pe_ix ix_tup (pv 4) (pe_int) (fun _ _ => rfl)) (pe_int))))))
    (pss_one (ps_fld (pv 0) (pv 1) rfl))), ?_⟩
  refine ⟨_, rfl, t, us, rfl, hT, for_it (Own.walk_item (K := K) (a := t) (xs := us)) (fun j σ H1 => ∃ (lo : Int) (s3 s4 : Option V), σ = [some (.ref p), some (.ref t), some (.int lo), s3, s4] ∧ Same H H1 ∧ (∀ x, xs[j]? = some x → lo ≤ x.1) ∧ 0 ≤ lo) ?_ ?_ ?_ ?_⟩
  · exact ⟨0, none, none, rfl, Same.refl _, fun x hx => (hw.get hx).1 rfl, Int.le_refl _⟩
  · rintro j σ H1 _ ⟨_, _, _, _, sm, _⟩
    exact sqT_same hT sm
  · rintro j v σ H1 H2 hj ⟨lo, s3, s4, rfl, sm, hlo, h0⟩ ⟨T, y, z, rfl, nT, rfl, e1, e2⟩
    obtain rfl : y = V.int (j : Int) := (Option.some.inj e1).symm
    have hjx : j < xs.length := by rw [← hS.1]; exact hj
    obtain ⟨x, hx⟩ : ∃ x, xs[j]? = some x := ⟨xs[j], by simp [hjx]⟩
    obtain ⟨c, hc, hsc⟩ := hS.2 j x hx
    obtain rfl : z = V.ref c := Option.some.inj (e2.symm.trans hc)
    have sm2 : Same H (upd H1 T (.tup [.int (j : Int), .ref c])) := sm.trans (same_new nT)
    obtain ⟨_, g2, g3, g4, g5⟩ := hw.get hx
    -- index, stone = the pair
    refine ⟨T, _, rfl, SqT.of upd_same, rfl, _, _, rfl, _, _, rfl, rfl, ?_⟩
    -- index == self.MAX_STONES
    refine ⟨_, rfl, _, rfl, p, C, dx, [], _, _, rfl, sm2 _ _ hp, R.cl, cm, rfl, rfl, _, rfl, ?_⟩
    have e40 : decide (V.int (j : Int) = V.int 40) = false := by rw [dec_int]; simp; omega
    rw [e40]
    refine iteF ?_
    -- not _is_stone(stone, least_place)
    refine ⟨_, rfl, _, rfl, _, _, _, rfl, StoneV.two (sqT_same hsc sm2) True.intro True.intro, _, rfl, ?_⟩
    rw [numB_int (hlo x hx) g3, numB_int g4 g5]
    refine iteF ?_
    -- least_place = stone[0] + 1
    refine ⟨_, rfl, c, _, (0 : Nat), _, rfl, rfl, sqT_same hsc sm2, atI_nat (j := 0) rfl, _, _, rfl, rfl, ?_⟩
    refine ⟨x.1 + 1, _, _, rfl, sm2, fun y hy => (hw.get hy).2.1 x (Nat.succ_pos _) (by simpa using hx), ?_⟩
    have := hlo x hx
    omega
  · rintro σ H1 ⟨lo, s3, s4, rfl, sm, _, _⟩
    refine ⟨_, rfl, _, rfl, p, C, dx, [], rfl, sm _ _ hp, R.cl, R.nS, (by show 0 < 1000; decide), ?_⟩
    exact k _ ((Same.but sm p).trans but_upd) upd_same
end
/-! ### a run: what a push fells while all stand -/
def allUp (n : Nat) : List Bool := List.replicate n true
def reachN (xs : List (Int × Int)) (i : Nat) (r : Bool) : Nat := (felled xs (allUp xs.length) i r).length - 1
def run (xs : List (Int × Int)) (i : Nat) (r : Bool) : Nat × Nat := if r then (i, i + reachN xs i r) else (i - reachN xs i r, i)
theorem scan_take {xs : List (Int × Int)} {sd : List Bool} {p0 : Int} (up : ∀ o, o < xs.length → sd[o]? = some true) : ∀ (os : List Nat) (r : Int), (∀ o ∈ os, o < xs.length) → scan xs sd p0 r os = os.take (scan xs sd p0 r os).length
  | [], r, _ => by simp [scan]
  | o :: os, r, h => by
    have ho := h o (by simp)
    unfold scan
    split
    · simp
    · rename_i x hx
      split
      · simp
      · rw [if_pos (up o ho)]
        rw [List.length_cons, List.take_succ_cons, ← scan_take up os _ fun z hz => h z (by simp [hz])]
theorem allUp_get {n o : Nat} (h : o < n) : (allUp n)[o]? = some true := by
  unfold allUp
  rw [List.getElem?_replicate, if_pos h]
theorem felled_take {xs : List (Int × Int)} {i : Nat} {r : Bool} (hi : i < xs.length) : felled xs (allUp xs.length) i r = i :: (beside r i xs.length).take (reachN xs i r) := by
  have hx : xs[i]? = some xs[i] := by simp [hi]
  have e : felled xs (allUp xs.length) i r = i :: scan xs (allUp xs.length) (xs[i]).1 (xs[i]).2 (beside r i xs.length) := by
    unfold felled
    rw [hx]
  have st := scan_take (xs := xs) (sd := allUp xs.length) (p0 := (xs[i]).1) (fun o ho => allUp_get ho) (beside r i xs.length) (xs[i]).2 (beside_lt hi)
  unfold reachN
  rw [e, List.length_cons, Nat.add_sub_cancel]
  exact congrArg (List.cons i) st
theorem reach_le {xs : List (Int × Int)} {i : Nat} {r : Bool} (hi : i < xs.length) : reachN xs i r ≤ (beside r i xs.length).length := by
  have hx : xs[i]? = some xs[i] := by simp [hi]
  unfold reachN felled
  rw [hx, List.length_cons, Nat.add_sub_cancel]
  exact scan_len _ _ _ _ _
theorem besideR_len {i n : Nat} : (beside true i n).length = n - (i + 1) := by simp [beside]
theorem besideL_len {i n : Nat} : (beside false i n).length = i := by simp [beside]
/-- first, first + 1, .. (c + 1 of them) -/
def rise (a c : Nat) : List Int := (List.range (c + 1)).map fun k => ((a + k : Nat) : Int)
theorem rise_le (a c : Nat) : (rise a c).Pairwise (· ≤ ·) := by
  unfold rise
  refine List.Pairwise.map _ (fun x y h => ?_) (List.pairwise_lt_range (n := c + 1))
  show ((a + x : Nat) : Int) ≤ ((a + y : Nat) : Int)
  have : x < y := h
  omega
theorem felled_perm {xs : List (Int × Int)} {i : Nat} {r : Bool} (hi : i < xs.length) : ((felled xs (allUp xs.length) i r).map fun (k : Nat) => (k : Int)).Perm (rise (run xs i r).1 (reachN xs i r)) := by
  rw [felled_take hi]
  have hle := reach_le (r := r) hi
  cases r with
  | true =>
    rw [besideR_len] at hle
    show (List.map _ _).Perm (rise i (reachN xs i true))
    generalize reachN xs i true = c at hle
    refine .of_eq ?_
    unfold rise beside
    rw [if_pos rfl, List.range_succ_eq_map, List.map_cons, List.map_cons, List.map_map, ← List.map_take, List.map_map, List.take_range]
    have e : min c (xs.length - (i + 1)) = c := by omega
    rw [e]
    refine congr (congrArg _ (by simp)) (List.map_congr_left fun k _ => ?_)
    show ((i + 1 + k : Nat) : Int) = ((i + (k + 1) : Nat) : Int)
    omega
  | false =>
    rw [besideL_len] at hle
    show (List.map _ _).Perm (rise (i - reachN xs i false) (reachN xs i false))
    generalize reachN xs i false = c at hle
    have e : List.map (fun (k : Nat) => (k : Int)) (i :: (beside false i xs.length).take c) = (rise (i - c) c).reverse := by
      unfold rise beside
      rw [if_neg (by decide), ← List.map_take, List.take_range]
      have e : min c i = c := by omega
      rw [e]
      apply List.ext_getElem
      · simp
      · intro j h1 h2
        have hj : j < c + 1 := by simpa using h1
        rw [List.getElem_reverse]
        cases j with
        | zero => simp; omega
        | succ j => simp; omega
    rw [e]
    exact List.reverse_perm _
theorem felled_sorted {xs : List (Int × Int)} {i : Nat} {r : Bool} {ns : List Int} (hi : i < xs.length) (p : ns.Perm ((felled xs (allUp xs.length) i r).map fun (k : Nat) => (k : Int))) (s : ns.Pairwise (· ≤ ·)) :
    ns = rise (run xs i r).1 (reachN xs i r) :=
  (p.trans (felled_perm hi)).eq_of_pairwise (fun x y _ _ h1 h2 => Int.le_antisymm h1 h2) s (rise_le _ _)
theorem run_last {xs : List (Int × Int)} {i : Nat} {r : Bool} (hi : i < xs.length) : (run xs i r).1 + reachN xs i r = (run xs i r).2 := by
  have hle := reach_le (r := r) hi
  unfold run
  cases r with
  | true => rfl
  | false =>
    rw [besideL_len] at hle
    show i - reachN xs i false + reachN xs i false = i
    omega
/-! ### Row's methods -/
def spLen (K : PySem.W.Frag) (C : Addr) : Sp := fun vs H Q _ => ∃ p xs, vs = [.ref p] ∧ RowAt K C H p xs ∧ Q (.int (xs.length : Int)) H
def spAdd (K : PySem.W.Frag) (C : Addr) : Sp := fun vs H Q _ => ∃ p q xs ys, vs = [.ref p, .ref q] ∧ RowAt K C H p xs ∧ RowAt K C H q ys ∧ Wf 0 (xs ++ ys) ∧ (xs ++ ys).length ≤ 40 ∧
  ∀ z H', Same H H' → H z = none → RowAt K C H' z (xs ++ ys) → Q (.ref z) H'
def spCall (K : PySem.W.Frag) (C : Addr) : Sp := fun vs H Q _ => ∃ p xs i r, vs = [.ref p, .int (i : Nat), .str (sideS r)] ∧ RowAt K C H p xs ∧ i < xs.length ∧ xs.length ≤ 40 ∧
  ∀ z H', Same H H' → H z = none → H' z = some (.tup [.int ((run xs i r).1 : Nat), .int ((run xs i r).2 : Nat)]) → Q (.ref z) H'
def spMake (K : PySem.W.Frag) (C : Addr) : Sp := fun vs H Q E => ∃ w0 rest, vs = w0 :: rest ∧ rest.length ≤ 1000 ∧ ∀ p, H p = none → spInitB K C [w0, V.ref p] (upd H p (.tup rest)) Q E
section
variable {P : Program} {w : World} {K : PySem.W.Frag} {mg : Str → Option Value} {base : Heap}
/-- what a new row's reading asks, once and for all -/
theorem make_row {C : Addr} {H : Hp} {us : List V} {xs : List (Int × Int)} {Q : VK} {E : XK} (hS : StonesAt K H us xs) (hw : Wf 0 xs) (hz : xs.length ≤ 40) (k : ∀ z H', Same H H' → H z = none → RowAt K C H' z xs → Q (.ref z) H') :
    ∀ z dz, H z = Option.none → H dz = Option.none → dz ≠ z → spMake K C (V.ref z :: us) (upd (upd H dz (.own z)) z (.ins C dz [])) (fun v H2 => v = .non ∧ Q (.ref z) H2) E := by
  intro z dz nz ndz ne
  have s0 : Same H (upd (upd H dz (.own z)) z (.ins C dz [])) := (same_new ndz).trans (same_new (by rw [upd_ne (Ne.symm ne)]; exact nz))
  refine ⟨_, us, rfl, by rw [hS.1]; omega, fun t nt => ?_⟩
  have s1 : Same H (upd (upd (upd H dz (.own z)) z (.ins C dz [])) t (.tup us)) := s0.trans (same_new nt)
  have ntz : z ≠ t := ne_of_none upd_same nt
  refine ⟨z, dz, t, us, xs, rfl, by rw [upd_ne ntz]; exact upd_same, SqT.of upd_same, hS.same s1, hw, hz, fun H' b e => ⟨rfl, ?_⟩⟩
  have sm : Same H H' := But.same ((Same.but s1 z).trans b) nz
  exact k z H' sm nz ⟨dz, t, us, e, SqT.of (b t _ (Ne.symm ntz) upd_same), hS.same sm⟩
theorem ok_len {f C : Addr} {fd : FuncData} (F : Fun K "__len__" "Row.__len__" s_Row_len f fd) (B : Blt mg) (R : RowC K mg C) : FnOk P w K mg base CX0 1 f fd ["self"] (spLen K C) := by
  refine F.ok sc_Row_len (fun vs H Q E h => ?_) (fun cdv A outer s H vs Q E hr h => ?_)
  · obtain ⟨p, xs, rfl, _⟩ := h
    rfl
  · obtain ⟨p, xs, rfl, ⟨dx, t, us, hp, hT, hS⟩, k⟩ := h
    refine ⟨_, pss_one (ps_ret (pe_callB call_len_seq (by rfl) B.len PySem.boot_len (pa_cons (pe_fld (pv 0) rfl) pa_nil))), ?_⟩
    refine ⟨_, rfl, p, C, dx, _, _, rfl, hp, R.cl, R.nS, rfl, t, us, rfl, .inr hT, ?_⟩
    rw [hS.1]
    exact k
theorem ok_add {f g C : Addr} {fd : FuncData} (F : Fun K "__add__" "Row.__add__" s_Row_add f fd) (B : Blt mg) (R : RowC K mg C) (M : Mk K C g)
    (G : FnR P w K mg base CX0 3 g (spMake K C)) : FnOk P w K mg base CX0 5 f fd ["self", "other"] (spAdd K C) := by
  refine F.ok sc_Row_add (fun vs H Q E h => ?_) (fun cdv A outer s H vs Q E hr h => ?_)
  · obtain ⟨p, q, xs, ys, rfl, _⟩ := h
    rfl
  · obtain ⟨p, q, xs, ys, rfl, hp, hq, hw, hz, k⟩ := h
    obtain ⟨dx, t, us, ep, hT, hS⟩ := id hp
    obtain ⟨dy, t', us', eq', hT', hS'⟩ := id hq
    refine ⟨_, pss_cons (ps_if (pt_not (pt_val (pe_callB (call_isi) (by rfl) B.isinstance boot_isinstance (pa_cons (pv 1) (pa_cons (pe_glob (v := .ref C) (by rfl) R.mgC rfl) pa_nil))))) (pss_one ps_never) pss_nil)
      (pss_cons (ps_set (i := 2) sc_Row_add.nd rfl (Or.inl rfl) (pe_op op_catA (pe_fld (pv 0) rfl) (pe_fld (pv 1) rfl)))
      (pss_one (ps_ret (Own.pe_makeS M G hr (by rfl) R.mgC pass0 (pv 2))))), ?_⟩
    refine ⟨_, rfl, _, .ref C, _, _, true, rfl, .own C, R.ty eq', kit_self, true, rfl, ?_⟩
    refine iteF ?_
    refine ⟨_, rfl, p, C, dx, _, _, rfl, ep, R.cl, R.nS, rfl, _, rfl, q, C, dy, _, _, rfl, eq', R.cl, R.nS, rfl, t, t', us, us', rfl, rfl, hT, hT', ?_, fun e => ?_, fun n e => ?_, fun n n' y ny => ?_⟩
    · rw [hS.1, hS'.1, ← List.length_append, sizeLine_eq]; omega
    · refine ⟨_, rfl, t', us', rfl, .inl hT', make_row (xs := xs ++ ys) ?_ hw hz k⟩
      have := hS.append hS'
      rw [e] at this
      exact this
    · refine ⟨_, rfl, t, us, rfl, .inl hT, make_row (xs := xs ++ ys) ?_ hw hz k⟩
      have := hS.append hS'
      rw [e, List.append_nil] at this
      exact this
    · have s1 := same_new (o := .tup (us ++ us')) ny
      refine ⟨_, rfl, y, _, rfl, .inl (SqT.of upd_same), make_row ((hS.append hS').same s1) hw hz fun z H' sm nz ra => k z H' (s1.trans sm) (Same.free s1 nz) ra⟩
theorem ok_call {f C g1 g2 g3 : Addr} {fd d1 d2 d3 : FuncData} (F : Fun K "__call__" "Row.__call__" s_Row_call f fd) (B : Blt mg) (R : RowC K mg C) (N1 : At P w K mg base CX0 2 "check_stone" ["stone", "count"] spCheckStone g1 d1)
    (N2 : At P w K mg base CX0 1 "check_side" ["side"] spCheckSide g2 d2) (N3 : At P w K mg base CX0 2 "felled_by" ["stones", "standing", "stone", "side"] (spFelled K) g3 d3) :
    FnOk P w K mg base CX0 3 f fd ["self", "stone", "side"] (spCall K C) := by
  refine F.ok sc_Row_call (fun vs H Q E h => ?_) (fun cdv A outer s H vs Q E hr h => ?_)
  · obtain ⟨p, xs, i, r, rfl, _⟩ := h
    rfl
  · obtain ⟨p, xs, i, r, rfl, ⟨dx, t, us, ep, hT, hS⟩, hi, hz, k⟩ := h
    refine ⟨_, pss_cons (ps_expr (pe_at N1 hr (pa_cons (pv 1) (pa_cons (pe_callB call_len_seq (by rfl) B.len PySem.boot_len (pa_cons (pe_fld (pv 0) rfl) pa_nil)) pa_nil))))
      (pss_cons (ps_expr (pe_at N2 (hr.mono (by decide)) (pa_cons (pv 2) pa_nil)))
      (pss_cons (ps_set (i := 3) sc_Row_call.nd rfl (Or.inl rfl) (pe_op op_rep (pe_lst (pa_cons (pe_bl) pa_nil)) (pe_callB call_len_seq (by rfl) B.len PySem.boot_len (pa_cons (pe_fld (pv 0) rfl) pa_nil))))
      (pss_cons (ps_set (i := 4) sc_Row_call.nd rfl (Or.inl rfl) (pe_at N3 hr (pa_cons (pe_fld (pv 0) rfl) (pa_cons (pv 3) (pa_cons (pv 1) (pa_cons (pv 2) pa_nil))))))
      (pss_one (ps_ret (pe_tup (pa_cons (pe_ix ix_list (pv 4) (pe_int) (fun _ _ => rfl)) (pa_cons (pe_ix ix_list (pv 4) (pe_un un_neg pe_int) (fun _ _ => rfl)) pa_nil)))))))), ?_⟩
    refine ⟨_, rfl, _, rfl, p, C, dx, _, _, rfl, ep, R.cl, R.nS, rfl, t, us, rfl, .inr hT, ?_⟩
    refine ⟨i, xs.length, by rw [hS.1]; rfl, hi, ?_⟩
    refine ⟨_, rfl, r, rfl, ?_⟩
    -- standing
    refine ⟨by show 1 ≤ sizeLine; decide, fun a na => ?_⟩
    have s1 := same_new (o := .lst [V.bl true]) na
    refine ⟨_, rfl, p, C, dx, _, _, rfl, s1 _ _ ep, R.cl, R.nS, rfl, t, us, rfl, .inr (sqT_same hT s1), ?_⟩
    refine ⟨a, _, _, rfl, rfl, upd_same, by omega, by rw [hS.1]; omega, by rw [hS.1, sizeLine_eq]; simp; omega, fun b nb => ?_⟩
    have s2 : Same H _ := s1.trans (same_new (o := .lst (List.replicate ((us.length : Int)).toNat [V.bl true]).flatten) nb)
    -- felled
    refine ⟨_, rfl, p, C, dx, _, _, rfl, s2 _ _ ep, R.cl, R.nS, rfl, _, rfl, _, rfl, _, rfl, ?_⟩
    have eb : (List.replicate ((us.length : Int)).toNat [V.bl true]).flatten = (allUp xs.length).map V.bl := by
      rw [hS.1]
      unfold allUp
      simp
    refine ⟨t, b, us, xs, allUp xs.length, i, r, rfl, sqT_same hT s2, hS.same s2, SqL.of (by rw [upd_same, eb]), by unfold allUp; simp, hi, hz, fun ns q H3 pm so sm nq e3 => ?_⟩
    rw [felled_sorted hi pm so] at e3
    have s3 := s2.trans sm
    have g0 : atI ((rise (run xs i r).1 (reachN xs i r)).map V.int) ((0 : Nat) : Int) = some (.int ((run xs i r).1 : Nat)) := by
      refine atI_nat ?_
      unfold rise
      simp
    have g1 : atI ((rise (run xs i r).1 (reachN xs i r)).map V.int) (-1) = some (.int ((run xs i r).2 : Nat)) := by
      unfold rise
      rw [List.range_succ, List.map_append, List.map_append]
      refine Eq.trans (atI_last _ (V.int (((run xs i r).1 + reachN xs i r : Nat) : Int))) ?_
      rw [run_last hi]
    refine ⟨_, rfl, q, _, _, _, rfl, rfl, SqL.of e3, g0, _, rfl, 1, rfl, q, _, (-1), _, rfl, rfl, SqL.of e3, g1, by show 2 ≤ sizeLine; decide, fun z nz => ?_⟩
    exact k z _ (s3.trans (same_new nz)) (Same.free s3 nz) upd_same
end
/-! ### the law's draws -/
def Drw (K : PySem.W.Frag) (H : Hp) (L a : Addr) (ns : List Int) : Prop := ∃ i s r : Int, H L = some (.lst [.ref a, .int i, .int s, .int r]) ∧ 0 ≤ i ∧ 0 ≤ s ∧ s < 2147483647 ∧ SqL K H a (ns.map V.int)
theorem Drw.up {K : PySem.W.Frag} {H H' : Hp} {L a : Addr} {ns : List Int} (h : Drw K H L a ns) (e : Same H H') : Drw K H' L a ns :=
  let ⟨i, s, r, h1, h2, h3, h4, h5⟩ := h; ⟨i, s, r, e _ _ h1, h2, h3, h4, e.seq h5⟩
theorem script_stays {K : PySem.W.Frag} {H : Hp} {L a : Addr} {ns : List Int} {o : HO} {vs : List V} (h : H L = some (.lst (.ref a :: vs))) (hs : SqL K H a (ns.map V.int)) : SqL K (upd H L o) a (ns.map V.int) := by
  have ne : ∀ u, H a = some u → (u = .lst (ns.map V.int) ∨ ∃ ob, u = .frz ob (.lst (ns.map V.int))) → a ≠ L := by
    intro u hu hk z
    subst z
    rw [h] at hu
    rcases hk with rfl | ⟨ob, rfl⟩
    · injection hu with e
      injection e with e
      cases ns <;> cases e
    · cases hu
  rcases hs with (hs | ⟨ob, hs⟩) | hs
  · exact .inl (.inl (by rw [upd_ne (ne _ hs (.inl rfl))]; exact hs))
  · exact .inl (.inr ⟨ob, by rw [upd_ne (ne _ hs (.inr ⟨ob, rfl⟩))]; exact hs⟩)
  · exact .inr hs
def spTaken (K : PySem.W.Frag) : Sp := fun vs H Q _ => ∃ (L a : Addr) (ns : List Int) (m : Int), vs = [.ref L, .int m] ∧ 0 < m ∧ m < 1073741824 ∧ Drw K H L a ns ∧
  ∀ (n : Int) (H' : Hp), 0 ≤ n → n < m → Drw K H' L a ns → But L H H' → Q (.int n) H'
section
variable {P : Program} {w : World} {K : PySem.W.Frag} {mg : Str → Option Value} {base : Heap}
theorem ok_taken {f : Addr} {fd : FuncData} (F : Fun K "_law_taken" "_law_taken" s_law_taken f fd) (B : Blt mg) : FnOk P w K mg base CX0 1 f fd ["_law_row_here", "_law_many"] (spTaken K) := by
  refine F.ok sc_law_taken (fun vs H Q E h => ?_) (fun cdv A outer s H vs Q E hr h => ?_)
  · obtain ⟨L, a, ns, m, rfl, _⟩ := h
    rfl
  · obtain ⟨L, a, ns, m, rfl, m0, m1, ⟨i, sd, r, hL, i0, sd0, sd1, hs⟩, k⟩ := h
    refine ⟨_, pss_cons (ps_if (pt_cmpR (op_gt) (pe_ix ix_list (pv 0) (pe_int) (fun _ _ => rfl)) (pe_int) (nomark _))
        (pss_cons (ps_set (i := 2) sc_law_taken.nd rfl (Or.inl rfl) (pe_op op_mod (pe_callTy (call_int1) (by rfl) B.int boot_int (pa_cons (pe_ix ix_list (pv 0) (pe_int) (fun _ _ => rfl)) pa_nil)) (pv 1)))
        (pss_cons (ps_asg (pe_op op_fdiv (pe_ix ix_list (pv 0) (pe_int) (fun _ _ => rfl)) (pv 1)) (pg_sub (pv 0) pe_int set_list))
        (pss_one (ps_ret (pv 2))))) pss_nil)
      (pss_cons (ps_asg (pe_op op_add (pe_ix ix_list (pv 0) (pe_int) (fun _ _ => rfl)) (pe_int)) (pg_sub (pv 0) pe_int set_list))
      (pss_cons (ps_if (pt_cmpR (op_gt) (pe_ix ix_list (pv 0) (pe_int) (fun _ _ => rfl)) (pe_callB call_len_seq (by rfl) B.len PySem.boot_len (pa_cons (pe_ix ix_list (pv 0) (pe_int) (fun _ _ => rfl)) pa_nil)) (nomark _))
        (pss_cons (ps_asg (pe_op op_mod (pe_callTy (call_int1) (by rfl) B.int boot_int (pa_cons (pe_op op_add (pe_op op_mul (pe_ix ix_list (pv 0) (pe_int) (fun _ _ => rfl)) pe_int) (pe_int)) pa_nil)) pe_int) (pg_sub (pv 0) pe_int set_list))
        (pss_one (ps_ret (pe_op op_mod (pe_callTy (call_int1) (by rfl) B.int boot_int (pa_cons (pe_op op_fdiv (pe_ix ix_list (pv 0) (pe_int) (fun _ _ => rfl)) pe_int) pa_nil)) (pv 1))))) pss_nil)
      (pss_cons (ps_set (i := 3) sc_law_taken.nd rfl (Or.inl rfl) (pe_ix ix_list (pe_ix ix_list (pv 0) (pe_int) (fun _ _ => rfl)) (pe_op op_sub (pe_ix ix_list (pv 0) (pe_int) (fun _ _ => rfl)) (pe_int)) (fun _ _ => rfl)))
      (pss_cons (ps_asg (pe_op op_mod (pe_callTy (call_int1) (by rfl) B.int boot_int (pa_cons (pe_op op_add (pe_op op_add (pe_op op_mul (pe_ix ix_list (pv 0) (pe_int) (fun _ _ => rfl)) pe_int) (pv 3)) (pe_int)) pa_nil)) pe_int) (pg_sub (pv 0) pe_int set_list))
      (pss_cons (ps_if (pt_cmpR (op_ge) (pv 3) (pe_op op_pow pe_int pe_int) (nomark _)) (pss_one (ps_asg (pe_op op_fdiv (pv 3) (pv 1)) (pg_sub (pv 0) pe_int set_list))) pss_nil)
      (pss_one (ps_ret (pe_op op_mod (pe_callTy (call_int1) (by rfl) B.int boot_int (pa_cons (pv 3) pa_nil)) (pv 1))))))))), ?_⟩
    -- if row[3] > 0
    refine ⟨_, rfl, ⟨L, _, ((3 : Nat) : Int), _, rfl, rfl, SqL.of hL, atI_nat (j := 3) rfl, _, _, rfl, rfl, _, rfl, ?_⟩⟩
    refine ite2 (fun hr3 => ?_) (fun hr3 => ?_)
    · refine ⟨_, rfl, ⟨L, _, ((3 : Nat) : Int), _, rfl, rfl, SqL.of hL, atI_nat (j := 3) rfl, .inl ⟨_, rfl, _, rfl, _, _, rfl, rfl, m0, ?_⟩⟩⟩
      refine ⟨_, rfl, ⟨L, _, ((3 : Nat) : Int), _, rfl, rfl, SqL.of hL, atI_nat (j := 3) rfl, _, rfl, _, _, rfl, rfl, ⟨m0, m1⟩, _, rfl, L, _, _, 3, rfl, rfl, hL, rfl, _, rfl, ?_⟩⟩
      exact k _ _ (Int.emod_nonneg _ (by omega)) (Int.emod_lt_of_pos _ m0) ⟨i, sd, _, upd_same, i0, sd0, sd1, script_stays hL hs⟩ but_upd
    · -- row[1] = row[1] + 1
      refine ⟨_, rfl, ⟨L, _, ((1 : Nat) : Int), _, rfl, rfl, SqL.of hL, atI_nat (j := 1) rfl, _, _, rfl, rfl, _, rfl, L, _, _, 1, rfl, rfl, hL, rfl, ?_⟩⟩
      have hs1 : SqL K (upd H L (.lst [.ref a, .int (i + 1), .int sd, .int r])) a (ns.map V.int) := script_stays hL hs
      have b1 : But L H (upd H L (.lst [.ref a, .int (i + 1), .int sd, .int r])) := but_upd
      have h1 : (upd H L (.lst [.ref a, .int (i + 1), .int sd, .int r])) L = some (.lst [.ref a, .int (i + 1), .int sd, .int r]) := upd_same
      generalize hH1 : upd H L (.lst [.ref a, .int (i + 1), .int sd, .int r]) = H1 at hs1 b1 h1
      rw [show upd H L (.lst ([V.ref a, V.int i, V.int sd, V.int r].set 1 (V.int (i + 1)))) = H1 from hH1]
      refine ⟨_, rfl, ⟨L, _, ((1 : Nat) : Int), _, rfl, rfl, SqL.of h1, atI_nat (j := 1) rfl, _, rfl, ⟨L, _, ((0 : Nat) : Int), _, rfl, rfl, SqL.of h1, atI_nat (j := 0) rfl, a, _, rfl, .inl hs1, _, _, rfl, rfl, _, rfl, ?_⟩⟩⟩
      refine ite2 (fun hgt => ?_) (fun hgt => ?_)
      · refine ⟨_, rfl, ⟨L, _, ((2 : Nat) : Int), _, rfl, rfl, SqL.of h1, atI_nat (j := 2) rfl, _, _, rfl, rfl, .inl ⟨by omega, by omega⟩, _, _, rfl, rfl, .inl ⟨_, rfl, _, _, rfl, rfl, (show (0 : Int) < 2147483647 by decide), _, rfl, L, _, _, 2, rfl, rfl, h1, rfl, ?_⟩⟩⟩
        have h2 : ∀ z : Int, (upd H1 L (.lst [.ref a, .int (i + 1), .int z, .int r])) L = some (.lst [.ref a, .int (i + 1), .int z, .int r]) := fun z => upd_same
        refine ⟨_, rfl, ⟨L, _, ((2 : Nat) : Int), _, rfl, rfl, SqL.of (h2 _), atI_nat (j := 2) rfl, _, _, rfl, rfl, ⟨by decide, by decide⟩, .inl ⟨_, rfl, _, rfl, _, _, rfl, rfl, m0, ?_⟩⟩⟩
        exact k _ _ (Int.emod_nonneg _ (by omega)) (Int.emod_lt_of_pos _ m0) ⟨i + 1, _, r, upd_same, by omega, Int.emod_nonneg _ (by decide), Int.emod_lt_of_pos _ (by decide), script_stays h1 hs1⟩ (b1.trans but_upd)
      · have hle : i + 1 ≤ (ns.length : Int) := by
          have : ¬ i + 1 > ((ns.map V.int).length : Int) := fun z => hgt (decide_eq_true z)
          rw [List.length_map] at this
          omega
        obtain ⟨c, hc⟩ : ∃ c, ns[i.toNat]? = some c := ⟨ns[i.toNat]'(by omega), by simp⟩
        have hc2 : atI (ns.map V.int) (i + 1 - 1) = some (.int c) := at_of (j := i.toNat) (by omega) (by rw [List.getElem?_map, hc]; rfl)
        refine ⟨_, rfl, ⟨L, _, ((0 : Nat) : Int), _, rfl, rfl, SqL.of h1, atI_nat (j := 0) rfl, _, rfl, ⟨L, _, ((1 : Nat) : Int), _, rfl, rfl, SqL.of h1, atI_nat (j := 1) rfl, _, _, rfl, rfl, a, _, _, _, rfl, rfl, hs1, hc2, ?_⟩⟩⟩
        refine ⟨_, rfl, ⟨L, _, ((2 : Nat) : Int), _, rfl, rfl, SqL.of h1, atI_nat (j := 2) rfl, _, _, rfl, rfl, .inl ⟨by omega, by omega⟩, _, rfl, _, _, rfl, rfl, _, _, rfl, rfl, .inl ⟨_, rfl, _, _, rfl, rfl, (show (0 : Int) < 2147483647 by decide), _, rfl, L, _, _, 2, rfl, rfl, h1, rfl, ?_⟩⟩⟩
        refine ⟨_, rfl, 10, 18, rfl, rfl, ⟨by decide, by decide, by decide⟩, _, _, rfl, rfl, _, rfl, ?_⟩
        have h2 : ∀ z : Int, (upd H1 L (.lst [.ref a, .int (i + 1), .int z, .int r])) L = some (.lst [.ref a, .int (i + 1), .int z, .int r]) := fun z => upd_same
        refine ite2 (fun hbig => ?_) (fun hbig => ?_)
        · refine ⟨_, rfl, _, rfl, _, _, rfl, rfl, ⟨m0, m1⟩, _, rfl, L, _, _, 3, rfl, rfl, h2 _, rfl, ?_⟩
          refine ⟨_, rfl, .inl ⟨_, rfl, _, rfl, _, _, rfl, rfl, m0, ?_⟩⟩
          exact k _ _ (Int.emod_nonneg _ (by omega)) (Int.emod_lt_of_pos _ m0) ⟨i + 1, _, _, upd_same, by omega, Int.emod_nonneg _ (by decide), Int.emod_lt_of_pos _ (by decide), script_stays (h2 _) (script_stays h1 hs1)⟩ ((b1.trans but_upd).trans but_upd)
        · refine ⟨_, rfl, .inl ⟨_, rfl, _, rfl, _, _, rfl, rfl, m0, ?_⟩⟩
          exact k _ _ (Int.emod_nonneg _ (by omega)) (Int.emod_lt_of_pos _ m0) ⟨i + 1, _, r, upd_same, by omega, Int.emod_nonneg _ (by decide), Int.emod_lt_of_pos _ (by decide), script_stays h1 hs1⟩ (b1.trans but_upd)
end
/-! ### objects that stay while a list changes -/
theorem sqT_but {K : PySem.W.Frag} {H H' : Hp} {a l : Addr} {xs ys : List V} (h : SqT K H a xs) (hl : H l = some (.lst ys)) (b : But l H H') : SqT K H' a xs := by
  rcases h with (h | ⟨o, h⟩) | h
  · exact .inl (.inl (b _ _ (ne_of h hl (by intro z; cases z)) h))
  · exact .inl (.inr ⟨o, b _ _ (ne_of h hl (by intro z; cases z)) h⟩)
  · exact .inr h
theorem StonesAt.but {K : PySem.W.Frag} {H H' : Hp} {l : Addr} {ys vs : List V} {xs : List (Int × Int)} (h : StonesAt K H vs xs) (hl : H l = some (.lst ys)) (b : But l H H') : StonesAt K H' vs xs :=
  ⟨h.1, fun k x q => let ⟨a, q1, q2⟩ := h.2 k x q; ⟨a, q1, sqT_but q2 hl b⟩⟩
theorem RowAt.but {K : PySem.W.Frag} {C : Addr} {H H' : Hp} {p l : Addr} {ys : List V} {xs : List (Int × Int)} (h : RowAt K C H p xs) (hl : H l = some (.lst ys)) (b : But l H H') : RowAt K C H' p xs :=
  let ⟨dx, t, us, h1, h2, h3⟩ := h; ⟨dx, t, us, b _ _ (ne_of h1 hl (by intro z; cases z)) h1, sqT_but h2 hl b, h3.but hl b⟩
/-- the law's own list: the script, a place in it, a seed, a rest -/
def Cell (H : Hp) (L a : Addr) : Prop := ∃ i s r : Int, H L = some (.lst [.ref a, .int i, .int s, .int r]) ∧ 0 ≤ i ∧ 0 ≤ s ∧ s < 2147483647
theorem Drw.cell {K : PySem.W.Frag} {H : Hp} {L a : Addr} {ns : List Int} (h : Drw K H L a ns) : Cell H L a := let ⟨i, s, r, h1, h2, h3, h4, _⟩ := h; ⟨i, s, r, h1, h2, h3, h4⟩
theorem Cell.list {H : Hp} {L a : Addr} (h : Cell H L a) : ∃ ys, H L = some (.lst ys) := let ⟨_, _, _, h, _⟩ := h; ⟨_, h⟩
theorem Cell.but {H H' : Hp} {L a p : Addr} (h : Cell H L a) (b : But p H H') (ne : L ≠ p) : Cell H' L a := let ⟨i, s, r, h1, h2⟩ := h; ⟨i, s, r, b _ _ ne h1, h2⟩
theorem Cell.same {H H' : Hp} {L a : Addr} (h : Cell H L a) (b : Same H H') : Cell H' L a := let ⟨i, s, r, h1, h2⟩ := h; ⟨i, s, r, b _ _ h1, h2⟩
theorem Drw.next {K : PySem.W.Frag} {H H' : Hp} {L a : Addr} {ns : List Int} (h : Drw K H L a ns) (b : But L H H') (c : Cell H' L a) : Drw K H' L a ns := by
  obtain ⟨i, s, r, h1, h2, h3, h4, hs⟩ := h
  obtain ⟨i', s', r', g1, g2, g3, g4⟩ := c
  refine ⟨i', s', r', g1, g2, g3, g4, ?_⟩
  have ne : ∀ u, H a = some u → (u = .lst (ns.map V.int) ∨ ∃ ob, u = .frz ob (.lst (ns.map V.int))) → a ≠ L := by
    intro u hu hk z
    subst z
    rw [h1] at hu
    rcases hk with rfl | ⟨ob, rfl⟩
    · injection hu with e
      injection e with e
      cases ns <;> cases e
    · cases hu
  rcases hs with (hs | ⟨ob, hs⟩) | hs
  · exact .inl (.inl (b _ _ (ne _ hs (.inl rfl)) hs))
  · exact .inl (.inr ⟨ob, b _ _ (ne _ hs (.inr ⟨ob, rfl⟩)) hs⟩)
  · exact .inr hs
theorem But.sub {H H' : Hp} {p L : Addr} (b : But p H H') (hp : H p = none) : But L H H' := fun c o _ e => b c o (ne_of_none e hp) e
/-- all but l stays; a new p may change, too -/
theorem But.two {H H1 H2 : Hp} {p L : Addr} (a : But L H H1) (hp : H p = none) (b : But p H1 H2) : But L H H2 := fun c o n e => b c o (ne_of_none e hp) (a c o n e)

/-! ### the law's stones -/
/-- stones as the law draws them -/
def Drawn (xs : List (Int × Int)) : Prop := ∀ x ∈ xs, 0 ≤ x.1 ∧ x.1 ≤ 2 + 10 * (xs.length : Int) ∧ 1 ≤ x.2 ∧ x.2 ≤ 40
theorem Wf.snoc : ∀ {xs : List (Int × Int)} {lo : Int} {y : Int × Int}, Wf lo xs → lo ≤ y.1 → (∀ x ∈ xs, x.1 + 1 ≤ y.1) → y.1 ≤ 1000000000 → 1 ≤ y.2 → y.2 ≤ 1000000000 → Wf lo (xs ++ [y])
  | [], lo, y, _, h1, _, h2, h3, h4 => ⟨h1, h2, h3, h4, True.intro⟩
  | x :: xs, lo, y, w, _, h, h2, h3, h4 => ⟨w.1, w.2.1, w.2.2.1, w.2.2.2.1, Wf.snoc w.2.2.2.2 (h x (by simp)) (fun z hz => h z (by simp [hz])) h2 h3 h4⟩
theorem pick {m k : Int} {vs : List Int} (hm : m = (vs.length : Int)) (h0 : 0 ≤ k) (h1 : k < m) : ∃ z ∈ vs, atI (vs.map V.int) k = some (.int z) := by
  have hk : k.toNat < vs.length := by omega
  exact ⟨vs[k.toNat], by simp, at_of (j := k.toNat) (by omega) (by simp [hk])⟩
def spStones (K : PySem.W.Frag) : Sp := fun vs H Q _ => ∃ (L a : Addr) (ns : List Int) (m : Int), vs = [.ref L, .int m] ∧ 0 ≤ m ∧ m ≤ 30 ∧ Drw K H L a ns ∧
  ∀ (p : Addr) (us : List V) (xs : List (Int × Int)) (H' : Hp), Drw K H' L a ns → But L H H' → H p = none → H' p = some (.lst us) → StonesAt K H' us xs → Wf 0 xs → Drawn xs → (xs.length : Int) ≤ m → Q (.ref p) H'
section
variable {P : Program} {w : World} {K : PySem.W.Frag} {mg : Str → Option Value} {base : Heap}
theorem ok_stones {f g : Addr} {fd gd : FuncData} (F : Fun K "_law_stones" "_law_stones" s_law_stones f fd) (B : Blt mg) (N : At P w K mg base CX0 1 "_law_taken" ["_law_row_here", "_law_many"] (spTaken K) g gd) :
    FnOk P w K mg base CX0 2 f fd ["_law_row_here", "_law_most"] (spStones K) := by
  refine F.ok sc_law_stones (fun vs H Q E h => ?_) (fun cdv A outer s H vs Q E hr h => ?_)
  · obtain ⟨L, a, ns, m, rfl, _⟩ := h
    rfl
  · obtain ⟨L, a, ns, m, rfl, m0, m1, D, k⟩ := h
    refine ⟨_, pss_cons (ps_par rfl sc_law_stones.nd (i := 2) (j := 3) rfl rfl (by decide) rfl rfl (pa_cons (pe_lst pa_nil) (pa_cons (pe_at N hr (pa_cons (pv 0) (pa_cons (pe_int) pa_nil))) pa_nil)) (by rfl))
      (pss_cons (ps_for PassesOwn.never rfl (pi_range1 (by rfl) B.range (pa_cons (pe_at N hr (pa_cons (pv 0) (pa_cons (pe_op op_add (pv 1) (pe_int)) pa_nil))) pa_nil)) (pg_name (i := 4) sc_law_stones.nd rfl (Or.inl rfl))
        (pss_cons (ps_expr (pe_bm PySem.F.plainAttrs_list PySem.F.slot_list_append PySem.F.type_list_append mt_append (pv 2) (pa_cons (pe_tup (pa_cons (pv 3) (pa_cons (pe_op op_add (pe_int) (pe_at N hr (pa_cons (pv 0) (pa_cons (pe_ix ix_list (pe_lst (pa_cons (pe_int) (pa_cons (pe_int) (pa_cons (pe_int) (pa_cons (pe_int) pa_nil))))) (pe_at N hr (pa_cons (pv 0) (pa_cons (pe_int) pa_nil))) (fun _ _ => rfl)) pa_nil)))) pa_nil))) pa_nil)))
        (pss_one (ps_set (i := 3) sc_law_stones.nd rfl (Or.inl rfl) (pe_op op_add (pe_op op_add (pv 3) (pe_int)) (pe_at N hr (pa_cons (pv 0) (pa_cons (pe_ix ix_list (pe_lst (pa_cons (pe_int) (pa_cons (pe_int) (pa_cons (pe_int) pa_nil)))) (pe_at N hr (pa_cons (pv 0) (pa_cons (pe_int) pa_nil))) (fun _ _ => rfl)) pa_nil))))))))
      (pss_one (ps_ret (pv 2)))), ?_⟩
    refine ⟨by show 0 ≤ sizeLine; decide, fun p np => ?_⟩
    have c0 := D.cell
    have nLp : L ≠ p := let ⟨ys, e⟩ := c0.list; ne_of_none e np
    -- place
    refine ⟨_, rfl, L, a, ns, 3, rfl, by decide, by decide, D.up (same_new np), fun pl H1 p0 p1 D1 b1 => ?_⟩
    have e1 : H1 p = some (.lst []) := b1 _ _ (Ne.symm nLp) upd_same
    have b1' : But L H H1 := (Same.but (same_new np) L).trans b1
    refine ⟨_, _, rfl, ?_⟩
    -- how many
    refine ⟨_, rfl, _, rfl, _, _, rfl, rfl, L, a, ns, m + 1, rfl, by omega, by omega, D1, fun n H2 n0 n1 D2 b2 => ?_⟩
    refine ⟨n, rfl, by omega, by omega, for_range (lo := 0) (n := n.toNat) (fun j σ H3 => ∃ (us : List V) (xs : List (Int × Int)) (pl : Int) (s4 : Option V), σ = [some (.ref L), some (.int m), some (.ref p), some (.int pl), s4] ∧
      Cell H3 L a ∧ But L H H3 ∧ H3 p = some (.lst us) ∧ StonesAt K H3 us xs ∧ Wf 0 xs ∧ xs.length = j ∧ 0 ≤ pl ∧ pl ≤ 2 + 10 * (j : Int) ∧ Drawn xs ∧ (∀ x ∈ xs, x.1 + 1 ≤ pl)) ?_ ?_ ?_⟩
    · exact ⟨[], [], pl, none, rfl, D2.cell, b1'.trans b2, b2 _ _ (Ne.symm nLp) e1, StonesAt.nil, True.intro, rfl, p0, by omega, fun x h => (nomatch h), fun x h => (nomatch h)⟩
    · rintro j σ H3 hj ⟨us, xs, pl, s4, rfl, cl, b3, ep, hS, hw, hl, q0, q1, hd, hlt⟩
      have hj' : (j : Int) < 30 := by omega
      -- the tuple: place, 1 + ..
      refine ⟨_, rfl, .inl ⟨rfl, _, SqL.of ep⟩, ?_⟩
      refine ⟨_, rfl, _, rfl, ?_⟩
      refine ⟨by show 4 ≤ sizeLine; decide, fun l1 nl1 => ?_⟩
      have s4' := same_new (o := .lst [V.int 2, V.int 5, V.int 12, V.int 40]) nl1
      refine ⟨_, rfl, L, a, ns, 4, rfl, by decide, by decide, (D.next b3 cl).up s4', fun k1 H4 k10 k11 D4 b4 => ?_⟩
      obtain ⟨z1, hz1, ez1⟩ := pick (vs := [2, 5, 12, 40]) rfl k10 k11
      have nl1L : l1 ≠ L := fun e => by obtain ⟨ys, q⟩ := cl.list; rw [← e, nl1] at q; cases q
      refine ⟨l1, _, k1, _, rfl, rfl, SqL.of (b4 _ _ nl1L upd_same), ez1, ?_⟩
      have z1b : 1 ≤ z1 ∧ z1 ≤ 40 := by simp at hz1; omega
      refine ⟨L, a, ns, z1, rfl, by omega, by omega, D4, fun h1 H5 h10 h11 D5 b5 => ?_⟩
      refine ⟨_, _, rfl, rfl, by show 2 ≤ sizeLine; decide, fun T nT => ?_⟩
      have b35 : But L H3 H5 := ((Same.but s4' L).trans b4).trans b5
      have ep5 : H5 p = some (.lst us) := b35 _ _ (Ne.symm nLp) ep
      have epT : (upd H5 T (.tup [V.int pl, V.int (1 + h1)])) p = some (.lst us) := same_new nT _ _ ep5
      obtain ⟨ysL, eL⟩ := cl.list
      have hS5 : StonesAt K (upd H5 T (.tup [V.int pl, V.int (1 + h1)])) us xs := (hS.but eL b35).same (same_new nT)
      refine ⟨p, us, _, rfl, rfl, epT, ?_, ?_⟩
      · rw [hS.1, hl, sizeLine_eq]; omega
      have epN : (upd (upd H5 T (.tup [V.int pl, V.int (1 + h1)])) p (.lst (us ++ [.ref T]))) p = some (.lst (us ++ [.ref T])) := upd_same
      have hT : SqT K (upd (upd H5 T (.tup [V.int pl, V.int (1 + h1)])) p (.lst (us ++ [.ref T]))) T [V.int pl, V.int (1 + h1)] := sqT_but (SqT.of upd_same) epT but_upd
      have hSN : StonesAt K (upd (upd H5 T (.tup [V.int pl, V.int (1 + h1)])) p (.lst (us ++ [.ref T]))) (us ++ [.ref T]) (xs ++ [(pl, 1 + h1)]) := (hS5.but epT but_upd).append (StonesAt.one hT)
      have clN : Cell (upd (upd H5 T (.tup [V.int pl, V.int (1 + h1)])) p (.lst (us ++ [.ref T]))) L a := (D5.cell.same (same_new nT)).but but_upd nLp
      have bN : But L H (upd (upd H5 T (.tup [V.int pl, V.int (1 + h1)])) p (.lst (us ++ [.ref T]))) := ((b3.trans b35).new nT).two np but_upd
      generalize hHN : upd (upd H5 T (.tup [V.int pl, V.int (1 + h1)])) p (.lst (us ++ [.ref T])) = HN at epN hSN clN bN
      -- place = place + 1 + ..
      refine ⟨_, rfl, _, _, rfl, rfl, _, rfl, ?_⟩
      refine ⟨by show 3 ≤ sizeLine; decide, fun l2 nl2 => ?_⟩
      have s6 := same_new (o := .lst [V.int 1, V.int 3, V.int 9]) nl2
      refine ⟨_, rfl, L, a, ns, 3, rfl, by decide, by decide, (D.next bN clN).up s6, fun k2 H6 k20 k21 D6 b6 => ?_⟩
      obtain ⟨z2, hz2, ez2⟩ := pick (vs := [1, 3, 9]) rfl k20 k21
      have nl2L : l2 ≠ L := fun e => by obtain ⟨ys, q⟩ := clN.list; rw [← e, nl2] at q; cases q
      refine ⟨l2, _, k2, _, rfl, rfl, SqL.of (b6 _ _ nl2L upd_same), ez2, ?_⟩
      have z2b : 1 ≤ z2 ∧ z2 ≤ 9 := by simp at hz2; omega
      refine ⟨L, a, ns, z2, rfl, by omega, by omega, D6, fun h2 H7 h20 h21 D7 b7 => ?_⟩
      have bN7 : But L HN H7 := ((Same.but s6 L).trans b6).trans b7
      obtain ⟨ysN, eN⟩ := clN.list
      refine ⟨_, _, rfl, rfl, us ++ [.ref T], xs ++ [(pl, 1 + h1)], pl + 1 + h2, _, rfl, D7.cell, bN.trans bN7, bN7 _ _ (Ne.symm nLp) epN, hSN.but eN bN7, ?_, by simp [hl], by omega, by omega, ?_, ?_⟩
      · exact hw.snoc q0 hlt (by show pl ≤ _; omega) (by show 1 ≤ 1 + h1; omega) (by show 1 + h1 ≤ _; omega)
      · intro x hx
        rcases List.mem_append.mp hx with hx | hx
        · obtain ⟨w1, w2, w3⟩ := hd x hx; exact ⟨w1, by rw [List.length_append]; simp; omega, w3⟩
        · simp at hx; subst hx; exact ⟨q0, by rw [List.length_append]; simp; omega, by show 1 ≤ 1 + h1; omega, by show 1 + h1 ≤ 40; omega⟩
      · intro x hx
        rcases List.mem_append.mp hx with hx | hx
        · have := hlt x hx; omega
        · simp at hx; subst hx; show pl + 1 ≤ _; omega
    · rintro σ H3 ⟨us, xs, pl, s4, rfl, cl, b3, ep, hS, hw, hl, q0, q1, hd, hlt⟩
      exact ⟨_, rfl, k p us xs H3 (D.next b3 cl) b3 np ep hS hw hd (by omega)⟩
end
/-! ### the law's row, put together one by one -/
theorem toR {P : Program} {w : World} {K : PySem.W.Frag} {mg : Str → Option Value} {base : Heap} {CX : CXT} {k : Nat} {f : Addr} {fd : FuncData} {ps : List Str} {sp : Sp} (F : FnOk P w K mg base CX k f fd ps sp) (b : Binds K fd ps []) : FnR P w K mg base CX k f sp :=
  (F.raw b .nil).imp fun vs H Q E h => by rw [List.append_nil]; exact h
theorem Wf.take : ∀ {xs : List (Int × Int)} {lo : Int} (n : Nat), Wf lo xs → Wf lo (xs.take n)
  | [], _, n, _ => by cases n <;> exact True.intro
  | _ :: _, _, 0, _ => True.intro
  | x :: xs, _, n + 1, w => ⟨w.1, w.2.1, w.2.2.1, w.2.2.2.1, Wf.take n w.2.2.2.2⟩
theorem Wf.low : ∀ {xs : List (Int × Int)} {lo : Int} {k : Nat} {x : Int × Int}, Wf lo xs → xs[k]? = some x → lo ≤ x.1
  | [], _, _, _, _, e => by simp at e
  | z :: xs, lo, 0, x, w, e => by simp at e; subst e; exact w.1
  | z :: xs, lo, k + 1, x, w, e => by
    simp at e
    have h1 := w.1
    have h2 := Wf.low w.2.2.2.2 e
    omega
theorem Wf.sub {xs : List (Int × Int)} {lo : Int} {k : Nat} {x : Int × Int} (h0 : 0 ≤ lo) (w : Wf lo xs) (e : xs[k]? = some x) : Wf 0 [x] := by
  obtain ⟨_, _, h3, h4, h5⟩ := w.get e
  exact ⟨Int.le_trans h0 (w.low e), h3, h4, h5, True.intro⟩
def spRow (K : PySem.W.Frag) (C : Addr) : Sp := fun vs H Q _ => ∃ (q : Addr) (us : List V) (xs : List (Int × Int)), vs = [.ref q] ∧ SqL K H q us ∧ StonesAt K H us xs ∧ Wf 0 xs ∧ xs.length ≤ 40 ∧
  ∀ z H', Same H H' → H z = none → RowAt K C H' z xs → Q (.ref z) H'
theorem seq_of {t u : TS} {D : Ends} {σ : L2.St} {H : Hp} (h : t { D with nx := u D } σ H) : tSeq t u D σ H := h
theorem asg_of {te : TE} {g : TG} {D : Ends} {σ : L2.St} {H : Hp} (h : te σ H fun x H1 => g x σ H1 D.nx) : tAsg te g D σ H := h
theorem mk0 {K : PySem.W.Frag} {C : Addr} {E : XK} {σ : L2.St} {H : Hp} {Q : VK} (h : ∀ z H', Same H H' → H z = none → RowAt K C H' z [] → Q (.ref z) H') : StX.tMakeR C (spMake K C) E tNil σ H Q :=
  fun n1 n2 n3 n4 n5 => make_row (Q := Q) (xs := []) StonesAt.nil True.intro (by decide) h n1 n2 n3 n4 n5
theorem mk1 {K : PySem.W.Frag} {C : Addr} {E : XK} {σ : L2.St} {H : Hp} {Q : VK} {i : Nat} {c : Addr} {x : Int × Int} (e : σ[i]? = some (some (.ref c))) (hx : SqT K H c [.int x.1, .int x.2]) (w : Wf 0 [x]) (h : ∀ z H', Same H H' → H z = none → RowAt K C H' z [x] → Q (.ref z) H') :
    StX.tMakeR C (spMake K C) E (tCons (tVar i) tNil) σ H Q :=
  ⟨_, e, fun n1 n2 n3 n4 n5 => make_row (Q := Q) (xs := [x]) (StonesAt.one hx) w (by simp) h n1 n2 n3 n4 n5⟩
/-- how a sign's def stands in the class -/
structure Sign (K : PySem.W.Frag) (C : Addr) (x : Str) (f : Addr) : Prop where
  at_ : PySem.W.findIn K (.ref C) x = some (some (.ref f))
  fn : PySem.W.isFn K (.ref f) = true
section
variable {P : Program} {w : World} {K : PySem.W.Frag} {mg : Str → Option Value} {base : Heap}
theorem ok_row {f g a C : Addr} {fd : FuncData} (F : Fun K "_law_row" "_law_row" s_law_row f fd) (B : Blt mg) (R : RowC K mg C) (M : Mk K C g) (G : FnR P w K mg base CX0 3 g (spMake K C)) (A1 : FnR P w K mg base CX0 5 a (spAdd K C)) (SA : Sign K C "__add__" a) :
    FnOk P w K mg base CX0 6 f fd ["_law_stones_here"] (spRow K C) := by
  refine F.ok sc_law_row (fun vs H Q E h => ?_) (fun cdv A outer s H vs Q E hr h => ?_)
  · obtain ⟨q, us, xs, rfl, _⟩ := h
    rfl
  · obtain ⟨q, us, xs, rfl, hq, hS, hw, hz, k⟩ := h
    refine ⟨_, pss_cons (ps_set (i := 1) sc_law_row.nd rfl (Or.inl rfl) (Own.pe_makeR0 M G (hr.mono (by decide)) (by rfl) R.mgC pass0))
      (pss_cons (ps_for PassesOwn.never rfl (pi_list (pv 0)) (pg_name (i := 2) sc_law_row.nd rfl (Or.inl rfl))
        (pss_one (ps_set (i := 1) sc_law_row.nd rfl (Or.inl rfl) (pe_op (Own.op_bin (op := .Add) (C := C) (g := a) R.first SA.at_ SA.fn A1 hr pass0) (pv 1) (StX.pe_makeR M G (hr.mono (by decide)) (by rfl) R.mgC pass0 (pa_cons (pv 2) pa_nil))))))
      (pss_one (ps_ret (pv 1)))), ?_⟩
    refine seq_of (asg_of (mk0 fun z0 H1 s1 nz0 r0 => ?_))
    refine ⟨_, rfl, q, rfl, ⟨_, s1.seq hq⟩, for_list (K := K) (a := q) (xs := us) (fun j σ H2 => ∃ (z : Addr) (s2 : Option V), σ = [some (.ref q), some (.ref z), s2] ∧ Same H H2 ∧ H z = none ∧ RowAt K C H2 z (xs.take j)) ?_ ?_ ?_ ?_⟩
    · exact ⟨z0, none, rfl, s1, nz0, by rw [List.take_zero]; exact r0⟩
    · rintro j σ H2 _ ⟨_, _, _, sm, _⟩
      exact sm.seq hq
    · rintro j y σ H2 hy ⟨z, s2, rfl, sm, nz, rz⟩
      have hj : j < xs.length := by rw [← hS.1]; exact (List.getElem?_eq_some_iff.mp hy).1
      obtain ⟨x, hx⟩ : ∃ x, xs[j]? = some x := ⟨xs[j], by simp [hj]⟩
      obtain ⟨c, hc, hsc⟩ := hS.2 j x hx
      obtain rfl : y = V.ref c := Option.some.inj (hy.symm.trans hc)
      refine ⟨_, rfl, mk1 (i := 2) (x := x) rfl (sqT_same hsc sm) (hw.sub (Int.le_refl _) hx) fun z2 H3 s3 nz2 r2 => ?_⟩
      obtain ⟨dx, t, ws, e1, g1, g2⟩ := id (rz.same s3)
      obtain ⟨dy, t', ws', e2, g3, g4⟩ := id r2
      have et : xs.take j ++ [x] = xs.take (j + 1) := by rw [List.take_add_one, hx]; rfl
      refine ⟨z, dx, _, z2, dy, _, rfl, rfl, e1, e2, z, z2, _, _, rfl, rz.same s3, r2, by rw [et]; exact hw.take _, by rw [et]; simp; omega, fun z4 H4 s4 nz4 r4 => ?_⟩
      rw [et] at r4
      exact ⟨z4, _, rfl, (sm.trans s3).trans s4, Same.free (sm.trans s3) nz4, r4⟩
    · rintro σ H2 ⟨z, s2, rfl, sm, nz, rz⟩
      rw [show us.length = xs.length from hS.1, List.take_length] at rz
      exact ⟨_, rfl, k z H2 sm nz rz⟩
end
/-! ### hit by hit: mathematics -/
def far (x y : Int × Int) (r : Bool) : Int := if r then y.1 - x.1 else x.1 - y.1
def hitB (xs : List (Int × Int)) (r : Bool) (m o : Nat) : Bool := match xs[m]?, xs[o]? with
  | some x, some y => decide (0 < far x y r) && decide (far x y r ≤ x.2)
  | _, _ => false
abbrev Wave := List (Nat × Nat) × List Nat
def stepIn (xs : List (Int × Int)) (r : Bool) (t m : Nat) (st : Wave) (o : Nat) : Wave := if hitB xs r m o = true ∧ o ∉ st.1.map (·.1) then (st.1 ++ [(o, t)], st.2 ++ [o]) else st
def stepLv (xs : List (Int × Int)) (S : List Nat) (r : Bool) (t : Nat) (st : Wave) (m : Nat) : Wave := S.foldl (stepIn xs r t m) st
def level (xs : List (Int × Int)) (S : List Nat) (r : Bool) (t : Nat) (st : Wave) : Wave := st.2.foldl (stepLv xs S r t) (st.1, [])
def iter (xs : List (Int × Int)) (S : List Nat) (r : Bool) (i : Nat) : Nat → Wave
  | 0 => ([(i, 0)], [i])
  | t + 1 => level xs S r (t + 1) (iter xs S r i t)
structure Prog (xs : List (Int × Int)) (r : Bool) (fs : List (Nat × Nat)) (t : Nat) (D : Nat → Nat → Prop) (st : Wave) : Prop where
  eq : st.1 = fs ++ st.2.map fun o => (o, t)
  nd : (st.1.map (·.1)).Nodup
  wh : ∀ o ∈ st.2, ∃ m, D m o ∧ hitB xs r m o = true
  al : ∀ m o, D m o → hitB xs r m o = true → o ∈ st.1.map (·.1)
theorem Prog.step {xs : List (Int × Int)} {r : Bool} {fs : List (Nat × Nat)} {t m o : Nat} {D : Nat → Nat → Prop} {st : Wave} (h : Prog xs r fs t D st) : Prog xs r fs t (fun m' o' => D m' o' ∨ (m' = m ∧ o' = o)) (stepIn xs r t m st o) := by
  unfold stepIn
  split
  · rename_i hc
    refine ⟨?_, ?_, ?_, ?_⟩
    · show st.1 ++ [(o, t)] = fs ++ (st.2 ++ [o]).map fun o => (o, t)
      rw [h.eq]; simp
    · show ((st.1 ++ [(o, t)]).map (·.1)).Nodup
      rw [List.map_append, List.nodup_append]
      refine ⟨h.nd, by simp, ?_⟩
      intro a ha b hb e
      simp at hb
      subst hb e
      exact hc.2 ha
    · intro o' ho'
      rcases List.mem_append.mp ho' with z | z
      · obtain ⟨m', h1, h2⟩ := h.wh o' z
        exact ⟨m', .inl h1, h2⟩
      · simp at z
        subst z
        exact ⟨m, .inr ⟨rfl, rfl⟩, hc.1⟩
    · intro m' o' hd hh
      show o' ∈ (st.1 ++ [(o, t)]).map (·.1)
      rw [List.map_append]
      rcases hd with hd | ⟨rfl, rfl⟩
      · exact List.mem_append_left _ (h.al m' o' hd hh)
      · exact List.mem_append_right _ (by simp)
  · rename_i hc
    refine ⟨h.eq, h.nd, fun o' ho' => ?_, fun m' o' hd hh => ?_⟩
    · obtain ⟨m', h1, h2⟩ := h.wh o' ho'
      exact ⟨m', .inl h1, h2⟩
    · rcases hd with hd | ⟨rfl, rfl⟩
      · exact h.al m' o' hd hh
      · exact Classical.byContradiction fun z => hc ⟨hh, z⟩
theorem Prog.imp {xs : List (Int × Int)} {r : Bool} {fs : List (Nat × Nat)} {t : Nat} {D D' : Nat → Nat → Prop} {st : Wave} (h : Prog xs r fs t D st) (e : ∀ m o, D m o ↔ D' m o) : Prog xs r fs t D' st :=
  ⟨h.eq, h.nd, fun o ho => let ⟨m, h1, h2⟩ := h.wh o ho; ⟨m, (e m o).mp h1, h2⟩, fun m o hd => h.al m o ((e m o).mpr hd)⟩
theorem Prog.row {xs : List (Int × Int)} {r : Bool} {fs : List (Nat × Nat)} {t m : Nat} : ∀ (S : List Nat) {D : Nat → Nat → Prop} {st : Wave}, Prog xs r fs t D st → Prog xs r fs t (fun m' o' => D m' o' ∨ (m' = m ∧ o' ∈ S)) (S.foldl (stepIn xs r t m) st)
  | [], D, st, h => h.imp fun m' o' => by simp
  | o :: S, D, st, h => (Prog.row S (h.step (m := m) (o := o))).imp fun m' o' => by
      simp only [List.mem_cons]
      constructor
      · rintro ((h | ⟨a, b⟩) | ⟨a, b⟩)
        · exact .inl h
        · exact .inr ⟨a, .inl b⟩
        · exact .inr ⟨a, .inr b⟩
      · rintro (h | ⟨a, b | b⟩)
        · exact .inl (.inl h)
        · exact .inl (.inr ⟨a, b⟩)
        · exact .inr ⟨a, b⟩
theorem Prog.all {xs : List (Int × Int)} {S : List Nat} {r : Bool} {fs : List (Nat × Nat)} {t : Nat} : ∀ (lv : List Nat) {D : Nat → Nat → Prop} {st : Wave}, Prog xs r fs t D st → Prog xs r fs t (fun m' o' => D m' o' ∨ (m' ∈ lv ∧ o' ∈ S)) (lv.foldl (stepLv xs S r t) st)
  | [], D, st, h => h.imp fun m' o' => by simp
  | m :: lv, D, st, h => (Prog.all lv (h.row (m := m) S)).imp fun m' o' => by
      simp only [List.mem_cons]
      constructor
      · rintro ((h | ⟨a, b⟩) | ⟨a, b⟩)
        · exact .inl h
        · exact .inr ⟨.inl a, b⟩
        · exact .inr ⟨.inr a, b⟩
      · rintro (h | ⟨a | a, b⟩)
        · exact .inl (.inl h)
        · exact .inl (.inr ⟨a, b⟩)
        · exact .inr ⟨a, b⟩
theorem level_spec {xs : List (Int × Int)} {S : List Nat} {r : Bool} {fs : List (Nat × Nat)} {lv : List Nat} {t : Nat} (nd : (fs.map (·.1)).Nodup) :
    (level xs S r t (fs, lv)).1 = fs ++ (level xs S r t (fs, lv)).2.map (fun o => (o, t)) ∧ ((level xs S r t (fs, lv)).1.map (·.1)).Nodup ∧
    ∀ o, o ∈ (level xs S r t (fs, lv)).2 ↔ (o ∉ fs.map (·.1) ∧ o ∈ S ∧ ∃ m ∈ lv, hitB xs r m o = true) := by
  have p0 : Prog xs r fs t (fun _ _ => False) (fs, []) := ⟨by simp, nd, fun o h => (nomatch h), fun m o h => h.elim⟩
  have p := (Prog.all (S := S) lv p0)
  have e : lv.foldl (stepLv xs S r t) (fs, []) = level xs S r t (fs, lv) := rfl
  rw [e] at p
  refine ⟨p.eq, p.nd, fun o => ⟨fun h => ?_, fun ⟨h1, h2, m, h3, h4⟩ => ?_⟩⟩
  · obtain ⟨m, hd, hh⟩ := p.wh o h
    rcases hd with hd | ⟨hm, hS⟩
    · exact hd.elim
    · refine ⟨fun hf => ?_, hS, m, hm, hh⟩
      have nd2 := p.nd
      rw [p.eq, List.map_append, List.nodup_append] at nd2
      refine nd2.2.2 o hf o ?_ rfl
      rw [List.map_map]
      exact List.mem_map.mpr ⟨o, h, rfl⟩
  · have := p.al m o (.inr ⟨h3, h2⟩) h4
    rw [p.eq, List.map_append, List.mem_append] at this
    rcases this with z | z
    · exact absurd z h1
    · rw [List.map_map] at z
      obtain ⟨o', z1, z2⟩ := List.mem_map.mp z
      have : o' = o := z2
      rw [← this]
      exact z1
/-- reached within so many ticks -/
def RB (xs : List (Int × Int)) (S : List Nat) (r : Bool) (i : Nat) : Nat → Nat → Prop
  | 0, j => j = i
  | t + 1, j => RB xs S r i t j ∨ ∃ m, RB xs S r i t m ∧ j ∈ S ∧ hitB xs r m j = true
/-- reached first in this tick -/
def Fst (xs : List (Int × Int)) (S : List Nat) (r : Bool) (i u j : Nat) : Prop := RB xs S r i u j ∧ ∀ v, v < u → ¬ RB xs S r i v j
section
variable {xs : List (Int × Int)} {S : List Nat} {r : Bool} {i : Nat}
theorem RB.up {t u j : Nat} (h : RB xs S r i t j) (e : t ≤ u) : RB xs S r i u j := by
  induction u with
  | zero =>
    obtain rfl : t = 0 := by omega
    exact h
  | succ u ih =>
    by_cases q : t = u + 1
    · rw [← q]; exact h
    · exact .inl (ih (by omega))
theorem RB.first {t j : Nat} (h : RB xs S r i t j) : ∃ u, u ≤ t ∧ Fst xs S r i u j := by
  induction t using Nat.strongRecOn with
  | ind t ih =>
    by_cases q : ∃ v, v < t ∧ RB xs S r i v j
    · obtain ⟨v, h1, h2⟩ := q
      obtain ⟨u, h3, h4⟩ := ih v h1 h2
      exact ⟨u, by omega, h4⟩
    · exact ⟨t, Nat.le_refl _, h, fun v hv z => q ⟨v, hv, z⟩⟩
theorem Fst.eq {u v j : Nat} (a : Fst xs S r i u j) (b : Fst xs S r i v j) : u = v := by
  rcases Nat.lt_trichotomy u v with h | h | h
  · exact absurd a.1 (b.2 u h)
  · exact h
  · exact absurd b.1 (a.2 v h)
theorem iter_spec (t : Nat) : ((iter xs S r i t).1.map (·.1)).Nodup ∧ (∀ j u, (j, u) ∈ (iter xs S r i t).1 ↔ u ≤ t ∧ Fst xs S r i u j) ∧ ∀ j, j ∈ (iter xs S r i t).2 ↔ Fst xs S r i t j := by
  induction t with
  | zero =>
    refine ⟨by simp [iter], fun j u => ?_, fun j => ?_⟩
    · show (j, u) ∈ [(i, 0)] ↔ _
      rw [List.mem_singleton, Prod.mk.injEq]
      constructor
      · rintro ⟨rfl, rfl⟩
        exact ⟨Nat.le_refl _, rfl, fun v h => absurd h (Nat.not_lt_zero _)⟩
      · rintro ⟨h, h1, _⟩
        obtain rfl : u = 0 := by omega
        exact ⟨h1, rfl⟩
    · show j ∈ [i] ↔ _
      rw [List.mem_singleton]
      exact ⟨fun h => ⟨h, fun v h => absurd h (Nat.not_lt_zero _)⟩, fun h => h.1⟩
  | succ t ih =>
    obtain ⟨nd, hf, hl⟩ := ih
    have e : iter xs S r i (t + 1) = level xs S r (t + 1) ((iter xs S r i t).1, (iter xs S r i t).2) := rfl
    obtain ⟨q1, q2, q3⟩ := level_spec (xs := xs) (S := S) (r := r) (t := t + 1) (lv := (iter xs S r i t).2) nd
    rw [← e] at q1 q2 q3
    have key : ∀ j, j ∈ (iter xs S r i t).1.map (·.1) ↔ RB xs S r i t j := by
      intro j
      constructor
      · intro h
        obtain ⟨⟨j', u⟩, h1, rfl⟩ := List.mem_map.mp h
        obtain ⟨h2, h3⟩ := (hf j' u).mp h1
        exact h3.1.up h2
      · intro h
        obtain ⟨u, h1, h2⟩ := h.first
        exact List.mem_map.mpr ⟨(j, u), (hf j u).mpr ⟨h1, h2⟩, rfl⟩
    have lv : ∀ j, j ∈ (iter xs S r i (t + 1)).2 ↔ Fst xs S r i (t + 1) j := by
      intro j
      rw [q3 j, key j]
      constructor
      · rintro ⟨h1, h2, m, h3, h4⟩
        exact ⟨.inr ⟨m, ((hl m).mp h3).1, h2, h4⟩, fun v hv z => h1 (z.up (by omega))⟩
      · rintro ⟨h1, h2⟩
        have n := h2 t (Nat.lt_succ_self _)
        rcases h1 with h1 | ⟨m, h3, h4, h5⟩
        · exact absurd h1 n
        · refine ⟨n, h4, m, (hl m).mpr ?_, h5⟩
          obtain ⟨u, h6, h7⟩ := h3.first
          by_cases q : u = t
          · rw [← q]; exact h7
          · exact absurd (RB.up (t := u + 1) (.inr ⟨m, h7.1, h4, h5⟩) (by omega)) n
    refine ⟨q2, fun j u => ?_, lv⟩
    rw [q1, List.mem_append, hf j u]
    constructor
    · rintro (⟨h1, h2⟩ | h)
      · exact ⟨by omega, h2⟩
      · obtain ⟨o, h1, h2⟩ := List.mem_map.mp h
        cases h2
        exact ⟨Nat.le_refl _, (lv _).mp h1⟩
    · rintro ⟨h1, h2⟩
      by_cases q : u = t + 1
      · subst q
        exact .inr (List.mem_map.mpr ⟨j, (lv j).mpr h2, rfl⟩)
      · exact .inl ⟨by omega, h2⟩
theorem iter_sub (t : Nat) : ∀ j ∈ (iter xs S r i t).1.map (·.1), j = i ∨ j ∈ S := by
  intro j hj
  obtain ⟨⟨j', u⟩, h1, rfl⟩ := List.mem_map.mp hj
  obtain ⟨_, h3⟩ := ((iter_spec t).2.1 j' u).mp h1
  have : ∀ n k, RB xs S r i n k → k = i ∨ k ∈ S := by
    intro n
    induction n with
    | zero => intro k h; exact .inl h
    | succ n ih =>
      intro k h
      rcases h with h | ⟨m, _, h, _⟩
      · exact ih k h
      · exact .inr h
  exact this _ _ h3.1
theorem nodup_len {l m : List Nat} (h : l.Nodup) (s : ∀ x ∈ l, x ∈ m) : l.length ≤ m.length := by
  induction l generalizing m with
  | nil => simp
  | cons a l ih =>
    have hm := s a (by simp)
    have hn := List.nodup_cons.mp h
    have := ih (m := m.erase a) hn.2 fun x hx => by
      have : x ≠ a := fun e => hn.1 (e ▸ hx)
      exact (List.mem_erase_of_ne this).mpr (s x (by simp [hx]))
    rw [List.length_erase_of_mem hm] at this
    have : 0 < m.length := List.length_pos_of_mem hm
    simp
    omega
theorem iter_len (t : Nat) : (iter xs S r i t).1.length ≤ S.length + 1 := by
  have := nodup_len (l := (iter xs S r i t).1.map (·.1)) (m := i :: S) (iter_spec t).1 fun x hx => by
    rcases iter_sub t x hx with h | h
    · simp [h]
    · simp [h]
  simpa using this
/-- what falls as the turns go on: each round is longer, or is the last one -/
def meas (cap : Nat) (st : Wave) : Nat := 2 * (cap - st.1.length) + (if st.2 = [] then 0 else 1)
theorem iter_meas (t : Nat) (h : (iter xs S r i t).2 ≠ []) : meas (S.length + 1) (iter xs S r i (t + 1)) < meas (S.length + 1) (iter xs S r i t) := by
  have e : iter xs S r i (t + 1) = level xs S r (t + 1) ((iter xs S r i t).1, (iter xs S r i t).2) := rfl
  obtain ⟨q1, _, _⟩ := level_spec (xs := xs) (S := S) (r := r) (t := t + 1) (lv := (iter xs S r i t).2) (iter_spec t).1
  rw [← e] at q1
  have l1 := congrArg List.length q1
  rw [List.length_append, List.length_map] at l1
  have l2 := iter_len (xs := xs) (S := S) (r := r) (i := i) (t + 1)
  unfold meas
  rw [if_neg h]
  split
  · rename_i z
    rw [z] at l1
    simp at l1
    omega
  · rename_i z
    have : 0 < (iter xs S r i (t + 1)).2.length := List.length_pos_iff.mpr z
    omega
theorem iter_done {t : Nat} (h : (iter xs S r i t).2 = []) : ∀ n j, RB xs S r i n j → RB xs S r i t j := by
  intro n
  induction n with
  | zero => intro j hj; exact RB.up (t := 0) hj (Nat.zero_le _)
  | succ n ih =>
    intro j hj
    rcases hj with hj | ⟨m, h1, h2, h3⟩
    · exact ih j hj
    · obtain ⟨u, h4, h5⟩ := (ih m h1).first
      by_cases q : u = t
      · subst q
        have := ((iter_spec (xs := xs) (S := S) (r := r) (i := i) u).2.2 m).mpr h5
        rw [h] at this
        cases this
      · exact RB.up (t := u + 1) (.inr ⟨m, h5.1, h2, h3⟩) (by omega)
theorem iter_end {t : Nat} (h : (iter xs S r i t).2 = []) (j u : Nat) : (j, u) ∈ (iter xs S r i t).1 ↔ Fst xs S r i u j := by
  rw [(iter_spec t).2.1 j u]
  constructor
  · exact fun z => z.2
  · intro z
    refine ⟨?_, z⟩
    rcases Nat.lt_or_ge t u with q | q
    · exact absurd (iter_done h u j z.1) (z.2 t q)
    · exact q
end
/-! ### runs: mathematics -/
/-- places rise -/
def Inc (xs : List (Int × Int)) : Prop := ∀ (a b : Nat) (x y : Int × Int), a < b → xs[a]? = some x → xs[b]? = some y → x.1 < y.1
theorem Wf.inc : ∀ {xs : List (Int × Int)} {lo : Int}, Wf lo xs → Inc xs
  | [], _, _ => fun a b x y _ h => by simp at h
  | z :: xs, lo, w => fun a b x y hab hx hy => by
    cases b with
    | zero => omega
    | succ b =>
      simp at hy
      cases a with
      | zero =>
        simp at hx
        subst hx
        have := Wf.low w.2.2.2.2 hy
        omega
      | succ a =>
        simp at hx
        exact Wf.inc w.2.2.2.2 a b x y (by omega) hx hy
/-- place and height -/
def pl (xs : List (Int × Int)) (k : Nat) : Int := (xs.getD k (0, 0)).1
def ht (xs : List (Int × Int)) (k : Nat) : Int := (xs.getD k (0, 0)).2
theorem pl_of {xs : List (Int × Int)} {k : Nat} {x : Int × Int} (h : xs[k]? = some x) : pl xs k = x.1 ∧ ht xs k = x.2 := by
  unfold pl ht
  rw [List.getD_eq_getElem?_getD, h]
  exact ⟨rfl, rfl⟩
theorem Inc.pl {xs : List (Int × Int)} (h : Inc xs) {a b : Nat} (hab : a < b) (hb : b < xs.length) : pl xs a < pl xs b := by
  have ha : a < xs.length := by omega
  have e1 : xs[a]? = some xs[a] := by simp [ha]
  have e2 : xs[b]? = some xs[b] := by simp [hb]
  rw [(pl_of e1).1, (pl_of e2).1]
  exact h a b _ _ hab e1 e2
/-- m hits o on the side r -/
def Hit (xs : List (Int × Int)) (r : Bool) (m o : Nat) : Prop := m < xs.length ∧ o < xs.length ∧ (r = true → m < o ∧ pl xs o ≤ pl xs m + ht xs m) ∧ (r = false → o < m ∧ pl xs m ≤ pl xs o + ht xs m)
theorem hit_iff {xs : List (Int × Int)} (h : Inc xs) {r : Bool} {m o : Nat} : hitB xs r m o = true ↔ Hit xs r m o := by
  unfold hitB Hit
  by_cases hm : m < xs.length
  · by_cases ho : o < xs.length
    · have e1 : xs[m]? = some xs[m] := by simp [hm]
      have e2 : xs[o]? = some xs[o] := by simp [ho]
      rw [e1, e2]
      obtain ⟨p1, t1⟩ := pl_of e1
      obtain ⟨p2, _⟩ := pl_of e2
      rw [p1, p2, t1]
      simp only [hm, ho, true_and, Bool.and_eq_true, decide_eq_true_eq]
      have cmp : m < o ↔ (xs[m]).1 < (xs[o]).1 := by
        constructor
        · exact fun q => h m o _ _ q e1 e2
        · intro q
          rcases Nat.lt_trichotomy m o with z | z | z
          · exact z
          · subst z; omega
          · have := h o m _ _ z e2 e1; omega
      have cmp2 : o < m ↔ (xs[o]).1 < (xs[m]).1 := by
        constructor
        · exact fun q => h o m _ _ q e2 e1
        · intro q
          rcases Nat.lt_trichotomy m o with z | z | z
          · have := h m o _ _ z e1 e2; omega
          · subst z; omega
          · exact z
      cases r with
      | true =>
        unfold far
        simp only [if_true, forall_const, Bool.true_eq_false, false_implies, and_true]
        rw [cmp]
        omega
      | false =>
        unfold far
        simp only [Bool.false_eq_true, if_false, false_implies, true_and, forall_const]
        rw [cmp2]
        omega
    · have e2 : xs[o]? = none := by simp; omega
      rw [e2]
      constructor
      · intro q
        cases e1 : xs[m]? <;> rw [e1] at q <;> cases q
      · exact fun q => absurd q.2.1 ho
  · have e1 : xs[m]? = none := by simp; omega
    rw [e1]
    exact ⟨fun q => (nomatch q), fun q => absurd q.1 hm⟩
/-- how far the reach goes, told stone by stone -/
def dst (xs : List (Int × Int)) (p0 : Int) (k : Nat) : Int := ab (pl xs k - p0)
theorem mx_le {a b c : Int} : c ≤ mx a b ↔ c ≤ a ∨ c ≤ b := by unfold mx; split <;> omega
theorem scan_spec {xs : List (Int × Int)} {sd : List Bool} {p0 : Int} (up : ∀ o, o < xs.length → sd[o]? = some true) : ∀ (os : List Nat) (R : Int), (∀ o ∈ os, o < xs.length) →
    (∀ a o, a < (scan xs sd p0 R os).length → os[a]? = some o → dst xs p0 o ≤ R ∨ ∃ b u, b < a ∧ os[b]? = some u ∧ dst xs p0 o ≤ dst xs p0 u + ht xs u) ∧
    (∀ o, os[(scan xs sd p0 R os).length]? = some o → R < dst xs p0 o ∧ ∀ b u, b < (scan xs sd p0 R os).length → os[b]? = some u → dst xs p0 u + ht xs u < dst xs p0 o)
  | [], R, _ => ⟨fun a o _ h => by simp at h, fun o h => by simp at h⟩
  | o :: os, R, hlt => by
    have ho := hlt o (by simp)
    have e1 : xs[o]? = some xs[o] := by simp [ho]
    obtain ⟨p1, t1⟩ := pl_of e1
    have ed : dst xs p0 o = ab ((xs[o]).1 - p0) := by unfold dst; rw [p1]
    have es : scan xs sd p0 R (o :: os) = if ab ((xs[o]).1 - p0) > R then [] else o :: scan xs sd p0 (mx R (ab ((xs[o]).1 - p0) + (xs[o]).2)) os := by
      conv => lhs; unfold scan
      rw [e1]
      simp only [up o ho, if_true]
    rw [es]
    by_cases hg : ab ((xs[o]).1 - p0) > R
    · rw [if_pos hg]
      refine ⟨fun a o' h => absurd h (Nat.not_lt_zero _), fun o' h => ?_⟩
      simp at h
      subst h
      exact ⟨by rw [ed]; exact hg, fun b u h => absurd h (Nat.not_lt_zero _)⟩
    · rw [if_neg hg, ← ed, ← t1]
      obtain ⟨ih1, ih2⟩ := scan_spec (xs := xs) (sd := sd) (p0 := p0) up os (mx R (dst xs p0 o + ht xs o)) fun z hz => hlt z (by simp [hz])
      refine ⟨fun a o' h e => ?_, fun o' e => ?_⟩
      · cases a with
        | zero =>
          simp at e
          subst e
          exact .inl (by rw [ed]; omega)
        | succ a =>
          simp at e h
          rcases ih1 a o' h e with q | ⟨b, u, q1, q2, q3⟩
          · rcases mx_le.mp q with q | q
            · exact .inl q
            · exact .inr ⟨0, o, by omega, rfl, q⟩
          · exact .inr ⟨b + 1, u, by omega, by simpa using q2, q3⟩
      · simp at e
        obtain ⟨q1, q2⟩ := ih2 o' e
        have n1 : ¬ dst xs p0 o' ≤ mx R (dst xs p0 o + ht xs o) := by omega
        rw [mx_le] at n1
        refine ⟨by omega, fun b u h e' => ?_⟩
        cases b with
        | zero =>
          simp at e'
          subst e'
          omega
        | succ b =>
          simp at e' h
          exact q2 b u h e'
structure RunR (xs : List (Int × Int)) (i e : Nat) : Prop where
  le : i ≤ e
  lt : e < xs.length
  by_ : ∀ j, i < j → j ≤ e → ∃ m, i ≤ m ∧ m < j ∧ Hit xs true m j
  no : ∀ m j, i ≤ m → m ≤ e → e < j → ¬ Hit xs true m j
structure RunL (xs : List (Int × Int)) (i f : Nat) : Prop where
  le : f ≤ i
  lt : i < xs.length
  by_ : ∀ j, f ≤ j → j < i → ∃ m, j < m ∧ m ≤ i ∧ Hit xs false m j
  no : ∀ m j, f ≤ m → m ≤ i → j < f → ¬ Hit xs false m j
theorem besideR_get {i n a : Nat} (h : a < n - (i + 1)) : (beside true i n)[a]? = some (i + 1 + a) := by
  unfold beside
  rw [if_pos rfl, List.getElem?_map, List.getElem?_range h]
  rfl
theorem besideL_get {i n a : Nat} (h : a < i) : (beside false i n)[a]? = some (i - 1 - a) := by
  unfold beside
  rw [if_neg (by decide), List.getElem?_map, List.getElem?_range h]
  rfl
theorem reach_eq {xs : List (Int × Int)} {i : Nat} {r : Bool} (hi : i < xs.length) : reachN xs i r = (scan xs (allUp xs.length) (pl xs i) (ht xs i) (beside r i xs.length)).length := by
  have e1 : xs[i]? = some xs[i] := by simp [hi]
  obtain ⟨p1, t1⟩ := pl_of e1
  rw [p1, t1]
  unfold reachN felled
  rw [e1]
  simp
theorem runR {xs : List (Int × Int)} (h : Inc xs) {i : Nat} (hi : i < xs.length) : RunR xs i (run xs i true).2 := by
  have hle := reach_le (r := true) hi
  rw [besideR_len] at hle
  obtain ⟨s1, s2⟩ := scan_spec (xs := xs) (sd := allUp xs.length) (p0 := pl xs i) (fun o ho => allUp_get ho) (beside true i xs.length) (ht xs i) (beside_lt hi)
  rw [← reach_eq hi] at s1 s2
  show RunR xs i (i + reachN xs i true)
  generalize reachN xs i true = c at hle s1 s2
  have dR : ∀ k, i ≤ k → k < xs.length → dst xs (pl xs i) k = pl xs k - pl xs i := by
    intro k h1 h2
    unfold dst ab
    rcases Nat.lt_or_ge i k with q | q
    · have := h.pl q h2
      rw [if_neg (by omega)]
    · obtain rfl : k = i := by omega
      simp
  refine ⟨by omega, by omega, fun j h1 h2 => ?_, fun m j h1 h2 h3 hh => ?_⟩
  · have ej : (beside true i xs.length)[j - (i + 1)]? = some j := by rw [besideR_get (by omega)]; congr 1; omega
    have dj := dR j (by omega) (by omega)
    rcases s1 (j - (i + 1)) j (by omega) ej with q | ⟨b, u, q1, q2, q3⟩
    · exact ⟨i, Nat.le_refl _, h1, hi, by omega, fun _ => ⟨h1, by omega⟩, fun z => nomatch z⟩
    · rw [besideR_get (by omega)] at q2
      obtain rfl : i + 1 + b = u := Option.some.inj q2
      have du := dR (i + 1 + b) (by omega) (by omega)
      exact ⟨i + 1 + b, by omega, by omega, by omega, by omega, fun _ => ⟨by omega, by omega⟩, fun z => nomatch z⟩
  · obtain ⟨hm, hj, hr, _⟩ := hh
    obtain ⟨_, hr⟩ := hr rfl
    obtain ⟨q1, q2⟩ := s2 (i + 1 + c) (besideR_get (by omega))
    have dc := dR (i + 1 + c) (by omega) (by omega)
    have pj : pl xs (i + 1 + c) ≤ pl xs j := by
      rcases Nat.lt_or_ge (i + 1 + c) j with z | z
      · exact Int.le_of_lt (h.pl z hj)
      · obtain rfl : j = i + 1 + c := by omega
        exact Int.le_refl _
    rcases Nat.lt_or_ge i m with z | z
    · have q3 := q2 (m - (i + 1)) m (by omega) (by rw [besideR_get (by omega)]; congr 1; omega)
      have dm := dR m (by omega) (by omega)
      omega
    · obtain rfl : m = i := by omega
      omega
theorem runL {xs : List (Int × Int)} (h : Inc xs) {i : Nat} (hi : i < xs.length) : RunL xs i (run xs i false).1 := by
  have hle := reach_le (r := false) hi
  rw [besideL_len] at hle
  obtain ⟨s1, s2⟩ := scan_spec (xs := xs) (sd := allUp xs.length) (p0 := pl xs i) (fun o ho => allUp_get ho) (beside false i xs.length) (ht xs i) (beside_lt hi)
  rw [← reach_eq hi] at s1 s2
  show RunL xs i (i - reachN xs i false)
  generalize reachN xs i false = c at hle s1 s2
  have dR : ∀ k, k ≤ i → dst xs (pl xs i) k = pl xs i - pl xs k := by
    intro k h1
    unfold dst ab
    rcases Nat.lt_or_ge k i with q | q
    · have := h.pl q hi
      rw [if_pos (by omega)]
      omega
    · obtain rfl : k = i := by omega
      simp
  refine ⟨by omega, hi, fun j h1 h2 => ?_, fun m j h1 h2 h3 hh => ?_⟩
  · have ej : (beside false i xs.length)[i - 1 - j]? = some j := by rw [besideL_get (by omega)]; congr 1; omega
    have dj := dR j (by omega)
    rcases s1 (i - 1 - j) j (by omega) ej with q | ⟨b, u, q1, q2, q3⟩
    · exact ⟨i, h2, Nat.le_refl _, hi, by omega, fun z => (nomatch z), fun _ => ⟨h2, by omega⟩⟩
    · rw [besideL_get (by omega)] at q2
      obtain rfl : i - 1 - b = u := Option.some.inj q2
      have du := dR (i - 1 - b) (by omega)
      exact ⟨i - 1 - b, by omega, by omega, by omega, by omega, fun z => (nomatch z), fun _ => ⟨by omega, by omega⟩⟩
  · obtain ⟨hm, hj, _, hr⟩ := hh
    obtain ⟨_, hr⟩ := hr rfl
    obtain ⟨q1, q2⟩ := s2 (i - 1 - c) (besideL_get (by omega))
    have dc := dR (i - 1 - c) (by omega)
    have pj : pl xs j ≤ pl xs (i - 1 - c) := by
      rcases Nat.lt_or_ge j (i - 1 - c) with z | z
      · exact Int.le_of_lt (h.pl z (by omega))
      · obtain rfl : j = i - 1 - c := by omega
        exact Int.le_refl _
    rcases Nat.lt_or_ge m i with z | z
    · have q3 := q2 (i - 1 - m) m (by omega) (by rw [besideL_get (by omega)]; congr 1; omega)
      have dm := dR m (by omega)
      omega
    · obtain rfl : m = i := by omega
      omega
/-! ### pushes one after another: mathematics -/
def Reach (xs : List (Int × Int)) (S : List Nat) (r : Bool) (i j : Nat) : Prop := ∃ n, RB xs S r i n j
section
variable {xs : List (Int × Int)} {S T : List Nat} {r : Bool} {i : Nat}
theorem Reach.refl : Reach xs S r i i := ⟨0, rfl⟩
theorem Reach.step (hx : Inc xs) {m j : Nat} (h : Reach xs S r i m) (hj : j ∈ S) (hh : Hit xs r m j) : Reach xs S r i j := let ⟨n, h⟩ := h; ⟨n + 1, .inr ⟨m, h, hj, (hit_iff hx).mpr hh⟩⟩
theorem Reach.ind (hx : Inc xs) {P : Nat → Prop} (h0 : P i) (hs : ∀ m j, Reach xs S r i m → P m → j ∈ S → Hit xs r m j → P j) {j : Nat} (h : Reach xs S r i j) : P j := by
  obtain ⟨n, h⟩ := h
  induction n generalizing j with
  | zero => obtain rfl : j = i := h; exact h0
  | succ n ih =>
    rcases h with h | ⟨m, h1, h2, h3⟩
    · exact ih h
    · exact hs m j ⟨n, h1⟩ (ih h1) h2 ((hit_iff hx).mp h3)
theorem Reach.fst {j : Nat} : Reach xs S r i j ↔ ∃ u, Fst xs S r i u j :=
  ⟨fun ⟨_, h⟩ => let ⟨u, _, h2⟩ := h.first; ⟨u, h2⟩, fun ⟨u, h⟩ => ⟨u, h.1⟩⟩
noncomputable def after (xs : List (Int × Int)) (S : List Nat) (r : Bool) (i : Nat) : List Nat := S.filter fun j => @decide (¬ Reach xs S r i j) (Classical.propDecidable _)
theorem mem_after {j : Nat} : j ∈ after xs S r i ↔ j ∈ S ∧ ¬ Reach xs S r i j := by
  unfold after
  rw [List.mem_filter]
  exact ⟨fun h => ⟨h.1, @of_decide_eq_true _ (Classical.propDecidable _) h.2⟩, fun h => ⟨h.1, @decide_eq_true _ (Classical.propDecidable _) h.2⟩⟩
theorem right_ge (hx : Inc xs) {j : Nat} (h : Reach xs S true i j) : i ≤ j :=
  Reach.ind hx (P := fun j => i ≤ j) (Nat.le_refl _) (fun m j _ hm _ hh => Nat.le_trans hm (Nat.le_of_lt (hh.2.2.1 rfl).1)) h
theorem left_le (hx : Inc xs) {j : Nat} (h : Reach xs S false i j) : j ≤ i :=
  Reach.ind hx (P := fun j => j ≤ i) (Nat.le_refl _) (fun m j _ hm _ hh => Nat.le_trans (Nat.le_of_lt (hh.2.2.2 rfl).1) hm) h
theorem in_right (hx : Inc xs) {e j : Nat} (R : RunR xs i e) (h : Reach xs S true i j) : j ≤ e :=
  Reach.ind hx (P := fun j => j ≤ e) R.le (fun m j hr hm _ hh => by
    rcases Nat.lt_or_ge e j with q | q
    · exact absurd hh (R.no m j (right_ge hx hr) hm q)
    · exact q) h
theorem in_left (hx : Inc xs) {l f j : Nat} (R : RunL xs l f) (h1 : f ≤ i) (h2 : i ≤ l) (h : Reach xs S false i j) : f ≤ j :=
  Reach.ind hx (P := fun j => f ≤ j) h1 (fun m j hr hm _ hh => by
    rcases Nat.lt_or_ge j f with q | q
    · exact absurd hh (R.no m j hm (Nat.le_trans (left_le hx hr) h2) q)
    · exact q) h
theorem all_right (hx : Inc xs) {e e' : Nat} (R : RunR xs i e) (he : e' ≤ e) (hS : ∀ j, i < j → j ≤ e' → j ∈ S) : ∀ j, i ≤ j → j ≤ e' → Reach xs S true i j := by
  intro j
  induction j using Nat.strongRecOn with
  | ind j ih =>
    intro h1 h2
    by_cases q : j = i
    · subst q; exact .refl
    · obtain ⟨m, q1, q2, q3⟩ := R.by_ j (by omega) (by omega)
      exact (ih m q2 q1 (by omega)).step hx (hS j (by omega) h2) q3
theorem all_left (hx : Inc xs) {f : Nat} (R : RunL xs i f) (hS : ∀ j, f ≤ j → j < i → j ∈ S) : ∀ d j, f ≤ j → j ≤ i → i - j = d → Reach xs S false i j := by
  intro d
  induction d using Nat.strongRecOn with
  | ind d ih =>
    intro j h1 h2 hd
    by_cases q : j = i
    · subst q; exact .refl
    · obtain ⟨m, q1, q2, q3⟩ := R.by_ j h1 (by omega)
      exact (ih (i - m) (by omega) m (by omega) q2 rfl).step hx (hS j h1 (by omega)) q3
theorem cross_left (hx : Inc xs) {s j : Nat} (hs : s ∈ S) (hi : s ≤ i) (h : Reach xs S false i j) : j < s → Reach xs S false i s :=
  Reach.ind hx (P := fun j => j < s → Reach xs S false i s) (fun q => absurd q (by omega)) (fun m j hr ih _ hh hj => by
    rcases Nat.lt_trichotomy m s with q | q | q
    · exact ih q
    · exact q ▸ hr
    · obtain ⟨h1, h2, _, h3⟩ := hh
      obtain ⟨h3, h4⟩ := h3 rfl
      have := hx.pl hj (by omega)
      exact hr.step hx hs ⟨h1, by omega, fun z => (nomatch z), fun _ => ⟨q, by omega⟩⟩) h
theorem cross_right (hx : Inc xs) {s j : Nat} (hs : s ∈ S) (hi : i ≤ s) (h : Reach xs S true i j) : s ≤ j → Reach xs S true i s :=
  Reach.ind hx (P := fun j => s ≤ j → Reach xs S true i s) (fun q => by
    have e : s = i := by omega
    rw [e]
    exact .refl) (fun m j hr ih _ hh hj => by
    rcases Nat.lt_or_ge m s with q | q
    · obtain ⟨h1, h2, h3, _⟩ := hh
      obtain ⟨h3, h4⟩ := h3 rfl
      have : pl xs s ≤ pl xs j := by
        rcases Nat.lt_or_ge s j with z | z
        · exact Int.le_of_lt (hx.pl z h2)
        · obtain rfl : s = j := by omega
          exact Int.le_refl _
      exact hr.step hx hs ⟨h1, by omega, fun _ => ⟨q, by omega⟩, fun z => (nomatch z)⟩
    · exact ih q) h
end
/-! ### the law's own wave, stone by stone -/
def kvs (fs : List (Nat × Nat)) : List (Key × V) := fs.map fun p => ((Sum.inl (p.1 : Int) : Key), V.int (p.2 : Int))
theorem kvs_none {fs : List (Nat × Nat)} {o : Nat} : valV (kvs fs) (Sum.inl (o : Int) : Key) = none ↔ o ∉ fs.map (·.1) := by
  induction fs with
  | nil => exact ⟨fun _ h => (nomatch h), fun _ => rfl⟩
  | cons p fs ih =>
    have c : kvs (p :: fs) = ((Sum.inl (p.1 : Int) : Key), V.int (p.2 : Int)) :: kvs fs := rfl
    rw [c]
    by_cases e : p.1 = o
    · rw [valV_pos (by rw [e])]
      simp [e]
    · rw [valV_neg (by intro h; injection h with h; omega), ih]
      simp only [List.map_cons, List.mem_cons, not_or]
      exact ⟨fun h => ⟨fun z => e z.symm, h⟩, fun h => h.2⟩
theorem kvs_put {fs : List (Nat × Nat)} {o t : Nat} (h : o ∉ fs.map (·.1)) : putK (kvs fs) (Sum.inl (o : Int) : Key) (V.int (t : Int)) = kvs (fs ++ [(o, t)]) := by
  rw [putK_new _ (kvs_none.mpr h)]
  unfold kvs
  simp
theorem kvs_len (fs : List (Nat × Nat)) : (kvs fs).length = fs.length := by unfold kvs; simp
/-- lists of ints as data -/
def intD (ns : List Nat) : PyData := .list (ns.map fun (k : Nat) => PyData.int (k : Int))
theorem ints_all {K : PySem.W.Frag} {H : Hp} : ∀ ns : List Nat, DpAll K H (ivs ns) (ns.map fun (k : Nat) => PyData.int (k : Int))
  | [] => .nil
  | k :: ns => .cons (.int k) (ints_all ns)
theorem ints_dp {K : PySem.W.Frag} {H : Hp} {a : Addr} {ns : List Nat} (h : SqL K H a (ivs ns)) : Dp K H (.ref a) (intD ns) := .lst h (ints_all ns)
theorem lay_ints : ∀ ns : List Nat, PyData.canLayAll0 (ns.map fun (k : Nat) => PyData.int (k : Int)) = true
  | [] => by simp [PyData.canLayAll0]
  | k :: ns => by simp [PyData.canLayAll0, PyData.canLay0, lay_ints ns]
theorem deep_ints : ∀ ns : List Nat, PyData.depthAll (ns.map fun (k : Nat) => PyData.int (k : Int)) ≤ 1
  | [] => by simp [PyData.depthAll]
  | k :: ns => by
    have := deep_ints ns
    simp only [List.map_cons, PyData.depthAll, PyData.depth]
    omega
theorem ints_shaped (ns : List Nat) : SeqAt.shaped (intD ns) = true := by
  have h1 := deep_ints ns
  have h2 : PyData.depth (intD ns) ≤ 64 := by unfold intD; simp only [PyData.depth]; omega
  show (PyData.canLay0 (intD ns) && decide (PyData.depth (intD ns) ≤ 64)) = true
  rw [Bool.and_eq_true]
  exact ⟨by unfold intD; simp only [PyData.canLay0]; exact lay_ints ns, decide_eq_true h2⟩
theorem ints_nil (ns : List Nat) : PyData.eqv (intD ns) (intD []) = ns.isEmpty := by
  cases ns with
  | nil => simp [intD, PyData.eqv, PyData.eqvAll]
  | cons k ns => simp [intD, PyData.eqv, PyData.eqvAll]
theorem same_upd {H H1 : Hp} {p : Addr} {o : HO} (e : Same H H1) (h : H p = none) : Same H (upd H1 p o) := fun b u q => by rw [upd_ne (ne_of_none q h)]; exact e _ _ q
/-- A if side == "right" else B, where both come to the same letter -/
theorem if_side {n : Nat} {σ : L2.St} {H : Hp} {Q : VK} {ta tb : TE} {r : Bool} {v : V} (h3 : σ[n]? = some (some (.str (sideS r)))) (ha : r = true → ∀ Q : VK, Q v H → ta σ H Q) (hb : r = false → ∀ Q : VK, Q v H → tb σ H Q) (q : Q v H) :
    tIf (tTest (tOp rEq (tVar n) (tC (.str "right")))) ta tb σ H Q := by
  refine ⟨_, h3, rfl, _, rfl, ?_⟩
  rw [right_eq]
  cases r with
  | true => exact iteT (ha rfl Q q)
  | false => exact iteF (hb rfl Q q)
theorem in_len {xs : List (Int × Int)} {r : Bool} {t m : Nat} : ∀ (L : List Nat) (st : Wave), (L.foldl (stepIn xs r t m) st).1.length ≤ st.1.length + L.length ∧ (L.foldl (stepIn xs r t m) st).2.length ≤ st.2.length + L.length
  | [], st => by simp
  | o :: L, st => by
    have ih := in_len (xs := xs) (r := r) (t := t) (m := m) L (stepIn xs r t m st o)
    have h : (stepIn xs r t m st o).1.length ≤ st.1.length + 1 ∧ (stepIn xs r t m st o).2.length ≤ st.2.length + 1 := by
      unfold stepIn
      split
      · simp
      · omega
    simp only [List.foldl_cons, List.length_cons]
    omega
theorem lv_len {xs : List (Int × Int)} {S : List Nat} {r : Bool} {t : Nat} : ∀ (L : List Nat) (st : Wave), (L.foldl (stepLv xs S r t) st).1.length ≤ st.1.length + L.length * S.length ∧ (L.foldl (stepLv xs S r t) st).2.length ≤ st.2.length + L.length * S.length
  | [], st => by simp
  | m :: L, st => by
    have ih := lv_len (xs := xs) (S := S) (r := r) (t := t) L (stepLv xs S r t st m)
    have h := in_len (xs := xs) (r := r) (t := t) (m := m) S st
    have e : stepLv xs S r t st m = S.foldl (stepIn xs r t m) st := rfl
    rw [e] at ih
    simp only [List.foldl_cons, List.length_cons, e, Nat.add_mul, Nat.one_mul]
    omega
theorem lvl_len {xs : List (Int × Int)} {S : List Nat} {r : Bool} {i : Nat} : ∀ t : Nat, (iter xs S r i t).2.length ≤ (iter xs S r i t).1.length
  | 0 => by simp [iter]
  | t + 1 => by
    have e : iter xs S r i (t + 1) = level xs S r (t + 1) ((iter xs S r i t).1, (iter xs S r i t).2) := rfl
    have q := (level_spec (xs := xs) (S := S) (r := r) (t := t + 1) (lv := (iter xs S r i t).2) (iter_spec (xs := xs) (S := S) (r := r) (i := i) t).1).1
    rw [← e] at q
    have l := congrArg List.length q
    rw [List.length_append, List.length_map] at l
    omega
/-! ### the stones of a row, and rows that are equal -/
def stD (x : Int × Int) : PyData := .tuple [.int x.1, .int x.2]
def stonesD (xs : List (Int × Int)) : PyData := .tuple (xs.map stD)
theorem canLay_stones : ∀ xs : List (Int × Int), PyData.canLayAll0 (xs.map stD) = true
  | [] => rfl
  | x :: xs => by
    show PyData.canLayAll0 (stD x :: xs.map stD) = true
    rw [PyData.canLayAll0, canLay_stones xs]
    simp [stD, PyData.canLay0, PyData.canLayAll0]
theorem depth_stones : ∀ xs : List (Int × Int), PyData.depthAll (xs.map stD) ≤ 2
  | [] => by simp [PyData.depthAll]
  | x :: xs => by
    have := depth_stones xs
    rw [List.map_cons]
    simp only [stD, PyData.depthAll, PyData.depth]
    omega
theorem stones_shaped (xs : List (Int × Int)) : SeqAt.shaped (stonesD xs) = true := by
  unfold SeqAt.shaped stonesD
  rw [Bool.and_eq_true]
  refine ⟨by rw [PyData.canLay0, canLay_stones xs], decide_eq_true ?_⟩
  have := depth_stones xs
  rw [PyData.depth]
  omega
theorem eqv_stones (xs : List (Int × Int)) : PyData.eqv (stonesD xs) (stonesD xs) = true := SeqAt.eqv_refl _ (SeqAt.canLay_of_shaped (stones_shaped xs))
theorem stones_all {K : PySem.W.Frag} {H : Hp} : ∀ {us : List V} {xs : List (Int × Int)}, StonesAt K H us xs → DpAll K H us (xs.map stD)
  | [], [], _ => .nil
  | [], _ :: _, h => by have := h.1; simp at this
  | _ :: _, [], h => by have := h.1; simp at this
  | u :: us, x :: xs, h => by
    obtain ⟨a, ha, sa⟩ := h.2 0 x rfl
    have e : u = .ref a := by simpa using ha
    subst e
    refine .cons (.tup sa (.cons (.int _) (.cons (.int _) .nil))) (stones_all ⟨by have := h.1; simpa using this, fun k y q => ?_⟩)
    obtain ⟨b, hb, sb⟩ := h.2 (k + 1) y (by simpa using q)
    exact ⟨b, by simpa using hb, sb⟩
theorem stones_dp {K : PySem.W.Frag} {H : Hp} {t : Addr} {us : List V} {xs : List (Int × Int)} (hT : SqT K H t us) (hS : StonesAt K H us xs) : Dp K H (.ref t) (stonesD xs) := .tup hT (stones_all hS)
def spGet (K : PySem.W.Frag) (C : Addr) : Sp := fun vs H Q _ => ∃ p xs, vs = [.ref p] ∧ RowAt K C H p xs ∧ ∀ t us, SqT K H t us → StonesAt K H us xs → Q (.ref t) H
/-- of two rows of the same stones -/
def spSame (K : PySem.W.Frag) (C : Addr) : Sp := fun vs H Q _ => ∃ p q xs, vs = [.ref p, .ref q] ∧ RowAt K C H p xs ∧ RowAt K C H q xs ∧ Q (.bl true) H
section
variable {P : Program} {w : World} {K : PySem.W.Frag} {mg : Str → Option Value} {base : Heap}
theorem ok_get {f C : Addr} {fd : FuncData} (F : Fun K "stones" "Row.stones" s_Row_stones f fd) (R : RowC K mg C) : FnOk P w K mg base CX0 1 f fd ["self"] (spGet K C) := by
  refine F.ok sc_Row_stones (fun vs H Q E h => ?_) (fun cdv A outer s H vs Q E hr h => ?_)
  · obtain ⟨p, xs, rfl, _⟩ := h
    rfl
  · obtain ⟨p, xs, rfl, ⟨dx, t, us, hp, hT, hS⟩, k⟩ := h
    refine ⟨_, pss_one (ps_ret (pe_fld (pv 0) rfl)), ?_⟩
    exact ⟨_, rfl, p, C, dx, _, _, rfl, hp, R.cl, R.nS, rfl, k t us hT hS⟩
theorem ok_same {f C : Addr} {fd : FuncData} (F : Fun K "__eq__" "Row.__eq__" s_Row_eq f fd) (B : Blt mg) (R : RowC K mg C) : FnOk P w K mg base CX0 1 f fd ["self", "other"] (spSame K C) := by
  refine F.ok sc_Row_eq (fun vs H Q E h => ?_) (fun cdv A outer s H vs Q E hr h => ?_)
  · obtain ⟨p, q, xs, rfl, _⟩ := h
    rfl
  · obtain ⟨p, q, xs, rfl, ⟨dx, t, us, hp, hT, hS⟩, ⟨dy, t', us', hq, hT', hS'⟩, k⟩ := h
    refine ⟨_, pss_one (ps_ret (pe_and (pe_callB (call_isi) (by rfl) B.isinstance boot_isinstance (pa_cons (pv 1) (pa_cons (pe_glob (v := .ref C) (by rfl) R.mgC rfl) pa_nil))) (pe_one (pe_cmpR (op_eqD hr.units) (pe_fld (pv 0) rfl) (pe_fld (pv 1) rfl) (nomark _))))), ?_⟩
    refine ⟨_, rfl, _, .ref C, _, _, true, rfl, .own C, R.ty hq, kit_self, true, rfl, ?_⟩
    refine iteT ⟨_, rfl, p, C, dx, _, _, rfl, hp, R.cl, R.nS, rfl, _, rfl, q, C, dy, _, _, rfl, hq, R.cl, R.nS, rfl, stonesD xs, stonesD xs, stones_dp hT hS, stones_dp hT' hS', stones_shaped xs, stones_shaped xs, ?_⟩
    rw [eqv_stones]
    exact k
end
/-! ### ticks, one stone after another -/
/-- so many stones beside stone i -/
def bpos (r : Bool) (i d : Nat) : Nat := if r then i + d else i - d
def bmax (r : Bool) (i n : Nat) : Nat := if r then n - (i + 1) else i
theorem beside_at {r : Bool} {i n k : Nat} (h : k < bmax r i n) : (beside r i n)[k]? = some (bpos r i (k + 1)) := by
  cases r with
  | true =>
    have h : k < n - (i + 1) := h
    rw [besideR_get h]
    show some (i + 1 + k) = some (i + (k + 1))
    congr 1; omega
  | false =>
    have h : k < i := h
    rw [besideL_get h]
    show some (i - 1 - k) = some (i - (k + 1))
    congr 1; omega
theorem beside_length (r : Bool) (i n : Nat) : (beside r i n).length = bmax r i n := by cases r <;> simp [beside, bmax]
def touch (xs : List (Int × Int)) (m o : Nat) : Bool := decide (ab (pl xs o - pl xs m) ≤ ht xs m)
theorem touch_hit {xs : List (Int × Int)} (h : Inc xs) {r : Bool} {i d e : Nat} (hi : i < xs.length) (hd : d < e) (he : e ≤ bmax r i xs.length) : touch xs (bpos r i d) (bpos r i e) = true ↔ Hit xs r (bpos r i d) (bpos r i e) := by
  unfold touch
  rw [decide_eq_true_eq]
  cases r with
  | true =>
    have he : e ≤ xs.length - (i + 1) := he
    show ab (pl xs (i + e) - pl xs (i + d)) ≤ ht xs (i + d) ↔ Hit xs true (i + d) (i + e)
    have := h.pl (a := i + d) (b := i + e) (by omega) (by omega)
    constructor
    · intro q
      unfold ab at q
      refine ⟨by omega, by omega, fun _ => ⟨by omega, ?_⟩, fun z => nomatch z⟩
      split at q <;> omega
    · intro q
      have := (q.2.2.1 rfl).2
      unfold ab
      split <;> omega
  | false =>
    have he : e ≤ i := he
    show ab (pl xs (i - e) - pl xs (i - d)) ≤ ht xs (i - d) ↔ Hit xs false (i - d) (i - e)
    have := h.pl (a := i - e) (b := i - d) (by omega) (by omega)
    constructor
    · intro q
      unfold ab at q
      refine ⟨by omega, by omega, (fun z => nomatch z), fun _ => ⟨by omega, ?_⟩⟩
      split at q <;> omega
    · intro q
      have := (q.2.2.2 rfl).2
      unfold ab
      split <;> omega
theorem hit_ahead {xs : List (Int × Int)} {r : Bool} {i m e : Nat} (he : e ≤ bmax r i xs.length) (q : Hit xs r m (bpos r i e)) (hm : ∃ d, d ≤ bmax r i xs.length ∧ m = bpos r i d) : ∃ d, d < e ∧ m = bpos r i d := by
  obtain ⟨d, hd, rfl⟩ := hm
  refine ⟨d, ?_, rfl⟩
  cases r with
  | true =>
    have := (q.2.2.1 rfl).1
    have this : i + d < i + e := this
    omega
  | false =>
    have := (q.2.2.2 rfl).1
    have this : i - e < i - d := this
    omega
theorem rb_pos {xs : List (Int × Int)} (h : Inc xs) {r : Bool} {i t j : Nat} (hi : i < xs.length) (q : RB xs (List.range xs.length) r i t j) : ∃ d, d ≤ bmax r i xs.length ∧ j = bpos r i d := by
  have hr : Reach xs (List.range xs.length) r i j := ⟨t, q⟩
  have hj : j < xs.length := by
    cases t with
    | zero => obtain rfl : j = i := q; exact hi
    | succ t =>
      refine Reach.ind h (P := fun j => j < xs.length) hi (fun m j _ _ hj _ => List.mem_range.mp hj) hr
  cases r with
  | true =>
    have := right_ge h hr
    exact ⟨j - i, by show j - i ≤ xs.length - (i + 1); omega, by show j = i + (j - i); omega⟩
  | false =>
    have := left_le h hr
    exact ⟨i - j, by show i - j ≤ i; omega, by show j = i - (i - j); omega⟩
theorem bpos_lt {r : Bool} {i n d : Nat} (hi : i < n) (hd : d ≤ bmax r i n) : bpos r i d < n := by
  cases r with
  | true => have hd : d ≤ n - (i + 1) := hd; show i + d < n; omega
  | false => show i - d < n; omega
theorem bpos_inj {r : Bool} {i n d e : Nat} (hd : d ≤ bmax r i n) (he : e ≤ bmax r i n) (q : bpos r i d = bpos r i e) : d = e := by
  cases r with
  | true => have q : i + d = i + e := q; omega
  | false => have q : i - d = i - e := q; have hd : d ≤ i := hd; have he : e ≤ i := he; omega
/-- the ticks of so many stones beside the pushed one are known -/
structure TickI (xs : List (Int × Int)) (r : Bool) (i k : Nat) (fs : List (Nat × Nat)) : Prop where
  nd : (fs.map (·.1)).Nodup
  has : ∀ j u, (j, u) ∈ fs ↔ (∃ d, d ≤ k ∧ j = bpos r i d) ∧ Fst xs (List.range xs.length) r i u j
  len : fs.length ≤ k + 1
def nearT (xs : List (Int × Int)) (fs : List (Nat × Nat)) (o : Nat) : List Nat := (fs.filter fun p => touch xs p.1 o).map (·.2)
theorem fst_zero {xs : List (Int × Int)} {r : Bool} {i u : Nat} {S : List Nat} : Fst xs S r i u i ↔ u = 0 := by
  constructor
  · intro h
    refine Nat.eq_zero_of_not_pos fun q => h.2 0 q rfl
  · rintro rfl
    exact ⟨rfl, fun v h => absurd h (Nat.not_lt_zero _)⟩
theorem TickI.start {xs : List (Int × Int)} {r : Bool} {i : Nat} : TickI xs r i 0 [(i, 0)] := by
  refine ⟨by simp, fun j u => ?_, Nat.le_refl _⟩
  rw [List.mem_singleton, Prod.mk.injEq]
  constructor
  · rintro ⟨rfl, rfl⟩
    exact ⟨⟨0, Nat.le_refl _, by cases r <;> rfl⟩, fst_zero.mpr rfl⟩
  · rintro ⟨⟨d, hd, rfl⟩, h⟩
    obtain rfl : d = 0 := by omega
    have e : bpos r i 0 = i := by cases r <;> rfl
    rw [e] at h ⊢
    exact ⟨rfl, fst_zero.mp h⟩
theorem near_sound {xs : List (Int × Int)} (h : Inc xs) {r : Bool} {i k : Nat} {fs : List (Nat × Nat)} (hi : i < xs.length) (T : TickI xs r i k fs) (hk : k < bmax r i xs.length) {u : Nat} (hu : u ∈ nearT xs fs (bpos r i (k + 1))) :
    RB xs (List.range xs.length) r i (u + 1) (bpos r i (k + 1)) := by
  obtain ⟨⟨m, u'⟩, hm, rfl⟩ := List.mem_map.mp hu
  obtain ⟨hm, ht⟩ := List.mem_filter.mp hm
  obtain ⟨⟨d, hd, rfl⟩, hf⟩ := (T.has m u').mp hm
  refine .inr ⟨bpos r i d, hf.1, List.mem_range.mpr (bpos_lt hi hk), (hit_iff h).mpr ((touch_hit h hi (by omega) hk).mp ht)⟩
theorem near_full {xs : List (Int × Int)} (h : Inc xs) {r : Bool} {i k : Nat} {fs : List (Nat × Nat)} (hi : i < xs.length) (T : TickI xs r i k fs) (hk : k < bmax r i xs.length) :
    ∀ t, RB xs (List.range xs.length) r i t (bpos r i (k + 1)) → ∃ u ∈ nearT xs fs (bpos r i (k + 1)), u + 1 ≤ t
  | 0, q => by
    have q : bpos r i (k + 1) = i := q
    have e : bpos r i 0 = i := by cases r <;> rfl
    have := bpos_inj (r := r) (i := i) (n := xs.length) (d := k + 1) (e := 0) hk (Nat.zero_le _) (q.trans e.symm)
    omega
  | t + 1, .inl q => by
    obtain ⟨u, h1, h2⟩ := near_full h hi T hk t q
    exact ⟨u, h1, by omega⟩
  | t + 1, .inr ⟨m, q1, _, q3⟩ => by
    have hh := (hit_iff h).mp q3
    obtain ⟨d, hd, rfl⟩ := hit_ahead hk hh (rb_pos h hi q1)
    obtain ⟨u, hu, hf⟩ := q1.first
    exact ⟨u, List.mem_map.mpr ⟨(bpos r i d, u), List.mem_filter.mpr ⟨(T.has _ _).mpr ⟨⟨d, by omega, rfl⟩, hf⟩, (touch_hit h hi hd hk).mpr hh⟩, rfl⟩, by omega⟩
theorem TickI.none {xs : List (Int × Int)} (h : Inc xs) {r : Bool} {i k : Nat} {fs : List (Nat × Nat)} (hi : i < xs.length) (T : TickI xs r i k fs) (hk : k < bmax r i xs.length) (e : nearT xs fs (bpos r i (k + 1)) = []) : TickI xs r i (k + 1) fs := by
  refine ⟨T.nd, fun j u => (T.has j u).trans ?_, by have := T.len; omega⟩
  constructor
  · rintro ⟨⟨d, hd, rfl⟩, hf⟩
    exact ⟨⟨d, by omega, rfl⟩, hf⟩
  · rintro ⟨⟨d, hd, rfl⟩, hf⟩
    refine ⟨⟨d, ?_, rfl⟩, hf⟩
    by_cases q : d = k + 1
    · subst q
      obtain ⟨u', h1, _⟩ := near_full h hi T hk u hf.1
      rw [e] at h1
      cases h1
    · omega
theorem TickI.some {xs : List (Int × Int)} (h : Inc xs) {r : Bool} {i k m : Nat} {fs : List (Nat × Nat)} (hi : i < xs.length) (T : TickI xs r i k fs) (hk : k < bmax r i xs.length) (hm : m ∈ nearT xs fs (bpos r i (k + 1))) (hl : ∀ y ∈ nearT xs fs (bpos r i (k + 1)), m ≤ y) :
    (bpos r i (k + 1) ∉ fs.map (·.1)) ∧ TickI xs r i (k + 1) (fs ++ [(bpos r i (k + 1), m + 1)]) := by
  have new : bpos r i (k + 1) ∉ fs.map (·.1) := fun z => by
    obtain ⟨⟨j, u⟩, hj, e⟩ := List.mem_map.mp z
    obtain ⟨⟨d, hd, e2⟩, _⟩ := (T.has j u).mp hj
    have e : j = bpos r i (k + 1) := e
    have := bpos_inj (r := r) (i := i) (n := xs.length) (d := d) (e := k + 1) (by omega) hk (e2.symm.trans e)
    omega
  have hf : Fst xs (List.range xs.length) r i (m + 1) (bpos r i (k + 1)) := ⟨near_sound h hi T hk hm, fun v hv q => by
    obtain ⟨u, h1, h2⟩ := near_full h hi T hk v q
    have := hl u h1
    omega⟩
  refine ⟨new, ?_, fun j u => ?_, by have := T.len; simp; omega⟩
  · rw [List.map_append, List.nodup_append]
    refine ⟨T.nd, by simp, fun a ha b hb e => ?_⟩
    simp at hb
    subst e hb
    exact new ha
  · rw [List.mem_append, T.has, List.mem_singleton, Prod.mk.injEq]
    constructor
    · rintro (⟨⟨d, hd, rfl⟩, q⟩ | ⟨rfl, rfl⟩)
      · exact ⟨⟨d, by omega, rfl⟩, q⟩
      · exact ⟨⟨k + 1, Nat.le_refl _, rfl⟩, hf⟩
    · rintro ⟨⟨d, hd, rfl⟩, q⟩
      by_cases e : d = k + 1
      · subst e
        exact .inr ⟨rfl, q.eq hf⟩
      · exact .inl ⟨⟨d, by omega, rfl⟩, q⟩
theorem TickI.all {xs : List (Int × Int)} (h : Inc xs) {r : Bool} {i : Nat} {fs : List (Nat × Nat)} (hi : i < xs.length) (T : TickI xs r i (bmax r i xs.length) fs) (j u : Nat) : (j, u) ∈ fs ↔ Fst xs (List.range xs.length) r i u j := by
  rw [T.has]
  exact ⟨fun q => q.2, fun q => ⟨rb_pos h hi q.1, q⟩⟩
/-- the ticks of a push, by the stones' numbers -/
structure Ticks (xs : List (Int × Int)) (r : Bool) (i : Nat) (gs : List (Nat × Nat)) : Prop where
  up : gs.Pairwise fun a b => a.1 < b.1
  has : ∀ j u, (j, u) ∈ gs ↔ Fst xs (List.range xs.length) r i u j
  len : gs.length ≤ xs.length
theorem key_one {fs : List (Nat × Nat)} (nd : (fs.map (·.1)).Nodup) {j u v : Nat} (h1 : (j, u) ∈ fs) (h2 : (j, v) ∈ fs) : u = v := by
  induction fs with
  | nil => cases h1
  | cons p fs ih =>
    rw [List.map_cons, List.nodup_cons] at nd
    rcases List.mem_cons.mp h1 with e1 | g1
    · rcases List.mem_cons.mp h2 with e2 | g2
      · exact congrArg Prod.snd (e1.trans e2.symm)
      · rw [← e1] at nd
        exact absurd (show j ∈ fs.map (·.1) from List.mem_map.mpr ⟨(j, v), g2, rfl⟩) nd.1
    · rcases List.mem_cons.mp h2 with e2 | g2
      · rw [← e2] at nd
        exact absurd (show j ∈ fs.map (·.1) from List.mem_map.mpr ⟨(j, u), g1, rfl⟩) nd.1
      · exact ih nd.2 g1 g2
/-! ### comprehensions that filter and map -/
theorem paired_snoc {α β : Type} {F : α → β → Prop} : ∀ {xs : List α} {ys : List β} {x : α} {y : β}, Paired F xs ys → F x y → Paired F (xs ++ [x]) (ys ++ [y])
  | _, _, _, _, .nil, h => .cons h .nil
  | _, _, _, _, .cons a t, h => .cons a (paired_snoc t h)
theorem paired_imp {α β : Type} {F G : α → β → Prop} (i : ∀ x y, F x y → G x y) : ∀ {xs : List α} {ys : List β}, Paired F xs ys → Paired G xs ys
  | _, _, .nil => .nil
  | _, _, .cons a t => .cons (i _ _ a) (paired_imp i t)
theorem paired_at {α β : Type} {F : α → β → Prop} : ∀ {xs : List α} {ys : List β} {i : Nat} {y : β}, Paired F xs ys → ys[i]? = some y → ∃ x, xs[i]? = some x ∧ F x y
  | _, _, _, _, .nil, h => by simp at h
  | _, _, 0, _, .cons a _, h => by simp at h; subst h; exact ⟨_, rfl, a⟩
  | _, _, i + 1, _, .cons _ t, h => by
    obtain ⟨x, h1, h2⟩ := paired_at (i := i) t (by simpa using h)
    exact ⟨x, by simpa using h1, h2⟩
theorem paired_len {α β : Type} {F : α → β → Prop} : ∀ {xs : List α} {ys : List β}, Paired F xs ys → xs.length = ys.length
  | _, _, .nil => rfl
  | _, _, .cons _ t => congrArg (· + 1) (paired_len t)
theorem paired_eq {α β : Type} (f : β → α) : ∀ {xs : List α} {ys : List β}, Paired (fun x y => x = f y) xs ys → xs = ys.map f
  | _, _, .nil => rfl
  | _, _, .cons a t => by rw [List.map_cons, ← paired_eq f t, a]
theorem lc_fm {J : It} {n : Nat} {Gd : Hp → Prop} {Y : Nat → Hp → V → Hp → Prop} (w : Walk J n Gd Y) {g : TG} {tt : TT} {te : TE} {vs : List Nat} {σ : L2.St} {H1 : Hp} {D : Addr} {Qd : Hp → Prop} {α β : Type} (as : List α) (p : α → Bool) (f : α → β) (Rel : Hp → V → β → Prop)
    (hn : as.length = n) (hz : n < 1000000) (nD : H1 D = none) (stab : ∀ H H' v b acc, H D = some (.lst acc) → But D H H' → Rel H v b → Rel H' v b) (hG : ∀ G, Same H1 G → Gd G)
    (step : ∀ (i : Nat) (a : α) (x : V) (G G' : Hp) (N : Hp → Prop) (M : V → Hp → Prop), as[i]? = some a → Same H1 G → G D ≠ none → Y i G x G' → (∀ H3, p a = false → Same G H3 → N H3) → (∀ y H4, p a = true → Same G H4 → Rel H4 y (f a) → M y H4) →
      g x (wipe σ vs) G' fun σ2 H2 => wipe σ2 vs = wipe σ vs ∧ tt σ2 H2 fun b H3 => if b = true then te σ2 H3 M else N H3)
    (hd : ∀ G ys, Same H1 G → G D = some (.lst ys) → Paired (Rel G) ys ((as.filter p).map f) → Qd G) :
    ∃ W : Nat → Nat → Hp → Prop, (∃ m, W 0 m (upd H1 D (.lst []))) ∧ ∀ i m H, W i m H →
      (J.stop i H ∧ Qd H) ∨ (J.go i H ∧ ∃ Nx : Hp → Prop, (∀ H', Nx H' → ∃ m', m' < m ∧ W (i + 1) m' H') ∧ ∀ x H', J.yld i H x H' → g x (wipe σ vs) H' fun σ2 H2 => wipe σ2 vs = wipe σ vs ∧ tt σ2 H2 fun b H3 =>
        if b = true then te σ2 H3 fun y H4 => ∃ acc, H4 D = some (.lst acc) ∧ acc.length < sizeLine ∧ Nx (upd H4 D (.lst (acc ++ [y]))) else Nx H3) := by
  refine lc_it w (fun i G => But D H1 G ∧ ∃ ys, G D = some (.lst ys) ∧ ys.length ≤ i ∧ Paired (Rel G) ys (((as.take i).filter p).map f)) ⟨but_upd, [], upd_same, Nat.le_refl _, .nil⟩ (fun i G _ h => hG G (But.same h.1 nD)) (fun i x G G' hi h y => ?_) fun G h => ?_
  · obtain ⟨b, ys, e, hl, rel⟩ := h
    obtain ⟨a, ha⟩ : ∃ a, as[i]? = some a := ⟨as[i]'(by omega), by simp⟩
    refine step i a x G G' _ _ ha (But.same b nD) (by rw [e]; exact fun z => nomatch z) y (fun H3 hp s => ?_) fun y H4 hp s r => ?_
    · have e3 := s _ _ e
      refine ⟨b.trans (Same.but s D), ys, e3, by omega, ?_⟩
      rw [List.take_add_one, ha, List.filter_append, List.map_append, show (some a).toList = [a] from rfl, List.filter_cons, hp]
      simp only [Bool.false_eq_true, if_false, List.filter_nil, List.map_nil, List.append_nil]
      exact paired_imp (fun v c => stab G H3 v c ys e (Same.but s D)) rel
    · have e4 := s _ _ e
      refine ⟨ys, e4, by rw [sizeLine_eq]; omega, (b.trans (Same.but s D)).trans but_upd, ys ++ [y], upd_same, by rw [List.length_append]; show ys.length + 1 ≤ i + 1; omega, ?_⟩
      rw [List.take_add_one, ha, List.filter_append, List.map_append, show (some a).toList = [a] from rfl, List.filter_cons, hp]
      simp only [if_true, List.filter_nil, List.map_cons, List.map_nil]
      exact paired_snoc (paired_imp (fun v c q => stab H4 _ v c ys e4 but_upd (stab G H4 v c ys e (Same.but s D) q)) rel) (stab H4 _ y (f a) ys e4 but_upd r)
  · obtain ⟨b, ys, e, _, rel⟩ := h
    rw [← hn, List.take_length] at rel
    exact hd G ys (But.same b nD) e rel
/-! pairs of numbers, as tuples in a list -/
def PairV (K : PySem.W.Frag) (H : Hp) (v : V) (p : Nat × Nat) : Prop := ∃ a : Addr, v = .ref a ∧ SqT K H a [.int (p.1 : Nat), .int (p.2 : Nat)]
def PairsAt (K : PySem.W.Frag) (H : Hp) (vs : List V) (ps : List (Nat × Nat)) : Prop := Paired (PairV K H) vs ps
theorem PairV.same {K : PySem.W.Frag} {H H' : Hp} {v : V} {p : Nat × Nat} (e : Same H H') (h : PairV K H v p) : PairV K H' v p := let ⟨a, h1, h2⟩ := h; ⟨a, h1, sqT_same h2 e⟩
theorem PairV.but {K : PySem.W.Frag} {H H' : Hp} {v : V} {p : Nat × Nat} {D : Addr} {acc : List V} (hD : H D = some (.lst acc)) (b : But D H H') (h : PairV K H v p) : PairV K H' v p := let ⟨a, h1, h2⟩ := h; ⟨a, h1, sqT_but h2 hD b⟩
theorem PairsAt.same {K : PySem.W.Frag} {H H' : Hp} {vs : List V} {ps : List (Nat × Nat)} (h : PairsAt K H vs ps) (e : Same H H') : PairsAt K H' vs ps := paired_imp (fun _ _ q => q.same e) h
def prD (p : Nat × Nat) : PyData := .tuple [.int (p.1 : Nat), .int (p.2 : Nat)]
theorem prD_dp {K : PySem.W.Frag} {H : Hp} {v : V} {p : Nat × Nat} (h : PairV K H v p) : Dp K H v (prD p) := by
  obtain ⟨a, rfl, h⟩ := h
  exact .tup h (.cons (.int _) (.cons (.int _) .nil))
theorem prD_shaped (p : Nat × Nat) : SeqAt.shaped (prD p) = true := by simp [prD, SeqAt.shaped, PyData.canLay0, PyData.canLayAll0, PyData.depth, PyData.depthAll]
theorem prD_eqv (p o : Nat × Nat) : PyData.eqv (prD p) (prD o) = decide (p = o) := by
  obtain ⟨a, b⟩ := p
  obtain ⟨c, d⟩ := o
  show ((a : Int) == (c : Int) && ((b : Int) == (d : Int) && true)) = decide ((a, b) = (c, d))
  rw [Bool.and_true]
  by_cases h1 : a = c
  · by_cases h2 : b = d
    · subst h1 h2
      simp
    · have : ¬ (b : Int) = (d : Int) := by omega
      simp [h1, h2, this]
  · have : ¬ (a : Int) = (c : Int) := by omega
    simp [h1, this]
theorem pairs_all {K : PySem.W.Frag} {H : Hp} : ∀ {vs : List V} {ps : List (Nat × Nat)}, PairsAt K H vs ps → DpAll K H vs (ps.map prD)
  | _, _, .nil => .nil
  | _, _, .cons h t => .cons (prD_dp h) (pairs_all t)
/-! ### what fell, sorted -/
theorem run_keys {xs : List (Int × Int)} (hx : Inc xs) {r : Bool} {i j : Nat} (hi : i < xs.length) : Reach xs (List.range xs.length) r i j ↔ (run xs i r).1 ≤ j ∧ j ≤ (run xs i r).2 := by
  cases r with
  | true =>
    have R := runR hx hi
    constructor
    · intro h
      exact ⟨right_ge hx h, in_right hx R h⟩
    · rintro ⟨h1, h2⟩
      exact all_right hx R (Nat.le_refl _) (fun j _ h => List.mem_range.mpr (Nat.lt_of_le_of_lt h R.lt)) j h1 h2
  | false =>
    have R := runL hx hi
    constructor
    · intro h
      exact ⟨in_left hx R R.le (Nat.le_refl _) h, left_le hx h⟩
    · rintro ⟨h1, h2⟩
      exact all_left hx R (fun j _ h => List.mem_range.mpr (Nat.lt_trans h hi)) _ j h1 h2 rfl
theorem run_bounds {xs : List (Int × Int)} (hx : Inc xs) {r : Bool} {i : Nat} (hi : i < xs.length) : (run xs i r).1 ≤ i ∧ i ≤ (run xs i r).2 ∧ (run xs i r).2 < xs.length := by
  cases r with
  | true => have R := runR hx hi; exact ⟨Nat.le_refl _, R.le, R.lt⟩
  | false => have R := runL hx hi; exact ⟨R.le, Nat.le_refl _, hi⟩
section
variable {xs : List (Int × Int)} {r : Bool} {i : Nat} {fs : List (Nat × Nat)}
theorem due_mem (hx : Inc xs) (hi : i < xs.length) (has : ∀ j u, (j, u) ∈ fs ↔ Fst xs (List.range xs.length) r i u j) {j : Nat} : j ∈ fs.map (·.1) ↔ (run xs i r).1 ≤ j ∧ j ≤ (run xs i r).2 := by
  rw [← run_keys hx hi, Reach.fst]
  constructor
  · intro h
    obtain ⟨⟨j', u⟩, h1, rfl⟩ := List.mem_map.mp h
    exact ⟨u, (has _ _).mp h1⟩
  · rintro ⟨u, hu⟩
    exact List.mem_map.mpr ⟨(j, u), (has j u).mpr hu, rfl⟩
theorem due_memI (hx : Inc xs) (hi : i < xs.length) (has : ∀ j u, (j, u) ∈ fs ↔ Fst xs (List.range xs.length) r i u j) {m : Int} : m ∈ fs.map (fun p => (p.1 : Int)) ↔ ((run xs i r).1 : Int) ≤ m ∧ m ≤ ((run xs i r).2 : Int) := by
  constructor
  · intro h
    obtain ⟨⟨j, u⟩, h1, rfl⟩ := List.mem_map.mp h
    have := (due_mem hx hi has).mp (List.mem_map.mpr ⟨(j, u), h1, rfl⟩)
    have this : (run xs i r).1 ≤ j ∧ j ≤ (run xs i r).2 := this
    show ((run xs i r).1 : Int) ≤ (j : Int) ∧ (j : Int) ≤ ((run xs i r).2 : Int)
    omega
  · intro h
    have h2 : m.toNat ∈ fs.map (·.1) := (due_mem hx hi has).mpr (by omega)
    obtain ⟨⟨j, u⟩, h3, e⟩ := List.mem_map.mp h2
    have e : j = m.toNat := e
    exact List.mem_map.mpr ⟨(j, u), h3, show (j : Int) = m by omega⟩
theorem due_min (hx : Inc xs) (hi : i < xs.length) (has : ∀ j u, (j, u) ∈ fs ↔ Fst xs (List.range xs.length) r i u j) {m : Int} (hm : m ∈ fs.map fun p => (p.1 : Int)) (hl : ∀ y ∈ fs.map (fun p => (p.1 : Int)), m ≤ y) : m = ((run xs i r).1 : Int) := by
  have h1 := (due_memI hx hi has).mp hm
  have b := run_bounds hx (r := r) hi
  have h2 := hl _ ((due_memI hx hi has).mpr ⟨Int.le_refl _, by omega⟩)
  omega
theorem due_max (hx : Inc xs) (hi : i < xs.length) (has : ∀ j u, (j, u) ∈ fs ↔ Fst xs (List.range xs.length) r i u j) {m : Int} (hm : m ∈ fs.map fun p => (p.1 : Int)) (hl : ∀ y ∈ fs.map (fun p => (p.1 : Int)), y ≤ m) : m = ((run xs i r).2 : Int) := by
  have h1 := (due_memI hx hi has).mp hm
  have b := run_bounds hx (r := r) hi
  have h2 := hl _ ((due_memI hx hi has).mpr ⟨by omega, Int.le_refl _⟩)
  omega
theorem rise_mem {a c : Nat} {m : Int} : m ∈ rise a c ↔ (a : Int) ≤ m ∧ m ≤ ((a + c : Nat) : Int) := by
  unfold rise
  rw [List.mem_map]
  constructor
  · rintro ⟨k, hk, rfl⟩
    have := List.mem_range.mp hk
    omega
  · intro h
    exact ⟨(m - a).toNat, List.mem_range.mpr (by omega), by omega⟩
theorem rise_nodup (a c : Nat) : (rise a c).Nodup := by
  unfold rise
  refine List.Pairwise.map _ (fun x y h => ?_) (List.pairwise_lt_range (n := c + 1))
  have h : x < y := h
  show ((a + x : Nat) : Int) ≠ ((a + y : Nat) : Int)
  omega
theorem nodup_int {fs : List (Nat × Nat)} (nd : (fs.map (·.1)).Nodup) : (fs.map fun p => (p.1 : Int)).Nodup := by
  have e : (fs.map fun p => (p.1 : Int)) = (fs.map (·.1)).map fun (k : Nat) => (k : Int) := by rw [List.map_map]; rfl
  rw [e]
  refine List.Pairwise.map _ (fun x y h => ?_) nd
  have h : x ≠ y := h
  show (x : Int) ≠ (y : Int)
  omega
theorem due_sorted (hx : Inc xs) (hi : i < xs.length) (nd : (fs.map (·.1)).Nodup) (has : ∀ j u, (j, u) ∈ fs ↔ Fst xs (List.range xs.length) r i u j) {ys : List Int} (p : ys.Perm (fs.map fun p => (p.1 : Int))) (s : ys.Pairwise (· ≤ ·)) :
    ys = rise (run xs i r).1 ((run xs i r).2 - (run xs i r).1) := by
  have b := run_bounds hx (r := r) hi
  have q : (fs.map fun p => (p.1 : Int)).Perm (rise (run xs i r).1 ((run xs i r).2 - (run xs i r).1)) := (List.perm_ext_iff_of_nodup (nodup_int nd) (rise_nodup _ _)).mpr fun m => by
    rw [due_memI hx hi has, rise_mem]
    omega
  exact (p.trans q).eq_of_pairwise (fun x y _ _ h1 h2 => Int.le_antisymm h1 h2) s (rise_le _ _)
end
theorem rgV_rise {f e : Nat} (h : f ≤ e) : rgV (f : Int) ((e : Int) + 1) = (rise f (e - f)).map V.int := by
  unfold rgV rise
  rw [List.map_map]
  have : ((e : Int) + 1 - (f : Int)).toNat = e - f + 1 := by omega
  rw [this]
  exact List.map_congr_left fun k _ => congrArg V.int (show (f : Int) + (k : Int) = ((f + k : Nat) : Int) by omega)
theorem rgV_nat (n : Nat) : rgV 0 (n : Int) = ivs (List.range n) := by
  unfold rgV ivs
  have e : ((n : Int) - 0).toNat = n := by omega
  rw [e]
  exact List.map_congr_left fun k _ => congrArg V.int (by omega)
theorem sideS_inj {r r' : Bool} (h : V.str (sideS r) = V.str (sideS r')) : r = r' := by
  cases r <;> cases r' <;> first | rfl | (exact absurd h (by decide +kernel))
theorem int_inj {i j : Nat} (h : V.int (i : Int) = V.int (j : Int)) : i = j := by injection h with h; omega
theorem numB_idx {i n : Nat} (h : i < n) : numB (.int (i : Int)) 0 ((n : Int) - 1) = true := by
  show (decide (0 ≤ (i : Int)) && decide ((i : Int) ≤ (n : Int) - 1)) = true
  rw [decide_eq_true (by omega), decide_eq_true (by omega)]
  rfl
/-! data of ints, and of pairs -/
def intsD (ns : List Int) : PyData := .list (ns.map PyData.int)
theorem intsD_all {K : PySem.W.Frag} {H : Hp} : ∀ ns : List Int, DpAll K H (ns.map V.int) (ns.map PyData.int)
  | [] => .nil
  | n :: ns => .cons (.int n) (intsD_all ns)
theorem layI : ∀ ns : List Int, PyData.canLayAll0 (ns.map PyData.int) = true
  | [] => by simp [PyData.canLayAll0]
  | n :: ns => by simp [PyData.canLayAll0, PyData.canLay0, layI ns]
theorem deepI : ∀ ns : List Int, PyData.depthAll (ns.map PyData.int) ≤ 1
  | [] => by simp [PyData.depthAll]
  | n :: ns => by
    have := deepI ns
    simp only [List.map_cons, PyData.depthAll, PyData.depth]
    omega
theorem intsD_shaped (ns : List Int) : SeqAt.shaped (intsD ns) = true := by
  show (PyData.canLay0 (intsD ns) && decide (PyData.depth (intsD ns) ≤ 64)) = true
  rw [Bool.and_eq_true]
  have := deepI ns
  refine ⟨by unfold intsD; simp only [PyData.canLay0]; exact layI ns, decide_eq_true ?_⟩
  unfold intsD
  simp only [PyData.depth]
  omega
theorem intsD_eqv (ns : List Int) : PyData.eqv (intsD ns) (intsD ns) = true := SeqAt.eqv_refl _ (SeqAt.canLay_of_shaped (intsD_shaped ns))
def toI (p : Nat × Nat) : Int × Int := ((p.1 : Int), (p.2 : Int))
theorem kvs_entI (fs : List (Nat × Nat)) : kvs fs = (fs.map toI).map DictI.entI := by
  unfold kvs
  rw [List.map_map]
  rfl
theorem pairs_sorted {gs fs : List (Nat × Nat)} (gup : gs.Pairwise fun a b => a.1 < b.1) (fnd : (fs.map (·.1)).Nodup) (same : ∀ q, q ∈ gs ↔ q ∈ fs) {ys : List (Int × Int)} (p : ys.Perm (fs.map toI)) (s : ys.Pairwise fun x y => SrtO.lexB y x = false) : ys = gs.map toI := by
  have ng : gs.Nodup := gup.imp fun {a b} h e => by rw [e] at h; exact Nat.lt_irrefl _ h
  have nf : fs.Nodup := by
    have := List.pairwise_map.mp fnd
    exact this.imp fun {a b} h e => h (by rw [e])
  have pg : fs.Perm gs := (List.perm_ext_iff_of_nodup nf ng).mpr fun q => (same q).symm
  have p2 : ys.Perm (gs.map toI) := p.trans (pg.map toI)
  refine p2.eq_of_pairwise (fun x y _ _ h1 h2 => ?_) s ?_
  · have a := SrtO.lexB_no.mp h1
    have b := SrtO.lexB_no.mp h2
    refine Prod.ext ?_ ?_ <;> omega
  · refine List.pairwise_map.mpr (gup.imp fun {a b} h => SrtO.lexB_no.mpr ?_)
    show ¬ ((b.1 : Int) < (a.1 : Int) ∨ ((b.1 : Int) = (a.1 : Int) ∧ (b.2 : Int) < (a.2 : Int)))
    have h : a.1 < b.1 := h
    omega
theorem pairs_dp {K : PySem.W.Frag} {H : Hp} : ∀ {ts : List Addr} {qs : List (Int × Int)}, Paired (fun (t : Addr) (q : Int × Int) => H t = some (.tup [.int q.1, .int q.2])) ts qs → DpAll K H (ts.map V.ref) (qs.map stD)
  | _, _, .nil => .nil
  | _, _, .cons h t => .cons (.tup (SqT.of h) (.cons (.int _) (.cons (.int _) .nil))) (pairs_dp t)
theorem items_dp {K : PySem.W.Frag} {H : Hp} : ∀ {ts : List Addr} {gs : List (Nat × Nat)}, Paired (fun (t : Addr) (q : Key × V) => H t = some (.tup [kV q.1, q.2])) ts (kvs gs) → DpAll K H (ts.map V.ref) ((gs.map toI).map stD)
  | [], [], _ => .nil
  | [], _ :: _, h => nomatch h
  | _ :: _, [], h => nomatch h
  | t :: ts, g :: gs, .cons h r => .cons (.tup (SqT.of h) (.cons (.int _) (.cons (.int _) .nil))) (items_dp r)
/-! ### heights: mathematics -/
def aft : Bool → Nat → Nat → Prop | true, a, b => a < b | false, a, b => b < a
def leq : Bool → Nat → Nat → Prop | true, a, b => a ≤ b | false, a, b => b ≤ a
def eN (xs : List (Int × Int)) (i : Nat) : Bool → Nat | true => (run xs i true).2 | false => (run xs i false).1
abbrev RR (xs : List (Int × Int)) (r : Bool) (i j : Nat) : Prop := Reach xs (List.range xs.length) r i j
def dI (xs : List (Int × Int)) (a b : Nat) : Int := ab (pl xs b - pl xs a)
theorem run_t (xs : List (Int × Int)) (i : Nat) : run xs i true = (i, eN xs i true) := rfl
theorem run_f (xs : List (Int × Int)) (i : Nat) : run xs i false = (eN xs i false, i) := rfl
theorem rr_iff {xs : List (Int × Int)} (hx : Inc xs) {r : Bool} {i j : Nat} (hi : i < xs.length) : RR xs r i j ↔ leq r i j ∧ leq r j (eN xs i r) := by
  cases r with
  | true => exact run_keys hx hi
  | false => rw [show RR xs false i j ↔ _ from run_keys hx hi, run_f]; exact And.comm
theorem e_in {xs : List (Int × Int)} (hx : Inc xs) {r : Bool} {i : Nat} (hi : i < xs.length) : leq r i (eN xs i r) ∧ eN xs i r < xs.length := by
  have h := run_bounds hx (r := r) hi
  cases r with
  | true => exact ⟨h.2.1, h.2.2⟩
  | false => exact ⟨h.1, Nat.lt_of_le_of_lt h.1 hi⟩
theorem leq_refl (r : Bool) (a : Nat) : leq r a a := by cases r <;> exact Nat.le_refl _
theorem leq_trans {r : Bool} {a b c : Nat} (h : leq r a b) (g : leq r b c) : leq r a c := by cases r <;> simp only [leq] at * <;> omega
theorem leq_anti {r : Bool} {a b : Nat} (h : leq r a b) (g : leq r b a) : a = b := by cases r <;> simp only [leq] at * <;> omega
theorem aft_leq {r : Bool} {a b : Nat} (h : aft r a b) : leq r a b := by cases r <;> simp only [leq, aft] at * <;> omega
theorem not_aft {r : Bool} {a b : Nat} : ¬ aft r a b ↔ leq r b a := by cases r <;> simp only [leq, aft] <;> omega
theorem not_leq {r : Bool} {a b : Nat} : ¬ leq r a b ↔ aft r b a := by cases r <;> simp only [leq, aft] <;> omega
theorem aft_ne {r : Bool} {a b : Nat} (h : aft r a b) : b ≠ a := by cases r <;> simp only [aft] at * <;> omega
theorem aft_of {r : Bool} {a b : Nat} (h : leq r a b) (g : b ≠ a) : aft r a b := by cases r <;> simp only [leq, aft] at * <;> omega
theorem e_rr {xs : List (Int × Int)} (hx : Inc xs) {r : Bool} {i : Nat} (hi : i < xs.length) : RR xs r i (eN xs i r) := (rr_iff hx hi).mpr ⟨(e_in hx hi).1, leq_refl _ _⟩
theorem rr_lt {xs : List (Int × Int)} (hx : Inc xs) {r : Bool} {i j : Nat} (hi : i < xs.length) (h : RR xs r i j) : j < xs.length := by
  obtain ⟨h1, h2⟩ := (rr_iff hx hi).mp h
  have := e_in hx (r := r) hi
  cases r <;> simp only [leq] at * <;> omega
theorem rr_trans {xs : List (Int × Int)} (hx : Inc xs) {r : Bool} {i m j : Nat} (a : RR xs r i m) (b : RR xs r m j) : RR xs r i j :=
  Reach.ind hx (P := fun j => RR xs r i j) a (fun _ _ _ h2 h3 h4 => Reach.step hx h2 h3 h4) b
theorem rr_one {xs : List (Int × Int)} (hx : Inc xs) {r : Bool} {i j : Nat} (h : Hit xs r i j) : RR xs r i j := Reach.step hx Reach.refl (List.mem_range.mpr h.2.1) h
theorem rr_first {xs : List (Int × Int)} (hx : Inc xs) {r : Bool} {i j : Nat} (h : RR xs r i j) : j = i ∨ ∃ m, Hit xs r i m ∧ RR xs r m j := by
  refine Reach.ind hx (P := fun j => j = i ∨ ∃ m, Hit xs r i m ∧ RR xs r m j) (.inl rfl) (fun m j _ h2 h3 h4 => .inr ?_) h
  rcases h2 with rfl | ⟨m', h5, h6⟩
  · exact ⟨j, h4, Reach.refl⟩
  · exact ⟨m', h5, Reach.step hx h6 h3 h4⟩
/-- the end of a run to which a stone belongs is that of its own run or farther -/
theorem e_of {xs : List (Int × Int)} (hx : Inc xs) {r : Bool} {i m : Nat} (hi : i < xs.length) (h : RR xs r i m) (g : RR xs r m (eN xs i r)) : eN xs m r = eN xs i r := by
  have hm := rr_lt hx hi h
  have h1 := ((rr_iff hx hm).mp g).2
  have h2 := ((rr_iff hx hi).mp (rr_trans hx h (e_rr hx hm))).2
  exact leq_anti h2 h1
theorem dI_aft {xs : List (Int × Int)} (hx : Inc xs) {r : Bool} {a b : Nat} (ha : a < xs.length) (hb : b < xs.length) (h : aft r a b) : dI xs a b = if r then pl xs b - pl xs a else pl xs a - pl xs b := by
  unfold dI ab
  cases r <;> simp only [aft] at h
  · have := hx.pl h ha; rw [if_pos (by omega)]; simp only [Bool.false_eq_true, if_false]; omega
  · have := hx.pl h hb; rw [if_neg (by omega)]; simp only [if_true]
theorem dI_pos {xs : List (Int × Int)} (hx : Inc xs) {r : Bool} {a b : Nat} (ha : a < xs.length) (hb : b < xs.length) (h : aft r a b) : 1 ≤ dI xs a b := by
  rw [dI_aft hx ha hb h]
  cases r <;> simp only [aft] at h
  · have := hx.pl h ha; simp only [Bool.false_eq_true, if_false]; omega
  · have := hx.pl h hb; simp only [if_true]; omega
theorem dI_lt {xs : List (Int × Int)} (hx : Inc xs) {r : Bool} {i a b : Nat} (hi : i < xs.length) (ha : a < xs.length) (hb : b < xs.length) (h : aft r i a) (g : aft r a b) : dI xs i a < dI xs i b := by
  have k : aft r i b := by cases r <;> simp only [aft] at * <;> omega
  rw [dI_aft hx hi ha h, dI_aft hx hi hb k]
  cases r <;> simp only [aft] at g
  · have := hx.pl g ha; simp only [Bool.false_eq_true, if_false]; omega
  · have := hx.pl g hb; simp only [if_true]; omega
theorem dI_le {xs : List (Int × Int)} (hx : Inc xs) {r : Bool} {i a b : Nat} (hi : i < xs.length) (ha : a < xs.length) (hb : b < xs.length) (h : aft r i a) (g : leq r a b) : dI xs i a ≤ dI xs i b := by
  rcases Nat.decEq b a with n | n
  · exact Int.le_of_lt (dI_lt hx hi ha hb h (aft_of g n))
  · rw [n]; exact Int.le_refl _
theorem hit_dI {xs : List (Int × Int)} (hx : Inc xs) {r : Bool} {m o : Nat} : Hit xs r m o ↔ m < xs.length ∧ o < xs.length ∧ aft r m o ∧ dI xs m o ≤ ht xs m := by
  constructor
  · rintro ⟨h1, h2, h3, h4⟩
    have ha : aft r m o := by cases r with | true => exact (h3 rfl).1 | false => exact (h4 rfl).1
    refine ⟨h1, h2, ha, ?_⟩
    rw [dI_aft hx h1 h2 ha]
    cases r with
    | true => have := (h3 rfl).2; simp only [if_true]; omega
    | false => have := (h4 rfl).2; simp only [Bool.false_eq_true, if_false]; omega
  · rintro ⟨h1, h2, ha, h3⟩
    rw [dI_aft hx h1 h2 ha] at h3
    refine ⟨h1, h2, ?_, ?_⟩
    · rintro rfl
      simp only [if_true] at h3
      exact ⟨ha, by omega⟩
    · rintro rfl
      simp only [Bool.false_eq_true, if_false] at h3
      exact ⟨ha, by omega⟩
/-- the same places -/
def SP (xs ys : List (Int × Int)) : Prop := xs.length = ys.length ∧ ∀ k, k < xs.length → pl xs k = pl ys k
theorem SP.refl (xs : List (Int × Int)) : SP xs xs := ⟨rfl, fun _ _ => rfl⟩
theorem SP.symm {xs ys : List (Int × Int)} (h : SP xs ys) : SP ys xs := ⟨h.1.symm, fun k q => (h.2 k (h.1 ▸ q)).symm⟩
theorem SP.trans {xs ys zs : List (Int × Int)} (h : SP xs ys) (g : SP ys zs) : SP xs zs := ⟨h.1.trans g.1, fun k q => (h.2 k q).trans (g.2 k (h.1 ▸ q))⟩
theorem SP.dI {xs ys : List (Int × Int)} (h : SP xs ys) {a b : Nat} (ha : a < xs.length) (hb : b < xs.length) : dI xs a b = dI ys a b := by
  unfold RD.dI; rw [h.2 a ha, h.2 b hb]
theorem reach_hits {xs ys : List (Int × Int)} (hx : Inc xs) (hy : Inc ys) (n : xs.length = ys.length) {r : Bool} {i j : Nat} (hh : ∀ m o, RR xs r i m → Hit xs r m o → Hit ys r m o) (h : RR xs r i j) : RR ys r i j :=
  Reach.ind hx (P := fun j => RR ys r i j) Reach.refl (fun m _ h1 h2 h3 h4 => Reach.step hy h2 (n ▸ h3) (hh m _ h1 h4)) h
theorem hit_more {xs ys : List (Int × Int)} (hx : Inc xs) (hy : Inc ys) (s : SP xs ys) {r : Bool} {m o : Nat} (le : ht xs m ≤ ht ys m) (h : Hit xs r m o) : Hit ys r m o := by
  obtain ⟨h1, h2, h3, h4⟩ := (hit_dI hx).mp h
  exact (hit_dI hy).mpr ⟨s.1 ▸ h1, s.1 ▸ h2, h3, by rw [← s.dI h1 h2]; omega⟩
theorem rr_more {xs ys : List (Int × Int)} (hx : Inc xs) (hy : Inc ys) (s : SP xs ys) (le : ∀ k, k < xs.length → ht xs k ≤ ht ys k) {r : Bool} {i j : Nat} (h : RR xs r i j) : RR ys r i j :=
  reach_hits hx hy s.1 (fun m _ _ q => hit_more hx hy s (le m q.1) q) h
theorem run_same {xs ys : List (Int × Int)} (hx : Inc xs) (hy : Inc ys) (n : xs.length = ys.length) {r : Bool} {i : Nat} (hi : i < xs.length) (h : ∀ j, RR xs r i j ↔ RR ys r i j) : run xs i r = run ys i r := by
  have hi' : i < ys.length := n ▸ hi
  have e : eN xs i r = eN ys i r := leq_anti (((rr_iff hy hi').mp ((h _).mp (e_rr hx hi))).2) (((rr_iff hx hi).mp ((h _).mpr (e_rr hy hi'))).2)
  cases r with
  | true => rw [run_t, run_t, e]
  | false => rw [run_f, run_f, e]
theorem same_e {xs ys : List (Int × Int)} {r : Bool} {i : Nat} (h : run xs i r = run ys i r) : eN xs i r = eN ys i r := by
  cases r with
  | true => exact congrArg Prod.snd h
  | false => exact congrArg Prod.fst h
/-- the row in which a stone has another height -/
def setH (xs : List (Int × Int)) (c : Nat) (h : Int) : List (Int × Int) := xs.set c (pl xs c, h)
theorem setH_len (xs : List (Int × Int)) (c : Nat) (h : Int) : (setH xs c h).length = xs.length := List.length_set ..
theorem setH_get {xs : List (Int × Int)} {c k : Nat} {h : Int} (hc : c < xs.length) : pl (setH xs c h) k = pl xs k ∧ ht (setH xs c h) k = if k = c then h else ht xs k := by
  unfold setH pl ht
  simp only [List.getD_eq_getElem?_getD, List.getElem?_set]
  by_cases e : c = k
  · subst e; simp [hc]
  · simp [e, Ne.symm e]
theorem setH_sp {xs : List (Int × Int)} {c : Nat} {h : Int} (hc : c < xs.length) : SP xs (setH xs c h) := ⟨(setH_len ..).symm, fun k _ => (setH_get hc).1.symm⟩
theorem inc_sp {xs ys : List (Int × Int)} (hx : Inc xs) (s : SP xs ys) : Inc ys := by
  intro a b x y hab ha hb
  have hb' : b < ys.length := (List.getElem?_eq_some_iff.mp hb).1
  rw [← (pl_of ha).1, ← (pl_of hb).1, ← s.2 a (by have := s.1; omega), ← s.2 b (by have := s.1; omega)]
  exact hx.pl hab (by have := s.1; omega)
theorem setH_inc {xs : List (Int × Int)} (hx : Inc xs) {c : Nat} {h : Int} (hc : c < xs.length) : Inc (setH xs c h) := inc_sp hx (setH_sp hc)
theorem setH_set {xs : List (Int × Int)} {c : Nat} {h g : Int} (hc : c < xs.length) : setH (setH xs c h) c g = setH xs c g := by
  unfold setH
  rw [show pl (xs.set c (pl xs c, h)) c = pl xs c from (setH_get (h := h) hc).1, List.set_set]
theorem setH_self {xs : List (Int × Int)} {c : Nat} (hc : c < xs.length) : setH xs c (ht xs c) = xs := by
  unfold setH pl ht
  rw [List.getD_eq_getElem?_getD, List.getElem?_eq_getElem hc]
  exact List.set_getElem_self hc
/-! #### the least height for a goal -/
theorem tell_eq {xs : List (Int × Int)} (hx : Inc xs) {c : Nat} (hc : c < xs.length) {h h' : Int} (q : ∀ o, o < xs.length → o ≠ c → dI xs c o ≤ h → dI xs c o ≤ h') {r : Bool} {i j : Nat} (a : RR (setH xs c h) r i j) : RR (setH xs c h') r i j := by
  refine reach_hits (setH_inc hx hc) (setH_inc hx hc) ((setH_len ..).trans (setH_len ..).symm) (fun m o _ b => ?_) a
  have s := setH_sp (h := h) hc
  have s' := setH_sp (h := h') hc
  obtain ⟨h1, h2, h3, h4⟩ := (hit_dI (setH_inc hx hc)).mp b
  rw [setH_len] at h1 h2
  refine (hit_dI (setH_inc hx hc)).mpr ⟨by rw [setH_len]; exact h1, by rw [setH_len]; exact h2, h3, ?_⟩
  rw [← s.dI h1 h2, (setH_get hc).2] at h4
  rw [← s'.dI h1 h2, (setH_get hc).2]
  split at h4
  · rename_i e
    rw [if_pos e]
    subst e
    exact q o h2 (aft_ne h3) h4
  · rename_i e
    rw [if_neg e]
    exact h4
theorem max_le {h : Int} : ∀ {L : List Int} {t : Int}, t ∈ L → t ≤ h → ∃ u ∈ L, u ≤ h ∧ ∀ v ∈ L, v ≤ h → v ≤ u
  | [], _, q, _ => nomatch q
  | a :: L, t, q, le => by
    by_cases s : ∃ v ∈ L, v ≤ h
    · obtain ⟨v, h1, h2⟩ := s
      obtain ⟨u, u1, u2, u3⟩ := max_le h1 h2
      by_cases b : a ≤ h ∧ u < a
      · exact ⟨a, List.mem_cons_self, b.1, fun v hv lv => (List.mem_cons.mp hv).elim (fun e => by subst e; exact Int.le_refl _) (fun q => by have := u3 v q lv; omega)⟩
      · exact ⟨u, List.mem_cons_of_mem _ u1, u2, fun v hv lv => (List.mem_cons.mp hv).elim (fun e => by subst e; omega) (fun q => u3 v q lv)⟩
    · have ta : t = a := by
        rcases List.mem_cons.mp q with e | e
        · exact e
        · exact absurd ⟨t, e, le⟩ s
      subst ta
      exact ⟨t, List.mem_cons_self, le, fun v hv lv => (List.mem_cons.mp hv).elim (fun e => by subst e; exact Int.le_refl _) (fun q => absurd ⟨v, q, lv⟩ s)⟩
/-- the heights at which something changes -/
structure Tells (xs : List (Int × Int)) (c : Nat) (L : List Int) : Prop where
  one : (1 : Int) ∈ L
  all : ∀ o, o < xs.length → o ≠ c → dI xs c o ∈ L
  no : ∀ t ∈ L, t = 1 ∨ ∃ o, o < xs.length ∧ o ≠ c ∧ t = dI xs c o
  up : L.Pairwise (· ≤ ·)
theorem aft_or {a b : Nat} (h : b ≠ a) : ∃ r, aft r a b := by
  rcases Nat.lt_or_gt_of_ne h with q | q
  · exact ⟨false, q⟩
  · exact ⟨true, q⟩
theorem tell_le {xs : List (Int × Int)} (hx : Inc xs) {c : Nat} (hc : c < xs.length) {L : List Int} (T : Tells xs c L) {t : Int} (h : t ∈ L) : 1 ≤ t := by
  rcases T.no t h with rfl | ⟨o, h1, h2, rfl⟩
  · exact Int.le_refl _
  · obtain ⟨r, q⟩ := aft_or h2
    exact dI_pos hx hc h1 q
theorem tell_at {xs : List (Int × Int)} (hx : Inc xs) {c : Nat} (hc : c < xs.length) {L : List Int} (T : Tells xs c L) {h : Int} (h1 : 1 ≤ h) {r : Bool} {i j : Nat} (a : RR (setH xs c h) r i j) : ∃ t ∈ L, t ≤ h ∧ RR (setH xs c t) r i j := by
  obtain ⟨u, u1, u2, u3⟩ := max_le T.one h1
  exact ⟨u, u1, u2, tell_eq hx hc (fun o ho no q => u3 _ (T.all o ho no) q) a⟩
/-- what is told of a least height -/
def LeastH (xs : List (Int × Int)) (c i g : Nat) (r : Bool) : Option Int → Prop
  | none => ∀ h, 1 ≤ h → ¬ RR (setH xs c h) r i g
  | some h => 1 ≤ h ∧ h ≤ 1000000000 ∧ RR (setH xs c h) r i g ∧ ∀ h', 1 ≤ h' → h' < h → ¬ RR (setH xs c h') r i g
theorem least_none {xs : List (Int × Int)} (hx : Inc xs) {c i g : Nat} (hc : c < xs.length) {r : Bool} {L : List Int} (T : Tells xs c L) (h : ∀ t ∈ L, ¬ RR (setH xs c t) r i g) : LeastH xs c i g r none :=
  fun _ h1 a => let ⟨t, t1, _, t3⟩ := tell_at hx hc T h1 a; h t t1 t3
theorem least_some {xs : List (Int × Int)} (hx : Inc xs) {c i g : Nat} (hc : c < xs.length) {r : Bool} {L : List Int} (T : Tells xs c L) {k : Nat} {h : Int} (hk : L[k]? = some h) (big : h ≤ 1000000000) (a : RR (setH xs c h) r i g) (no : ∀ m t, m < k → L[m]? = some t → ¬ RR (setH xs c t) r i g) : LeastH xs c i g r (some h) := by
  refine ⟨tell_le hx hc T (List.mem_of_getElem? hk), big, a, fun h' h1 lt b => ?_⟩
  obtain ⟨t, t1, t2, t3⟩ := tell_at hx hc T h1 b
  obtain ⟨m, hm, e⟩ := List.mem_iff_getElem.mp t1
  have em : L[m]? = some t := by rw [List.getElem?_eq_getElem hm, e]
  rcases Nat.lt_or_ge m k with q | q
  · exact no m t q em t3
  · have hk' := (List.getElem?_eq_some_iff.mp hk)
    obtain ⟨hk1, hk2⟩ := hk'
    have : h ≤ t := by
      rcases Nat.eq_or_lt_of_le q with q | q
      · subst q; rw [hk2] at e; omega
      · have := List.pairwise_iff_getElem.mp T.up k m hk1 hm q
        rw [hk2, e] at this
        exact this
    omega
/-! #### the least heights with which all runs are the same -/
noncomputable def hN (xs : List (Int × Int)) (i : Nat) (r : Bool) : Int := match (beside r i xs.length).find? (fun o => decide (eN xs o r = eN xs i r)) with | some o => dI xs i o | none => 1
theorem mem_beside {r : Bool} {i n o : Nat} : o ∈ beside r i n ↔ aft r i o ∧ (r = true → o < n) := by
  cases r with
  | true =>
    simp only [beside, if_true, List.mem_map, List.mem_range, aft, forall_const]
    exact ⟨fun ⟨k, h1, h2⟩ => by omega, fun ⟨h1, h2⟩ => ⟨o - (i + 1), by omega, by omega⟩⟩
  | false =>
    simp only [beside, Bool.false_eq_true, if_false, List.mem_map, List.mem_range, aft, false_implies, and_true]
    exact ⟨fun ⟨k, h1, h2⟩ => by omega, fun h1 => ⟨i - 1 - o, by omega, by omega⟩⟩
theorem aft_at {r : Bool} {i n k m o p : Nat} (hk : (beside r i n)[k]? = some o) (hm : (beside r i n)[m]? = some p) : m < k ↔ aft r p o := by
  have lk := (List.getElem?_eq_some_iff.mp hk).1
  have lm := (List.getElem?_eq_some_iff.mp hm).1
  rw [beside_length] at lk lm
  rw [beside_at lk] at hk
  rw [beside_at lm] at hm
  have e1 := Option.some.inj hk
  have e2 := Option.some.inj hm
  subst e1 e2
  cases r <;> simp only [bpos, bmax, aft, if_true, Bool.false_eq_true, if_false] at * <;> omega
theorem hN_one {xs : List (Int × Int)} {i : Nat} {r : Bool} (h : ∀ o, o < xs.length → aft r i o → eN xs o r ≠ eN xs i r) (hi : i < xs.length) : hN xs i r = 1 := by
  unfold hN
  rw [List.find?_eq_none.mpr fun o ho => by
    have q := mem_beside.mp ho
    have := h o (beside_lt hi o ho) q.1
    simp [this]]
inductive HSpec (xs : List (Int × Int)) (i : Nat) (r : Bool) : Int → Prop
  | one : (∀ o, o < xs.length → aft r i o → eN xs o r ≠ eN xs i r) → HSpec xs i r 1
  | away (j : Nat) : j < xs.length → aft r i j → eN xs j r = eN xs i r → (∀ o, aft r i o → aft r o j → eN xs o r ≠ eN xs i r) → HSpec xs i r (dI xs i j)
theorem hN_spec {xs : List (Int × Int)} {i : Nat} {r : Bool} (hi : i < xs.length) : HSpec xs i r (hN xs i r) := by
  unfold hN
  split
  · rename_i o h
    obtain ⟨h1, k, hk, h2, h3⟩ := List.find?_eq_some_iff_getElem.mp h
    have ek : (beside r i xs.length)[k]? = some o := by rw [List.getElem?_eq_getElem hk, h2]
    have mo := List.mem_of_getElem? ek
    refine .away o (beside_lt hi o mo) (mem_beside.mp mo).1 (by simpa using h1) fun p p1 p2 q => ?_
    have mp : p ∈ beside r i xs.length := mem_beside.mpr ⟨p1, fun e => by have := beside_lt hi o mo; subst e; simp only [aft] at p2; omega⟩
    obtain ⟨m, hm, em⟩ := List.mem_iff_getElem.mp mp
    have em' : (beside r i xs.length)[m]? = some p := by rw [List.getElem?_eq_getElem hm, em]
    have := h3 m ((aft_at ek em').mpr p2)
    rw [em] at this
    simp [q] at this
  · rename_i h
    have h := List.find?_eq_none.mp h
    refine .one fun o ho a q => h o (mem_beside.mpr ⟨a, fun _ => ho⟩) (by simp [q])
theorem hN_pos {xs : List (Int × Int)} (hx : Inc xs) {i : Nat} {r : Bool} (hi : i < xs.length) : 1 ≤ hN xs i r := by
  have S := hN_spec (r := r) hi
  generalize hN xs i r = v at S
  cases S with
  | one h => exact Int.le_refl _
  | away j h1 h2 h3 h4 => exact dI_pos hx hi h1 h2
/-- a run that is more than its stone has a stone that is hit and runs as far -/
theorem hit_end {xs : List (Int × Int)} (hx : Inc xs) {i : Nat} {r : Bool} (hi : i < xs.length) (n : eN xs i r ≠ i) : ∃ m, Hit xs r i m ∧ eN xs m r = eN xs i r := by
  rcases rr_first hx (e_rr hx (r := r) hi) with q | ⟨m, h1, h2⟩
  · exact absurd q n
  · exact ⟨m, h1, e_of hx hi (rr_one hx h1) h2⟩
theorem hN_le {xs : List (Int × Int)} (hx : Inc xs) {i : Nat} {r : Bool} (hi : i < xs.length) (h1 : 1 ≤ ht xs i) : hN xs i r ≤ ht xs i := by
  have S := hN_spec (r := r) hi
  generalize hN xs i r = v at S
  cases S with
  | one h => exact h1
  | away j j1 j2 j3 j4 =>
    have n : eN xs i r ≠ i := fun e => by
      have := (e_in hx (r := r) j1).1
      rw [j3, e] at this
      exact (not_leq.mpr j2) this
    obtain ⟨m, m1, m2⟩ := hit_end hx hi n
    obtain ⟨_, m3, m4, m5⟩ := (hit_dI hx).mp m1
    have : leq r j m := not_aft.mp fun q => j4 m m4 q m2
    have := dI_le hx hi j1 m3 j2 this
    omega
theorem low_end {xs ys : List (Int × Int)} (hx : Inc xs) (hy : Inc ys) (s : SP xs ys) (enough : ∀ k, k < xs.length → ∀ r, hN xs k r ≤ ht ys k) {r : Bool} : ∀ (d i : Nat), i < xs.length → bmax r i xs.length ≤ d → RR ys r i (eN xs i r)
  | d, i, hi, hd => by
    by_cases n : eN xs i r = i
    · rw [n]; exact Reach.refl
    · have S := hN_spec (r := r) hi
      have le := enough i hi r
      generalize hN xs i r = v at S le
      cases S with
      | one h =>
        have e := e_in hx (r := r) hi
        have ee : eN xs (eN xs i r) r = eN xs i r := e_of hx hi (e_rr hx hi) Reach.refl
        exact absurd ee (h _ e.2 (aft_of e.1 n))
      | away j j1 j2 j3 j4 =>
        have hh : Hit ys r i j := (hit_dI hy).mpr ⟨s.1 ▸ hi, s.1 ▸ j1, j2, by rw [← s.dI hi j1]; exact le⟩
        have lt : bmax r j xs.length < bmax r i xs.length := by cases r <;> simp only [bmax, aft, if_true, Bool.false_eq_true, if_false] at * <;> omega
        cases d with
        | zero => omega
        | succ d =>
          have ih := low_end hx hy s enough (r := r) d j j1 (by omega)
          rw [← j3]
          exact rr_trans hy (rr_one hy hh) ih
theorem low_same {xs ys : List (Int × Int)} (hx : Inc xs) (hy : Inc ys) (s : SP xs ys) (enough : ∀ k, k < xs.length → ∀ r, hN xs k r ≤ ht ys k) (less : ∀ k, k < xs.length → ht ys k ≤ ht xs k) {r : Bool} {i : Nat} (hi : i < xs.length) : run xs i r = run ys i r := by
  have hi' : i < ys.length := s.1 ▸ hi
  refine run_same hx hy s.1 hi fun j => ⟨fun a => ?_, fun a => rr_more hy hx s.symm (fun k q => less k (s.1 ▸ q)) a⟩
  have a := (rr_iff hx hi).mp a
  have b := (rr_iff hy hi').mp (low_end (r := r) hx hy s enough _ i hi (Nat.le_refl _))
  exact (rr_iff hy hi').mpr ⟨a.1, leq_trans a.2 b.2⟩
/-- one less does not -/
theorem low_less {xs ys : List (Int × Int)} (hx : Inc xs) (hy : Inc ys) (s : SP xs ys) (less : ∀ k, k < xs.length → ht ys k ≤ ht xs k) {r : Bool} {i : Nat} (hi : i < xs.length) {h : Int} (h1 : h < hN xs i r) (h2 : 1 ≤ h) (hh : h ≤ ht ys i) : ¬ RR (setH ys i h) r i (eN xs i r) := by
  intro q
  have hi' : i < ys.length := s.1 ▸ hi
  have S := hN_spec (r := r) hi
  generalize hN xs i r = v at S h1
  cases S with
  | one h => omega
  | away j j1 j2 j3 j4 =>
    have hz := setH_inc hy (h := h) hi'
    have sz := setH_sp (h := h) hi'
    rcases rr_first hz q with e | ⟨m, m1, m2⟩
    · have := (e_in hx (r := r) j1).1
      rw [j3, e] at this
      exact (not_leq.mpr j2) this
    · obtain ⟨_, m3, m4, m5⟩ := (hit_dI hz).mp m1
      rw [setH_len] at m3
      rw [← sz.dI hi' m3, (setH_get hi').2, if_pos rfl, ← s.dI hi (s.1 ▸ m3)] at m5
      have bef : aft r m j := not_leq.mp fun q => by have := dI_le hx hi j1 (s.1 ▸ m3) j2 q; omega
      refine j4 m m4 bef ?_
      have lez : ∀ k, k < (setH ys i h).length → ht (setH ys i h) k ≤ ht xs k := fun k hk => by
        rw [setH_len] at hk
        have := less k (s.1 ▸ hk)
        rw [(setH_get hi').2]
        split
        · rename_i e; subst e; omega
        · exact this
      have szx := (s.trans sz).symm
      exact e_of hx hi (rr_more hz hx szx lez (rr_one hz m1)) (rr_more hz hx szx lez m2)
/-! #### how much a stone can grow -/
theorem grow_same {xs : List (Int × Int)} (hx : Inc xs) {i : Nat} (hi : i < xs.length) {h : Int} (h1 : ht xs i ≤ h) {r : Bool} (no : ∀ o, o < xs.length → aft r (eN xs i r) o → h < dI xs i o) : run (setH xs i h) i r = run xs i r := by
  have hz := setH_inc hx (h := h) hi
  have sz := setH_sp (h := h) hi
  have lez : ∀ k, k < xs.length → ht xs k ≤ ht (setH xs i h) k := fun k hk => by
    rw [(setH_get hi).2]
    split
    · rename_i e; subst e; omega
    · exact Int.le_refl _
  refine run_same hz hx (setH_len ..) (by rw [setH_len]; exact hi) fun j => ⟨fun a => ?_, fun a => rr_more hx hz sz lez a⟩
  refine Reach.ind hz (P := fun j => RR xs r i j) Reach.refl (fun m j _ b _ hh => ?_) a
  obtain ⟨q1, q2, q3, q4⟩ := (hit_dI hz).mp hh
  rw [setH_len] at q1 q2
  rw [← sz.dI q1 q2, (setH_get hi).2] at q4
  by_cases e : m = i
  · subst e
    rw [if_pos rfl] at q4
    exact (rr_iff hx hi).mpr ⟨aft_leq q3, not_aft.mp fun z => by have := no j q2 z; omega⟩
  · rw [if_neg e] at q4
    exact rr_trans hx b (rr_one hx ((hit_dI hx).mpr ⟨q1, q2, q3, q4⟩))
theorem grow_more {xs : List (Int × Int)} (hx : Inc xs) {i : Nat} (hi : i < xs.length) {h : Int} {r : Bool} {o : Nat} (ho : o < xs.length) (a : aft r (eN xs i r) o) (le : dI xs i o ≤ h) : run (setH xs i h) i r ≠ run xs i r := by
  intro q
  have hz := setH_inc hx (h := h) hi
  have sz := setH_sp (h := h) hi
  have ai : aft r i o := by have := (e_in hx (r := r) hi).1; cases r <;> simp only [aft, leq] at * <;> omega
  have hh : Hit (setH xs i h) r i o := (hit_dI hz).mpr ⟨by rw [setH_len]; exact hi, by rw [setH_len]; exact ho, ai, by rw [← sz.dI hi ho, (setH_get hi).2, if_pos rfl]; exact le⟩
  have b := ((rr_iff hz (by rw [setH_len]; exact hi)).mp (rr_one hz hh)).2
  rw [same_e q] at b
  exact (not_leq.mpr a) b
/-- a stone behind the end of a run is farther than the height -/
theorem behind {xs : List (Int × Int)} (hx : Inc xs) {i : Nat} (hi : i < xs.length) {r : Bool} {o : Nat} (ho : o < xs.length) (a : aft r (eN xs i r) o) : ht xs i < dI xs i o := by
  have ai : aft r i o := by have := (e_in hx (r := r) hi).1; cases r <;> simp only [aft, leq] at * <;> omega
  rcases Int.lt_or_le (ht xs i) (dI xs i o) with q | q
  · exact q
  · have hh : Hit xs r i o := (hit_dI hx).mpr ⟨hi, ho, ai, q⟩
    exact absurd ((rr_iff hx hi).mp (rr_one hx hh)).2 (not_leq.mpr a)
/-! ### places, heights -/
theorem wf_at {xs : List (Int × Int)} (w : Wf 0 xs) {k : Nat} (hk : k < xs.length) : 0 ≤ pl xs k ∧ pl xs k ≤ 1000000000 ∧ 1 ≤ ht xs k ∧ ht xs k ≤ 1000000000 := by
  have e : xs[k]? = some xs[k] := by simp [hk]
  have h := w.get e
  have l := w.low e
  rw [(pl_of e).1, (pl_of e).2]
  have := h.2.2
  omega
theorem inc_le {xs : List (Int × Int)} (hx : Inc xs) {a b : Nat} (h : a ≤ b) (hb : b < xs.length) : pl xs a ≤ pl xs b := by
  rcases Nat.eq_or_lt_of_le h with e | q
  · rw [e]; exact Int.le_refl _
  · exact Int.le_of_lt (hx.pl q hb)
theorem nm_of {i : Nat} {v : V} {σ : L2.St} {H : Hp} {Q : L2.St → Hp → Prop} (h : Q (σ.set i (some v)) H) : gName i v σ H Q := h
theorem Wf.mono : ∀ {xs : List (Int × Int)} {lo lo' : Int}, lo ≤ lo' → Wf lo' xs → Wf lo xs
  | [], _, _, _, _ => True.intro
  | _ :: _, _, _, h, w => ⟨Int.le_trans h w.1, w.2⟩
theorem Wf.sublist {l xs : List (Int × Int)} (s : l.Sublist xs) : ∀ {lo : Int}, Wf lo xs → Wf lo l := by
  induction s with
  | slnil => exact fun _ => True.intro
  | cons a _ ih => exact fun w => ih (Wf.mono (by have := w.1; omega) w.2.2.2.2)
  | cons_cons a _ ih => exact fun w => ⟨w.1, w.2.1, w.2.2.1, w.2.2.2.1, ih w.2.2.2.2⟩
/-! ### stones and places of a row, distances, stones that reach -/
def spItem (K : PySem.W.Frag) (C : Addr) : Sp := fun vs H Q _ => ∃ (p : Addr) (xs : List (Int × Int)) (i : Nat) (x : Int × Int), vs = [.ref p, .int (i : Nat)] ∧ RowAt K C H p xs ∧ xs[i]? = some x ∧ ∀ a, SqT K H a [.int x.1, .int x.2] → Q (.ref a) H
def plV (xs : List (Int × Int)) : List V := xs.map fun x => V.int x.1
def spPlaces (K : PySem.W.Frag) (C : Addr) : Sp := fun vs H Q _ => ∃ (p : Addr) (xs : List (Int × Int)), vs = [.ref p] ∧ RowAt K C H p xs ∧ xs.length ≤ 40 ∧ ∀ z H', Same H H' → H z = none → H' z = some (.tup (plV xs)) → Q (.ref z) H'
theorem pl_get {xs : List (Int × Int)} {a : Nat} (h : a < xs.length) : atI (plV xs) ((a : Nat) : Int) = some (.int (pl xs a)) := by
  refine atI_nat ?_
  unfold plV pl
  rw [List.getElem?_map]
  simp [List.getD, h]
theorem filter_all {α : Type} (l : List α) : l.filter (fun _ => true) = l := List.filter_eq_self.mpr fun _ _ => rfl
section
variable {P : Program} {w : World} {K : PySem.W.Frag} {mg : Str → Option Value} {base : Heap}
theorem ok_item {f C g1 : Addr} {fd d1 : FuncData} (F : Fun K "__getitem__" "Row.__getitem__" s_Row_getitem f fd) (B : Blt mg) (R : RowC K mg C) (N1 : At P w K mg base CX0 2 "check_stone" ["stone", "count"] spCheckStone g1 d1) :
    FnOk P w K mg base CX0 3 f fd ["self", "stone"] (spItem K C) := by
  refine F.ok sc_Row_getitem (fun vs H Q E h => ?_) (fun cdv A outer s H vs Q E hr h => ?_)
  · obtain ⟨p, xs, i, x, rfl, _⟩ := h
    rfl
  · obtain ⟨p, xs, i, x, rfl, ⟨dx, t, us, ep, hT, hS⟩, hx, k⟩ := h
    refine ⟨_, pss_cons (ps_expr (pe_at N1 hr (pa_cons (pv 1) (pa_cons (pe_callB call_len_seq (by rfl) B.len PySem.boot_len (pa_cons (pe_fld (pv 0) rfl) pa_nil)) pa_nil))))
      (pss_one (ps_ret (pe_ix ix_tup (pe_fld (pv 0) rfl) (pv 1) (fun _ _ => rfl)))), ?_⟩
    obtain ⟨a, ha, sa⟩ := hS.2 i x hx
    have hi := (List.getElem?_eq_some_iff.mp hx).1
    refine ⟨_, rfl, _, rfl, p, C, dx, _, _, rfl, ep, R.cl, R.nS, rfl, t, us, rfl, .inr hT, ?_⟩
    refine ⟨i, xs.length, by rw [hS.1]; rfl, hi, ?_⟩
    exact ⟨_, rfl, p, C, dx, _, _, rfl, ep, R.cl, R.nS, rfl, _, rfl, t, us, ((i : Nat) : Int), _, rfl, rfl, hT, atI_nat ha, k a sa⟩
theorem ok_places {f C : Addr} {fd : FuncData} (F : Fun K "places" "Row.places" s_Row_places f fd) (B : Blt mg) (R : RowC K mg C) : FnOk P w K mg base CX0 1 f fd ["self"] (spPlaces K C) := by
  refine F.ok sc_Row_places (fun vs H Q E h => ?_) (fun cdv A outer s H vs Q E hr h => ?_)
  · obtain ⟨p, xs, rfl, _⟩ := h
    rfl
  · obtain ⟨p, xs, rfl, ⟨dx, t, us, ep, hT, hS⟩, hz, k⟩ := h
    refine ⟨_, pss_one (ps_ret (pe_tupleOf (by rfl) B.tuple (pe_lc (own := [("place", 1), ("_", 2)]) (g := gTup K 2 (gCons (gName 1) (gCons (gName 2) gNil))) (tt := tYes) rfl sc_Row_places.nd (pi_tup (pe_fld (pv 0) rfl)) (blkOk_by (N := n_Row_places) (sc := defScope s_Row_places) (by decide +kernel))
        (fun _ _ _ _ _ => (show PG _ _ (gTup K 2 (gCons (gName 1) (gCons (gName 2) gNil))) from pg_tup rfl (pgs_cons (pg_name (i := 1) sc_Row_places.nd rfl (Or.inl rfl)) (pgs_cons (pg_name (i := 2) sc_Row_places.nd rfl (Or.inl rfl)) pgs_nil)))) (fun _ _ _ _ _ => pts_nil) (fun _ _ _ _ _ => pv 1)))), ?_⟩
    refine ⟨_, rfl, p, C, dx, _, _, rfl, ep, R.cl, R.nS, rfl, t, rfl, ⟨_, hT⟩, fun D nD => lc_fm (walk_tup (K := K) (a := t) (xs := us)) xs (fun _ => true) (fun x => x.1) (fun _ v n => v = V.int n) hS.1.symm (by rw [hS.1]; omega) nD (fun _ _ _ _ _ _ _ q => q) (fun _ e => sqT_same hT e) ?_ ?_⟩
    · rintro n x v G G' N M hp sm _ ⟨rfl, hx⟩ _ go
      obtain ⟨a, ha, sa⟩ := hS.2 n x hp
      obtain rfl : v = .ref a := Option.some.inj (hx.symm.trans ha)
      exact ⟨a, _, rfl, sqT_same sa sm, rfl, _, _, rfl, _, _, rfl, rfl, rfl, _, rfl, go _ _ rfl (Same.refl _) rfl⟩
    · intro G ys sm eD rel
      rw [filter_all] at rel
      have e := paired_eq (fun n : Int => V.int n) rel
      rw [List.map_map] at e
      refine .inl ⟨D, ys, rfl, SqL.of eD, fun q nq => k q _ (sm.trans (same_new nq)) (Same.free sm nq) ?_⟩
      rw [upd_same, e]
      rfl
end
/-! ### fall_ticks -/
def tickOf : List (Nat × Nat) → Nat → Nat
  | [], _ => 0
  | p :: fs, j => if p.1 = j then p.2 else tickOf fs j
theorem tickOf_mem : ∀ {fs : List (Nat × Nat)} {j u : Nat}, (fs.map (·.1)).Nodup → (j, u) ∈ fs → tickOf fs j = u
  | [], _, _, _, h => nomatch h
  | p :: fs, j, u, nd, h => by
    rw [List.map_cons, List.nodup_cons] at nd
    unfold tickOf
    rcases List.mem_cons.mp h with e | g
    · rw [← e, if_pos rfl]
    · rw [if_neg (fun z => nd.1 (by rw [z]; exact List.mem_map.mpr ⟨(j, u), g, rfl⟩))]
      exact tickOf_mem nd.2 g
theorem kvs_get : ∀ {fs : List (Nat × Nat)} {j u : Nat}, (fs.map (·.1)).Nodup → (j, u) ∈ fs → valV (kvs fs) (Sum.inl (j : Int) : Key) = some (V.int (u : Int))
  | [], _, _, _, h => nomatch h
  | p :: fs, j, u, nd, h => by
    rw [List.map_cons, List.nodup_cons] at nd
    have c : kvs (p :: fs) = ((Sum.inl (p.1 : Int) : Key), V.int (p.2 : Int)) :: kvs fs := rfl
    rw [c]
    rcases List.mem_cons.mp h with e | g
    · rw [← e, valV_pos rfl]
    · rw [valV_neg (fun z => ?_)]
      · exact kvs_get nd.2 g
      · have z : (Sum.inl (p.1 : Int) : Key) = Sum.inl (j : Int) := z
        injection z with z
        exact nd.1 (by rw [show p.1 = j by omega]; exact List.mem_map.mpr ⟨(j, u), g, rfl⟩)
theorem kvs_keys (fs : List (Nat × Nat)) : (kvs fs).map (·.1) = (fs.map fun p => (p.1 : Int)).map Sum.inl := by
  unfold kvs
  rw [List.map_map, List.map_map]
  rfl
/-- the pairs by their sorted keys -/
theorem by_keys {fs : List (Nat × Nat)} (nd : (fs.map (·.1)).Nodup) {ys : List Int} (p : ys.Perm (fs.map fun p => (p.1 : Int))) (s : ys.Pairwise (· ≤ ·)) :
    ∃ gs : List (Nat × Nat), ys = gs.map (fun p => (p.1 : Int)) ∧ gs.Pairwise (fun a b => a.1 < b.1) ∧ (∀ q, q ∈ gs ↔ q ∈ fs) ∧ gs.length = fs.length := by
  have eF : (fs.map fun p => (p.1 : Int)) = (fs.map (·.1)).map fun (k : Nat) => (k : Int) := by rw [List.map_map]; rfl
  rw [eF] at p
  have ey : ys = (ys.map Int.toNat).map fun (k : Nat) => (k : Int) := by
    rw [List.map_map]
    refine ((List.map_id _).symm).trans (List.map_congr_left fun y hy => ?_)
    obtain ⟨k, _, rfl⟩ := List.mem_map.mp (p.mem_iff.mp hy)
    show (k : Int) = ((k : Int).toNat : Int)
    omega
  have pk : (ys.map Int.toNat).Perm (fs.map (·.1)) := by
    have := p.map Int.toNat
    rw [List.map_map] at this
    refine this.trans (.of_eq ?_)
    refine (List.map_congr_left fun k _ => ?_).trans (List.map_id _)
    exact Int.toNat_natCast k
  generalize ys.map Int.toNat = ks at ey pk
  subst ey
  have ndk : ks.Nodup := pk.nodup_iff.mpr nd
  refine ⟨ks.map fun j => (j, tickOf fs j), ?_, ?_, fun q => ?_, ?_⟩
  · rw [List.map_map]
    rfl
  · rw [List.pairwise_map]
    rw [List.pairwise_map] at s
    exact (List.pairwise_and_iff.mpr ⟨s, ndk⟩).imp fun {a b} h => by
      have h1 : (a : Int) ≤ (b : Int) := h.1
      have h2 : a ≠ b := h.2
      show a < b
      omega
  · obtain ⟨j, u⟩ := q
    rw [List.mem_map]
    constructor
    · rintro ⟨j', hj, e⟩
      obtain ⟨rfl, rfl⟩ := Prod.mk.inj e
      obtain ⟨⟨j2, u2⟩, h1, h2⟩ := List.mem_map.mp (pk.mem_iff.mp hj)
      have h2 : j2 = j' := h2
      subst h2
      rw [tickOf_mem nd h1]
      exact h1
    · intro h
      exact ⟨j, pk.mem_iff.mpr (List.mem_map.mpr ⟨(j, u), h, rfl⟩), by rw [tickOf_mem nd h]⟩
  · rw [List.length_map, pk.length_eq, List.length_map]
def spReaches (K : PySem.W.Frag) : Sp := fun vs H Q _ => ∃ (a b : Addr) (x y : Int × Int), vs = [.ref a, .ref b] ∧ SqT K H a [.int x.1, .int x.2] ∧ SqT K H b [.int y.1, .int y.2] ∧ Q (.bl (decide (ab (y.1 - x.1) ≤ x.2))) H
def spTicks (K : PySem.W.Frag) (C : Addr) : Sp := fun vs H Q _ => ∃ (p : Addr) (xs : List (Int × Int)) (i : Nat) (r : Bool), vs = [.ref p, .int (i : Nat), .str (sideS r)] ∧ RowAt K C H p xs ∧ Wf 0 xs ∧ xs.length ≤ 40 ∧ i < xs.length ∧
  ∀ (z : Addr) (gs : List (Nat × Nat)) (H' : Hp), Same H H' → H z = none → H' z = some (.dK (kvs gs)) → Ticks xs r i gs → Q (.ref z) H'
theorem near_take {xs : List (Int × Int)} {fs : List (Nat × Nat)} {o n : Nat} {p : Nat × Nat} (h : fs[n]? = some p) : nearT xs (fs.take (n + 1)) o = nearT xs (fs.take n) o ++ if touch xs p.1 o then [p.2] else [] := by
  unfold nearT
  rw [List.take_add_one, h, List.filter_append, List.map_append]
  cases e : touch xs p.1 o <;> simp [e]
section
variable {P : Program} {w : World} {K : PySem.W.Frag} {mg : Str → Option Value} {base : Heap}
theorem ok_reaches {f : Addr} {fd : FuncData} (F : Fun K "_reaches" "_reaches" s_reaches f fd) (B : Blt mg) : FnOk P w K mg base CX0 1 f fd ["stone", "other"] (spReaches K) := by
  refine F.ok sc_reaches (fun vs H Q E h => ?_) (fun cdv A outer s H vs Q E hr h => ?_)
  · obtain ⟨a, b, x, y, rfl, _⟩ := h
    rfl
  · obtain ⟨a, b, x, y, rfl, ha, hb, k⟩ := h
    refine ⟨_, pss_cons (ps_asg (pv 0) (pg_tup rfl (pgs_cons (pg_name (i := 2) sc_reaches.nd rfl (Or.inl rfl)) (pgs_cons (pg_name (i := 3) sc_reaches.nd rfl (Or.inl rfl)) pgs_nil)))) (pss_one (ps_ret (pe_cmpR (op_le) (pe_callB (call_abs) (by rfl) B.abs boot_abs (pa_cons (pe_op op_sub (pe_ix ix_tup (pv 1) (pe_int) (fun _ _ => rfl)) (pv 2)) pa_nil)) (pv 3) (nomark _)))), ?_⟩
    refine ⟨_, rfl, a, _, rfl, ha, rfl, _, _, rfl, _, _, rfl, rfl, ?_⟩
    refine ⟨_, rfl, b, _, ((0 : Nat) : Int), _, rfl, rfl, hb, atI_nat (j := 0) rfl, _, rfl, _, _, rfl, rfl, _, rfl, _, rfl, _, _, rfl, rfl, ?_⟩
    exact k
theorem ok_ticks {f C pP gP gL g1 g2 g3 g4 : Addr} {fd dP d1 d2 d3 d4 : FuncData} (F : Fun K "fall_ticks" "fall_ticks" s_fall_ticks f fd) (B : Blt mg) (R : RowC K mg C) (SL : Sign K C "__len__" gL) (GL : FnR P w K mg base CX0 1 gL (spLen K C))
    (pr : PropOf K C "stones" pP gP) (P1 : FnOk P w K mg base CX0 1 gP dP ["self"] (spGet K C)) (bP : Binds K dP ["self"] [])
    (N1 : At P w K mg base CX0 2 "check_stone" ["stone", "count"] spCheckStone g1 d1) (N2 : At P w K mg base CX0 1 "check_side" ["side"] spCheckSide g2 d2)
    (N3 : At P w K mg base CX0 1 "stones_beside" ["stone", "side", "count"] spBeside g3 d3) (N4 : At P w K mg base CX0 1 "_reaches" ["stone", "other"] (spReaches K) g4 d4) :
    FnOk P w K mg base CX0 3 f fd ["row", "stone", "side"] (spTicks K C) := by
  refine F.ok sc_fall_ticks (fun vs H Q E h => ?_) (fun cdv A outer s H vs Q E hr h => ?_)
  · obtain ⟨p, xs, i, r, rfl, _⟩ := h
    rfl
  · obtain ⟨p, xs, i, r, rfl, hR, hw, hz, hi, k⟩ := h
    obtain ⟨dx, t, us, ep, hT, hS⟩ := id hR
    have r1 : Room 1 _ := hr.mono (by decide)
    have hu := hu_of hr
    refine ⟨_, pss_cons (ps_expr (pe_at N1 hr (pa_cons (pv 1) (pa_cons (pe_callB (Own.call_len SL.at_ SL.fn GL hr pass0) (by rfl) B.len PySem.boot_len (pa_cons (pv 0) pa_nil)) pa_nil))))
      (pss_cons (ps_expr (pe_at N2 r1 (pa_cons (pv 2) pa_nil)))
      (pss_cons (ps_set (i := 3) sc_fall_ticks.nd rfl (Or.inr rfl) (pe_prop (pv 0) R.cl pr P1 hr bP .nil pass0 rfl))
      (pss_cons (ps_set (i := 4) sc_fall_ticks.nd rfl (Or.inr rfl) (pe_disp (pps_cons (pv 1) pe_int pps_nil) (by rfl) (by rfl) (fun z => by cases z) (by decide)))
      (pss_cons (ps_for PassesOwn.never rfl (pi_list (pe_at N3 r1 (pa_cons (pv 1) (pa_cons (pv 2) (pa_cons (pe_callB (Own.call_len SL.at_ SL.fn GL hr pass0) (by rfl) B.len PySem.boot_len (pa_cons (pv 0) pa_nil)) pa_nil))))) (pg_name (i := 5) sc_fall_ticks.nd rfl (Or.inr rfl))
        (pss_cons (ps_lock (ps_setLc (i := 6) (own := [("fallen", 7)]) (g := gName 7) rfl sc_fall_ticks.nd rfl rfl (sw_true rfl rfl rfl (by decide +kernel)) (pi_keys (pv 4)) (blkOk_by (N := n_fall_ticks) (sc := defScope s_fall_ticks) (by decide +kernel))
          (fun _ _ _ _ _ => pg_name (i := 7) sc_fall_ticks.nd rfl (Or.inl rfl)) (fun _ _ _ _ _ => pts_one (show PT _ _ (tB (tCall (spReaches K) [] E0 (tCons (tOp (rIxT K) (tVar 3) (tVar 7)) (tCons (tOp (rIxT K) (tVar 3) (tVar 5)) tNil)))) from pt_val (pe_at N4 r1 (pa_cons (pe_ix ix_tup (pv 3) (pv 7) (fun _ _ => rfl)) (pa_cons (pe_ix ix_tup (pv 3) (pv 5) (fun _ _ => rfl)) pa_nil)))))
          (fun _ _ _ _ _ => pe_dget hu (pv 4) (pv 7) (fun _ _ => rfl))))
        (pss_one (ps_if (pt_truth (pv 6) (by intro _; rfl)) (pss_one (ps_dput hu (pv 4) (pv 5) (pe_op op_add (pe_callB ((cr_min rfl)) (by rfl) B.min boot_min (pa_cons (pv 6) pa_nil)) (pe_int)) rfl)) pss_nil))))
      (pss_one (ps_ret (pe_dc (own := [("fallen", 7)]) (g := gName 7) rfl sc_fall_ticks.nd (pi_list (pe_callB ((DictI.cr_sortedDI rfl)) (by rfl) B.sorted boot_sorted (pa_cons (pv 4) pa_nil))) (blkOk_by (N := n_fall_ticks) (sc := defScope s_fall_ticks) (by decide +kernel))
        (fun _ _ _ _ _ => pg_name (i := 7) sc_fall_ticks.nd rfl (Or.inl rfl)) (fun _ _ _ _ _ => pts_nil) (fun _ _ _ _ _ => pv 7) (fun _ _ _ _ _ => pe_dget hu (pv 4) (pv 7) (fun _ _ => rfl))))))))), ?_⟩
    -- check_stone, check_side
    refine ⟨_, rfl, _, rfl, p, dx, _, rfl, ep, p, xs, rfl, hR, _, rfl, by omega, by omega, i, xs.length, rfl, hi, ?_⟩
    refine ⟨_, rfl, r, rfl, ?_⟩
    have hx := hw.inc
    -- stones
    refine ⟨_, rfl, p, dx, _, rfl, ep, p, xs, rfl, hR, fun t us hT hS => ?_⟩
    refine nm_of ?_
    -- ticks
    refine fun dd nd => ⟨_, rfl, upd_same, [((Sum.inl (i : Int) : Key), V.int 0)], rfl, by show 1 ≤ 15; decide, ?_⟩
    have eM : upd (upd H dd (.dK [])) dd (.dK (mergeK [] [((Sum.inl (i : Int) : Key), V.int 0)])) = upd H dd (.dK (kvs [(i, 0)])) := upd_upd
    rw [eM]
    refine nm_of ?_
    have s1 : Same H (upd H dd (.dK (kvs [(i, 0)]))) := same_new nd
    have ed1 : (upd H dd (.dK (kvs [(i, 0)]))) dd = some (.dK (kvs [(i, 0)])) := upd_same
    generalize upd H dd (.dK (kvs [(i, 0)])) = H1 at s1 ed1
    -- the stones beside
    refine ⟨_, rfl, _, rfl, _, rfl, p, dx, _, rfl, s1 _ _ ep, p, xs, rfl, hR.same s1, _, rfl, by omega, by omega, i, xs.length, r, rfl, hi, by omega, fun q nq => ?_⟩
    have s2 : Same H (upd H1 q (.lst (ivs (beside r i xs.length)))) := s1.trans (same_new nq)
    have dq : dd ≠ q := ne_of_none ed1 nq
    have blen := beside_length r i xs.length
    have bm : bmax r i xs.length < xs.length := by cases r <;> simp [bmax] <;> omega
    refine ⟨q, rfl, ⟨_, SqL.of upd_same⟩, for_list (K := K) (a := q) (xs := ivs (beside r i xs.length)) (fun j σ H3 => ∃ (fs : List (Nat × Nat)) (s5 s6 s7 : Option V), σ = [some (.ref p), some (.int (i : Nat)), some (.str (sideS r)), some (.ref t), some (.ref dd), s5, s6, s7] ∧
      Same H H3 ∧ H3 dd = some (.dK (kvs fs)) ∧ H3 q = some (.lst (ivs (beside r i xs.length))) ∧ TickI xs r i j fs) ?_ ?_ ?_ ?_⟩
    · exact ⟨[(i, 0)], none, none, none, rfl, s2, by rw [upd_ne dq]; exact ed1, upd_same, TickI.start⟩
    · rintro j σ H3 _ ⟨_, _, _, _, _, _, _, e, _⟩
      exact SqL.of e
    · rintro j y σ H3 hy ⟨fs, s5, s6, s7, rfl, sm, ed, eq, T⟩
      obtain ⟨o, ho, rfl⟩ := ivs_get hy
      have hj : j < bmax r i xs.length := by rw [← blen]; exact (List.getElem?_eq_some_iff.mp ho).1
      obtain rfl : bpos r i (j + 1) = o := Option.some.inj ((beside_at hj).symm.trans ho)
      have hox : bpos r i (j + 1) < xs.length := bpos_lt hi hj
      obtain ⟨y, hy⟩ : ∃ y, xs[bpos r i (j + 1)]? = some y := ⟨xs[bpos r i (j + 1)], by simp [hox]⟩
      obtain ⟨cb, hcb, hscb⟩ := hS.2 _ y hy
      have fl : fs.length ≤ 41 := by have := T.len; omega
      refine nm_of ?_
      -- hits
      refine ⟨dd, _, ed, True.intro, fun od => ?_⟩
      have edz : (upd H3 dd (.frz od (.dK (kvs fs)))) dd = some (.frz od (.dK (kvs fs))) := upd_same
      refine ⟨_, rfl, dd, od, rfl, .inl ⟨kvs fs, edz, fun D nD => ?_⟩⟩
      have Dd : D ≠ dd := fun z => by rw [z, edz] at nD; cases nD
      have nD3 : H3 D = none := by rw [upd_ne Dd] at nD; exact nD
      refine lc_it (walk_keys (d := dd) (o := od) (kvs := kvs fs)) (fun n G => G dd = some (.frz od (.dK (kvs fs))) ∧ (∀ b o, b ≠ dd → H3 b = some o → G b = some o) ∧ G D = some (.lst (ivs (nearT xs (fs.take n) (bpos r i (j + 1)))))) ?_ ?_ ?_ ?_
      · exact ⟨by rw [upd_ne (Ne.symm Dd)]; exact edz, fun b o n e => by rw [upd_ne (ne_of_none e nD3), upd_ne n]; exact e, upd_same⟩
      · rintro n G _ ⟨e, _⟩
        exact e
      · rintro n x G G' hn ⟨eG, bG, eD⟩ ⟨rfl, kk, vv, e1, rfl⟩
        rw [kvs_len] at hn
        obtain ⟨⟨m, u⟩, hm⟩ : ∃ q, fs[n]? = some q := ⟨fs[n], by simp [hn]⟩
        have ek : (kvs fs)[n]? = some ((Sum.inl (m : Int) : Key), V.int (u : Int)) := by unfold kvs; rw [List.getElem?_map, hm]; rfl
        rw [ek] at e1
        obtain ⟨rfl, rfl⟩ : (Sum.inl (m : Int) : Key) = kk ∧ V.int (u : Int) = vv := by injection e1 with e1; injection e1 with a b; exact ⟨a, b⟩
        have hmf : (m, u) ∈ fs := List.mem_of_getElem? hm
        have hmx : m < xs.length := by
          obtain ⟨⟨dd', hd', e⟩, _⟩ := (T.has m u).mp hmf
          rw [e]
          exact bpos_lt hi (by omega)
        obtain ⟨x, hx1⟩ : ∃ x, xs[m]? = some x := ⟨xs[m], by simp [hmx]⟩
        obtain ⟨ca, hca, hsca⟩ := hS.2 m x hx1
        have up : ∀ {a : Addr} {zs : List V}, SqT K H a zs → SqT K G' a zs := fun {a zs} h => by
          have h3 := sqT_same h sm
          rcases h3 with (h3 | ⟨ob, h3⟩) | h3
          · exact .inl (.inl (bG _ _ (fun z => by rw [z, ed] at h3; cases h3) h3))
          · exact .inl (.inr ⟨ob, bG _ _ (fun z => by rw [z, ed] at h3; cases h3) h3⟩)
          · exact .inr h3
        have eN := near_take (xs := xs) (o := bpos r i (j + 1)) hm
        have et : decide (ab (y.1 - x.1) ≤ x.2) = touch xs m (bpos r i (j + 1)) := by
          unfold touch
          rw [(pl_of hy).1, (pl_of hx1).1, (pl_of hx1).2]
        refine ⟨rfl, _, rfl, _, rfl, t, us, _, _, rfl, rfl, up hT, atI_nat hca, _, rfl, _, rfl, t, us, _, _, rfl, rfl, up hT, atI_nat hcb, ca, cb, x, y, rfl, up hsca, up hscb, _, rfl, ?_⟩
        rw [et, eN]
        cases touch xs m (bpos r i (j + 1)) with
        | true =>
          refine iteT ⟨_, rfl, _, rfl, dd, V.int (u : Int), rfl, ?_, _, eD, ?_, ?_, fun b o n e => ?_, ?_⟩
          · exact .inl ⟨kvs fs, Sum.inl (m : Int), .inr ⟨od, eG⟩, rfl, (kvs_get T.nd hmf).symm⟩
          · unfold ivs nearT
            rw [List.length_map, List.length_map, sizeLine_eq]
            have := List.length_filter_le (fun p : Nat × Nat => touch xs p.1 (bpos r i (j + 1))) (fs.take n)
            rw [List.length_take] at this
            omega
          · rw [upd_ne (Ne.symm Dd)]; exact eG
          · rw [upd_ne (ne_of_none e nD3)]; exact bG b o n e
          · rw [upd_same]
            unfold ivs
            simp
        | false => exact iteF ⟨eG, bG, by rw [eD]; simp⟩
      · rintro G ⟨eG, bG, eD⟩
        rw [kvs_len, List.take_length] at eD
        refine ⟨eG, ?_⟩
        have smG : Same H (upd G dd (.dK (kvs fs))) := fun b o e => by
          have nb : b ≠ dd := ne_of_none e nd
          rw [upd_ne nb]
          exact bG b o nb (sm _ _ e)
        have eDG : (upd G dd (.dK (kvs fs))) D = some (.lst (ivs (nearT xs fs (bpos r i (j + 1))))) := by rw [upd_ne Dd]; exact eD
        have edG : (upd G dd (.dK (kvs fs))) dd = some (.dK (kvs fs)) := upd_same
        have eqG : (upd G dd (.dK (kvs fs))) q = some (.lst (ivs (beside r i xs.length))) := by rw [upd_ne (Ne.symm dq)]; exact bG _ _ (Ne.symm dq) eq
        generalize upd G dd (.dK (kvs fs)) = G2 at smG eDG edG eqG
        refine nm_of ?_
        dsimp only [List.set]
        -- if hits
        refine ⟨_, rfl, _, .inl ⟨_, SqL.of eDG, rfl⟩, ?_⟩
        cases hn : nearT xs fs (bpos r i (j + 1)) with
        | nil => exact iteF ⟨fs, _, _, _, rfl, smG, edG, eqG, T.none hx hi hj hn⟩
        | cons m0 ms =>
          have eI : ivs (m0 :: ms) = ((m0 :: ms).map fun (k : Nat) => (k : Int)).map V.int := by unfold ivs; rw [List.map_map]; rfl
          rw [hn, eI] at eDG
          refine iteT ⟨_, rfl, D, _, rfl, SqL.of eDG, by simp, fun m hm hle => ⟨_, _, rfl, rfl, _, rfl, _, rfl, dd, _, rfl, DPut.k (k := Sum.inl (bpos r i (j + 1) : Int)) edG (by rw [kvs_len, sizeLine_eq]; omega), ?_⟩⟩
          obtain ⟨m', hm', rfl⟩ := List.mem_map.mp hm
          obtain ⟨new, T'⟩ := T.some hx hi hj (m := m') (by rw [hn]; exact hm') (by
            rw [hn]
            intro y hy
            have := hle (y : Int) (List.mem_map.mpr ⟨y, hy, rfl⟩)
            omega)
          have ep' : putK (kvs fs) (Sum.inl (bpos r i (j + 1) : Int) : Key) (V.int ((m' : Int) + 1)) = kvs (fs ++ [(bpos r i (j + 1), m' + 1)]) := kvs_put (t := m' + 1) new
          rw [ep']
          refine ⟨_, _, _, _, rfl, same_upd smG nd, upd_same, ?_, T'⟩
          rw [upd_ne (Ne.symm dq)]
          exact eqG
    · rintro σ H3 ⟨fs, s5, s6, s7, rfl, sm, ed, eq, T⟩
      rw [show (ivs (beside r i xs.length)).length = bmax r i xs.length by unfold ivs; rw [List.length_map, blen]] at T
      have fl : fs.length ≤ xs.length := by have := T.len; omega
      -- the dict by sorted stones
      refine ⟨_, rfl, dd, kvs fs, _, rfl, .inl ed, kvs_keys fs, fun ys l pm so nl => ⟨l, rfl, ⟨_, SqL.of upd_same⟩, fun D nD => ?_⟩⟩
      obtain ⟨gs, rfl, gup, ghas, glen⟩ := by_keys T.nd pm so
      have sl := same_new (o := .lst ((gs.map fun p => (p.1 : Int)).map V.int)) nl
      have edl := sl _ _ ed
      have ell : (upd H3 l (.lst ((gs.map fun p => (p.1 : Int)).map V.int))) l = some (.lst ((gs.map fun p => (p.1 : Int)).map V.int)) := upd_same
      have sml := sm.trans sl
      generalize upd H3 l (.lst ((gs.map fun p => (p.1 : Int)).map V.int)) = H4 at edl ell sml nD
      have Dl : l ≠ D := ne_of_none ell nD
      have Ddd : dd ≠ D := ne_of_none edl nD
      have gnd : (gs.map (·.1)).Nodup := by
        refine (List.pairwise_map.mpr gup).imp fun {a b} h => ?_
        exact Nat.ne_of_lt h
      refine DictI.dc_it (walk_list (K := K) (a := l) (xs := (gs.map fun p => (p.1 : Int)).map V.int)) (fun n G => But D H4 G ∧ G D = some (.dK (kvs (gs.take n)))) ⟨but_upd, upd_same⟩ ?_ ?_ ?_
      · rintro n G _ ⟨b, _⟩
        exact SqL.of (b _ _ Dl ell)
      · rintro n x G G' hn ⟨b, eD⟩ ⟨rfl, hx⟩
        rw [List.length_map, List.length_map] at hn
        obtain ⟨⟨m, u⟩, hm⟩ : ∃ q, gs[n]? = some q := ⟨gs[n], by simp [hn]⟩
        rw [List.getElem?_map, List.getElem?_map, hm] at hx
        obtain rfl : V.int (m : Int) = x := Option.some.inj hx
        have hmf : (m, u) ∈ fs := (ghas _).mp (List.mem_of_getElem? hm)
        refine ⟨rfl, _, rfl, _, rfl, _, rfl, dd, V.int (u : Int), rfl, ?_, _, Sum.inl (m : Int), rfl, eD, ?_, b.trans but_upd, ?_⟩
        · exact .inl ⟨kvs fs, Sum.inl (m : Int), .inl (b _ _ Ddd edl), rfl, (kvs_get T.nd hmf).symm⟩
        · rw [kvs_len, List.length_take, sizeLine_eq]
          omega
        · have new : m ∉ (gs.take n).map (·.1) := fun z => by
            rw [List.map_take] at z
            obtain ⟨a, ha, e⟩ := List.mem_take_iff_getElem.mp z
            have h2 : (gs.map (·.1))[n]? = some m := by rw [List.getElem?_map, hm]; rfl
            have h1 : (gs.map (·.1))[a]? = some m := by rw [List.getElem?_eq_getElem (by omega)]; exact congrArg some e
            have := (List.getElem?_inj (by omega) gnd).mp (h1.trans h2.symm)
            omega
          rw [upd_same, List.take_add_one, hm]
          exact congrArg (fun z => some (HO.dK z)) (kvs_put (t := u) new)
      · rintro G ⟨b, eD⟩
        rw [List.length_map, List.length_map, List.take_length] at eD
        have smG : Same H G := sml.trans (But.same b nD)
        refine k D gs G smG (Same.free sml nD) eD ⟨gup, fun a u => ?_, by omega⟩
        rw [ghas]
        exact T.all hx hi a u
end
/-! ### endless rows: the last stone that one hits, the fronts of a wave, the first repetition -/
def lastHit (xs : List (Int × Int)) (per : Int) (i : Nat) : Nat :=
  ((pl xs i + ht xs i - pl xs 0) / per).toNat * xs.length + (xs.filter fun x => decide (x.1 - pl xs 0 ≤ (pl xs i + ht xs i - pl xs 0) % per)).length - 1
def hitsOf (xs : List (Int × Int)) (per : Int) : List Nat := (List.range xs.length).map (lastHit xs per)
def hitA (hs : List Nat) (o : Nat) : Nat := o / hs.length * hs.length + hs.getD (o % hs.length) 0
def mxN (a b : Nat) : Nat := if a < b then b else a
def topN : List Nat → Nat → Nat
  | [], f => f
  | a :: l, f => topN l (mxN f a)
theorem topN_spec : ∀ (l : List Nat) (f : Nat), f ≤ topN l f ∧ (∀ a ∈ l, a ≤ topN l f) ∧ (topN l f = f ∨ topN l f ∈ l)
  | [], f => ⟨Nat.le_refl _, fun _ h => (nomatch h), .inl rfl⟩
  | a :: l, f => by
    obtain ⟨h1, h2, h3⟩ := topN_spec l (mxN f a)
    have m1 : f ≤ mxN f a := by unfold mxN; split <;> omega
    have m2 : a ≤ mxN f a := by unfold mxN; split <;> omega
    refine ⟨Nat.le_trans m1 h1, fun b hb => ?_, ?_⟩
    · rcases List.mem_cons.mp hb with rfl | hb
      · exact Nat.le_trans m2 h1
      · exact h2 b hb
    · show topN l (mxN f a) = f ∨ topN l (mxN f a) ∈ a :: l
      rcases h3 with e | e
      · have m3 : mxN f a = f ∨ mxN f a = a := by unfold mxN; split <;> omega
        rcases m3 with e2 | e2
        · exact .inl (e.trans e2)
        · exact .inr (by rw [e, e2]; exact List.mem_cons_self)
      · exact .inr (List.mem_cons_of_mem _ e)
/-- the stones that may be hit anew by those that fell one after another since -/
def winLo (n c f : Nat) : Nat := mxN c (f + 1 - n)
def winL (hs : List Nat) (c f : Nat) : List Nat := (List.range (f + 1 - winLo hs.length c f)).map fun k => hitA hs (winLo hs.length c f + k)
def nextF (hs : List Nat) (c f : Nat) : Nat := topN (winL hs c f) f
def fr (hs : List Nat) (c : Nat) : Nat → Nat
  | 0 => c
  | k + 1 => nextF hs c (fr hs c k)
theorem fr_le (hs : List Nat) (c k : Nat) : fr hs c k ≤ fr hs c (k + 1) := (topN_spec _ _).1
structure Fronts (hs : List Nat) (c m : Nat) : Prop where
  le : m ≤ 2 * hs.length
  up : ∀ k, k < m → fr hs c k < fr hs c (k + 1)
  stop : m < 2 * hs.length → fr hs c (m + 1) = fr hs c m
theorem Fronts.one {hs : List Nat} {c m m' : Nat} (h : Fronts hs c m) (h' : Fronts hs c m') : m = m' := by
  rcases Nat.lt_trichotomy m m' with q | q | q
  · have a := h'.up m q
    have b := h.stop (by have := h'.le; omega)
    omega
  · exact q
  · have a := h.up m' q
    have b := h'.stop (by have := h.le; omega)
    omega
def frL (f : Nat → Nat) (m : Nat) : List Nat := (List.range (m + 1)).map f
theorem frL_len (f : Nat → Nat) (m : Nat) : (frL f m).length = m + 1 := by unfold frL; simp
theorem frL_at {f : Nat → Nat} {m k : Nat} (h : k ≤ m) : (frL f m)[k]? = some (f k) := by
  unfold frL
  rw [List.getElem?_map, List.getElem?_range (by omega)]
  rfl
theorem frL_succ (f : Nat → Nat) (m : Nat) : frL f (m + 1) = frL f m ++ [f (m + 1)] := by
  unfold frL
  rw [List.range_succ, List.map_append]
  rfl
theorem hitA_le {hs : List Nat} {o M : Nat} (h : ∀ x ∈ hs, x ≤ M) : hitA hs o ≤ o + M := by
  have e := Nat.div_add_mod o hs.length
  have h1 : o / hs.length * hs.length ≤ o := Nat.div_mul_le_self _ _
  unfold hitA
  rw [List.getD_eq_getElem?_getD]
  cases q : hs[o % hs.length]? with
  | none => show _ + 0 ≤ _; omega
  | some x =>
    have := h x (List.mem_of_getElem? q)
    show _ + x ≤ _
    omega
theorem nextF_le {hs : List Nat} {c f M : Nat} (h : ∀ x ∈ hs, x ≤ M) : nextF hs c f ≤ f + M := by
  rcases (topN_spec (winL hs c f) f).2.2 with e | e
  · unfold nextF; omega
  · unfold nextF
    obtain ⟨k, hk, e2⟩ := List.mem_map.mp e
    have hk := List.mem_range.mp hk
    have := hitA_le (o := winLo hs.length c f + k) h
    rw [← e2]
    omega
theorem fr_bound {hs : List Nat} {c M : Nat} (h : ∀ x ∈ hs, x ≤ M) : ∀ k, fr hs c k ≤ c + k * M
  | 0 => by show c ≤ _; omega
  | k + 1 => by
    have h1 := fr_bound (c := c) h k
    have h2 := nextF_le (c := c) (f := fr hs c k) h
    rw [Nat.succ_mul]
    show nextF hs c (fr hs c k) ≤ _
    omega
/-- the two ticks at which the same stone of a round is the front one for the first time -/
def okT (f : Nat → Nat) (n k : Nat) : Prop := n - 1 ≤ f k - f 0
def RepS (f : Nat → Nat) (n m : Nat) : Option (Nat × Nat) → Prop
  | none => ∀ s t, s < t → t ≤ m → okT f n s → okT f n t → f s % n ≠ f t % n
  | some (s, t) => s < t ∧ t ≤ m ∧ okT f n s ∧ okT f n t ∧ f s % n = f t % n ∧ ∀ s' t', s' < t' → t' < t → okT f n s' → okT f n t' → f s' % n ≠ f t' % n
theorem RepS.one {f : Nat → Nat} {n m : Nat} {o o' : Option (Nat × Nat)} (h : RepS f n m o) (h' : RepS f n m o') : o = o' := by
  match o, o', h, h' with
  | none, none, _, _ => rfl
  | none, some (s, t), h, h' => exact absurd h'.2.2.2.2.1 (h s t h'.1 h'.2.1 h'.2.2.1 h'.2.2.2.1)
  | some (s, t), none, h, h' => exact absurd h.2.2.2.2.1 (h' s t h.1 h.2.1 h.2.2.1 h.2.2.2.1)
  | some (s, t), some (s', t'), h, h' =>
    obtain ⟨a1, a2, a3, a4, a5, a6⟩ := h
    obtain ⟨b1, b2, b3, b4, b5, b6⟩ := h'
    have e : t = t' := by
      rcases Nat.lt_trichotomy t t' with q | q | q
      · exact absurd a5 (b6 s t a1 q a3 a4)
      · exact q
      · exact absurd b5 (a6 s' t' b1 q b3 b4)
    subst e
    have e2 : s = s' := by
      rcases Nat.lt_trichotomy s s' with q | q | q
      · exact absurd (a5.trans b5.symm) (a6 s s' q b1 a3 b3)
      · exact q
      · exact absurd (b5.trans a5.symm) (a6 s' s q a1 b3 a3)
    rw [e2]
def RepV (K : PySem.W.Frag) (H : Hp) (v : V) (f : Nat → Nat) : Option (Nat × Nat) → Prop
  | none => v = .non
  | some (s, t) => ∃ a, v = .ref a ∧ SqT K H a [.int (s : Nat), .int ((t - s : Nat) : Int), .int ((f t - f s : Nat) : Int)]
theorem RepV.same {K : PySem.W.Frag} {H H' : Hp} {v : V} {f : Nat → Nat} {o : Option (Nat × Nat)} (h : RepV K H v f o) (e : Same H H') : RepV K H' v f o := by
  match o, h with
  | none, h => exact h
  | some (s, t), ⟨a, e1, e2⟩ => exact ⟨a, e1, sqT_same e2 e⟩
theorem at_lastV {α : Type} {l : List α} {v : α} (h : l[l.length - 1]? = some v) (hl : 0 < l.length) : atI l (-1) = some v := by
  have e : ixN l.length (-1) = some (l.length - 1) := by
    unfold ixN
    rw [if_neg (by decide)]
    have : ((-1 : Int) + (l.length : Int)).toNat = l.length - 1 := by omega
    simp
    omega
  unfold atI
  rw [e]
  exact h
theorem ivs_at {l : List Nat} {k x : Nat} (h : l[k]? = some x) : atI (ivs l) ((k : Nat) : Int) = some (.int (x : Nat)) := by
  refine atI_nat ?_
  unfold ivs
  rw [List.getElem?_map, h]
  rfl
theorem ivs_len (l : List Nat) : (ivs l).length = l.length := by unfold ivs; rw [List.length_map]
theorem nat_max {a b : Nat} : (if (a : Int) < (b : Int) then (b : Int) else (a : Int)) = ((mxN a b : Nat) : Int) := by
  unfold mxN
  by_cases h : a < b
  · rw [if_pos h, if_pos (by omega)]
  · rw [if_neg h, if_neg (by omega)]
def spLastHit (K : PySem.W.Frag) (C : Addr) : Sp := fun vs H Q _ => ∃ (p : Addr) (xs : List (Int × Int)) (per : Int) (i : Nat), vs = [.ref p, .int per, .int (i : Nat)] ∧ RowAt K C H p xs ∧ Wf 0 xs ∧ xs.length ≤ 40 ∧ i < xs.length ∧ 0 < per ∧ per ≤ 1000000000 ∧
  ∀ H', Same H H' → Q (.int (lastHit xs per i : Nat)) H'
def spNext (K : PySem.W.Frag) : Sp := fun vs H Q _ => ∃ (z : Addr) (hs : List Nat) (c f : Nat), vs = [.ref z, .int (c : Nat), .int (f : Nat)] ∧ SqL K H z (ivs hs) ∧ 0 < hs.length ∧ hs.length ≤ 40 ∧ c < 2 ^ 61 ∧ f < 2 ^ 61 ∧ ∀ H', Same H H' → Q (.int (nextF hs c f : Nat)) H'
def spFronts (K : PySem.W.Frag) : Sp := fun vs H Q _ => ∃ (z : Addr) (hs : List Nat) (c : Nat), vs = [.ref z, .int (c : Nat)] ∧ SqL K H z (ivs hs) ∧ 0 < hs.length ∧ hs.length ≤ 40 ∧ c < hs.length ∧ (∀ x ∈ hs, x ≤ 100000000000) ∧
  ∀ m l H', Same H H' → H l = none → H' l = some (.lst (ivs (frL (fr hs c) m))) → Fronts hs c m → Q (.ref l) H'
def spRepeat (K : PySem.W.Frag) : Sp := fun vs H Q _ => ∃ (l : Addr) (f : Nat → Nat) (m n : Nat), vs = [.ref l, .int (n : Nat)] ∧ SqL K H l (ivs (frL f m)) ∧ m ≤ 80 ∧ 0 < n ∧ n ≤ 40 ∧ (∀ k, k < m → f k < f (k + 1)) ∧
  ∀ rep v H', Same H H' → RepS f n m rep → RepV K H' v f rep → Q v H'
theorem up_le {f : Nat → Nat} {m : Nat} (h : ∀ k, k < m → f k < f (k + 1)) {a b : Nat} (hab : a ≤ b) (hb : b ≤ m) : f a ≤ f b := by
  induction b with
  | zero => rw [show a = 0 by omega]; exact Nat.le_refl _
  | succ b ih =>
    rcases Nat.lt_or_ge a (b + 1) with q | q
    · have := ih (by omega) (by omega)
      have := h b (by omega)
      omega
    · obtain rfl : a = b + 1 := by omega
      exact Nat.le_refl _
theorem up_lt {f : Nat → Nat} {m : Nat} (h : ∀ k, k < m → f k < f (k + 1)) {a b : Nat} (hab : a < b) (hb : b ≤ m) : f a < f b := by
  have h1 := h a (by omega)
  have h2 := up_le h (a := a + 1) (b := b) hab hb
  omega
theorem lastHit_le {xs : List (Int × Int)} (w : Wf 0 xs) {per : Int} {i : Nat} (hi : i < xs.length) (hz : xs.length ≤ 40) (h0 : 0 < per) : lastHit xs per i ≤ 100000000000 := by
  have b1 := wf_at w hi
  have b0 := wf_at w (k := 0) (by omega)
  have h1 : (pl xs i + ht xs i - pl xs 0) / per ≤ 2000000000 := by
    have : (pl xs i + ht xs i - pl xs 0) / per ≤ (pl xs i + ht xs i - pl xs 0) / 1 := by
      rcases Int.lt_or_le (pl xs i + ht xs i - pl xs 0) 0 with q | q
      · have l := Int.ediv_neg_of_neg_of_pos q h0
        have := inc_le w.inc (a := 0) (b := i) (Nat.zero_le _) hi
        omega
      · rw [Int.ediv_one]
        exact Int.ediv_le_self _ q
    rw [Int.ediv_one] at this
    omega
  have h2 : ((pl xs i + ht xs i - pl xs 0) / per).toNat ≤ 2000000000 := by omega
  have h3 := List.length_filter_le (fun x : Int × Int => decide (x.1 - pl xs 0 ≤ (pl xs i + ht xs i - pl xs 0) % per)) xs
  have h4 := Nat.mul_le_mul h2 hz
  unfold lastHit
  omega
section
variable {P : Program} {w : World} {K : PySem.W.Frag} {mg : Str → Option Value} {base : Heap}
theorem ok_lastHit {f C gL gI pP gP : Addr} {fd dP : FuncData} (F : Fun K "_last_hit" "_last_hit" s_last_hit f fd) (B : Blt mg) (R : RowC K mg C) (zV : mg "divmod" = none) (SL : Sign K C "__len__" gL) (GL : FnR P w K mg base CX0 1 gL (spLen K C)) (SI : Sign K C "__getitem__" gI) (fi : PySem.W.fnIn K gI = true)
    (GI : FnR P w K mg base CX0 3 gI (spItem K C)) (pr : PropOf K C "places" pP gP) (P1 : FnOk P w K mg base CX0 1 gP dP ["self"] (spPlaces K C)) (bP : Binds K dP ["self"] []) : FnOk P w K mg base CX0 5 f fd ["row", "period", "stone"] (spLastHit K C) := by
  refine F.ok sc_last_hit (fun vs H Q E h => ?_) (fun cdv A outer s H vs Q E hr h => ?_)
  · obtain ⟨p, xs, per, i, rfl, _⟩ := h
    rfl
  · obtain ⟨p, xs, per, i, rfl, hR, hw, hz, hi, h0, h1, k⟩ := h
    obtain ⟨dx, t, us, ep, hT, hS⟩ := id hR
    have hx := hw.inc
    have r2 : Room 2 _ := hr.mono (by decide)
    refine ⟨_, pss_cons (ps_asg (Cut.pe_sub SI.at_ fi SI.fn GI hr pass0 (pv 0) (pv 2) (fun _ _ => rfl)) (pg_tup rfl (pgs_cons (pg_name (i := 3) sc_last_hit.nd rfl (Or.inl rfl)) (pgs_cons (pg_name (i := 4) sc_last_hit.nd rfl (Or.inl rfl)) pgs_nil))))
      (pss_cons (ps_set (i := 5) sc_last_hit.nd rfl (Or.inr rfl) (pe_ix ix_tup (pe_prop (pv 0) R.cl pr P1 r2 bP .nil pass0 rfl) (pe_int) (fun _ _ => rfl)))
      (pss_cons (ps_asg (pe_callB call_divmod (by rfl) zV PyProof.Rows.boot_divmod (pa_cons (pe_op op_sub (pe_op op_add (pv 3) (pv 4)) (pv 5)) (pa_cons (pv 1) pa_nil))) (pg_tup rfl (pgs_cons (pg_name (i := 6) sc_last_hit.nd rfl (Or.inl rfl)) (pgs_cons (pg_name (i := 7) sc_last_hit.nd rfl (Or.inr rfl)) pgs_nil))))
      (pss_cons (ps_setLc (i := 8) (own := [("other", 9)]) (g := gName 9) rfl sc_last_hit.nd rfl rfl (sw_true rfl rfl rfl (by decide +kernel)) (pi_tup (pe_prop (pv 0) R.cl pr P1 r2 bP .nil pass0 rfl)) (blkOk_by (N := n_last_hit) (sc := defScope s_last_hit) (by decide +kernel))
          (fun _ _ _ _ _ => pg_name (i := 9) sc_last_hit.nd rfl (Or.inl rfl)) (fun _ _ _ _ _ => pts_one (show PT _ _ (tTest (tOp (rI0 fun i j => .bl (decide (i ≤ j))) (tOp (rI0 fun i j => .int (i - j)) (tVar 9) (tVar 5)) (tVar 7))) from pt_cmpR (op_le) (pe_op op_sub (pv 9) (pv 5)) (pv 7) (nomark _))) (fun _ _ _ _ _ => pv 9))
      (pss_one (ps_ret (pe_op op_sub (pe_op op_add (pe_op op_mul (pv 6) (pe_callB (Own.call_len SL.at_ SL.fn GL r2 pass0) (by rfl) B.len PySem.boot_len (pa_cons (pv 0) pa_nil))) (pe_callB call_len_seq (by rfl) B.len PySem.boot_len (pa_cons (pv 8) pa_nil))) (pe_int))))))), ?_⟩
    obtain ⟨x, hxi⟩ : ∃ x, xs[i]? = some x := ⟨xs[i], by simp [hi]⟩
    have px := pl_of hxi
    have bi := wf_at hw hi
    have b0 := wf_at hw (k := 0) (by omega)
    have mono := inc_le hx (a := 0) (b := i) (Nat.zero_le _) hi
    refine ⟨_, rfl, _, rfl, p, dx, _, rfl, ep, p, xs, i, x, rfl, hR, hxi, fun q hq => ⟨q, _, rfl, hq, rfl, _, _, rfl, _, _, rfl, rfl, ?_⟩⟩
    rw [← px.1, ← px.2]
    refine ⟨_, rfl, p, dx, _, rfl, ep, p, xs, rfl, hR, hz, fun z1 H1 s1 n1 e1 => ?_⟩
    refine ⟨z1, _, _, _, rfl, rfl, SqT.of e1, pl_get (a := 0) (by omega), ?_⟩
    refine nm_of ?_
    refine ⟨_, rfl, _, rfl, _, _, rfl, rfl, _, rfl, _, _, rfl, rfl, _, rfl, _, _, rfl, ⟨h0, by omega⟩, fun T nT => ?_⟩
    refine ⟨T, _, rfl, SqT.of upd_same, rfl, _, _, rfl, _, _, rfl, rfl, ?_⟩
    have sT := s1.trans (same_new (o := .tup [V.int ((pl xs i + ht xs i - pl xs 0) / per), V.int ((pl xs i + ht xs i - pl xs 0) % per)]) nT)
    generalize upd H1 T _ = H2 at sT ⊢
    -- reached
    refine ⟨_, rfl, p, dx, _, rfl, sT _ _ ep, p, xs, rfl, hR.same sT, hz, fun z3 H3 s3 n3 e3 => ?_⟩
    have pv_len : (plV xs).length = xs.length := by unfold plV; rw [List.length_map]
    refine ⟨z3, rfl, ⟨_, SqT.of e3⟩, fun D nD => lc_fm (walk_tup (K := K) (a := z3) (xs := plV xs)) xs (fun x => decide (x.1 - pl xs 0 ≤ (pl xs i + ht xs i - pl xs 0) % per)) (fun x => x.1) (fun _ v (m : Int) => v = V.int m) pv_len.symm (by rw [pv_len]; omega) nD (fun _ _ _ _ _ _ _ q => q) (fun _ e => sqT_same (SqT.of e3) e) ?_ ?_⟩
    · rintro m y v G G' N' M' hy sm _ ⟨rfl, hv⟩ no go
      have ev : (plV xs)[m]? = some (.int y.1) := by unfold plV; rw [List.getElem?_map, hy]; rfl
      obtain rfl : v = .int y.1 := Option.some.inj (hv.symm.trans ev)
      refine ⟨rfl, _, rfl, _, rfl, _, _, rfl, rfl, _, rfl, _, _, rfl, rfl, _, rfl, ?_⟩
      by_cases c : y.1 - pl xs 0 ≤ (pl xs i + ht xs i - pl xs 0) % per
      · rw [decide_eq_true c]
        exact iteT ⟨_, rfl, go _ _ (decide_eq_true c) (Same.refl _) rfl⟩
      · rw [decide_eq_false c]
        exact iteF (no _ (decide_eq_false c) (Same.refl _))
    · intro G ys sm eD rel
      have yl : ys.length = (xs.filter fun x => decide (x.1 - pl xs 0 ≤ (pl xs i + ht xs i - pl xs 0) % per)).length := by rw [paired_len rel, List.length_map]
      refine nm_of ?_
      have sG := (sT.trans s3).trans sm
      have qz : 0 ≤ (pl xs i + ht xs i - pl xs 0) / per := Int.ediv_nonneg (by omega) (by omega)
      refine ⟨_, rfl, _, rfl, p, dx, _, rfl, sG _ _ ep, p, xs, rfl, hR.same sG, _, rfl, by omega, by omega, _, _, rfl, rfl, .inr ⟨by omega, by omega⟩, ?_⟩
      refine ⟨_, rfl, D, _, rfl, .inl (SqL.of eD), _, _, rfl, rfl, _, _, rfl, rfl, ?_⟩
      have pos : 0 < (xs.filter fun x => decide (x.1 - pl xs 0 ≤ (pl xs i + ht xs i - pl xs 0) % per)).length := by
        obtain ⟨x0, h00⟩ : ∃ x, xs[0]? = some x := ⟨xs[0]'(by omega), by simp⟩
        have m0 : x0 ∈ xs.filter fun x => decide (x.1 - pl xs 0 ≤ (pl xs i + ht xs i - pl xs 0) % per) := List.mem_filter.mpr ⟨List.mem_of_getElem? h00, decide_eq_true (by
          rw [(pl_of h00).1]
          have := Int.emod_nonneg (pl xs i + ht xs i - x0.1) (b := per) (by omega)
          omega)⟩
        exact List.length_pos_of_mem m0
      have fin := k G sG
      have e : ((pl xs i + ht xs i - pl xs 0) / per) * (xs.length : Int) + (ys.length : Int) - 1 = ((lastHit xs per i : Nat) : Int) := by
        unfold lastHit
        rw [← yl] at pos ⊢
        generalize hq : (pl xs i + ht xs i - pl xs 0) / per = q at qz ⊢
        obtain ⟨q', rfl⟩ : ∃ q' : Nat, q = (q' : Int) := ⟨q.toNat, by omega⟩
        rw [Int.toNat_natCast]
        have : ((q' * xs.length + ys.length - 1 : Nat) : Int) = ((q' * xs.length + ys.length : Nat) : Int) - 1 := by omega
        rw [this, Int.natCast_add, Int.natCast_mul]
      show Q (V.int (((pl xs i + ht xs i - pl xs 0) / per) * (xs.length : Int) + (ys.length : Int) - 1)) G
      rw [e]
      exact fin
theorem ok_next {f : Addr} {fd : FuncData} (F : Fun K "_next_front" "_next_front" s_next_front f fd) (B : Blt mg) (zV : mg "divmod" = none) : FnOk P w K mg base CX0 1 f fd ["hits", "first", "front"] (spNext K) := by
  refine F.ok sc_next_front (fun vs H Q E h => ?_) (fun cdv A outer s H vs Q E hr h => ?_)
  · obtain ⟨z, hs, c, f, rfl, _⟩ := h
    rfl
  · obtain ⟨z, hs, c, f, rfl, hz, h0, hn, hc, hf, k⟩ := h
    refine ⟨_, pss_cons (ps_set (i := 3) sc_next_front.nd rfl (Or.inl rfl) (pe_callB call_len_seq (by rfl) B.len PySem.boot_len (pa_cons (pv 0) pa_nil)))
      (pss_cons (ps_set (i := 4) sc_next_front.nd rfl (Or.inl rfl) (pe_lst (pa_cons (pv 2) pa_nil)))
      (pss_cons (ps_for PassesOwn.never rfl (pi_range2 (by rfl) B.range (pa_cons (pe_callB ((call_max2 rfl)) (by rfl) B.max boot_max (pa_cons (pv 1) (pa_cons (pe_op op_add (pe_op op_sub (pv 2) (pv 3)) (pe_int)) pa_nil))) (pa_cons (pe_op op_add (pv 2) (pe_int)) pa_nil))) (pg_name (i := 5) sc_next_front.nd rfl (Or.inl rfl))
        (pss_cons (ps_asg (pe_callB call_divmod (by rfl) zV PyProof.Rows.boot_divmod (pa_cons (pv 5) (pa_cons (pv 3) pa_nil))) (pg_tup rfl (pgs_cons (pg_name (i := 6) sc_next_front.nd rfl (Or.inl rfl)) (pgs_cons (pg_name (i := 7) sc_next_front.nd rfl (Or.inl rfl)) pgs_nil))))
        (pss_one (ps_expr (pe_bm PySem.F.plainAttrs_list PySem.F.slot_list_append PySem.F.type_list_append mt_append (pv 4) (pa_cons (pe_op op_add (pe_op op_mul (pv 6) (pv 3)) (pe_ix ix_list (pv 0) (pv 7) (fun _ _ => rfl))) pa_nil))))))
      (pss_one (ps_ret (pe_callB ((cr_max (by rfl))) (by rfl) B.max boot_max (pa_cons (pv 4) pa_nil)))))), ?_⟩
    refine ⟨_, rfl, z, _, rfl, .inl hz, ?_⟩
    rw [ivs_len]
    refine ⟨_, rfl, by show 1 ≤ sizeLine; decide, fun l nl => ?_⟩
    refine nm_of ?_
    have zl : SqL K (upd H l (.lst [V.int (f : Nat)])) z (ivs hs) := (same_new nl).seq hz
    have elo : (if (c : Int) < (f : Int) - (hs.length : Int) + 1 then (f : Int) - (hs.length : Int) + 1 else (c : Int)) = ((winLo hs.length c f : Nat) : Int) := by
      unfold winLo mxN
      split <;> split <;> omega
    refine ⟨_, rfl, _, rfl, _, rfl, _, _, rfl, rfl, _, _, rfl, rfl, _, _, rfl, ?_⟩
    rw [elo]
    have lo1 : winLo hs.length c f < 2 ^ 61 := by unfold winLo mxN; split <;> omega
    refine ⟨_, rfl, _, _, rfl, rfl, _, _, rfl, by omega, ?_⟩
    generalize hlo : winLo hs.length c f = lo at lo1 ⊢
    have en : ((f : Int) + 1 - (lo : Int)).toNat = f + 1 - lo := by omega
    rw [en]
    refine for_range (lo := (lo : Int)) (n := f + 1 - lo) (fun j σ G => ∃ (s5 s6 s7 : Option V), σ = [some (.ref z), some (.int (c : Nat)), some (.int (f : Nat)), some (.int (hs.length : Nat)), some (.ref l), s5, s6, s7] ∧ But l H G ∧
      G l = some (.lst (ivs (f :: (List.range j).map fun q => hitA hs (lo + q))))) ?_ ?_ ?_
    · exact ⟨none, none, none, rfl, but_upd, upd_same⟩
    · rintro j σ G hj ⟨s5, s6, s7, rfl, bG, eG⟩
      refine nm_of ?_
      have hj0 : ((lo : Int) + (j : Int)) = ((lo + j : Nat) : Int) := rfl
      refine ⟨_, rfl, _, rfl, _, _, rfl, ⟨by omega, by omega⟩, fun T nT => ?_⟩
      refine ⟨T, _, rfl, SqT.of upd_same, rfl, _, _, rfl, _, _, rfl, rfl, ?_⟩
      have sT := same_new (o := .tup [V.int (((lo + j : Nat) : Int) / (hs.length : Int)), V.int (((lo + j : Nat) : Int) % (hs.length : Int))]) nT
      have zG : SqL K G z (ivs hs) := (But.same bG nl).seq hz
      have hn0 : (lo + j) % hs.length < hs.length := Nat.mod_lt _ h0
      obtain ⟨x, hx⟩ : ∃ x, hs[(lo + j) % hs.length]? = some x := ⟨hs[(lo + j) % hs.length], by simp⟩
      refine ⟨_, rfl, .inl ⟨rfl, _, SqL.of (sT _ _ eG)⟩, _, rfl, _, rfl, _, _, rfl, rfl, .inr ⟨by omega, by omega⟩, _, rfl, _, rfl, z, _, (((lo + j) % hs.length : Nat) : Int), _, rfl, rfl, sT.seq zG, ivs_at hx, _, _, rfl, rfl, ?_⟩
      refine ⟨l, _, _, rfl, rfl, sT _ _ eG, by rw [ivs_len, List.length_cons, List.length_map, List.length_range, sizeLine_eq]; unfold winLo mxN at hlo; split at hlo <;> omega, ?_⟩
      refine ⟨_, _, _, rfl, ((bG.trans (Same.but sT l)).trans but_upd), ?_⟩
      rw [upd_same, List.range_succ, List.map_append]
      have e1 : ((lo : Int) + (j : Int)) / (hs.length : Int) * (hs.length : Int) + (x : Int) = ((hitA hs (lo + j) : Nat) : Int) := by
        unfold hitA
        rw [List.getD_eq_getElem?_getD, hx]
        rfl
      show some (HO.lst (ivs (f :: (List.range j).map fun q => hitA hs (lo + q)) ++ [V.int (((lo : Int) + (j : Int)) / (hs.length : Int) * (hs.length : Int) + (x : Int))])) = _
      rw [e1]
      unfold ivs
      rw [List.map_cons, List.map_cons, List.map_append]
      rfl
    · rintro σ G ⟨s5, s6, s7, rfl, bG, eG⟩
      refine ⟨_, rfl, l, ((f :: (List.range (f + 1 - lo)).map fun q => hitA hs (lo + q)).map fun q : Nat => (q : Int)), rfl, ?_, by simp, fun m hm hle => ?_⟩
      · rw [List.map_map]
        exact SqL.of eG
      · obtain ⟨m', hm', rfl⟩ := List.mem_map.mp hm
        have tw : winL hs c f = (List.range (f + 1 - lo)).map fun q => hitA hs (lo + q) := by unfold winL; rw [hlo]
        obtain ⟨t1, t2, t3⟩ := topN_spec (winL hs c f) f
        have up : ∀ y ∈ f :: winL hs c f, y ≤ m' := fun y hy => by
          have := hle (y : Int) (List.mem_map.mpr ⟨y, by rw [← tw]; exact hy, rfl⟩)
          omega
        have e : m' = nextF hs c f := by
          refine Nat.le_antisymm ?_ ?_
          · rw [← tw] at hm'
            rcases List.mem_cons.mp hm' with q | q
            · rw [q]; exact t1
            · exact t2 _ q
          · rcases t3 with q | q
            · unfold nextF; rw [q]; exact up _ List.mem_cons_self
            · exact up _ (List.mem_cons_of_mem _ q)
        rw [e]
        exact k G (But.same bG nl)
theorem ok_fronts {f g : Addr} {fd gd : FuncData} (F : Fun K "_fronts_of_wave" "_fronts_of_wave" s_fronts_of_wave f fd) (B : Blt mg) (N : At P w K mg base CX0 1 "_next_front" ["hits", "first", "front"] (spNext K) g gd) : FnOk P w K mg base CX0 2 f fd ["hits", "first"] (spFronts K) := by
  refine F.ok sc_fronts_of_wave (fun vs H Q E h => ?_) (fun cdv A outer s H vs Q E hr h => ?_)
  · obtain ⟨z, hs, c, rfl, _⟩ := h
    rfl
  · obtain ⟨z, hs, c, rfl, hz, h0, hn, hc, hM, k⟩ := h
    refine ⟨_, pss_cons (ps_set (i := 2) sc_fronts_of_wave.nd rfl (Or.inl rfl) (pe_lst (pa_cons (pv 1) pa_nil)))
      (pss_cons (ps_for PassesOwn.never rfl (pi_range1 (by rfl) B.range (pa_cons (pe_op op_mul pe_int (pe_callB call_len_seq (by rfl) B.len PySem.boot_len (pa_cons (pv 0) pa_nil))) pa_nil)) (pg_name (i := 3) sc_fronts_of_wave.nd rfl (Or.inl rfl))
        (pss_cons (ps_set (i := 4) sc_fronts_of_wave.nd rfl (Or.inl rfl) (pe_at N hr (pa_cons (pv 0) (pa_cons (pv 1) (pa_cons (pe_ix ix_list (pv 2) (pe_un un_neg pe_int) (fun _ _ => rfl)) pa_nil)))))
        (pss_cons (ps_if (pt_cmpR (op_eq) (pv 4) (pe_ix ix_list (pv 2) (pe_un un_neg pe_int) (fun _ _ => rfl)) (nomark _)) (pss_one ps_break) pss_nil)
        (pss_one (ps_expr (pe_bm PySem.F.plainAttrs_list PySem.F.slot_list_append PySem.F.type_list_append mt_append (pv 2) (pa_cons (pv 4) pa_nil)))))))
      (pss_one (ps_ret (pv 2)))), ?_⟩
    refine ⟨_, rfl, by show 1 ≤ sizeLine; decide, fun l nl => ?_⟩
    refine nm_of ?_
    have zl := (same_new (o := .lst [V.int (c : Nat)]) nl).seq hz
    refine ⟨_, rfl, z, _, rfl, .inl zl, _, _, rfl, rfl, .inr ⟨by rw [ivs_len]; omega, by rw [ivs_len]; omega⟩, ?_⟩
    rw [ivs_len]
    have en : (2 * (hs.length : Int)).toNat = 2 * hs.length := by omega
    refine ⟨_, rfl, by omega, by omega, ?_⟩
    rw [en]
    have bd : ∀ j, j ≤ 2 * hs.length → fr hs c j < 2 ^ 61 := fun j hj => by
      have h1 := fr_bound (c := c) hM j
      have h2 : j * 100000000000 ≤ 80 * 100000000000 := Nat.mul_le_mul_right _ (by omega)
      omega
    have lastAt : ∀ j : Nat, atI (ivs (frL (fr hs c) j)) (-1) = some (.int ((fr hs c j : Nat) : Int)) := fun j => by
      refine at_lastV ?_ (by rw [ivs_len, frL_len]; omega)
      rw [ivs_len, frL_len]
      show (ivs (frL (fr hs c) j))[j]? = _
      unfold ivs
      rw [List.getElem?_map, frL_at (Nat.le_refl _)]
      rfl
    refine for_range (lo := 0) (n := 2 * hs.length) (fun j σ G => ∃ (s3 s4 : Option V), σ = [some (.ref z), some (.int (c : Nat)), some (.ref l), s3, s4] ∧ But l H G ∧ G l = some (.lst (ivs (frL (fr hs c) j))) ∧ ∀ q, q < j → fr hs c q < fr hs c (q + 1)) ?_ ?_ ?_
    · exact ⟨none, none, rfl, but_upd, upd_same, fun q hq => absurd hq (Nat.not_lt_zero _)⟩
    · rintro j σ G hj ⟨s3, s4, rfl, bG, eG, upj⟩
      have zG : SqL K G z (ivs hs) := (But.same bG nl).seq hz
      refine nm_of ?_
      refine ⟨_, rfl, _, rfl, _, rfl, 1, rfl, l, _, (-1), _, rfl, rfl, SqL.of eG, lastAt j, z, hs, c, fr hs c j, rfl, zG, h0, hn, by omega, bd j (by omega), fun G2 s2 => ?_⟩
      refine nm_of ?_
      have eG2 := s2 _ _ eG
      refine ⟨_, rfl, _, rfl, 1, rfl, l, _, (-1), _, rfl, rfl, SqL.of eG2, lastAt j, rfl, _, rfl, ?_⟩
      by_cases e : nextF hs c (fr hs c j) = fr hs c j
      · rw [decide_eq_true (show V.int ((nextF hs c (fr hs c j) : Nat) : Int) = V.int ((fr hs c j : Nat) : Int) by rw [e])]
        refine iteT ?_
        refine ⟨_, rfl, ?_⟩
        have b2 := bG.trans (Same.but s2 l)
        exact k j l G2 (But.same b2 nl) nl eG2 ⟨by omega, upj, fun _ => e⟩
      · rw [decide_eq_false (fun z => e (by injection z with z; omega))]
        refine iteF ?_
        refine ⟨_, rfl, .inl ⟨rfl, _, SqL.of eG2⟩, _, rfl, l, _, _, rfl, rfl, eG2, by rw [ivs_len, frL_len, sizeLine_eq]; omega, ?_⟩
        refine ⟨_, _, rfl, (bG.trans (Same.but s2 l)).trans but_upd, ?_, fun q hq => ?_⟩
        · rw [upd_same, frL_succ]
          unfold ivs
          rw [List.map_append]
          rfl
        · rcases Nat.lt_or_ge q j with h | h
          · exact upj q h
          · obtain rfl : q = j := by omega
            have := fr_le hs c q
            have e' : ¬ fr hs c (q + 1) = fr hs c q := e
            omega
    · rintro σ G ⟨s3, s4, rfl, bG, eG, upj⟩
      exact ⟨_, rfl, k (2 * hs.length) l G (But.same bG nl) nl eG ⟨Nat.le_refl _, upj, fun h => absurd h (Nat.lt_irrefl _)⟩⟩
end
section
variable {P : Program} {w : World} {K : PySem.W.Frag} {mg : Str → Option Value} {base : Heap}
theorem ok_repeat {f : Addr} {fd : FuncData} (F : Fun K "_first_repeat" "_first_repeat" s_first_repeat f fd) (B : Blt mg) (zV : mg "divmod" = none) : FnOk P w K mg base CX0 1 f fd ["fronts", "count"] (spRepeat K) := by
  refine F.ok sc_first_repeat (fun vs H Q E h => ?_) (fun cdv A outer s H vs Q E hr h => ?_)
  · obtain ⟨l, f, m, n, rfl, _⟩ := h
    rfl
  · obtain ⟨l, f, m, n, rfl, hl, hm, h0, hn, up, k⟩ := h
    have hu := hu_of hr
    refine ⟨_, pss_cons (ps_set (i := 2) sc_first_repeat.nd rfl (Or.inl rfl) (pe_dnewK))
      (pss_cons (ps_for PassesOwn.never rfl (pi_enum (by rfl) B.enumerate (pa_cons (pv 0) pa_nil)) (pg_tup rfl (pgs_cons (pg_name (i := 3) sc_first_repeat.nd rfl (Or.inl rfl)) (pgs_cons (pg_name (i := 4) sc_first_repeat.nd rfl (Or.inl rfl)) pgs_nil)))
        (pss_one (ps_if (pt_cmpR (op_ge) (pe_op op_sub (pv 4) (pe_ix ix_list (pv 0) (pe_int) (fun _ _ => rfl))) (pe_op op_sub (pv 1) (pe_int)) (nomark _))
          (pss_cons (ps_asg (pe_callB call_divmod (by rfl) zV PyProof.Rows.boot_divmod (pa_cons (pv 4) (pa_cons (pv 1) pa_nil))) (pg_tup rfl (pgs_cons (pg_name (i := 5) sc_first_repeat.nd rfl (Or.inl rfl)) (pgs_cons (pg_name (i := 6) sc_first_repeat.nd rfl (Or.inl rfl)) pgs_nil))))
          (pss_cons (ps_if (pt_cmp (pc_din hu (pv 6) (pv 2)))
            (pss_cons (ps_set (i := 7) sc_first_repeat.nd rfl (Or.inl rfl) (pe_dget hu (pv 2) (pv 6) (fun _ _ => rfl)))
            (pss_one (ps_ret (pe_tup (pa_cons (pv 7) (pa_cons (pe_op op_sub (pv 3) (pv 7)) (pa_cons (pe_op op_sub (pv 4) (pe_ix ix_list (pv 0) (pv 7) (fun _ _ => rfl))) pa_nil))))))) pss_nil)
          (pss_one (ps_dput hu (pv 2) (pv 6) (pv 3) rfl)))) pss_nil)))
      (pss_one (ps_ret pe_non))), ?_⟩
    refine fun d nd => ?_
    refine nm_of ?_
    have fl : (ivs (frL f m)).length = m + 1 := by rw [ivs_len, frL_len]
    have sd := same_new (o := .dK []) nd
    refine ⟨_, rfl, l, ivs (frL f m), rfl, sd.seq hl, for_it (walk_enum (K := K) (a := l) (xs := ivs (frL f m))) (fun i σ G => ∃ (s3 s4 s5 s6 s7 : Option V) (L : List (Nat × Nat)), σ = [some (.ref l), some (.int (n : Nat)), some (.ref d), s3, s4, s5, s6, s7] ∧ But d H G ∧ G d = some (.dK (kvs L)) ∧
      (L.map (·.1)).Nodup ∧ (∀ r q, (r, q) ∈ L ↔ q < i ∧ okT f n q ∧ r = f q % n) ∧ L.length ≤ i ∧ ∀ s t, s < t → t < i → okT f n s → okT f n t → f s % n ≠ f t % n) ?_ ?_ ?_ ?_⟩
    · exact ⟨_, _, _, _, _, [], rfl, but_upd, upd_same, List.nodup_nil, fun r q => ⟨fun h => (nomatch h), fun h => absurd h.1 (Nat.not_lt_zero _)⟩, Nat.le_refl _, fun s t _ h => absurd h (Nat.not_lt_zero _)⟩
    · rintro i σ G _ ⟨_, _, _, _, _, _, _, b, _⟩
      exact (But.same b nd).seq hl
    · rintro i v σ G G2 hi ⟨s3, s4, s5, s6, s7, L, rfl, b, ed, nK, mem, len, no⟩ ⟨T, y, z, rfl, nT, rfl, e1, e2⟩
      obtain rfl : y = V.int (i : Int) := (Option.some.inj e1).symm
      rw [fl] at hi
      have ez : (ivs (frL f m))[i]? = some (V.int ((f i : Nat) : Int)) := by unfold ivs; rw [List.getElem?_map, frL_at (by omega)]; rfl
      obtain rfl : z = V.int ((f i : Nat) : Int) := Option.some.inj (e2.symm.trans ez)
      have lG := (But.same b nd).seq hl
      have f0i : f 0 ≤ f i := up_le up (Nat.zero_le _) (by omega)
      have sT := same_new (o := .tup [V.int (i : Int), V.int ((f i : Nat) : Int)]) nT
      refine ⟨T, _, rfl, SqT.of upd_same, rfl, _, _, rfl, _, _, rfl, rfl, ?_⟩
      have ed2 := sT _ _ ed
      have lG2 := sT.seq lG
      have b2 := b.trans (Same.but sT d)
      generalize upd G T _ = G3 at sT ed2 lG2 b2 ⊢
      clear sT nT lG ed b e1 e2 ez
      refine ⟨_, rfl, _, rfl, l, _, ((0 : Nat) : Int), _, rfl, rfl, lG2, ivs_at (frL_at (Nat.zero_le _)), _, _, rfl, rfl, _, rfl, _, _, rfl, rfl, _, _, rfl, rfl, _, rfl, ?_⟩
      by_cases c : okT f n i
      · rw [decide_eq_true (show ((f i : Nat) : Int) - ((f 0 : Nat) : Int) ≥ (n : Int) - 1 by unfold okT at c; omega)]
        refine iteT ?_
        refine ⟨_, rfl, _, rfl, _, _, rfl, ⟨by omega, by omega⟩, fun U nU => ?_⟩
        refine ⟨U, _, rfl, SqT.of upd_same, rfl, _, _, rfl, _, _, rfl, rfl, ?_⟩
        have sU := same_new (o := .tup [V.int (((f i : Nat) : Int) / (n : Int)), V.int (((f i : Nat) : Int) % (n : Int))]) nU
        have ed4 := sU _ _ ed2
        have lG4 := sU.seq lG2
        have b4 := b2.trans (Same.but sU d)
        generalize upd G3 U _ = G4 at sU ed4 lG4 b4 ⊢
        refine ⟨_, rfl, _, rfl, d, _, rfl, DGet.k (k := Sum.inl ((f i % n : Nat) : Int)) ed4, _, rfl, ?_⟩
        by_cases q : ∃ j, j < i ∧ okT f n j ∧ f j % n = f i % n
        · obtain ⟨j, j1, j2, j3⟩ := q
          have hv := kvs_get nK ((mem (f i % n) j).mpr ⟨j1, j2, j3.symm⟩)
          rw [hv]
          refine iteT ?_
          refine ⟨_, rfl, _, rfl, d, V.int (j : Int), rfl, .inl ⟨kvs L, Sum.inl ((f i % n : Nat) : Int), .inl ed4, rfl, hv.symm⟩, ?_⟩
          refine nm_of ?_
          refine ⟨_, rfl, _, rfl, _, rfl, _, _, rfl, rfl, _, rfl, _, rfl, _, rfl, l, _, ((j : Nat) : Int), _, rfl, rfl, lG4, ivs_at (frL_at (by omega)), _, _, rfl, rfl, by show 3 ≤ sizeLine; decide, fun R nR => ?_⟩
          have fj := up_le up (a := j) (b := i) (by omega) (by omega)
          refine k (some (j, i)) (.ref R) _ ((But.same b4 nd).trans (same_new nR)) ⟨j1, by omega, j2, c, j3, fun s' t' h1 h2 o1 o2 => no s' t' h1 h2 o1 o2⟩ ⟨R, rfl, SqT.of ?_⟩
          rw [upd_same]
          have x1 : ((i - j : Nat) : Int) = (i : Int) - (j : Int) := by omega
          have x2 : ((f i - f j : Nat) : Int) = ((f i : Nat) : Int) - ((f j : Nat) : Int) := by omega
          rw [x1, x2]
        · have hnk : f i % n ∉ L.map (·.1) := fun h => by
            obtain ⟨⟨r, j⟩, hj, e⟩ := List.mem_map.mp h
            obtain ⟨a1, a2, a3⟩ := (mem r j).mp hj
            have e : r = f i % n := e
            exact q ⟨j, a1, a2, by rw [← a3, e]⟩
          rw [kvs_none.mpr hnk]
          refine iteF ?_
          refine ⟨_, rfl, _, rfl, _, rfl, d, _, rfl, DPut.k (k := Sum.inl ((f i % n : Nat) : Int)) ed4 (by rw [kvs_len, sizeLine_eq]; omega), ?_⟩
          refine ⟨_, _, _, _, _, L ++ [(f i % n, i)], rfl, b4.trans but_upd, by rw [upd_same, ← kvs_put hnk], ?_, fun r p => ?_, by rw [List.length_append]; show L.length + 1 ≤ _; omega, fun s t h1 h2 o1 o2 => ?_⟩
          · rw [List.map_append, List.nodup_append]
            exact ⟨nK, List.nodup_cons.mpr ⟨by simp, List.nodup_nil⟩, fun a ha b hb e => by
              obtain rfl := List.mem_singleton.mp hb
              rw [e] at ha
              exact hnk ha⟩
          · rw [List.mem_append, List.mem_singleton, mem]
            constructor
            · rintro (⟨a1, a2, a3⟩ | e)
              · exact ⟨by omega, a2, a3⟩
              · obtain ⟨e1, e2⟩ := Prod.mk.inj e
                subst e2
                exact ⟨Nat.lt_succ_self _, c, e1⟩
            · rintro ⟨a1, a2, a3⟩
              rcases Nat.lt_or_ge p i with h | h
              · exact .inl ⟨h, a2, a3⟩
              · obtain rfl : p = i := by omega
                exact .inr (by rw [a3])
          · rcases Nat.lt_or_ge t i with h | h
            · exact no s t h1 h o1 o2
            · obtain rfl : t = i := by omega
              exact fun e => q ⟨s, h1, o1, e⟩
      · rw [decide_eq_false (show ¬ ((f i : Nat) : Int) - ((f 0 : Nat) : Int) ≥ (n : Int) - 1 by unfold okT at c; omega)]
        refine iteF ?_
        refine ⟨_, _, _, _, _, L, rfl, b2, ed2, nK, fun r p => ?_, by omega, fun s t h1 h2 o1 o2 => ?_⟩
        · rw [mem]
          constructor
          · rintro ⟨a1, a2, a3⟩
            exact ⟨by omega, a2, a3⟩
          · rintro ⟨a1, a2, a3⟩
            rcases Nat.lt_or_ge p i with h | h
            · exact ⟨h, a2, a3⟩
            · obtain rfl : p = i := by omega
              exact absurd a2 c
        · rcases Nat.lt_or_ge t i with h | h
          · exact no s t h1 h o1 o2
          · obtain rfl : t = i := by omega
            exact absurd o2 c
    · rintro σ G ⟨s3, s4, s5, s6, s7, L, rfl, b, ed, nK, mem, len, no⟩
      rw [fl] at no
      exact k none .non G (But.same b nd) (fun s t h1 h2 o1 o2 => no s t h1 (by omega) o1 o2) rfl
end
/-! ### check_number -/
def spCheckNum : Sp := fun vs H Q _ => ∃ (i lo hi : Int), vs = [.int i, .int lo, .int hi] ∧ lo ≤ i ∧ i ≤ hi ∧ Q .non H
section
variable {P : Program} {w : World} {K : PySem.W.Frag} {mg : Str → Option Value} {base : Heap}
theorem ok_checkNum {f g : Addr} {fd gd : FuncData} (F : Fun K "check_number" "check_number" s_check_number f fd) (N : At P w K mg base CX0 1 "is_number" ["value", "least", "greatest"] (spNum K) g gd) :
    FnOk P w K mg base CX0 2 f fd ["value", "least", "greatest"] spCheckNum := by
  refine F.ok sc_check_number (fun vs H Q E h => ?_) (fun cdv A outer s H vs Q E hr h => ?_)
  · obtain ⟨i, lo, hi, rfl, _⟩ := h
    rfl
  · obtain ⟨i, lo, hi, rfl, h1, h2, h⟩ := h
    refine ⟨_, pss_one (ps_if (pt_not (pt_val (pe_at N hr (pa_cons (pv 0) (pa_cons (pv 1) (pa_cons (pv 2) pa_nil)))))) (pss_one ps_never) pss_nil), ?_⟩
    refine ⟨_, rfl, _, rfl, _, rfl, _, _, _, rfl, True.intro, _, rfl, ?_⟩
    have e : numB (.int i) lo hi = true := by
      show (decide (lo ≤ i) && decide (i ≤ hi)) = true
      simp; omega
    rw [e]
    exact iteF h
end
/-! ### row >> int -/
theorem wf_up : ∀ {xs : List (Int × Int)} {lo lo' : Int}, Wf lo xs → (∀ x ∈ xs, lo' ≤ x.1) → Wf lo' xs
  | [], _, _, _, _ => True.intro
  | x :: xs, _, _, w, h => ⟨h x List.mem_cons_self, w.2⟩
def shR (xs : List (Int × Int)) (s : Int) : List (Int × Int) := xs.map fun x => (x.1 + s, x.2)
theorem shR_len (xs : List (Int × Int)) (s : Int) : (shR xs s).length = xs.length := by unfold shR; rw [List.length_map]
theorem wf_shR {s : Int} : ∀ {xs : List (Int × Int)} {lo : Int}, Wf lo xs → (∀ x ∈ xs, x.1 + s ≤ 1000000000) → Wf (lo + s) (shR xs s)
  | [], _, _, _ => True.intro
  | x :: xs, lo, w, h => by
    have q := wf_shR w.2.2.2.2 fun y hy => h y (List.mem_cons_of_mem _ hy)
    rw [show x.1 + 1 + s = (x.1 + s) + 1 by omega] at q
    exact ⟨by have := w.1; show lo + s ≤ x.1 + s; omega, h x List.mem_cons_self, w.2.2.1, w.2.2.2.1, q⟩
def spShift (K : PySem.W.Frag) (C : Addr) : Sp := fun vs H Q _ => ∃ (p : Addr) (xs : List (Int × Int)) (s : Int), vs = [.ref p, .int s] ∧ RowAt K C H p xs ∧ Wf 0 xs ∧ xs.length ≤ 40 ∧ 0 ≤ s ∧ s ≤ 1000000000 ∧ (∀ x ∈ xs, x.1 + s ≤ 1000000000) ∧
  ∀ z H', Same H H' → H z = none → RowAt K C H' z (shR xs s) → Q (.ref z) H'
section
variable {P : Program} {w : World} {K : PySem.W.Frag} {mg : Str → Option Value} {base : Heap}
theorem ok_shift {f g n4 C : Addr} {fd d4 : FuncData} (F : Fun K "__rshift__" "Row.__rshift__" s_Row_rshift f fd) (R : RowC K mg C) (L : Lims mg) (M : Mk K C g) (G : FnR P w K mg base CX0 3 g (spMake K C)) (N4 : At P w K mg base CX0 2 "check_number" ["value", "least", "greatest"] spCheckNum n4 d4) :
    FnOk P w K mg base CX0 5 f fd ["self", "distance"] (spShift K C) := by
  obtain ⟨⟨tp, mp⟩, _⟩ := id L
  refine F.ok sc_Row_rshift (fun vs H Q E h => ?_) (fun cdv A outer s H vs Q E hr h => ?_)
  · obtain ⟨p, xs, s, rfl, _⟩ := h
    rfl
  · obtain ⟨p, xs, d, rfl, hR, hw, hz, h0, h1, hd, k⟩ := h
    obtain ⟨dx, t, us, ep, hT, hS⟩ := id hR
    have r2 : Room 2 _ := hr.mono (by decide)
    refine ⟨_, pss_cons (ps_expr (pe_at N4 r2 (pa_cons (pv 1) (pa_cons (pe_un un_neg (pe_glob (v := .int 1000000000) (by rfl) mp ⟨_, rfl⟩)) (pa_cons (pe_glob (v := .int 1000000000) (by rfl) mp ⟨_, rfl⟩) pa_nil)))))
      (pss_cons (ps_setLc (i := 2) (own := [("place", 3), ("height", 4)]) (g := gTup K 2 (gCons (gName 3) (gCons (gName 4) gNil))) (tt := tYes) rfl sc_Row_rshift.nd rfl rfl (sw_true rfl rfl rfl (by decide +kernel)) (pi_tup (pe_fld (pv 0) rfl)) (blkOk_by (N := n_Row_rshift) (sc := defScope s_Row_rshift) (by decide +kernel))
          (fun _ _ _ _ _ => (show PG _ _ (gTup K 2 (gCons (gName 3) (gCons (gName 4) gNil))) from pg_tup rfl (pgs_cons (pg_name (i := 3) sc_Row_rshift.nd rfl (Or.inl rfl)) (pgs_cons (pg_name (i := 4) sc_Row_rshift.nd rfl (Or.inl rfl)) pgs_nil)))) (fun _ _ _ _ _ => pts_nil)
          (fun _ _ _ _ _ => (show PE _ _ (tTup (tCons (tOp (rI0 fun i j => .int (i + j)) (tVar 3) (tVar 1)) (tCons (tVar 4) tNil))) from pe_tup (pa_cons (pe_op op_add (pv 3) (pv 1)) (pa_cons (pv 4) pa_nil)))))
      (pss_one (ps_ret (Own.pe_makeS M G hr (by rfl) R.mgC pass0 (pv 2))))), ?_⟩
    refine ⟨_, rfl, 1000000000, rfl, d, -1000000000, 1000000000, rfl, by omega, by omega, ?_⟩
    refine ⟨_, rfl, p, C, dx, _, _, rfl, ep, R.cl, R.nS, rfl, ?_⟩
    refine ⟨t, rfl, ⟨_, hT⟩, fun D nD => lc_fm (walk_tup (K := K) (a := t) (xs := us)) (shR xs d) (fun _ => true) (fun x => x) (fun G v (x : Int × Int) => ∃ a : Addr, v = .ref a ∧ SqT K G a [.int x.1, .int x.2]) (by rw [shR_len, hS.1]) (by rw [hS.1]; omega) nD (fun H H' v b acc hD bt ⟨a, h1, h2⟩ => ⟨a, h1, sqT_but h2 hD bt⟩) (fun _ e => sqT_same hT e) ?_ ?_⟩
    · rintro n y x G G' N' M' hj sm _ ⟨rfl, hxx⟩ _ go
      have hn : n < xs.length := by have := (List.getElem?_eq_some_iff.mp hj).1; rwa [shR_len] at this
      obtain ⟨y0, hy⟩ : ∃ y, xs[n]? = some y := ⟨xs[n], by simp⟩
      have ey : y = (y0.1 + d, y0.2) := by
        have e : (shR xs d)[n]? = some (y0.1 + d, y0.2) := by unfold shR; rw [List.getElem?_map, hy]; rfl
        exact Option.some.inj (hj.symm.trans e)
      subst ey
      obtain ⟨a, ha, sa⟩ := hS.2 _ _ hy
      obtain rfl : x = .ref a := Option.some.inj (hxx.symm.trans ha)
      refine ⟨a, _, rfl, sqT_same sa sm, rfl, _, _, rfl, _, _, rfl, rfl, rfl, ?_⟩
      refine ⟨_, rfl, _, rfl, _, _, rfl, rfl, _, rfl, by show 2 ≤ sizeLine; decide, fun td nt => ?_⟩
      exact go _ _ rfl (same_new nt) ⟨td, rfl, SqT.of (by rw [upd_same])⟩
    · intro G ys sm eD rel
      rw [filter_all, List.map_id'] at rel
      have sZ : StonesAt K G ys (shR xs d) := ⟨paired_len rel, fun j x h => by obtain ⟨v, hv, a, rfl, sa⟩ := paired_at rel h; exact ⟨a, hv, sa⟩⟩
      refine nm_of ?_
      exact ⟨_, rfl, D, _, rfl, .inr (SqL.of eD), make_row sZ (wf_up (wf_shR hw hd) fun x hx => by
        unfold shR at hx
        obtain ⟨y, hy, rfl⟩ := List.mem_map.mp hx
        obtain ⟨j, hj⟩ := List.getElem?_of_mem hy
        have g0 := hw.get hj
        by_cases c : j = 0
        · have := g0.1 c; show 0 ≤ y.1 + d; omega
        · have := wf_at hw (k := j) (by exact (List.getElem?_eq_some_iff.mp hj).1)
          rw [(pl_of hj).1] at this
          show 0 ≤ y.1 + d
          omega) (by rw [shR_len]; exact hz) fun z H' s' nz ra => k z H' (sm.trans s') (Same.free sm nz) ra⟩
end
/-! ### EndlessRow and Wave -/
structure ClsE (K : PySem.W.Frag) (D : Addr) : Prop where
  cl : Cls K D
  n1 : NoAttr K D "_row"
  n2 : NoAttr K D "_period"
structure ClsW (K : PySem.W.Frag) (W : Addr) : Prop where
  cl : Cls K W
  n1 : NoAttr K W "_count"
  n2 : NoAttr K W "_fronts"
  n3 : NoAttr K W "_repeat"
def EndAt (H : Hp) (q D x : Addr) (per : Int) : Prop := ∃ dx, H q = some (.ins D dx [("_row", .ref x), ("_period", .int per)])
theorem EndAt.same {H H' : Hp} {q D x : Addr} {per : Int} (h : EndAt H q D x per) (e : Same H H') : EndAt H' q D x per := by obtain ⟨dx, h⟩ := h; exact ⟨dx, e _ _ h⟩
def WaveAt (K : PySem.W.Frag) (H : Hp) (w W l : Addr) (n : Nat) (f : Nat → Nat) (m : Nat) (rep : Option (Nat × Nat)) : Prop := ∃ dx v, H w = some (.ins W dx [("_count", .int ((n : Nat) : Int)), ("_fronts", .ref l), ("_repeat", v)]) ∧ H l = some (.lst (ivs (frL f m))) ∧ RepV K H v f rep
theorem WaveAt.same {K : PySem.W.Frag} {H H' : Hp} {w W l : Addr} {n : Nat} {f : Nat → Nat} {m : Nat} {rep : Option (Nat × Nat)} (h : WaveAt K H w W l n f m rep) (e : Same H H') : WaveAt K H' w W l n f m rep := by
  obtain ⟨dx, v, h1, h2, h3⟩ := h
  exact ⟨dx, v, e _ _ h1, e _ _ h2, h3.same e⟩
theorem WaveAt.but {K : PySem.W.Frag} {H H' : Hp} {w W l L : Addr} {n : Nat} {f : Nat → Nat} {m : Nat} {rep : Option (Nat × Nat)} {zs : List V} (h : WaveAt K H w W l n f m rep) (hL : H L = some (.lst zs)) (b : But L H H') (ne : l ≠ L) : WaveAt K H' w W l n f m rep := by
  obtain ⟨dx, v, h1, h2, h3⟩ := h
  refine ⟨dx, v, b _ _ (fun e => by rw [e, hL] at h1; cases h1) h1, b _ _ ne h2, ?_⟩
  match rep, h3 with
  | none, h => exact h
  | some (s, t), ⟨a, e1, e2⟩ => exact ⟨a, e1, sqT_but e2 hL b⟩
/-- what a wave's fronts are like -/
structure WaveP (n : Nat) (f : Nat → Nat) (m : Nat) (rep : Option (Nat × Nat)) : Prop where
  le : m ≤ 80
  n0 : 0 < n
  n40 : n ≤ 40
  up : ∀ k, k < m → f k < f (k + 1)
  small : ∀ k, k ≤ m → f k < 1000000000
  rep : RepS f n m rep
theorem waveP {hs : List Nat} {c m : Nat} {rep : Option (Nat × Nat)} (h0 : 0 < hs.length) (h1 : hs.length ≤ 40) (hc : c < hs.length) (hM : ∀ x ∈ hs, x ≤ 10000000) (F : Fronts hs c m) (R : RepS (fr hs c) hs.length m rep) : WaveP hs.length (fr hs c) m rep :=
  ⟨by have := F.le; omega, h0, h1, F.up, fun k hk => by
    have h1 := fr_bound (c := c) hM k
    have h2 : k * 10000000 ≤ 80 * 10000000 := Nat.mul_le_mul_right _ (by have := F.le; omega)
    omega, R⟩
def frontA (f : Nat → Nat) (m : Nat) (rep : Option (Nat × Nat)) (k : Nat) : Nat := if k ≤ m then f k else match rep with
  | none => f m
  | some (s, t) => f (s + (k - s) % (t - s)) + (k - s) / (t - s) * (f t - f s)
def FirstT (f : Nat → Nat) (m o : Nat) : Option Nat → Prop
  | none => ∀ j, j ≤ m → f j < o
  | some k => k ≤ m ∧ o ≤ f k ∧ ∀ j, j < k → f j < o
theorem FirstT.one {f : Nat → Nat} {m o : Nat} {a b : Option Nat} (h : FirstT f m o a) (h' : FirstT f m o b) : a = b := by
  match a, b, h, h' with
  | none, none, _, _ => rfl
  | none, some k, h, h' => have := h k h'.1; have := h'.2.1; omega
  | some k, none, h, h' => have := h' k h.1; have := h.2.1; omega
  | some k, some k', h, h' =>
    have e : k = k' := by
      rcases Nat.lt_trichotomy k k' with q | q | q
      · have := h'.2.2 k q; have := h.2.1; omega
      · exact q
      · have := h.2.2 k' q; have := h'.2.1; omega
    rw [e]
def optN : Option Nat → V
  | none => .non
  | some k => .int (k : Nat)
def TickS (n : Nat) (f : Nat → Nat) (m : Nat) (rep : Option (Nat × Nat)) (o : Nat) (r : Option Nat) : Prop :=
  if o < f 0 then r = none else match rep with
    | none => FirstT f m o r
    | some (s, t) => ∃ k, FirstT f m (o - (o - f s) / (f t - f s) * (f t - f s)) (some k) ∧ r = some (k + (o - f s) / (f t - f s) * (t - s))
theorem TickS.one {n : Nat} {f : Nat → Nat} {m : Nat} {rep : Option (Nat × Nat)} {o : Nat} {a b : Option Nat} (h : TickS n f m rep o a) (h' : TickS n f m rep o b) : a = b := by
  unfold TickS at h h'
  by_cases c : o < f 0
  · rw [if_pos c] at h h'
    rw [h, h']
  · rw [if_neg c] at h h'
    match rep, h, h' with
    | none, h, h' => exact h.one h'
    | some (s, t), ⟨k, h1, h2⟩, ⟨k', h3, h4⟩ =>
      have e := h1.one h3
      injection e with e
      rw [h2, h4, e]
def lastV (K : PySem.W.Frag) (H : Hp) (v : V) (n : Nat) (f : Nat → Nat) (m : Nat) : Option (Nat × Nat) → Prop
  | some _ => v = .non
  | none => PairV K H v (f m / n, f m % n)
def spEInit (K : PySem.W.Frag) (C D : Addr) : Sp := fun vs H Q _ => ∃ (q dx x : Addr) (xs : List (Int × Int)) (per : Int), vs = [.ref q, .ref x, .int per] ∧ H q = some (.ins D dx []) ∧ RowAt K C H x xs ∧ xs.length ≤ 40 ∧ 0 < xs.length ∧ pl xs (xs.length - 1) - pl xs 0 + 1 ≤ per ∧ per ≤ 1000000000 ∧
  ∀ H', But q H H' → H' q = some (.ins D dx [("_row", .ref x), ("_period", .int per)]) → Q .non H'
def spWInit (K : PySem.W.Frag) (C W : Addr) : Sp := fun vs H Q _ => ∃ (q dx x : Addr) (xs : List (Int × Int)) (per : Int) (i : Nat), vs = [.ref q, .ref x, .int per, .int (i : Nat)] ∧ H q = some (.ins W dx []) ∧ RowAt K C H x xs ∧ Wf 0 xs ∧ xs.length ≤ 40 ∧ i < xs.length ∧ 0 < per ∧ per ≤ 1000000000 ∧
  ∀ l m rep H', But q H H' → H l = none → WaveAt K H' q W l xs.length (fr (hitsOf xs per) i) m rep → Fronts (hitsOf xs per) i m → RepS (fr (hitsOf xs per) i) xs.length m rep → Q .non H'
def spWave (K : PySem.W.Frag) (C D W : Addr) : Sp := fun vs H Q _ => ∃ (q x : Addr) (xs : List (Int × Int)) (per : Int) (i : Nat), vs = [.ref q, .int (i : Nat)] ∧ EndAt H q D x per ∧ RowAt K C H x xs ∧ Wf 0 xs ∧ xs.length ≤ 40 ∧ i < xs.length ∧ 0 < per ∧ per ≤ 1000000000 ∧
  ∀ w l m rep H', Same H H' → H l = none → WaveAt K H' w W l xs.length (fr (hitsOf xs per) i) m rep → Fronts (hitsOf xs per) i m → RepS (fr (hitsOf xs per) i) xs.length m rep → Q (.ref w) H'
abbrev Wv (K : PySem.W.Frag) (W : Addr) (go : Addr → Nat → (Nat → Nat) → Nat → Option (Nat × Nat) → List V → Hp → VK → Prop) : Sp := fun vs H Q _ => ∃ (w l : Addr) (n : Nat) (f : Nat → Nat) (m : Nat) (rep : Option (Nat × Nat)) (rest : List V), vs = .ref w :: rest ∧ WaveAt K H w W l n f m rep ∧ WaveP n f m rep ∧ go w n f m rep rest H Q
def spIsEnd (K : PySem.W.Frag) (W : Addr) : Sp := Wv K W fun _ _ _ _ rep rest H Q => rest = [] ∧ Q (.bl rep.isSome) H
def spLast (K : PySem.W.Frag) (W : Addr) : Sp := Wv K W fun _ n f m rep rest H Q => rest = [] ∧ ∀ v H', Same H H' → lastV K H' v n f m rep → Q v H'
def spFrontA (K : PySem.W.Frag) (W : Addr) : Sp := Wv K W fun _ _ f m rep rest H Q => ∃ k : Nat, rest = [.int (k : Nat)] ∧ ∀ H', Same H H' → Q (.int ((frontA f m rep k : Nat) : Int)) H'
def spCountA (K : PySem.W.Frag) (W : Addr) : Sp := Wv K W fun _ _ f m rep rest H Q => ∃ k : Nat, rest = [.int (k : Nat)] ∧ (k : Int) ≤ 10 ^ 18 ∧ ∀ H', Same H H' → Q (.int ((frontA f m rep k : Nat) - (f 0 : Nat) + 1 : Int)) H'
def spFirstT (K : PySem.W.Frag) (W : Addr) : Sp := Wv K W fun _ _ f m _ rest H Q => ∃ o : Nat, rest = [.int (o : Nat)] ∧ ∀ r H', Same H H' → FirstT f m o r → Q (optN r) H'
def spTickOf (K : PySem.W.Frag) (W : Addr) : Sp := Wv K W fun _ n f m rep rest H Q => ∃ k i : Nat, rest = [.int (k : Nat), .int (i : Nat)] ∧ (k : Int) ≤ 10 ^ 18 ∧ i < n ∧ ∀ r H', Same H H' → TickS n f m rep (k * n + i) r → Q (optN r) H'
section
variable {P : Program} {w : World} {K : PySem.W.Frag} {mg : Str → Option Value} {base : Heap}
theorem ok_eInit {f C D gL pP gP n4 : Addr} {fd dP d4 : FuncData} (F : Fun K "__init__" "EndlessRow.__init__" s_EndlessRow_init f fd) (B : Blt mg) (R : RowC K mg C) (cE : ClsE K D) (mG : ∃ v, mg "GREATEST_PERIOD" = some v ∧ L2.RelV (.int 1000000000) v)
    (SL : Sign K C "__len__" gL) (GL : FnR P w K mg base CX0 1 gL (spLen K C)) (pr : PropOf K C "places" pP gP) (P1 : FnOk P w K mg base CX0 1 gP dP ["self"] (spPlaces K C)) (bP : Binds K dP ["self"] []) (N4 : At P w K mg base CX0 2 "check_number" ["value", "least", "greatest"] spCheckNum n4 d4) :
    FnOk P w K mg base CX0 3 f fd ["self", "row", "period"] (spEInit K C D) := by
  obtain ⟨vG, mG, rG⟩ := mG
  refine F.ok sc_EndlessRow_init (fun vs H Q E h => ?_) (fun cdv A outer s H vs Q E hr h => ?_)
  · obtain ⟨q, dx, x, xs, per, rfl, _⟩ := h
    rfl
  · obtain ⟨q, dx, x, xs, per, rfl, eq, hR, hz, h0, h1, h2, k⟩ := h
    obtain ⟨dr, t, us, ep, hT, hS⟩ := id hR
    refine ⟨_, pss_cons (ps_if (PW.pt (pw_or (pt_not (pt_val (pe_callB (call_isi) (by rfl) B.isinstance boot_isinstance (pa_cons (pv 1) (pa_cons (pe_glob (v := .ref C) (by rfl) R.mgC rfl) pa_nil))))) (pw_or1 (pt_cmpR (op_eq) (pe_callB (Own.call_len SL.at_ SL.fn GL hr pass0) (by rfl) B.len PySem.boot_len (pa_cons (pv 1) pa_nil)) (pe_int) (nomark _))))) (pss_one ps_never) pss_nil)
      (pss_cons (ps_expr (pe_at N4 hr (pa_cons (pv 2) (pa_cons (pe_op op_add (pe_op op_sub (pe_ix ix_tup (pe_prop (pv 1) R.cl pr P1 hr bP .nil pass0 rfl) (pe_un un_neg pe_int) (fun _ _ => rfl)) (pe_ix ix_tup (pe_prop (pv 1) R.cl pr P1 hr bP .nil pass0 rfl) (pe_int) (fun _ _ => rfl))) (pe_int)) (pa_cons (pe_glob (v := .int 1000000000) (by rfl) mG rG) pa_nil)))))
      (pss_cons (ps_fld (pv 0) (pv 1) rfl)
      (pss_one (ps_fld (pv 0) (pv 2) rfl)))), ?_⟩
    refine ⟨_, rfl, _, .ref C, _, _, true, rfl, .own C, R.ty ep, kit_self, true, rfl, iteF ?_⟩
    refine ⟨_, rfl, x, dr, _, rfl, ep, x, xs, rfl, hR, _, rfl, by omega, by omega, rfl, _, rfl, ?_⟩
    rw [decide_eq_false (fun e => by injection e with e; omega)]
    refine iteF ?_
    have pv_len : (plV xs).length = xs.length := by unfold plV; rw [List.length_map]
    refine ⟨_, rfl, _, rfl, x, dr, _, rfl, ep, x, xs, rfl, hR, hz, fun z1 H1 s1 n1 e1 => ?_⟩
    refine ⟨1, rfl, z1, _, (-1), _, rfl, rfl, SqT.of e1, at_lastV (by
      rw [pv_len]
      unfold plV
      rw [List.getElem?_map]
      have e : xs[xs.length - 1]? = some (xs[xs.length - 1]'(by omega)) := by simp
      rw [e]
      show some (V.int _) = some (V.int (pl xs (xs.length - 1)))
      rw [(pl_of e).1]) (by rw [pv_len]; exact h0), ?_⟩
    refine ⟨_, rfl, x, dr, _, rfl, s1 _ _ ep, x, xs, rfl, hR.same s1, hz, fun z2 H2 s2 n2 e2 => ?_⟩
    refine ⟨z2, _, _, _, rfl, rfl, SqT.of e2, pl_get (a := 0) h0, _, _, rfl, rfl, _, _, rfl, rfl, per, _, _, rfl, h1, h2, ?_⟩
    have s12 := s1.trans s2
    refine ⟨_, rfl, _, rfl, q, D, dx, [], rfl, s12 _ _ eq, cE.cl, cE.n1, (by show 0 < 1000; decide), ?_⟩
    refine ⟨_, rfl, _, rfl, q, D, dx, _, rfl, upd_same, cE.cl, cE.n2, (by show 1 < 1000; decide), ?_⟩
    exact k _ (((Same.but s12 q).trans but_upd).trans but_upd) upd_same
theorem ok_wInit {f C W gL g1 g2 g3 : Addr} {fd d1 d2 d3 : FuncData} (F : Fun K "__init__" "Wave.__init__" s_Wave_init f fd) (B : Blt mg) (R : RowC K mg C) (cW : ClsW K W) (SL : Sign K C "__len__" gL) (GL : FnR P w K mg base CX0 1 gL (spLen K C))
    (N1 : At P w K mg base CX0 5 "_last_hit" ["row", "period", "stone"] (spLastHit K C) g1 d1) (N2 : At P w K mg base CX0 2 "_fronts_of_wave" ["hits", "first"] (spFronts K) g2 d2) (N3 : At P w K mg base CX0 1 "_first_repeat" ["fronts", "count"] (spRepeat K) g3 d3) :
    FnOk P w K mg base CX0 6 f fd ["self", "row", "period", "stone"] (spWInit K C W) := by
  refine F.ok sc_Wave_init (fun vs H Q E h => ?_) (fun cdv A outer s H vs Q E hr h => ?_)
  · obtain ⟨q, dx, x, xs, per, i, rfl, _⟩ := h
    rfl
  · obtain ⟨q, dx, x, xs, per, i, rfl, eq, hR, hw, hz, hi, h0, h1, k⟩ := h
    have r2 : Room 2 _ := hr.mono (by decide)
    have r1 : Room 1 _ := hr.mono (by decide)
    obtain ⟨dr, t, us, ep, hT, hS⟩ := id hR
    refine ⟨_, pss_cons (ps_setLc (i := 4) (own := [("other", 5)]) (g := gName 5) (tt := tYes) rfl sc_Wave_init.nd rfl rfl (sw_true rfl rfl rfl (by decide +kernel)) (pi_range1 (by rfl) B.range (pa_cons (pe_callB (Own.call_len SL.at_ SL.fn GL r2 pass0) (by rfl) B.len PySem.boot_len (pa_cons (pv 1) pa_nil)) pa_nil)) (blkOk_by (N := n_Wave_init) (sc := defScope s_Wave_init) (by decide +kernel))
          (fun _ _ _ _ _ => pg_name (i := 5) sc_Wave_init.nd rfl (Or.inl rfl)) (fun _ _ _ _ _ => pts_nil) (fun _ _ _ _ _ => (show PE _ _ (tCall (spLastHit K C) [] E0 (tCons (tVar 1) (tCons (tVar 2) (tCons (tVar 5) tNil)))) from pe_at N1 hr (pa_cons (pv 1) (pa_cons (pv 2) (pa_cons (pv 5) pa_nil))))))
      (pss_cons (ps_fld (pv 0) (pe_callB (Own.call_len SL.at_ SL.fn GL r2 pass0) (by rfl) B.len PySem.boot_len (pa_cons (pv 1) pa_nil)) rfl)
      (pss_cons (ps_fld (pv 0) (pe_at N2 r2 (pa_cons (pv 4) (pa_cons (pv 3) pa_nil))) rfl)
      (pss_one (ps_fld (pv 0) (pe_at N3 r1 (pa_cons (pe_fld (pv 0) rfl) (pa_cons (pe_fld (pv 0) rfl) pa_nil))) rfl)))), ?_⟩
    refine ⟨_, rfl, x, dr, _, rfl, ep, x, xs, rfl, hR, _, rfl, by omega, by omega, _, rfl, by omega, by omega, ?_⟩
    refine fun D nD => lc_fm (walk_range (lo := 0) (n := xs.length)) (List.range xs.length) (fun _ => true) (lastHit xs per) (fun _ v (m : Nat) => v = V.int (m : Int)) List.length_range (by omega) nD (fun _ _ _ _ _ _ _ q => q) (fun _ _ => True.intro) ?_ ?_
    · rintro n j y G G' N' M' hj sm _ ⟨rfl, hxx⟩ _ go
      obtain rfl : y = V.int (n : Int) := hxx.trans (congrArg V.int (Int.zero_add _))
      obtain ⟨hj1, hj2⟩ := List.getElem?_eq_some_iff.mp hj
      obtain rfl : n = j := by simpa using hj2
      rw [List.length_range] at hj1
      exact ⟨rfl, _, rfl, _, rfl, _, rfl, x, xs, per, n, rfl, hR.same sm, hw, hz, hj1, h0, h1, fun H' s' => go _ _ rfl s' rfl⟩
    · intro G ys sm eD rel
      rw [filter_all] at rel
      have e := paired_eq (fun m : Nat => V.int (m : Int)) rel
      have eD : G D = some (.lst (ivs (hitsOf xs per))) := by rw [eD, e]; rfl
      have hl : (hitsOf xs per).length = xs.length := by unfold hitsOf; simp
      refine nm_of ?_
      have nDq : q ≠ D := ne_of_none eq nD
      -- _count
      refine ⟨_, rfl, x, dr, _, rfl, sm _ _ ep, x, xs, rfl, hR.same sm, _, rfl, by omega, by omega, _, rfl, q, W, dx, [], rfl, sm _ _ eq, cW.cl, cW.n1, (by show 0 < 1000; decide), ?_⟩
      have q1 : (upd G q (.ins W dx (putF "_count" (V.int (xs.length : Int)) []))) q = some (.ins W dx [("_count", V.int (xs.length : Int))]) := upd_same
      have b1 : But q G (upd G q (.ins W dx (putF "_count" (V.int (xs.length : Int)) []))) := but_upd
      generalize upd G q (.ins W dx (putF "_count" (V.int (xs.length : Int)) [])) = G1 at q1 b1 ⊢
      have d1' := b1 _ _ nDq.symm eD
      -- _fronts
      refine ⟨_, rfl, _, rfl, D, hitsOf xs per, i, rfl, SqL.of d1', by omega, by omega, by omega, fun y hy => ?_, fun m l G2 s2 nl el Fr => ?_⟩
      · unfold hitsOf at hy
        obtain ⟨j, hj, rfl⟩ := List.mem_map.mp hy
        exact lastHit_le hw (List.mem_range.mp hj) hz h0
      refine ⟨_, rfl, q, W, dx, _, rfl, s2 _ _ q1, cW.cl, cW.n2, (by show 1 < 1000; decide), ?_⟩
      have nlq : l ≠ q := fun e => by rw [e, q1] at nl; cases nl
      have q3 : (upd G2 q (.ins W dx (putF "_fronts" (.ref l) [("_count", V.int (xs.length : Int))]))) q = some (.ins W dx [("_count", V.int (xs.length : Int)), ("_fronts", .ref l)]) := upd_same
      have b3 : But q G2 (upd G2 q (.ins W dx (putF "_fronts" (.ref l) [("_count", V.int (xs.length : Int))]))) := but_upd
      generalize upd G2 q (.ins W dx (putF "_fronts" (.ref l) [("_count", V.int (xs.length : Int))])) = G3 at q3 b3 ⊢
      have el3 := b3 _ _ nlq el
      -- _repeat
      refine ⟨_, rfl, q, W, dx, _, _, rfl, q3, cW.cl, cW.n2, rfl, _, rfl, q, W, dx, _, _, rfl, q3, cW.cl, cW.n1, rfl, l, fr (hitsOf xs per) i, m, xs.length, rfl, SqL.of el3, by have := Fr.le; omega, by omega, by omega, Fr.up, fun rep v G4 s4 Rp Rv => ?_⟩
      refine ⟨_, rfl, q, W, dx, _, rfl, s4 _ _ q3, cW.cl, cW.n3, (by show 2 < 1000; decide), ?_⟩
      have bq : But q H (upd G4 q (.ins W dx (putF "_repeat" v [("_count", V.int (xs.length : Int)), ("_fronts", .ref l)]))) :=
        ((((Same.but sm q).trans b1).trans (Same.but s2 q)).trans b3).trans ((Same.but s4 q).trans but_upd)
      have nlH : H l = none := by
        have h1 : ∀ b, b ≠ q → H b ≠ none → G1 b ≠ none := fun b nb hb => by
          cases e : H b with
          | none => exact absurd e hb
          | some o => rw [b1 _ _ nb (sm _ _ e)]; exact fun z => nomatch z
        cases e : H l with
        | none => rfl
        | some o => exact absurd nl (h1 l nlq (by rw [e]; exact fun z => nomatch z))
      refine k l m rep _ bq nlH ⟨dx, v, upd_same, ?_, ?_⟩ Fr Rp
      · rw [upd_ne nlq]; exact s4 _ _ el3
      · match rep, Rv with
        | none, h => exact h
        | some (s, t), ⟨a, e1, e2⟩ =>
          refine ⟨a, e1, ?_⟩
          rcases e2 with (h | ⟨o, h⟩) | h
          · exact .inl (.inl (by rw [upd_ne (fun z => by rw [z, s4 _ _ q3] at h; cases h)]; exact h))
          · exact .inl (.inr ⟨o, by rw [upd_ne (fun z => by rw [z, s4 _ _ q3] at h; cases h)]; exact h⟩)
          · exact .inr h
end
section
variable {P : Program} {w : World} {K : PySem.W.Frag} {mg : Str → Option Value} {base : Heap}
theorem ok_wave {f C D W gL g1 gW : Addr} {fd d1 dW : FuncData} (F : Fun K "wave" "EndlessRow.wave" s_EndlessRow_wave f fd) (B : Blt mg) (cE : ClsE K D) (mW : mg "Wave" = some (.ref W)) (SL : Sign K C "__len__" gL) (GL : FnR P w K mg base CX0 1 gL (spLen K C))
    (N1 : At P w K mg base CX0 2 "check_stone" ["stone", "count"] spCheckStone g1 d1) (MW : Mk K W gW) (FW : FnOk P w K mg base CX0 6 gW dW ["self", "row", "period", "stone"] (spWInit K C W)) (bW : Binds K dW ["self", "row", "period", "stone"] []) :
    FnOk P w K mg base CX0 8 f fd ["self", "stone"] (spWave K C D W) := by
  refine F.ok sc_EndlessRow_wave (fun vs H Q E h => ?_) (fun cdv A outer s H vs Q E hr h => ?_)
  · obtain ⟨q, x, xs, per, i, rfl, _⟩ := h
    rfl
  · obtain ⟨q, x, xs, per, i, rfl, ⟨dx, eq⟩, hR, hw, hz, hi, h0, h1, k⟩ := h
    have r2 : Room 2 _ := hr.mono (by decide)
    obtain ⟨dr, t, us, ep, hT, hS⟩ := id hR
    refine ⟨_, pss_cons (ps_expr (pe_at N1 r2 (pa_cons (pv 1) (pa_cons (pe_callB (Own.call_len SL.at_ SL.fn GL r2 pass0) (by rfl) B.len PySem.boot_len (pa_cons (pe_fld (pv 0) rfl) pa_nil)) pa_nil))))
      (pss_one (ps_ret (pe_make MW FW hr (by rfl) mW bW .nil pass0 (pa_cons (pe_fld (pv 0) rfl) (pa_cons (pe_fld (pv 0) rfl) (pa_cons (pv 1) pa_nil)))))), ?_⟩
    refine ⟨_, rfl, _, rfl, q, D, dx, _, _, rfl, eq, cE.cl, cE.n1, rfl, x, dr, _, rfl, ep, x, xs, rfl, hR, _, rfl, by omega, by omega, i, xs.length, rfl, hi, ?_⟩
    refine ⟨_, rfl, q, D, dx, _, _, rfl, eq, cE.cl, cE.n1, rfl, _, rfl, q, D, dx, _, _, rfl, eq, cE.cl, cE.n2, rfl, _, rfl, fun z dz nz ndz ne => ?_⟩
    have s1 := same_new (o := .own z) ndz
    have n2 : (upd H dz (.own z)) z = none := by rw [upd_ne (fun e => ne e.symm)]; exact nz
    have s2 := s1.trans (same_new (o := .ins W dz []) n2)
    refine ⟨z, dz, x, xs, per, i, rfl, upd_same, hR.same s2, hw, hz, hi, h0, h1, fun l m rep H' b nl wa Fr Rp => ⟨rfl, ?_⟩⟩
    exact k z l m rep H' (fun c o e => b c o (ne_of_none e nz) (s2 c o e)) (Same.free s2 nl) wa Fr Rp
theorem ok_isEnd {f W : Addr} {fd : FuncData} (F : Fun K "is_endless" "Wave.is_endless" s_Wave_is_endless f fd) (cW : ClsW K W) : FnOk P w K mg base CX0 1 f fd ["self"] (spIsEnd K W) := by
  refine F.ok sc_Wave_is_endless (fun vs H Q E h => ?_) (fun cdv A outer s H vs Q E hr h => ?_)
  · obtain ⟨q, l, n, f, m, rep, rest, rfl, _, _, rfl, _⟩ := h
    rfl
  · obtain ⟨q, l, n, f, m, rep, rest, rfl, ⟨dx, v, eq, el, Rv⟩, p, rfl, k⟩ := h
    refine ⟨_, pss_one (ps_ret (pe_cmpR (op_notN) (pe_fld (pv 0) rfl) (pe_non) (nomark _))), ?_⟩
    refine ⟨_, rfl, q, W, dx, _, v, rfl, eq, cW.cl, cW.n3, rfl, rfl, ?_⟩
    match rep, Rv, k with
    | none, Rv, k => obtain rfl : v = .non := Rv; exact k
    | some (s, t), ⟨a, e, _⟩, k => subst e; exact k
theorem ok_last {f W : Addr} {fd : FuncData} (F : Fun K "last_fallen" "Wave.last_fallen" s_Wave_last_fallen f fd) (cW : ClsW K W) (zV : mg "divmod" = none) : FnOk P w K mg base CX0 1 f fd ["self"] (spLast K W) := by
  refine F.ok sc_Wave_last_fallen (fun vs H Q E h => ?_) (fun cdv A outer s H vs Q E hr h => ?_)
  · obtain ⟨q, l, n, f, m, rep, rest, rfl, _, _, rfl, _⟩ := h
    rfl
  · obtain ⟨q, l, n, f, m, rep, rest, rfl, ⟨dx, v, eq, el, Rv⟩, p, rfl, k⟩ := h
    have n0 := p.n0
    have n40 := p.n40
    refine ⟨_, pss_cons (ps_if (pt_cmpR (op_notN) (pe_fld (pv 0) rfl) (pe_non) (nomark _)) (pss_one (ps_ret pe_non)) pss_nil)
      (pss_one (ps_ret (pe_callB call_divmod (by rfl) zV PyProof.Rows.boot_divmod (pa_cons (pe_ix ix_list (pe_fld (pv 0) rfl) (pe_un un_neg pe_int) (fun _ _ => rfl)) (pa_cons (pe_fld (pv 0) rfl) pa_nil))))), ?_⟩
    refine ⟨_, rfl, q, W, dx, _, v, rfl, eq, cW.cl, cW.n3, rfl, rfl, _, rfl, ?_⟩
    match rep, Rv, k with
    | some (s, t), ⟨a, e, _⟩, k => subst e; exact iteT (k .non H (Same.refl _) rfl)
    | none, Rv, k =>
      obtain rfl : v = .non := Rv
      refine iteF ?_
      have la : atI (ivs (frL f m)) (-1) = some (.int ((f m : Nat) : Int)) := by
        refine at_lastV ?_ (by rw [ivs_len, frL_len]; omega)
        rw [ivs_len, frL_len]
        show (ivs (frL f m))[m]? = _
        unfold ivs
        rw [List.getElem?_map, frL_at (Nat.le_refl _)]
        rfl
      refine ⟨_, rfl, q, W, dx, _, _, rfl, eq, cW.cl, cW.n2, rfl, 1, rfl, l, _, (-1), _, rfl, rfl, SqL.of el, la, _, rfl, q, W, dx, _, _, rfl, eq, cW.cl, cW.n1, rfl, _, _, rfl, ⟨by omega, by omega⟩, fun T nT => ?_⟩
      exact k _ _ (same_new nT) ⟨T, rfl, SqT.of (by rw [upd_same]; rfl)⟩
theorem ok_frontA {f W : Addr} {fd : FuncData} (F : Fun K "_front_after" "Wave._front_after" s_Wave_front_after f fd) (B : Blt mg) (cW : ClsW K W) (zV : mg "divmod" = none) : FnOk P w K mg base CX0 1 f fd ["self", "tick"] (spFrontA K W) := by
  refine F.ok sc_Wave_front_after (fun vs H Q E h => ?_) (fun cdv A outer s H vs Q E hr h => ?_)
  · obtain ⟨q, l, n, f, m, rep, rest, rfl, _, _, c, rfl, _⟩ := h
    rfl
  · obtain ⟨q, l, n, f, m, rep, rest, rfl, ⟨dx, v, eq, el, Rv⟩, p, c, rfl, k⟩ := h
    refine ⟨_, pss_cons (ps_if (pt_cmpR (op_lt) (pv 1) (pe_callB call_len_seq (by rfl) B.len PySem.boot_len (pa_cons (pe_fld (pv 0) rfl) pa_nil)) (nomark _)) (pss_one (ps_ret (pe_ix ix_list (pe_fld (pv 0) rfl) (pv 1) (fun _ _ => rfl)))) pss_nil)
      (pss_cons (ps_if (pt_cmpR (op_isN) (pe_fld (pv 0) rfl) (pe_non) (nomark _)) (pss_one (ps_ret (pe_ix ix_list (pe_fld (pv 0) rfl) (pe_un un_neg pe_int) (fun _ _ => rfl)))) pss_nil)
      (pss_cons (ps_asg (pe_fld (pv 0) rfl) (pg_tup rfl (pgs_cons (pg_name (i := 2) sc_Wave_front_after.nd rfl (Or.inl rfl)) (pgs_cons (pg_name (i := 3) sc_Wave_front_after.nd rfl (Or.inl rfl)) (pgs_cons (pg_name (i := 4) sc_Wave_front_after.nd rfl (Or.inl rfl)) pgs_nil)))))
      (pss_cons (ps_asg (pe_callB call_divmod (by rfl) zV PyProof.Rows.boot_divmod (pa_cons (pe_op op_sub (pv 1) (pv 2)) (pa_cons (pv 3) pa_nil))) (pg_tup rfl (pgs_cons (pg_name (i := 5) sc_Wave_front_after.nd rfl (Or.inl rfl)) (pgs_cons (pg_name (i := 6) sc_Wave_front_after.nd rfl (Or.inl rfl)) pgs_nil))))
      (pss_one (ps_ret (pe_op op_add (pe_ix ix_list (pe_fld (pv 0) rfl) (pe_op op_add (pv 2) (pv 6)) (fun _ _ => rfl)) (pe_op op_mul (pv 5) (pv 4)))))))), ?_⟩
    have ll : (ivs (frL f m)).length = m + 1 := by rw [ivs_len, frL_len]
    refine ⟨_, rfl, _, rfl, q, W, dx, _, _, rfl, eq, cW.cl, cW.n2, rfl, l, _, rfl, .inl (SqL.of el), _, _, rfl, rfl, _, rfl, ?_⟩
    rw [ll]
    by_cases c1 : c ≤ m
    · rw [decide_eq_true (show (c : Int) < ((m + 1 : Nat) : Int) by omega)]
      refine iteT ⟨_, rfl, q, W, dx, _, _, rfl, eq, cW.cl, cW.n2, rfl, _, rfl, l, _, ((c : Nat) : Int), _, rfl, rfl, SqL.of el, ivs_at (frL_at c1), ?_⟩
      have e : frontA f m rep c = f c := by unfold frontA; rw [if_pos c1]
      rw [← e]
      exact k H (Same.refl _)
    · rw [decide_eq_false (show ¬ (c : Int) < ((m + 1 : Nat) : Int) by omega)]
      refine iteF ?_
      refine ⟨_, rfl, q, W, dx, _, v, rfl, eq, cW.cl, cW.n3, rfl, rfl, _, rfl, ?_⟩
      match rep, Rv, k, p with
      | none, Rv, k, p =>
        obtain rfl : v = .non := Rv
        refine iteT ?_
        have la : atI (ivs (frL f m)) (-1) = some (.int ((f m : Nat) : Int)) := by
          refine at_lastV ?_ (by omega)
          rw [ll]
          show (ivs (frL f m))[m]? = _
          unfold ivs
          rw [List.getElem?_map, frL_at (Nat.le_refl _)]
          rfl
        refine ⟨_, rfl, q, W, dx, _, _, rfl, eq, cW.cl, cW.n2, rfl, 1, rfl, l, _, (-1), _, rfl, rfl, SqL.of el, la, ?_⟩
        have e : frontA f m none c = f m := by unfold frontA; rw [if_neg c1]
        rw [← e]
        exact k H (Same.refl _)
      | some (s, t), ⟨a, e, ea⟩, k, p =>
        subst e
        obtain ⟨p1, p2, _⟩ := p.rep
        have ple := p.le
        refine iteF ?_
        refine ⟨_, rfl, q, W, dx, _, _, rfl, eq, cW.cl, cW.n3, rfl, a, _, rfl, ea, rfl, _, _, rfl, _, _, rfl, _, _, rfl, rfl, ?_⟩
        refine ⟨_, rfl, _, rfl, _, _, rfl, rfl, _, rfl, _, _, rfl, ⟨by omega, by omega⟩, fun T nT => ⟨T, _, rfl, SqT.of upd_same, rfl, _, _, rfl, _, _, rfl, rfl, ?_⟩⟩
        have ec : (c : Int) - (s : Int) = ((c - s : Nat) : Int) := by omega
        have sT := same_new (o := .tup [V.int (((c : Int) - (s : Int)) / ((t - s : Nat) : Int)), V.int (((c : Int) - (s : Int)) % ((t - s : Nat) : Int))]) nT
        have md : (c - s) % (t - s) < t - s := Nat.mod_lt _ (by omega)
        have eq2 := sT _ _ eq
        have el2 := sT _ _ el
        generalize upd H T _ = H2 at sT eq2 el2 ⊢
        rw [ec]
        refine ⟨_, rfl, q, W, dx, _, _, rfl, eq2, cW.cl, cW.n2, rfl, _, rfl, _, rfl, _, _, rfl, rfl, l, _, ((s + (c - s) % (t - s) : Nat) : Int), _, rfl, rfl, SqL.of el2, ivs_at (frL_at (by omega)), ?_⟩
        refine ⟨_, rfl, _, rfl, _, _, rfl, rfl, .inr ⟨by omega, by have := p.small t p2; omega⟩, _, _, rfl, rfl, ?_⟩
        have e : frontA f m (some (s, t)) c = f (s + (c - s) % (t - s)) + (c - s) / (t - s) * (f t - f s) := by unfold frontA; rw [if_neg c1]
        have fin := k H2 sT
        rw [e] at fin
        exact fin
theorem ok_countA {f W g n4 : Addr} {fd gd d4 : FuncData} (F : Fun K "count_after" "Wave.count_after" s_Wave_count_after f fd) (cW : ClsW K W) (mG : ∃ v, mg "GREATEST_TICK" = some v ∧ L2.RelV (.int 1000000000000000000) v) (N4 : At P w K mg base CX0 2 "check_number" ["value", "least", "greatest"] spCheckNum n4 d4)
    (Hm : Meth K W "_front_after" g) (G : FnOk P w K mg base CX0 1 g gd ["self", "tick"] (spFrontA K W)) (bG : Binds K gd ["self", "tick"] []) : FnOk P w K mg base CX0 3 f fd ["self", "tick"] (spCountA K W) := by
  obtain ⟨vG, mG, rG⟩ := mG
  refine F.ok sc_Wave_count_after (fun vs H Q E h => ?_) (fun cdv A outer s H vs Q E hr h => ?_)
  · obtain ⟨q, l, n, f, m, rep, rest, rfl, _, _, c, rfl, _⟩ := h
    rfl
  · obtain ⟨q, l, n, f, m, rep, rest, rfl, hW, p, c, rfl, hc, k⟩ := h
    have r1 : Room 1 _ := hr.mono (by decide)
    obtain ⟨dx, v, eq, el, Rv⟩ := id hW
    refine ⟨_, pss_cons (ps_expr (pe_at N4 hr (pa_cons (pv 1) (pa_cons (pe_int) (pa_cons (pe_glob (v := .int 1000000000000000000) (by rfl) mG rG) pa_nil)))))
      (pss_one (ps_ret (pe_op op_add (pe_op op_sub (pe_meth (pv 0) cW.cl Hm G r1 bG .nil pass0 (pa_cons (pv 1) pa_nil)) (pe_ix ix_list (pe_fld (pv 0) rfl) (pe_int) (fun _ _ => rfl))) (pe_int)))), ?_⟩
    refine ⟨_, rfl, (c : Int), 0, _, rfl, by omega, by omega, ?_⟩
    refine ⟨_, rfl, q, dx, _, rfl, eq, rfl, _, rfl, q, l, n, f, m, rep, _, rfl, hW, p, c, rfl, fun H2 s2 => ?_⟩
    refine ⟨_, rfl, q, W, dx, _, _, rfl, s2 _ _ eq, cW.cl, cW.n2, rfl, l, _, ((0 : Nat) : Int), _, rfl, rfl, SqL.of (s2 _ _ el), ivs_at (frL_at (Nat.zero_le _)), _, _, rfl, rfl, _, _, rfl, rfl, ?_⟩
    exact k H2 s2
theorem ok_firstT {f W : Addr} {fd : FuncData} (F : Fun K "_first_tick" "Wave._first_tick" s_Wave_first_tick f fd) (B : Blt mg) (cW : ClsW K W) : FnOk P w K mg base CX0 1 f fd ["self", "ordinal"] (spFirstT K W) := by
  refine F.ok sc_Wave_first_tick (fun vs H Q E h => ?_) (fun cdv A outer s H vs Q E hr h => ?_)
  · obtain ⟨q, l, n, f, m, rep, rest, rfl, _, _, c, rfl, _⟩ := h
    rfl
  · obtain ⟨q, l, n, f, m, rep, rest, rfl, ⟨dx, v, eq, el, Rv⟩, p, o, rfl, k⟩ := h
    refine ⟨_, pss_cons (ps_for PassesOwn.never rfl (pi_enum (by rfl) B.enumerate (pa_cons (pe_fld (pv 0) rfl) pa_nil)) (pg_tup rfl (pgs_cons (pg_name (i := 2) sc_Wave_first_tick.nd rfl (Or.inl rfl)) (pgs_cons (pg_name (i := 3) sc_Wave_first_tick.nd rfl (Or.inl rfl)) pgs_nil)))
        (pss_one (ps_if (pt_cmpR (op_ge) (pv 3) (pv 1) (nomark _)) (pss_one (ps_ret (pv 2))) pss_nil)))
      (pss_one (ps_ret pe_non)), ?_⟩
    have ll : (ivs (frL f m)).length = m + 1 := by rw [ivs_len, frL_len]
    refine ⟨_, rfl, q, W, dx, _, _, rfl, eq, cW.cl, cW.n2, rfl, l, ivs (frL f m), rfl, SqL.of el, for_it (walk_enum (K := K) (a := l) (xs := ivs (frL f m))) (fun i σ G => ∃ (s2 s3 : Option V), σ = [some (.ref q), some (.int (o : Nat)), s2, s3] ∧ Same H G ∧ ∀ j, j < i → f j < o) ?_ ?_ ?_ ?_⟩
    · exact ⟨_, _, rfl, Same.refl _, fun j hj => absurd hj (Nat.not_lt_zero _)⟩
    · rintro i σ G _ ⟨_, _, _, sm, _⟩
      exact sm.seq (SqL.of el)
    · rintro i x σ G G2 hi ⟨s2, s3, rfl, sm, lo⟩ ⟨T, y, z, rfl, nT, rfl, e1, e2⟩
      obtain rfl : y = V.int (i : Int) := (Option.some.inj e1).symm
      rw [ll] at hi
      have ez : (ivs (frL f m))[i]? = some (V.int ((f i : Nat) : Int)) := by unfold ivs; rw [List.getElem?_map, frL_at (by omega)]; rfl
      obtain rfl : z = V.int ((f i : Nat) : Int) := Option.some.inj (e2.symm.trans ez)
      have sT := sm.trans (same_new (o := .tup [V.int (i : Int), V.int ((f i : Nat) : Int)]) nT)
      refine ⟨T, _, rfl, SqT.of upd_same, rfl, _, _, rfl, _, _, rfl, rfl, ?_⟩
      refine ⟨_, rfl, _, rfl, _, _, rfl, rfl, _, rfl, ?_⟩
      by_cases c : o ≤ f i
      · rw [decide_eq_true (show ((f i : Nat) : Int) ≥ (o : Int) by omega)]
        exact iteT ⟨_, rfl, k (some i) _ sT ⟨by omega, c, lo⟩⟩
      · rw [decide_eq_false (show ¬ ((f i : Nat) : Int) ≥ (o : Int) by omega)]
        refine iteF ⟨_, _, rfl, sT, fun j hj => ?_⟩
        rcases Nat.lt_or_ge j i with h | h
        · exact lo j h
        · obtain rfl : j = i := by omega
          omega
    · rintro σ G ⟨s2, s3, rfl, sm, lo⟩
      exact k none G sm fun j hj => lo j (by rw [ll]; omega)
theorem ok_tickOf {f W g n2 n4 : Addr} {fd gd d2 d4 : FuncData} (F : Fun K "tick_of" "Wave.tick_of" s_Wave_tick_of f fd) (B : Blt mg) (cW : ClsW K W) (mG : ∃ v, mg "GREATEST_ROUND" = some v ∧ L2.RelV (.int 1000000000000000000) v) (N4 : At P w K mg base CX0 2 "check_number" ["value", "least", "greatest"] spCheckNum n4 d4)
    (N2 : At P w K mg base CX0 2 "check_stone" ["stone", "count"] spCheckStone n2 d2) (Hm : Meth K W "_first_tick" g) (G : FnOk P w K mg base CX0 1 g gd ["self", "ordinal"] (spFirstT K W)) (bG : Binds K gd ["self", "ordinal"] []) : FnOk P w K mg base CX0 3 f fd ["self", "number", "stone"] (spTickOf K W) := by
  obtain ⟨vG, mG, rG⟩ := mG
  refine F.ok sc_Wave_tick_of (fun vs H Q E h => ?_) (fun cdv A outer s H vs Q E hr h => ?_)
  · obtain ⟨q, l, n, f, m, rep, rest, rfl, _, _, c, i, rfl, _⟩ := h
    rfl
  · obtain ⟨q, l, n, f, m, rep, rest, rfl, hW, p, c, i, rfl, hc, hi, k⟩ := h
    have r1 : Room 1 _ := hr.mono (by decide)
    obtain ⟨dx, v, eq, el, Rv⟩ := id hW
    have n40 := p.n40
    refine ⟨_, pss_cons (ps_expr (pe_at N4 hr (pa_cons (pv 1) (pa_cons (pe_int) (pa_cons (pe_glob (v := .int 1000000000000000000) (by rfl) mG rG) pa_nil)))))
      (pss_cons (ps_expr (pe_at N2 hr (pa_cons (pv 2) (pa_cons (pe_fld (pv 0) rfl) pa_nil))))
      (pss_cons (ps_set (i := 3) sc_Wave_tick_of.nd rfl (Or.inl rfl) (pe_op op_add (pe_op op_mul (pv 1) (pe_fld (pv 0) rfl)) (pv 2)))
      (pss_cons (ps_if (pt_cmpR (op_lt) (pv 3) (pe_ix ix_list (pe_fld (pv 0) rfl) (pe_int) (fun _ _ => rfl)) (nomark _)) (pss_one (ps_ret pe_non)) pss_nil)
      (pss_cons (ps_if (pt_cmpR (op_isN) (pe_fld (pv 0) rfl) (pe_non) (nomark _)) (pss_one (ps_ret (pe_meth (pv 0) cW.cl Hm G r1 bG .nil pass0 (pa_cons (pv 3) pa_nil)))) pss_nil)
      (pss_cons (ps_asg (pe_fld (pv 0) rfl) (pg_tup rfl (pgs_cons (pg_name (i := 4) sc_Wave_tick_of.nd rfl (Or.inl rfl)) (pgs_cons (pg_name (i := 5) sc_Wave_tick_of.nd rfl (Or.inl rfl)) (pgs_cons (pg_name (i := 6) sc_Wave_tick_of.nd rfl (Or.inl rfl)) pgs_nil)))))
      (pss_cons (ps_set (i := 7) sc_Wave_tick_of.nd rfl (Or.inl rfl) (pe_callB ((call_max2 rfl)) (by rfl) B.max boot_max (pa_cons (pe_int) (pa_cons (pe_op op_fdiv (pe_op op_sub (pv 3) (pe_ix ix_list (pe_fld (pv 0) rfl) (pv 4) (fun _ _ => rfl))) (pv 6)) pa_nil))))
      (pss_one (ps_ret (pe_op op_add (pe_meth (pv 0) cW.cl Hm G r1 bG .nil pass0 (pa_cons (pe_op op_sub (pv 3) (pe_op op_mul (pv 7) (pv 6))) pa_nil)) (pe_op op_mul (pv 7) (pv 5))))))))))), ?_⟩
    refine ⟨_, rfl, (c : Int), 0, _, rfl, by omega, by omega, ?_⟩
    refine ⟨_, rfl, _, rfl, q, W, dx, _, _, rfl, eq, cW.cl, cW.n1, rfl, i, n, rfl, hi, ?_⟩
    refine ⟨_, rfl, _, rfl, q, W, dx, _, _, rfl, eq, cW.cl, cW.n1, rfl, _, _, rfl, rfl, .inr ⟨by omega, by omega⟩, _, rfl, _, _, rfl, rfl, ?_⟩
    refine nm_of ?_
    have eo : (c : Int) * (n : Int) + (i : Int) = ((c * n + i : Nat) : Int) := by rw [Int.natCast_add, Int.natCast_mul]
    show tSeq _ _ _ [some (V.ref q), some (V.int (c : Int)), some (V.int (i : Int)), some (V.int ((c : Int) * (n : Int) + (i : Int))), none, none, none, none] H
    rw [eo]
    generalize c * n + i = o at k ⊢
    refine ⟨_, rfl, _, rfl, q, W, dx, _, _, rfl, eq, cW.cl, cW.n2, rfl, l, _, ((0 : Nat) : Int), _, rfl, rfl, SqL.of el, ivs_at (frL_at (Nat.zero_le _)), _, _, rfl, rfl, _, rfl, ?_⟩
    by_cases c0 : o < f 0
    · rw [decide_eq_true (show (o : Int) < ((f 0 : Nat) : Int) by omega)]
      exact iteT (k none H (Same.refl _) (by unfold TickS; rw [if_pos c0]))
    · rw [decide_eq_false (show ¬ (o : Int) < ((f 0 : Nat) : Int) by omega)]
      refine iteF ?_
      refine ⟨_, rfl, q, W, dx, _, v, rfl, eq, cW.cl, cW.n3, rfl, rfl, _, rfl, ?_⟩
      match rep, Rv, k, p, hW with
      | none, Rv, k, p, hW =>
        obtain rfl : v = .non := Rv
        refine iteT ?_
        refine ⟨_, rfl, q, dx, _, rfl, eq, rfl, _, rfl, q, l, n, f, m, none, _, rfl, hW, p, o, rfl, fun r H2 s2 Fr => ?_⟩
        exact k r H2 s2 (by unfold TickS; rw [if_neg c0]; exact Fr)
      | some (s, t), ⟨a, e, ea⟩, k, p, hW =>
        subst e
        obtain ⟨p1, p2, _⟩ := p.rep
        have ple := p.le
        have st := up_lt p.up p1 p2
        have sm := p.small t p2
        refine iteF ?_
        refine ⟨_, rfl, q, W, dx, _, _, rfl, eq, cW.cl, cW.n3, rfl, a, _, rfl, ea, rfl, _, _, rfl, _, _, rfl, _, _, rfl, rfl, ?_⟩
        refine ⟨_, rfl, _, rfl, q, W, dx, _, _, rfl, eq, cW.cl, cW.n2, rfl, _, rfl, l, _, ((s : Nat) : Int), _, rfl, rfl, SqL.of el, ivs_at (frL_at (by omega)), _, _, rfl, rfl, _, rfl, _, _, rfl, rfl, ⟨by omega, by omega⟩, _, _, rfl, ?_⟩
        have dpos : 0 < f t - f s := by omega
        have ex : (if (0 : Int) < ((o : Int) - ((f s : Nat) : Int)) / ((f t - f s : Nat) : Int) then ((o : Int) - ((f s : Nat) : Int)) / ((f t - f s : Nat) : Int) else 0) = (((o - f s) / (f t - f s) : Nat) : Int) := by
          rcases Nat.lt_or_ge o (f s) with h | h
          · have e0 : o - f s = 0 := by omega
            have neg : ((o : Int) - ((f s : Nat) : Int)) / ((f t - f s : Nat) : Int) < 0 := Int.ediv_neg_of_neg_of_pos (by omega) (by omega)
            rw [if_neg (by omega), e0, Nat.zero_div]
            rfl
          · have e0 : (o : Int) - ((f s : Nat) : Int) = ((o - f s : Nat) : Int) := by omega
            rw [e0, ← Int.natCast_ediv]
            generalize (o - f s) / (f t - f s) = T'
            split <;> omega
        rw [ex]
        refine nm_of ?_
        generalize hT : (o - f s) / (f t - f s) = T at k ⊢
        have dm := Nat.div_add_mod (o - f s) (f t - f s)
        have ml := Nat.mod_lt (o - f s) dpos
        rw [hT, Nat.mul_comm] at dm
        have ole : o - T * (f t - f s) ≤ f t := by omega
        have oge : T * (f t - f s) ≤ o := by omega
        have eo : (o : Int) - (T : Int) * ((f t - f s : Nat) : Int) = ((o - T * (f t - f s) : Nat) : Int) := by
          rw [← Int.natCast_mul]
          omega
        refine ⟨_, rfl, q, dx, _, rfl, eq, rfl, _, rfl, _, rfl, _, rfl, _, _, rfl, rfl, .inr ⟨by omega, by omega⟩, _, _, rfl, rfl, q, l, n, f, m, some (s, t), _, rfl, hW, p, o - T * (f t - f s), congrArg (fun z => [V.int z]) eo, fun r H2 s2 Fr => ?_⟩
        match r, Fr with
        | none, Fr =>
          have := Fr t p2
          omega
        | some kk, Fr =>
          refine ⟨_, rfl, _, rfl, _, _, rfl, rfl, .inr ⟨by omega, by omega⟩, _, _, rfl, rfl, ?_⟩
          exact k (some (kk + T * (t - s))) H2 s2 (by
            unfold TickS
            rw [if_neg c0]
            exact ⟨kk, by rw [hT]; exact Fr, by rw [hT]⟩)
end
/-! ### ticks on the way grow by one at most; waves repeat -/
section
variable {xs : List (Int × Int)}
/-- to the right, what is farther falls no sooner -/
theorem fst_mono (hx : Inc xs) {i : Nat} : ∀ (v u j j' : Nat), Fst xs (List.range xs.length) true i u j → Fst xs (List.range xs.length) true i v j' → j < j' → u ≤ v := by
  intro v
  induction v using Nat.strongRecOn with
  | ind v ih =>
    intro u j j' a b h
    have ja : i ≤ j := right_ge hx ⟨u, a.1⟩
    match v, ih, b with
    | 0, _, b =>
      have e : j' = i := b.1
      omega
    | v + 1, ih, b =>
      rcases b.1 with q | ⟨m, m1, m2, m3⟩
      · exact absurd q (b.2 v (Nat.lt_succ_self _))
      · have hh := (hit_iff hx).mp m3
        obtain ⟨w, w1, w2⟩ := RB.first m1
        obtain ⟨lt, reach⟩ := hh.2.2.1 rfl
        rcases Nat.lt_trichotomy m j with c | c | c
        · have hj : j < xs.length := by have := hh.2.1; omega
          have pj : pl xs j ≤ pl xs j' := inc_le hx (by omega) hh.2.1
          have hit : hitB xs true m j = true := (hit_iff hx).mpr ⟨hh.1, hj, fun _ => ⟨c, by omega⟩, fun z => nomatch z⟩
          have rj : RB xs (List.range xs.length) true i (w + 1) j := .inr ⟨m, w2.1, List.mem_range.mpr hj, hit⟩
          rcases Nat.lt_or_ge (w + 1) u with z | z
          · exact absurd rj (a.2 _ z)
          · omega
        · subst c
          rcases Nat.lt_or_ge v u with z | z
          · exact absurd m1 (a.2 _ z)
          · omega
        · have := ih w (by omega) u j m a w2 c
          omega
theorem ticks_step (hx : Inc xs) {i : Nat} {gs : List (Nat × Nat)} (T : Ticks xs true i gs) {k : Nat} {p p' : Nat × Nat} (h : gs[k]? = some p) (h' : gs[k + 1]? = some p') : p.2 ≤ p'.2 ∧ p'.2 ≤ p.2 + 1 := by
  obtain ⟨j, u⟩ := p
  obtain ⟨j', v⟩ := p'
  have hk := (List.getElem?_eq_some_iff.mp h).1
  have hk' := (List.getElem?_eq_some_iff.mp h').1
  have up : ∀ a b (x y : Nat × Nat), a < b → gs[a]? = some x → gs[b]? = some y → x.1 < y.1 := fun a b x y hab ha hb => by
    have := List.pairwise_iff_getElem.mp T.up a b (List.getElem?_eq_some_iff.mp ha).1 (List.getElem?_eq_some_iff.mp hb).1 hab
    rw [(List.getElem?_eq_some_iff.mp ha).2, (List.getElem?_eq_some_iff.mp hb).2] at this
    exact this
  have jj : j < j' := up k (k + 1) _ _ (Nat.lt_succ_self _) h h'
  have a := (T.has j u).mp (List.mem_of_getElem? h)
  have b := (T.has j' v).mp (List.mem_of_getElem? h')
  refine ⟨fst_mono hx v u j j' a b jj, ?_⟩
  show v ≤ u + 1
  match v, b with
  | 0, _ => exact Nat.zero_le _
  | v + 1, b =>
    rcases b.1 with q | ⟨m, m1, m2, m3⟩
    · exact absurd q (b.2 v (Nat.lt_succ_self _))
    · have hh := (hit_iff hx).mp m3
      obtain ⟨w, w1, w2⟩ := RB.first m1
      obtain ⟨lt, _⟩ := hh.2.2.1 rfl
      have wv : w = v := by
        rcases Nat.lt_or_ge w v with z | z
        · exact absurd (show RB xs (List.range xs.length) true i (w + 1) j' from .inr ⟨m, w2.1, m2, m3⟩) (b.2 (w + 1) (by omega))
        · omega
      subst wv
      obtain ⟨q, hq⟩ := List.getElem?_of_mem ((T.has m w).mpr w2)
      have mj : m ≤ j := by
        rcases Nat.lt_trichotomy q k with z | z | z
        · exact Nat.le_of_lt (up q k _ _ z hq h)
        · subst z
          have e := hq.symm.trans h
          injection e with e
          injection e with e
          omega
        · rcases Nat.lt_trichotomy q (k + 1) with y | y | y
          · omega
          · subst y
            have e := hq.symm.trans h'
            injection e with e
            injection e with e
            omega
          · have := up (k + 1) q _ _ y h' hq
            have : j' < m := this
            omega
      rcases Nat.lt_or_eq_of_le mj with c | c
      · have := fst_mono hx u w m j w2 a c
        omega
      · subst c
        have := Fst.eq w2 a
        omega
end
/-! ### waves repeat -/
section
variable {hs : List Nat} {c : Nat}
theorem hitA_shift (h0 : 0 < hs.length) (o q : Nat) : hitA hs (o + q * hs.length) = hitA hs o + q * hs.length := by
  unfold hitA
  rw [Nat.add_mul_div_right _ _ h0, Nat.add_mul_mod_self_right, Nat.add_mul]
  omega
theorem topN_shift (d : Nat) : ∀ (l : List Nat) (f : Nat), topN (l.map (· + d)) (f + d) = topN l f + d
  | [], _ => rfl
  | a :: l, f => by
    have e : mxN (f + d) (a + d) = mxN f a + d := by unfold mxN; split <;> split <;> omega
    show topN (l.map (· + d)) (mxN (f + d) (a + d)) = topN l (mxN f a) + d
    rw [e, topN_shift d l]
theorem nextF_shift (h0 : 0 < hs.length) {f q : Nat} (h : c + hs.length - 1 ≤ f) : nextF hs c (f + q * hs.length) = nextF hs c f + q * hs.length := by
  have l1 : winLo hs.length c f = f + 1 - hs.length := by unfold winLo mxN; split <;> omega
  have l2 : winLo hs.length c (f + q * hs.length) = f + 1 - hs.length + q * hs.length := by unfold winLo mxN; split <;> omega
  have w : winL hs c (f + q * hs.length) = (winL hs c f).map (· + q * hs.length) := by
    unfold winL
    rw [l1, l2, List.map_map]
    have e : f + q * hs.length + 1 - (f + 1 - hs.length + q * hs.length) = f + 1 - (f + 1 - hs.length) := by omega
    rw [e]
    refine List.map_congr_left fun k _ => ?_
    show hitA hs (f + 1 - hs.length + q * hs.length + k) = hitA hs (f + 1 - hs.length + k) + q * hs.length
    rw [← hitA_shift h0]
    congr 1
    omega
  unfold nextF
  rw [w, topN_shift]
theorem fr_mono {a b : Nat} (h : a ≤ b) : fr hs c a ≤ fr hs c b := by
  induction b with
  | zero => rw [show a = 0 by omega]; exact Nat.le_refl _
  | succ b ih =>
    rcases Nat.lt_or_ge a (b + 1) with q | q
    · exact Nat.le_trans (ih (by omega)) (fr_le hs c b)
    · rw [show a = b + 1 by omega]; exact Nat.le_refl _
theorem fr_stay {m : Nat} (h : fr hs c (m + 1) = fr hs c m) : ∀ j, fr hs c (m + j) = fr hs c m
  | 0 => rfl
  | j + 1 => by
    show nextF hs c (fr hs c (m + j)) = _
    rw [fr_stay h j]
    exact h
theorem fr_rep (h0 : 0 < hs.length) {s t q : Nat} (ok : c + hs.length - 1 ≤ fr hs c s) (e : fr hs c t = fr hs c s + q * hs.length) : ∀ j, fr hs c (t + j) = fr hs c (s + j) + q * hs.length
  | 0 => e
  | j + 1 => by
    show nextF hs c (fr hs c (t + j)) = nextF hs c (fr hs c (s + j)) + _
    rw [fr_rep h0 ok e j, nextF_shift h0]
    exact Nat.le_trans ok (fr_mono (Nat.le_add_right _ _))
theorem fr_reps (h0 : 0 < hs.length) {s t q : Nat} (st : s ≤ t) (ok : c + hs.length - 1 ≤ fr hs c s) (e : fr hs c t = fr hs c s + q * hs.length) (j : Nat) : ∀ k, fr hs c (s + j + k * (t - s)) = fr hs c (s + j) + k * (q * hs.length)
  | 0 => by rw [Nat.zero_mul, Nat.zero_mul]; rfl
  | k + 1 => by
    have h := fr_rep h0 ok e (j + k * (t - s))
    have e1 : t + (j + k * (t - s)) = s + j + (k + 1) * (t - s) := by rw [Nat.succ_mul]; omega
    have e2 : s + (j + k * (t - s)) = s + j + k * (t - s) := by omega
    rw [e1, e2, fr_reps h0 st ok e j k] at h
    rw [h, Nat.succ_mul]
    omega
/-- a wave that does not repeat stops -/
theorem fr_stop {m : Nat} (h0 : 0 < hs.length) (F : Fronts hs c m) (R : RepS (fr hs c) hs.length m none) : fr hs c (m + 1) = fr hs c m := by
  refine F.stop (Nat.lt_of_not_le fun h => ?_)
  have grow : ∀ k, k ≤ m → c + k ≤ fr hs c k := by
    intro k
    induction k with
    | zero => intro _; exact Nat.le_refl _
    | succ k ih => intro hk; have := ih (by omega); have := F.up k (by omega); omega
  have ok : ∀ k, hs.length - 1 ≤ k → k ≤ m → okT (fr hs c) hs.length k := fun k h1 h2 => by
    have := grow k h2
    show hs.length - 1 ≤ fr hs c k - c
    omega
  have nd : ((List.range (hs.length + 1)).map fun k => fr hs c (hs.length - 1 + k) % hs.length).Nodup := by
    refine List.pairwise_map.mpr ((List.pairwise_lt_range (n := hs.length + 1)).imp_of_mem fun {a b} ha hb lt => ?_)
    have ha := List.mem_range.mp ha
    have hb := List.mem_range.mp hb
    exact R (hs.length - 1 + a) (hs.length - 1 + b) (by omega) (by omega) (ok _ (by omega) (by omega)) (ok _ (by omega) (by omega))
  have := nodup_len nd (m := List.range hs.length) fun x hx => by
    obtain ⟨k, _, rfl⟩ := List.mem_map.mp hx
    exact List.mem_range.mpr (Nat.mod_lt _ h0)
  rw [List.length_map, List.length_range, List.length_range] at this
  omega
structure Rpt (hs : List Nat) (c s t q : Nat) : Prop where
  st : s < t
  q0 : 0 < q
  ok : c + hs.length - 1 ≤ fr hs c s
  e : fr hs c t = fr hs c s + q * hs.length
theorem rpt_of {m s t : Nat} (h0 : 0 < hs.length) (F : Fronts hs c m) (R : RepS (fr hs c) hs.length m (some (s, t))) : ∃ q, Rpt hs c s t q ∧ fr hs c t - fr hs c s = q * hs.length := by
  obtain ⟨h1, h2, h3, _, h5, _⟩ := R
  have lt := up_lt F.up h1 h2
  have d1 := Nat.div_add_mod (fr hs c s) hs.length
  have d2 := Nat.div_add_mod (fr hs c t) hs.length
  have le := Nat.div_le_div_right (c := hs.length) (Nat.le_of_lt lt)
  refine ⟨fr hs c t / hs.length - fr hs c s / hs.length, ⟨h1, ?_, ?_, ?_⟩, ?_⟩
  · refine Nat.pos_of_ne_zero fun z => ?_
    have : fr hs c t / hs.length = fr hs c s / hs.length := by omega
    rw [this] at d2
    omega
  · have h3 : hs.length - 1 ≤ fr hs c s - c := h3
    have := fr_mono (hs := hs) (c := c) (Nat.zero_le s)
    have : c ≤ fr hs c s := this
    omega
  · rw [Nat.sub_mul, Nat.mul_comm (fr hs c t / _), Nat.mul_comm (fr hs c s / _)]
    have := Nat.mul_le_mul_left hs.length le
    omega
  · rw [Nat.sub_mul, Nat.mul_comm (fr hs c t / _), Nat.mul_comm (fr hs c s / _)]
    omega
/-- the front after any tick -/
theorem frontA_fr {m : Nat} {rep : Option (Nat × Nat)} (h0 : 0 < hs.length) (F : Fronts hs c m) (R : RepS (fr hs c) hs.length m rep) (k : Nat) : frontA (fr hs c) m rep k = fr hs c k := by
  unfold frontA
  by_cases h : k ≤ m
  · rw [if_pos h]
  · rw [if_neg h]
    match rep, R with
    | none, R =>
      have := fr_stay (fr_stop h0 F R) (k - m)
      rw [show m + (k - m) = k by omega] at this
      exact this.symm
    | some (s, t), R =>
      obtain ⟨q, P, ed⟩ := rpt_of h0 F R
      have tm := R.2.1
      have st := P.st
      have key := fr_reps h0 (Nat.le_of_lt st) P.ok P.e ((k - s) % (t - s)) ((k - s) / (t - s))
      have dm := Nat.mod_add_div (k - s) (t - s)
      rw [Nat.mul_comm] at dm
      rw [show s + (k - s) % (t - s) + (k - s) / (t - s) * (t - s) = k by omega] at key
      show fr hs c (s + (k - s) % (t - s)) + (k - s) / (t - s) * (fr hs c t - fr hs c s) = fr hs c k
      rw [key, ed]
/-- an endless wave's fronts grow for ever -/
theorem fr_grow {s t q : Nat} (h0 : 0 < hs.length) (P : Rpt hs c s t q) (k : Nat) : fr hs c k < fr hs c (k + 1) := by
  refine Nat.lt_of_le_of_ne (fr_le hs c k) fun e => ?_
  have st := fr_stay e.symm
  have h1 := fr_reps h0 (Nat.le_of_lt P.st) P.ok P.e 0 (k + 1)
  have h2 := fr_reps h0 (Nat.le_of_lt P.st) P.ok P.e 0 (k + 2)
  have pos := Nat.sub_pos_of_lt P.st
  have b1 : k ≤ (k + 1) * (t - s) := Nat.le_trans (Nat.le_succ k) (Nat.le_mul_of_pos_right _ pos)
  have e1 := st (s + 0 + (k + 1) * (t - s) - k)
  have e2 := st (s + 0 + (k + 2) * (t - s) - k)
  have b2 : (k + 1) * (t - s) ≤ (k + 2) * (t - s) := Nat.mul_le_mul_right _ (Nat.le_succ _)
  rw [show k + (s + 0 + (k + 1) * (t - s) - k) = s + 0 + (k + 1) * (t - s) by omega] at e1
  rw [show k + (s + 0 + (k + 2) * (t - s) - k) = s + 0 + (k + 2) * (t - s) by omega] at e2
  rw [h1] at e1
  rw [h2] at e2
  have qp := Nat.mul_pos P.q0 h0
  have : (k + 2) * (q * hs.length) = (k + 1) * (q * hs.length) + q * hs.length := by rw [Nat.succ_mul (k + 1)]
  omega
theorem fr_far {s t q : Nat} (h0 : 0 < hs.length) (P : Rpt hs c s t q) : ∀ k, c + k ≤ fr hs c k
  | 0 => Nat.le_refl _
  | k + 1 => by have := fr_far h0 P k; have := fr_grow h0 P k; omega
/-- the tick in which a stone falls -/
def Least (f : Nat → Nat) (o : Nat) : Option Nat → Prop
  | none => ∀ k, f k < o
  | some k => o ≤ f k ∧ ∀ j, j < k → f j < o
theorem Least.one {f : Nat → Nat} {o : Nat} {a b : Option Nat} (h : Least f o a) (h' : Least f o b) : a = b := by
  match a, b, h, h' with
  | none, none, _, _ => rfl
  | none, some k, h, h' => have := h k; have := h'.1; omega
  | some k, none, h, h' => have := h' k; have := h.1; omega
  | some k, some k', h, h' =>
    rcases Nat.lt_trichotomy k k' with q | q | q
    · have := h'.2 k q; have := h.1; omega
    · rw [q]
    · have := h.2 k' q; have := h'.1; omega
theorem tick_least {m : Nat} {rep : Option (Nat × Nat)} {o : Nat} {r : Option Nat} (h0 : 0 < hs.length) (F : Fronts hs c m) (R : RepS (fr hs c) hs.length m rep) (ho : c ≤ o) (T : TickS hs.length (fr hs c) m rep o r) : Least (fr hs c) o r := by
  unfold TickS at T
  rw [if_neg (show ¬ o < fr hs c 0 from Nat.not_lt.mpr ho)] at T
  match rep, R, T with
  | none, R, T =>
    match r, T with
    | none, T =>
      intro k
      rcases Nat.lt_or_ge m k with h | h
      · have := fr_stay (fr_stop h0 F R) (k - m)
        rw [show m + (k - m) = k by omega] at this
        rw [this]
        exact T m (Nat.le_refl _)
      · exact T k h
    | some k, T => exact T.2
  | some (s, t), R, ⟨k, T2, e⟩ =>
    obtain ⟨q, P, ed⟩ := rpt_of h0 F R
    subst e
    rw [ed] at T2 ⊢
    have st := P.st
    have qp := Nat.mul_pos P.q0 h0
    generalize hT : (o - fr hs c s) / (q * hs.length) = Z at T2 ⊢
    obtain ⟨k1, k2, k3⟩ := T2
    have dm := Nat.div_mul_le_self (o - fr hs c s) (q * hs.length)
    rw [hT] at dm
    rcases Nat.eq_zero_or_pos Z with z | z
    · subst z
      rw [Nat.zero_mul, Nat.sub_zero] at k2
      rw [Nat.zero_mul, Nat.sub_zero] at k3
      rw [Nat.zero_mul, Nat.add_zero]
      exact ⟨k2, k3⟩
    · have big : q * hs.length ≤ Z * (q * hs.length) := Nat.le_mul_of_pos_left _ z
      have ge : fr hs c s ≤ o - Z * (q * hs.length) := by omega
      have ks : s ≤ k := Nat.le_of_not_lt fun h => by
        have := up_lt F.up h (by have := R.1; have := R.2.1; omega)
        omega
      have key := fr_reps h0 (Nat.le_of_lt st) P.ok P.e (k - s) Z
      rw [show s + (k - s) = k by omega] at key
      refine ⟨by rw [key]; omega, fun j hj => ?_⟩
      have jl : fr hs c j ≤ fr hs c (k + Z * (t - s) - 1) := fr_mono (by omega)
      have lt : fr hs c (k + Z * (t - s) - 1) < o := by
        rcases Nat.lt_or_eq_of_le ks with h | h
        · have key2 := fr_reps h0 (Nat.le_of_lt st) P.ok P.e (k - 1 - s) Z
          rw [show s + (k - 1 - s) = k - 1 by omega, show k - 1 + Z * (t - s) = k + Z * (t - s) - 1 by omega] at key2
          have := k3 (k - 1) (by omega)
          rw [key2]
          omega
        · subst h
          have := fr_grow h0 P (s + Z * (t - s) - 1)
          have pz : 0 < Z * (t - s) := Nat.mul_pos z (by omega)
          rw [show s + Z * (t - s) - 1 + 1 = s + Z * (t - s) by omega, key] at this
          have k0 := k2
          have : o - Z * (q * hs.length) ≤ fr hs c s := k2
          omega
      omega
end
/-! ### endless rows: what is hit, told by places -/
/-- the place of the stone of an ordinal -/
def gp (xs : List (Int × Int)) (per : Int) (o : Nat) : Int := pl xs (o % xs.length) + ((o / xs.length : Nat) : Int) * per
theorem filter_pre {α : Type} {p : α → Bool} : ∀ {l : List α}, l.Pairwise (fun a b => p b = true → p a = true) → ∀ {j : Nat} {x : α}, l[j]? = some x → (p x = true ↔ j < (l.filter p).length)
  | [], _, j, x, e => by simp at e
  | a :: l, h, 0, x, e => by
    simp at e
    subst e
    cases q : p a with
    | true => rw [List.filter_cons, if_pos q, List.length_cons]; exact ⟨fun _ => Nat.succ_pos _, fun _ => rfl⟩
    | false =>
      have none : (a :: l).filter p = [] := List.filter_eq_nil_iff.mpr fun b hb pb => by
        rcases List.mem_cons.mp hb with rfl | hb
        · rw [q] at pb; cases pb
        · have := (List.pairwise_cons.mp h).1 b hb pb
          rw [q] at this; cases this
      rw [none]
      exact ⟨fun z => (nomatch z), fun z => absurd z (Nat.not_lt_zero _)⟩
  | a :: l, h, j + 1, x, e => by
    have e' : l[j]? = some x := by simpa using e
    have ih := filter_pre (List.pairwise_cons.mp h).2 e'
    cases q : p a with
    | true => rw [List.filter_cons, if_pos q, List.length_cons, ih]; omega
    | false =>
      rw [List.filter_cons, if_neg (by rw [q]; exact Bool.false_ne_true), ih]
      have none : l.filter p = [] := List.filter_eq_nil_iff.mpr fun b hb pb => by
        have := (List.pairwise_cons.mp h).1 b hb pb
        rw [q] at this; cases this
      rw [none]
      exact ⟨fun z => absurd z (Nat.not_lt_zero _), fun z => absurd z (Nat.not_lt_zero _)⟩
theorem inc_pair {xs : List (Int × Int)} (hx : Inc xs) : xs.Pairwise fun a b => a.1 < b.1 := by
  rw [List.pairwise_iff_getElem]
  intro i j hi hj lt
  exact hx i j _ _ lt (by simp [hi]) (by simp [hj])
/-- of an endless row: places rise within less than a period -/
structure Ends_ (xs : List (Int × Int)) (per : Int) : Prop where
  w : Wf 0 xs
  n0 : 0 < xs.length
  per : pl xs (xs.length - 1) - pl xs 0 < per
section
variable {xs : List (Int × Int)} {per : Int}
theorem Ends_.dist (E : Ends_ xs per) {j : Nat} (hj : j < xs.length) : 0 ≤ pl xs j - pl xs 0 ∧ pl xs j - pl xs 0 < per := by
  have h1 := inc_le E.w.inc (a := 0) (b := j) (Nat.zero_le _) hj
  have h2 := inc_le E.w.inc (a := j) (b := xs.length - 1) (by omega) (by have := E.n0; omega)
  have := E.per
  omega
theorem Ends_.pos (E : Ends_ xs per) : 0 < per := by have := E.dist E.n0; omega
theorem last_spec (E : Ends_ xs per) {i : Nat} (hi : i < xs.length) (o : Nat) : gp xs per o ≤ pl xs i + ht xs i ↔ o ≤ lastHit xs per i := by
  have p0 := E.pos
  have n0 := E.n0
  have hd := E.dist hi
  have hh := wf_at E.w hi
  have dm := Nat.div_add_mod o xs.length
  have ml := Nat.mod_lt o n0
  have hj := E.dist ml
  unfold gp lastHit
  generalize hV : pl xs i + ht xs i - pl xs 0 = V
  have V0 : 0 ≤ V := by omega
  have e1 := Int.mul_ediv_add_emod V per
  have e2 := Int.emod_nonneg V (show per ≠ 0 by omega)
  have e3 := Int.emod_lt_of_pos V p0
  have e4 : 0 ≤ V / per := Int.ediv_nonneg V0 (by omega)
  generalize V % per = r at e1 e2 e3
  generalize hR : V / per = R at e1 e4
  obtain ⟨R', rfl⟩ : ∃ R' : Nat, R = (R' : Int) := ⟨R.toNat, by omega⟩
  rw [Int.toNat_natCast]
  generalize hq : o / xs.length = q at dm
  generalize hjj : o % xs.length = j at dm ml hj
  obtain ⟨x, hxj⟩ : ∃ x, xs[j]? = some x := ⟨xs[j], by simp [ml]⟩
  have cntp : (decide (x.1 - pl xs 0 ≤ r) = true) ↔ j < (xs.filter fun x => decide (x.1 - pl xs 0 ≤ r)).length :=
    filter_pre (p := fun x : Int × Int => decide (x.1 - pl xs 0 ≤ r)) ((inc_pair E.w.inc).imp fun {a b} lt h => by
      have h := of_decide_eq_true h
      exact decide_eq_true (by omega)) hxj
  obtain ⟨x0, hx0⟩ : ∃ x, xs[0]? = some x := ⟨xs[0], by simp [n0]⟩
  have cnt0 : (decide (x0.1 - pl xs 0 ≤ r) = true) ↔ 0 < (xs.filter fun x => decide (x.1 - pl xs 0 ≤ r)).length :=
    filter_pre (p := fun x : Int × Int => decide (x.1 - pl xs 0 ≤ r)) ((inc_pair E.w.inc).imp fun {a b} lt h => by
      have h := of_decide_eq_true h
      exact decide_eq_true (by omega)) hx0
  have cpos := cnt0.mp (decide_eq_true (by rw [(pl_of hx0).1]; omega))
  have cle := List.length_filter_le (fun x : Int × Int => decide (x.1 - pl xs 0 ≤ r)) xs
  rw [decide_eq_true_eq, ← (pl_of hxj).1] at cntp
  generalize (xs.filter fun x => decide (x.1 - pl xs 0 ≤ r)).length = cnt at cntp cpos cle
  have hc : xs.length * q = q * xs.length := Nat.mul_comm _ _
  rcases Nat.lt_trichotomy q R' with h | h | h
  · have m1 : (q + 1) * xs.length ≤ R' * xs.length := Nat.mul_le_mul_right _ h
    rw [Nat.succ_mul] at m1
    have m2 : ((q : Int) + 1) * per ≤ (R' : Int) * per := Int.mul_le_mul_of_nonneg_right (by omega) (by omega)
    rw [Int.add_mul, Int.one_mul] at m2
    rw [Int.mul_comm] at e1
    constructor
    · intro _; omega
    · intro _; omega
  · subst h
    rw [Int.mul_comm] at e1
    constructor
    · intro h; have := cntp.mp (by omega); omega
    · intro h; have := cntp.mpr (by omega); omega
  · have m1 : (R' + 1) * xs.length ≤ q * xs.length := Nat.mul_le_mul_right _ h
    rw [Nat.succ_mul] at m1
    have m2 : ((R' : Int) + 1) * per ≤ (q : Int) * per := Int.mul_le_mul_of_nonneg_right (by omega) (by omega)
    rw [Int.add_mul, Int.one_mul] at m2
    rw [Int.mul_comm] at e1
    constructor
    · intro h; omega
    · intro h; omega
end
/-! ### fronts, told by places; rounds as a row; two rounds as one -/
section
variable {xs : List (Int × Int)} {per : Int}
theorem hits_len (xs : List (Int × Int)) (per : Int) : (hitsOf xs per).length = xs.length := by unfold hitsOf; simp
theorem hits_get (xs : List (Int × Int)) (per : Int) {i : Nat} (hi : i < xs.length) : (hitsOf xs per).getD i 0 = lastHit xs per i := by
  unfold hitsOf
  rw [List.getD_eq_getElem?_getD, List.getElem?_map, List.getElem?_range hi]
  rfl
theorem gp_round (n0 : 0 < xs.length) (o q : Nat) : gp xs per (o + q * xs.length) = gp xs per o + (q : Int) * per := by
  unfold gp
  rw [Nat.add_mul_mod_self_right, Nat.add_mul_div_right _ _ n0, Int.natCast_add, Int.add_mul]
  omega
/-- what a stone hits: the ordinals up to one -/
theorem hit_spec (E : Ends_ xs per) {m o : Nat} (h : m ≤ o) : gp xs per o ≤ gp xs per m + ht xs (m % xs.length) ↔ o ≤ hitA (hitsOf xs per) m := by
  have n0 := E.n0
  have ml := Nat.mod_lt m n0
  have dm := Nat.div_add_mod m xs.length
  rw [Nat.mul_comm] at dm
  have e : o = (o - m / xs.length * xs.length) + m / xs.length * xs.length := by omega
  have em : gp xs per m = pl xs (m % xs.length) + ((m / xs.length : Nat) : Int) * per := rfl
  have k := last_spec E ml (o - m / xs.length * xs.length)
  have g := gp_round (per := per) n0 (o - m / xs.length * xs.length) (m / xs.length)
  rw [← e] at g
  unfold hitA
  rw [hits_len, hits_get xs per ml, g, em]
  constructor
  · intro h'; have := k.mp (by omega); omega
  · intro h'; have := k.mpr (by omega); omega
theorem hit_self (E : Ends_ xs per) (m : Nat) : m ≤ hitA (hitsOf xs per) m := (hit_spec E (Nat.le_refl m)).mp (by have := wf_at E.w (Nat.mod_lt m E.n0); omega)
/-- the next front is the farthest of all that are hit by those up to this one -/
theorem next_spec {hs : List Nat} {c f : Nat} (h0 : 0 < hs.length) (hc : c ≤ f) : f ≤ nextF hs c f ∧ (∀ m, c ≤ m → m ≤ f → hitA hs m ≤ nextF hs c f) ∧ (nextF hs c f = f ∨ ∃ m, c ≤ m ∧ m ≤ f ∧ nextF hs c f = hitA hs m) := by
  obtain ⟨h1, h2, h3⟩ := topN_spec (winL hs c f) f
  have lo : winLo hs.length c f = if c < f + 1 - hs.length then f + 1 - hs.length else c := rfl
  have wmem : ∀ m, winLo hs.length c f ≤ m → m ≤ f → hitA hs m ∈ winL hs c f := fun m a b => List.mem_map.mpr ⟨m - winLo hs.length c f, List.mem_range.mpr (by omega), by congr 1; omega⟩
  refine ⟨h1, fun m a b => ?_, ?_⟩
  · rcases Nat.lt_or_ge m (winLo hs.length c f) with q | q
    · -- the same stone of a later round
      have hw : winLo hs.length c f = f + 1 - hs.length := by
        rw [lo] at q ⊢
        by_cases cc : c < f + 1 - hs.length
        · rw [if_pos cc]
        · rw [if_neg cc] at q; omega
      have dm := Nat.div_add_mod (f - m) hs.length
      have ml := Nat.mod_lt (f - m) h0
      have e := hitA_shift h0 m ((f - m) / hs.length)
      rw [Nat.mul_comm] at dm
      have := h2 _ (wmem (m + (f - m) / hs.length * hs.length) (by omega) (by omega))
      unfold nextF
      omega
    · exact h2 _ (wmem m q b)
  · rcases h3 with e | e
    · exact .inl e
    · obtain ⟨k, hk, e2⟩ := List.mem_map.mp e
      have hk := List.mem_range.mp hk
      have lc : c ≤ winLo hs.length c f := by rw [lo]; split <;> omega
      exact .inr ⟨winLo hs.length c f + k, by omega, by omega, e2.symm⟩
theorem next_one {hs hs' : List Nat} {c f : Nat} (h0 : 0 < hs.length) (h1 : 0 < hs'.length) (hc : c ≤ f) (e : ∀ m, hitA hs m = hitA hs' m) : nextF hs c f = nextF hs' c f := by
  obtain ⟨a1, a2, a3⟩ := next_spec h0 hc
  obtain ⟨b1, b2, b3⟩ := next_spec h1 hc
  refine Nat.le_antisymm ?_ ?_
  · rcases a3 with q | ⟨m, q1, q2, q3⟩
    · omega
    · rw [q3, e]; exact b2 m q1 q2
  · rcases b3 with q | ⟨m, q1, q2, q3⟩
    · omega
    · rw [q3, ← e]; exact a2 m q1 q2
theorem fr_one {hs hs' : List Nat} {c : Nat} (h0 : 0 < hs.length) (h1 : 0 < hs'.length) (e : ∀ m, hitA hs m = hitA hs' m) : ∀ k, fr hs c k = fr hs' c k
  | 0 => rfl
  | k + 1 => by
    have ih := fr_one h0 h1 (c := c) e k
    show nextF hs c (fr hs c k) = nextF hs' c (fr hs' c k)
    rw [← ih]
    exact next_one h0 h1 (fr_mono (Nat.zero_le k)) e
/-- a row as rounds of another one -/
structure Rounds (xs ys : List (Int × Int)) (per : Int) : Prop where
  at_ : ∀ o, o < ys.length → pl ys o = gp xs per o ∧ ht ys o = ht xs (o % xs.length)
  inc : Inc ys
theorem rounds_hit (E : Ends_ xs per) {ys : List (Int × Int)} (Y : Rounds xs ys per) {m o : Nat} : Hit ys true m o ↔ m < o ∧ o < ys.length ∧ o ≤ hitA (hitsOf xs per) m := by
  unfold Hit
  constructor
  · rintro ⟨h1, h2, h3, _⟩
    obtain ⟨h3, h4⟩ := h3 rfl
    rw [(Y.at_ o h2).1, (Y.at_ m h1).1, (Y.at_ m h1).2] at h4
    exact ⟨h3, h2, (hit_spec E (by omega)).mp h4⟩
  · rintro ⟨h1, h2, h3⟩
    refine ⟨by omega, h2, fun _ => ⟨h1, ?_⟩, fun z => (nomatch z)⟩
    rw [(Y.at_ o h2).1, (Y.at_ m (by omega)).1, (Y.at_ m (by omega)).2]
    exact (hit_spec E (by omega)).mpr h3
theorem rounds_rb (E : Ends_ xs per) {ys : List (Int × Int)} (Y : Rounds xs ys per) {c : Nat} (hc : c < ys.length) : ∀ (u o : Nat), o < ys.length → (RB ys (List.range ys.length) true c u o ↔ c ≤ o ∧ o ≤ fr (hitsOf xs per) c u)
  | 0, o, ho => by show o = c ↔ c ≤ o ∧ o ≤ c; omega
  | u + 1, o, ho => by
    have n0 : 0 < (hitsOf xs per).length := by rw [hits_len]; exact E.n0
    obtain ⟨a1, a2, a3⟩ := next_spec n0 (show c ≤ fr (hitsOf xs per) c u from fr_mono (Nat.zero_le u))
    show (RB ys (List.range ys.length) true c u o ∨ ∃ m, RB ys (List.range ys.length) true c u m ∧ o ∈ List.range ys.length ∧ hitB ys true m o = true) ↔ c ≤ o ∧ o ≤ nextF (hitsOf xs per) c (fr (hitsOf xs per) c u)
    constructor
    · rintro (h | ⟨m, h1, _, h2⟩)
      · have := (rounds_rb E Y hc u o ho).mp h
        omega
      · obtain ⟨q1, q2, q3⟩ := (rounds_hit E Y).mp ((hit_iff Y.inc).mp h2)
        obtain ⟨b1, b2⟩ := (rounds_rb E Y hc u m (by omega)).mp h1
        have := a2 m b1 b2
        omega
    · rintro ⟨h1, h2⟩
      rcases Nat.lt_or_ge (fr (hitsOf xs per) c u) o with q | q
      · rcases a3 with e | ⟨m, m1, m2, m3⟩
        · omega
        · exact .inr ⟨m, (rounds_rb E Y hc u m (by omega)).mpr ⟨m1, m2⟩, List.mem_range.mpr ho, (hit_iff Y.inc).mpr ((rounds_hit E Y).mpr ⟨by omega, ho, by omega⟩)⟩
      · exact .inl ((rounds_rb E Y hc u o ho).mpr ⟨h1, q⟩)
theorem rounds_fst (E : Ends_ xs per) {ys : List (Int × Int)} (Y : Rounds xs ys per) {c u o : Nat} (hc : c < ys.length) (ho : o < ys.length) : Fst ys (List.range ys.length) true c u o ↔ c ≤ o ∧ Least (fr (hitsOf xs per) c) o (some u) := by
  unfold Fst
  rw [rounds_rb E Y hc u o ho]
  constructor
  · rintro ⟨⟨h1, h2⟩, h3⟩
    refine ⟨h1, h2, fun j hj => Nat.lt_of_not_le fun q => h3 j hj ((rounds_rb E Y hc j o ho).mpr ⟨h1, q⟩)⟩
  · rintro ⟨h1, h2, h3⟩
    refine ⟨⟨h1, h2⟩, fun v hv q => ?_⟩
    have := h3 v hv
    have := ((rounds_rb E Y hc v o ho).mp q).2
    omega
end
/-! two rounds as one -/
section
variable {xs : List (Int × Int)} {per : Int}
def twice (xs : List (Int × Int)) (per : Int) : List (Int × Int) := xs ++ shR xs per
theorem shR_at {s : Int} {k : Nat} (hk : k < xs.length) : pl (shR xs s) k = pl xs k + s ∧ ht (shR xs s) k = ht xs k := by
  have e : xs[k]? = some xs[k] := by simp [hk]
  have e2 : (shR xs s)[k]? = some ((xs[k]).1 + s, (xs[k]).2) := by unfold shR; rw [List.getElem?_map, e]; rfl
  rw [(pl_of e2).1, (pl_of e2).2, (pl_of e).1, (pl_of e).2]
  exact ⟨rfl, rfl⟩
theorem app_at1 {ys : List (Int × Int)} {k : Nat} (hk : k < xs.length) : pl (xs ++ ys) k = pl xs k ∧ ht (xs ++ ys) k = ht xs k := by
  unfold pl ht
  rw [List.getD_eq_getElem?_getD, List.getD_eq_getElem?_getD, List.getElem?_append_left hk]
  exact ⟨rfl, rfl⟩
theorem app_at2 {ys : List (Int × Int)} (k : Nat) : pl (xs ++ ys) (xs.length + k) = pl ys k ∧ ht (xs ++ ys) (xs.length + k) = ht ys k := by
  unfold pl ht
  rw [List.getD_eq_getElem?_getD, List.getD_eq_getElem?_getD, List.getElem?_append_right (Nat.le_add_right _ _), Nat.add_sub_cancel_left]
  exact ⟨rfl, rfl⟩
theorem twice_len : (twice xs per).length = 2 * xs.length := by unfold twice; rw [List.length_append, shR_len]; omega
theorem twice_gp (n0 : 0 < xs.length) (o : Nat) : gp (twice xs per) (2 * per) o = gp xs per o ∧ ht (twice xs per) (o % (twice xs per).length) = ht xs (o % xs.length) := by
  have e1 : o / (2 * xs.length) = o / xs.length / 2 := by rw [Nat.mul_comm, Nat.div_div_eq_div_mul]
  have e2 : o % (2 * xs.length) = o / xs.length % 2 * xs.length + o % xs.length := by
    rw [Nat.mul_comm 2, Nat.mod_mul]
    rw [Nat.mul_comm]
    omega
  have ml := Nat.mod_lt o n0
  unfold gp
  rw [twice_len, e1, e2]
  generalize o / xs.length = q at *
  generalize o % xs.length = j at *
  have dq := Nat.div_add_mod q 2
  have mq := Nat.mod_lt q (show 0 < 2 by decide)
  have hq : q % 2 = 0 ∨ q % 2 = 1 := by omega
  unfold twice
  rcases hq with h | h
  · rw [h, Nat.zero_mul, Nat.zero_add, (app_at1 ml).1, (app_at1 ml).2]
    refine ⟨?_, rfl⟩
    rw [← Int.mul_assoc]
    have : ((q / 2 : Nat) : Int) * 2 = (q : Int) := by omega
    rw [this]
  · rw [h, Nat.one_mul, (app_at2 j).1, (app_at2 j).2, (shR_at ml).1, (shR_at ml).2]
    refine ⟨?_, rfl⟩
    rw [← Int.mul_assoc]
    have : (q : Int) = ((q / 2 : Nat) : Int) * 2 + 1 := by omega
    rw [this, Int.add_mul, Int.one_mul]
    omega
theorem twice_ends (E : Ends_ xs per) (hw : Wf 0 (twice xs per)) : Ends_ (twice xs per) (2 * per) := by
  have n0 := E.n0
  refine ⟨hw, by rw [twice_len]; omega, ?_⟩
  have e : (twice xs per).length - 1 = xs.length + (xs.length - 1) := by rw [twice_len]; omega
  rw [e]
  unfold twice
  rw [(app_at2 _).1, (app_at1 n0).1, (shR_at (by omega)).1]
  have := E.per
  omega
theorem twice_hit (E : Ends_ xs per) (hw : Wf 0 (twice xs per)) (m : Nat) : hitA (hitsOf (twice xs per) (2 * per)) m = hitA (hitsOf xs per) m := by
  have E2 := twice_ends E hw
  refine Nat.le_antisymm ?_ ?_
  · refine (hit_spec E (hit_self E2 m)).mp ?_
    have := (hit_spec E2 (hit_self E2 m)).mpr (Nat.le_refl _)
    rw [(twice_gp E.n0 _).1, (twice_gp E.n0 _).1, (twice_gp E.n0 _).2] at this
    exact this
  · refine (hit_spec E2 (hit_self E m)).mp ?_
    have := (hit_spec E (hit_self E m)).mpr (Nat.le_refl _)
    rw [(twice_gp E.n0 _).1, (twice_gp E.n0 _).1, (twice_gp E.n0 _).2]
    exact this
theorem twice_fr (E : Ends_ xs per) (hw : Wf 0 (twice xs per)) (c k : Nat) : fr (hitsOf (twice xs per) (2 * per)) c k = fr (hitsOf xs per) c k :=
  fr_one (by rw [hits_len, twice_len]; have := E.n0; omega) (by rw [hits_len]; exact E.n0) (twice_hit E hw) k
end
/-! ### data stands while the heap grows -/
mutual
theorem dp_up {K : PySem.W.Frag} {H H' : Hp} (e : Same H H') : ∀ {v : V} {d : PyData}, Dp K H v d → Dp K H' v d
  | _, _, .non => .non
  | _, _, .bl b => .bl b
  | _, _, .int i => .int i
  | _, _, .str x => .str x
  | _, _, .lst h a => .lst (e.seq h) (dpa_up e a)
  | _, _, .tup h a => .tup (sqT_same h e) (dpa_up e a)
theorem dpa_up {K : PySem.W.Frag} {H H' : Hp} (e : Same H H') : ∀ {vs : List V} {ds : List PyData}, DpAll K H vs ds → DpAll K H' vs ds
  | _, _, .nil => .nil
  | _, _, .cons h t => .cons (dp_up e h) (dpa_up e t)
end
/-! ### last fallen, as data; great numbers drawn -/
def lastD (n : Nat) (f : Nat → Nat) (m : Nat) : Option (Nat × Nat) → PyData
  | some _ => .none
  | none => prD (f m / n, f m % n)
theorem lastD_dp {K : PySem.W.Frag} {H : Hp} {v : V} {n : Nat} {f : Nat → Nat} {m : Nat} {o : Option (Nat × Nat)} (h : lastV K H v n f m o) : Dp K H v (lastD n f m o) := by
  cases o with
  | none => exact prD_dp h
  | some _ => obtain rfl : v = .non := h; exact .non
theorem lastD_shaped (n : Nat) (f : Nat → Nat) (m : Nat) (o : Option (Nat × Nat)) : SeqAt.shaped (lastD n f m o) = true := by
  cases o with
  | none => exact prD_shaped _
  | some _ => rfl
theorem lastV_same {K : PySem.W.Frag} {H H' : Hp} {v : V} {n : Nat} {f : Nat → Nat} {m : Nat} {o : Option (Nat × Nat)} (h : lastV K H v n f m o) (e : Same H H') : lastV K H' v n f m o := by
  cases o with
  | none => exact PairV.same e h
  | some _ => exact h
theorem optN_scal (r : Option Nat) : scal (optN r) (optN r) = true := by cases r <;> rfl
def spGreatN (K : PySem.W.Frag) : Sp := fun vs H Q _ => ∃ (L a : Addr) (ns : List Int) (m : Int), vs = [.ref L, .int m] ∧ 0 < m ∧ Drw K H L a ns ∧ ∀ (n : Int) (H' : Hp), 0 ≤ n → n < m → Drw K H' L a ns → But L H H' → Q (.int n) H'
section
variable {P : Program} {w : World} {K : PySem.W.Frag} {mg : Str → Option Value} {base : Heap}
theorem ok_greatN {f f1 : Addr} {fd d1 : FuncData} (F : Fun K "_law_great" "_law_great" s_law_great f fd) (B : Blt mg) (T1 : At P w K mg base CX0 1 "_law_taken" ["_law_row_here", "_law_many"] (spTaken K) f1 d1) : FnOk P w K mg base CX0 2 f fd ["_law_row_here", "_law_many"] (spGreatN K) := by
  refine F.ok sc_law_great (fun vs H Q E h => ?_) (fun cdv A outer s H vs Q E hr h => ?_)
  · obtain ⟨L, a, ns, m, rfl, _⟩ := h
    rfl
  · obtain ⟨L, a, ns, m, rfl, h0, D, k⟩ := h
    refine ⟨_, pss_one (ps_ret (pe_op op_mod (pe_callTy (call_int1) (by rfl) B.int boot_int (pa_cons (pe_op op_add (pe_op op_mul (pe_at T1 hr (pa_cons (pv 0) (pa_cons (pe_op op_pow pe_int pe_int) pa_nil))) (pe_op op_pow pe_int pe_int)) (pe_at T1 hr (pa_cons (pv 0) (pa_cons (pe_op op_pow pe_int pe_int) pa_nil)))) pa_nil)) (pv 1))), ?_⟩
    refine ⟨_, rfl, _, _, rfl, rfl, ⟨by decide, by decide, by decide⟩, L, a, ns, _, rfl, by decide, by decide, D, fun n1 H1 a0 a1 D1 b1 => ?_⟩
    refine ⟨_, _, rfl, rfl, ⟨by decide, by decide, by decide⟩, _, _, rfl, rfl, .inr ⟨by decide, by decide⟩, ?_⟩
    refine ⟨_, rfl, _, _, rfl, rfl, ⟨by decide, by decide, by decide⟩, L, a, ns, _, rfl, by decide, by decide, D1, fun n2 H2 a2 a3 D2 b2 => ?_⟩
    refine ⟨_, _, rfl, rfl, .inl ⟨_, rfl, _, rfl, _, _, rfl, rfl, h0, ?_⟩⟩
    exact k _ H2 (Int.emod_nonneg _ (by omega)) (Int.emod_lt_of_pos _ h0) D2 (b1.trans b2)
end
theorem wf_app : ∀ {xs ys : List (Int × Int)} {lo : Int}, Wf lo xs → Wf lo ys → (∀ x ∈ xs, ∀ y ∈ ys, x.1 + 1 ≤ y.1) → Wf lo (xs ++ ys)
  | [], _, _, _, w', _ => w'
  | x :: xs, ys, lo, w, w', h => ⟨w.1, w.2.1, w.2.2.1, w.2.2.2.1, wf_app w.2.2.2.2 (wf_up w' fun y hy => h x List.mem_cons_self y hy) fun a ha y hy => h a (List.mem_cons_of_mem _ ha) y hy⟩
theorem lastHit_small {xs : List (Int × Int)} {per B : Int} (h0 : 0 < per) {i : Nat} (hB : pl xs i + ht xs i - pl xs 0 ≤ B) (h1 : 0 ≤ pl xs i + ht xs i - pl xs 0) : lastHit xs per i ≤ B.toNat * xs.length + xs.length := by
  have q1 : (pl xs i + ht xs i - pl xs 0) / per ≤ pl xs i + ht xs i - pl xs 0 := Int.ediv_le_self _ h1
  have q2 : ((pl xs i + ht xs i - pl xs 0) / per).toNat ≤ B.toNat := by omega
  have q3 := Nat.mul_le_mul_right xs.length q2
  have q4 := List.length_filter_le (fun x : Int × Int => decide (x.1 - pl xs 0 ≤ (pl xs i + ht xs i - pl xs 0) % per)) xs
  unfold lastHit
  omega
/-! ### several rounds as a row -/
def rnds (xs : List (Int × Int)) (per : Int) : Nat → List (Int × Int)
  | 0 => xs
  | k + 1 => rnds xs per k ++ shR xs (((k + 1 : Nat) : Int) * per)
section
variable {xs : List (Int × Int)} {per : Int}
theorem rnds_len : ∀ k, (rnds xs per k).length = (k + 1) * xs.length
  | 0 => by show xs.length = _; omega
  | k + 1 => by
    show (rnds xs per k ++ shR xs _).length = _
    rw [List.length_append, rnds_len k, shR_len, Nat.succ_mul (k + 1)]
theorem rnds_at (n0 : 0 < xs.length) : ∀ k o, o < (rnds xs per k).length → pl (rnds xs per k) o = gp xs per o ∧ ht (rnds xs per k) o = ht xs (o % xs.length)
  | 0, o, h => by
    have h : o < xs.length := h
    unfold gp
    rw [Nat.mod_eq_of_lt h, Nat.div_eq_of_lt h]
    show pl xs o = _ ∧ ht xs o = _
    simp
  | k + 1, o, h => by
    rw [rnds_len] at h
    show pl (rnds xs per k ++ shR xs _) o = _ ∧ ht (rnds xs per k ++ shR xs _) o = _
    rcases Nat.lt_or_ge o (rnds xs per k).length with q | q
    · rw [(app_at1 q).1, (app_at1 q).2]
      exact rnds_at n0 k o q
    · have hl := rnds_len (xs := xs) (per := per) k
      have e : o = (rnds xs per k).length + (o - (rnds xs per k).length) := by omega
      rw [Nat.succ_mul] at h
      have lt : o - (rnds xs per k).length < xs.length := by omega
      have e2 : o = (o - (rnds xs per k).length) + (k + 1) * xs.length := by omega
      rw [e, (app_at2 _).1, (app_at2 _).2, (shR_at lt).1, (shR_at lt).2, ← e]
      generalize o - (rnds xs per k).length = j at lt e2
      subst e2
      rw [gp_round n0]
      unfold gp
      rw [Nat.mod_eq_of_lt lt, Nat.div_eq_of_lt lt, Nat.add_mul_mod_self_right, Nat.mod_eq_of_lt lt]
      simp
theorem rnds_wf (E : Ends_ xs per) (b : ∀ x ∈ xs, x.1 ≤ 1000) (bp : per ≤ 1000) : ∀ k, k ≤ 40 → Wf 0 (rnds xs per k) ∧ ∀ x ∈ rnds xs per k, x.1 < pl xs 0 + ((k + 1 : Nat) : Int) * per
  | 0, _ => ⟨E.w, fun x hx => by
    have hx : x ∈ xs := hx
    obtain ⟨i, hi⟩ := List.getElem?_of_mem hx
    have lt := (List.getElem?_eq_some_iff.mp hi).1
    have := E.dist lt
    rw [(pl_of hi).1] at this
    have e : ((0 + 1 : Nat) : Int) * per = per := by rw [show ((0 + 1 : Nat) : Int) = 1 from rfl, Int.one_mul]
    rw [e]
    omega⟩
  | k + 1, hk => by
    obtain ⟨h1, h2⟩ := rnds_wf E b bp k (by omega)
    have p0 := E.pos
    have m1 : ((k + 1 : Nat) : Int) * per ≤ 40 * 1000 := Int.mul_le_mul (by omega) bp (by omega) (by omega)
    have m0 : 0 ≤ ((k + 1 : Nat) : Int) * per := Int.mul_nonneg (by omega) (by omega)
    have mem : ∀ y ∈ shR xs (((k + 1 : Nat) : Int) * per), pl xs 0 + ((k + 1 : Nat) : Int) * per ≤ y.1 ∧ y.1 < pl xs 0 + ((k + 1 + 1 : Nat) : Int) * per := fun y hy => by
      unfold shR at hy
      obtain ⟨x, hx, rfl⟩ := List.mem_map.mp hy
      obtain ⟨i, hi⟩ := List.getElem?_of_mem hx
      have := E.dist (List.getElem?_eq_some_iff.mp hi).1
      rw [(pl_of hi).1] at this
      have e : ((k + 1 + 1 : Nat) : Int) * per = ((k + 1 : Nat) : Int) * per + per := by
        rw [show ((k + 1 + 1 : Nat) : Int) = ((k + 1 : Nat) : Int) + 1 by omega, Int.add_mul, Int.one_mul]
      rw [e]
      show _ ≤ x.1 + _ ∧ x.1 + _ < _
      omega
    refine ⟨wf_app h1 ?_ fun x hx y hy => ?_, fun x hx => ?_⟩
    · have w := wf_shR (s := ((k + 1 : Nat) : Int) * per) E.w fun x hx => by have := b x hx; omega
      exact wf_up w fun y hy => by have := (mem y hy).1; have := (wf_at E.w E.n0).1; omega
    · have := h2 x hx
      have := (mem y hy).1
      omega
    · rcases List.mem_append.mp hx with hx | hx
      · have := h2 x hx
        have e : ((k + 1 + 1 : Nat) : Int) * per = ((k + 1 : Nat) : Int) * per + per := by
          rw [show ((k + 1 + 1 : Nat) : Int) = ((k + 1 : Nat) : Int) + 1 by omega, Int.add_mul, Int.one_mul]
        rw [e]
        omega
      · exact (mem x hx).2
theorem rnds_rounds (E : Ends_ xs per) (b : ∀ x ∈ xs, x.1 ≤ 1000) (bp : per ≤ 1000) {k : Nat} (hk : k ≤ 40) : Rounds xs (rnds xs per k) per := ⟨rnds_at E.n0 k, (rnds_wf E b bp k hk).1.inc⟩
end
/-- the tick of a stone, by the dict of the row's ticks -/
theorem tick_same {xs : List (Int × Int)} {per : Int} (E : Ends_ xs per) {ys : List (Int × Int)} (Y : Rounds xs ys per) {c o : Nat} {gs : List (Nat × Nat)} {r : Option Nat} (hc : c < ys.length) (ho : o < ys.length) (T : Ticks ys true c gs)
    (h : if o < c then r = none else Least (fr (hitsOf xs per) c) o r) : valV (kvs gs) (Sum.inl (o : Int) : Key) = r.map fun u => V.int ((u : Nat) : Int) := by
  have nd : (gs.map (·.1)).Nodup := (List.pairwise_map.mpr (T.up.imp fun {a b} q => Nat.ne_of_lt q))
  have has := fun u => (T.has o u).trans (rounds_fst E Y hc ho)
  match r, h with
  | some u, h =>
    by_cases q : o < c
    · rw [if_pos q] at h; cases h
    · rw [if_neg q] at h
      exact kvs_get nd ((has u).mpr ⟨by omega, h⟩)
  | none, h =>
    refine kvs_none.mpr fun hm => ?_
    obtain ⟨⟨j, u⟩, hp, rfl⟩ := List.mem_map.mp hm
    obtain ⟨h1, h2⟩ := (has u).mp hp
    by_cases q : j < c
    · omega
    · rw [if_neg q] at h
      have := h u
      have := h2.1
      have : (j, u).1 = j := rfl
      omega
theorem ticks_if {hs : List Nat} {c m o : Nat} {rep : Option (Nat × Nat)} {r : Option Nat} (h0 : 0 < hs.length) (F : Fronts hs c m) (R : RepS (fr hs c) hs.length m rep) (T : TickS hs.length (fr hs c) m rep o r) : if o < c then r = none else Least (fr hs c) o r := by
  by_cases q : o < c
  · rw [if_pos q]
    unfold TickS at T
    rw [if_pos (show o < fr hs c 0 from q)] at T
    exact T
  · rw [if_neg q]
    exact tick_least h0 F R (by omega) T
theorem tick_eq {hs hs' : List Nat} {c m m' o : Nat} {rep rep' : Option (Nat × Nat)} {r r' : Option Nat} (h0 : 0 < hs.length) (h1 : 0 < hs'.length) (F : Fronts hs c m) (R : RepS (fr hs c) hs.length m rep) (T : TickS hs.length (fr hs c) m rep o r)
    (F' : Fronts hs' c m') (R' : RepS (fr hs' c) hs'.length m' rep') (T' : TickS hs'.length (fr hs' c) m' rep' o r') (e : ∀ k, fr hs' c k = fr hs c k) : r' = r := by
  have a := ticks_if h0 F R T
  have b := ticks_if h1 F' R' T'
  by_cases q : o < c
  · rw [if_pos q] at a b
    rw [a, b]
  · rw [if_neg q] at a b
    rw [show fr hs' c = fr hs c from funext e] at b
    exact b.one a
/-- a wave ends if its fronts do -/
theorem ends_iff {hs : List Nat} {c m : Nat} {rep : Option (Nat × Nat)} (h0 : 0 < hs.length) (F : Fronts hs c m) (R : RepS (fr hs c) hs.length m rep) : rep.isSome = true ↔ ∀ k, fr hs c k < fr hs c (k + 1) := by
  match rep, R with
  | none, R => exact ⟨fun z => (nomatch z), fun z => by have := fr_stop h0 F R; have := z m; omega⟩
  | some (s, t), R =>
    obtain ⟨q, P, _⟩ := rpt_of h0 F R
    exact ⟨fun _ => fr_grow h0 P, fun _ => rfl⟩
theorem last_one {hs hs' : List Nat} {c m m' : Nat} (h0 : 0 < hs.length) (h1 : 0 < hs'.length) (F : Fronts hs c m) (R : RepS (fr hs c) hs.length m none) (F' : Fronts hs' c m') (R' : RepS (fr hs' c) hs'.length m' none) (e : ∀ k, fr hs' c k = fr hs c k) : fr hs' c m' = fr hs c m := by
  have a := fr_stay (fr_stop h0 F R)
  have b := fr_stay (fr_stop h1 F' R')
  have a := a m'
  have b := b m
  rw [Nat.add_comm] at b
  rw [e, e] at b
  rw [e, ← b, a]
/-! ### rounds of an endless row -/
/-- a wave as it stands, and what is known of it -/
structure WvK (K : PySem.W.Frag) (H : Hp) (w W l : Addr) (xs : List (Int × Int)) (per : Int) (c m : Nat) (rep : Option (Nat × Nat)) : Prop where
  at_ : WaveAt K H w W l xs.length (fr (hitsOf xs per) c) m rep
  p : WaveP xs.length (fr (hitsOf xs per) c) m rep
  F : Fronts (hitsOf xs per) c m
  R : RepS (fr (hitsOf xs per) c) (hitsOf xs per).length m rep
theorem WvK.same {K : PySem.W.Frag} {H H' : Hp} {w W l : Addr} {xs : List (Int × Int)} {per : Int} {c m : Nat} {rep : Option (Nat × Nat)} (h : WvK K H w W l xs per c m rep) (e : Same H H') : WvK K H' w W l xs per c m rep := ⟨h.at_.same e, h.p, h.F, h.R⟩
def spRounds (K : PySem.W.Frag) (C W : Addr) : Sp := fun vs H Q _ => ∃ (x w1 l : Addr) (xs : List (Int × Int)) (per : Int) (rr c m : Nat) (rep : Option (Nat × Nat)), vs = [.ref x, .ref w1, .int per, .int (rr : Nat), .int (c : Nat)] ∧ RowAt K C H x xs ∧ Ends_ xs per ∧ (∀ y ∈ xs, y.1 ≤ 1000) ∧ per ≤ 1000 ∧ 1 ≤ rr ∧ rr * xs.length ≤ 40 ∧ c < xs.length ∧
  WvK K H w1 W l xs per c m rep ∧ ∀ H', Same H H' → Q (.bl true) H'
section
variable {P : Program} {w : World} {K : PySem.W.Frag} {mg : Str → Option Value} {base : Heap}
theorem ok_rounds {f C W gL gA gS gT f1 : Addr} {fd dT d1 : FuncData} {fo ro : Value} (F : Fun K "_law_are_rounds" "_law_are_rounds" s_law_are_rounds f fd) (B : Blt mg) (R : RowC K mg C) (cW : ClsW K W) (SL : Sign K C "__len__" gL) (GL : FnR P w K mg base CX0 1 gL (spLen K C))
    (SA : Sign K C "__add__" gA) (GA : FnR P w K mg base CX0 5 gA (spAdd K C)) (SS : Sign K C "__rshift__" gS) (GS : FnR P w K mg base CX0 5 gS (spShift K C))
    (noR : PySem.W.findIn K (.ref C) "__rrshift__" = some none) (noI : PySem.W.subIn K (.type "int") (.ref C) = some false) (j1 : PySem.W.findIn K (.type "int") "__rshift__" = some (some fo)) (j2 : PySem.W.findIn K (.type "int") "__rrshift__" = some (some ro)) (j3 : isSeqSlot (some fo) = false)
    (HT : Meth K W "tick_of" gT) (FT : FnOk P w K mg base CX0 3 gT dT ["self", "number", "stone"] (spTickOf K W)) (bT : Binds K dT ["self", "number", "stone"] [])
    (T1 : At P w K mg base CX0 3 "fall_ticks" ["row", "stone", "side"] (spTicks K C) f1 d1) : FnOk P w K mg base CX0 6 f fd ["_law_one", "_law_wave", "_law_period", "_law_rounds", "_law_stone"] (spRounds K C W) := by
  refine F.ok sc_law_are_rounds (fun vs H Q E h => ?_) (fun cdv A outer s H vs Q E hr h => ?_)
  · obtain ⟨x, w1, l, xs, per, rr, c, m, rep, rfl, _⟩ := h
    rfl
  · obtain ⟨x, w1, l, xs, per, rr, c, m, rep, rfl, hR, En, hb, hp, h1, h40, hc, hW, k⟩ := h
    have r3 : Room 3 _ := hr.mono (by decide)
    have r2 : Room 2 _ := hr.mono (by decide)
    refine ⟨_, pss_cons (ps_par (i := 5) (j := 6) (by rfl) sc_law_are_rounds.nd rfl rfl (by decide) rfl rfl (pa_cons (pv 0) (pa_cons (pe_callB (Own.call_len SL.at_ SL.fn GL r2 pass0) (by rfl) B.len PySem.boot_len (pa_cons (pv 0) pa_nil)) pa_nil)) (by rfl))
      (pss_cons (ps_for PassesOwn.never rfl (pi_range2 (by rfl) B.range (pa_cons (pe_int) (pa_cons (pv 3) pa_nil))) (pg_name (i := 7) sc_law_are_rounds.nd rfl (Or.inl rfl))
        (pss_one (ps_set (i := 5) sc_law_are_rounds.nd rfl (Or.inl rfl) (pe_op (Own.op_bin (op := .Add) (C := C) (g := gA) R.first SA.at_ SA.fn GA hr pass0) (pv 5) (pe_op (Own.op_binI (op := .RShift) R.first SS.at_ SS.fn noR noI j1 j2 j3 GS hr pass0) (pv 0) (pe_op op_mul (pv 7) (pv 2)))))))
      (pss_cons (ps_set (i := 8) sc_law_are_rounds.nd rfl (Or.inl rfl) (pe_at T1 r3 (pa_cons (pv 5) (pa_cons (pv 4) (pa_cons (pe_str) pa_nil)))))
      (pss_cons (ps_for PassesOwn.never rfl (pi_range1 (by rfl) B.range (pa_cons (pe_op op_mul (pv 3) (pv 6)) pa_nil)) (pg_name (i := 9) sc_law_are_rounds.nd rfl (Or.inl rfl))
        (pss_one (ps_if (pt_cmpR (op_ne) (pe_meth (pv 1) cW.cl HT FT r3 bT .nil pass0 (pa_cons (pe_op op_fdiv (pv 9) (pv 6)) (pa_cons (pe_op op_mod (pe_callTy (call_int1) (by rfl) B.int boot_int (pa_cons (pv 9) pa_nil)) (pv 6)) pa_nil))) (pe_dget2 (hu_of hr) (pv 8) (pv 9) pe_non ⟨rfl, by rfl, by rfl, rfl⟩) (nomark _)) (pss_one (ps_ret pe_bl)) pss_nil)))
      (pss_one (ps_ret pe_bl))))), ?_⟩
    obtain ⟨dx, t, us, ep, hT, hS⟩ := id hR
    have n0 := En.n0
    have hrr : rr ≤ 40 := Nat.le_trans (Nat.le_mul_of_pos_right _ n0) h40
    have nle : xs.length ≤ 40 := Nat.le_trans (Nat.le_mul_of_pos_left _ h1) h40
    refine ⟨_, rfl, _, rfl, x, dx, _, rfl, ep, x, xs, rfl, hR, _, rfl, by omega, by omega, _, _, rfl, ?_⟩
    -- the rounds put together
    refine ⟨_, rfl, 1, (rr : Int), rfl, ⟨by omega, by omega, by omega, by omega⟩, for_range (lo := 1) (n := ((rr : Int) - 1).toNat) (fun j σ G => ∃ (z : Addr) (s7 : Option V), σ = [some (.ref x), some (.ref w1), some (.int per), some (.int (rr : Nat)), some (.int (c : Nat)), some (.ref z), some (.int (xs.length : Nat)), s7, none, none] ∧ Same H G ∧ RowAt K C G z (rnds xs per j)) ?_ ?_ ?_⟩
    · exact ⟨x, _, rfl, Same.refl _, hR⟩
    · rintro j σ G hj ⟨z, s7, rfl, sm, Rz⟩
      have hj : j + 1 < rr := by omega
      refine nm_of ?_
      obtain ⟨dz, _, _, ez, _, _⟩ := id Rz
      have ln := rnds_len (xs := xs) (per := per) (j + 1)
      have m2 : (j + 1 + 1) * xs.length ≤ rr * xs.length := Nat.mul_le_mul_right _ (by omega)
      have hjr : j + 1 ≤ 40 := by
        have : rr * 1 ≤ rr * xs.length := Nat.mul_le_mul_left _ n0
        omega
      have W1 := rnds_wf En hb hp (j + 1) hjr
      have p0 := En.pos
      have m1 : ((j + 1 : Nat) : Int) * per ≤ 40 * 1000 := Int.mul_le_mul (by omega) hp (by omega) (by omega)
      have m0 : 0 ≤ ((j + 1 : Nat) : Int) * per := Int.mul_nonneg (by omega) (by omega)
      have ej : (1 : Int) + (j : Int) = ((j + 1 : Nat) : Int) := by omega
      refine ⟨_, rfl, _, rfl, _, rfl, _, rfl, _, _, rfl, rfl, .inr ⟨by omega, by omega⟩, ?_⟩
      show Own.rBinI C (spShift K C) E0 (V.ref x) (V.int ((1 + (j : Int)) * per)) G _
      rw [ej]
      refine ⟨x, dx, _, _, rfl, rfl, sm _ _ ep, x, xs, _, rfl, hR.same sm, En.w, nle, m0, by omega, fun y hy => by have := hb y hy; omega, fun z2 H3 s3 nz2 R2 => ?_⟩
      obtain ⟨d2, _, _, e2, _, _⟩ := id R2
      refine ⟨z, dz, _, z2, d2, _, rfl, rfl, s3 _ _ ez, e2, z, z2, _, _, rfl, Rz.same s3, R2, W1.1, by show (rnds xs per (j + 1)).length ≤ 40; omega, fun z4 H4 s4 nz4 R4 => ?_⟩
      exact ⟨z4, _, rfl, (sm.trans s3).trans s4, R4⟩
    · rintro σ G ⟨z, s7, rfl, sm, Rz⟩
      obtain ⟨k', rfl⟩ : ∃ k', rr = k' + 1 := ⟨rr - 1, by omega⟩
      rw [show (((k' + 1 : Nat) : Int) - 1).toNat = k' by omega] at Rz
      have ln := rnds_len (xs := xs) (per := per) k'
      have hk' : k' ≤ 40 := by
        have : (k' + 1) * 1 ≤ (k' + 1) * xs.length := Nat.mul_le_mul_left _ n0
        omega
      have W1 := rnds_wf En hb hp k' hk'
      have Y := rnds_rounds En hb hp hk'
      have m2 : 1 * xs.length ≤ (k' + 1) * xs.length := Nat.mul_le_mul_right _ (by omega)
      refine ⟨_, rfl, _, rfl, z, rnds xs per k', c, true, rfl, Rz, W1.1, by omega, by omega, fun dz gs H2 s2 nd ed T => ?_⟩
      refine nm_of ?_
      have s12 := sm.trans s2
      have en : ((k' + 1 : Nat) : Int) * (xs.length : Int) = (((k' + 1) * xs.length : Nat) : Int) := by rw [Int.natCast_mul]
      refine ⟨_, rfl, _, rfl, _, _, rfl, rfl, .inr ⟨by omega, by omega⟩, _, rfl, by rw [en]; omega, by rw [en]; omega, for_range (lo := 0) (n := (((k' + 1 : Nat) : Int) * (xs.length : Int)).toNat) (fun j σ G => ∃ (s9 : Option V), σ = [some (.ref x), some (.ref w1), some (.int per), some (.int ((k' + 1 : Nat) : Int)), some (.int (c : Nat)), some (.ref z), some (.int (xs.length : Nat)), s7, some (.ref dz), s9] ∧ Same H2 G) ?_ ?_ ?_⟩
      · exact ⟨_, rfl, Same.refl _⟩
      · rintro o σ G2 ho ⟨s9, rfl, sG⟩
        have ho : o < (rnds xs per k').length := by rw [en, Int.toNat_natCast] at ho; omega
        refine nm_of ?_
        have W2 := hW.same (s12.trans sG)
        obtain ⟨dw, v, ew, _, _⟩ := id W2.at_
        have dm := Nat.div_add_mod o xs.length
        rw [Nat.mul_comm] at dm
        have ml := Nat.mod_lt o n0
        have q1 := Nat.div_le_self o xs.length
        have c18 : (1000 : Int) ≤ 10 ^ 18 := by decide
        have args : ([V.int (((0 : Int) + (o : Int)) / (xs.length : Int)), V.int (((0 : Int) + (o : Int)) % (xs.length : Int))] : List V) = [V.int ((o / xs.length : Nat) : Int), V.int ((o % xs.length : Nat) : Int)] := by rw [Int.zero_add, Int.natCast_ediv, Int.natCast_emod]
        refine ⟨_, rfl, w1, dw, _, rfl, ew, rfl, _, rfl, _, rfl, _, _, rfl, rfl, ⟨by omega, by omega⟩, _, rfl, .inl ⟨_, rfl, _, rfl, _, _, rfl, rfl, by omega, w1, l, _, _, m, rep, _, rfl, W2.at_, W2.p, o / xs.length, o % xs.length, args, by omega, ml, fun r H3 s3 TS => ?_⟩⟩
        rw [dm] at TS
        have hl := hits_len xs per
        have tk := tick_same En Y (by omega) ho T (ticks_if (by rw [hl]; exact n0) hW.F hW.R (by rw [hl]; exact TS))
        have ed3 := s3 _ _ (sG _ _ ed)
        have dg : DGet H3 dz (V.int ((0 : Int) + (o : Int))) (r.map fun u => V.int ((u : Nat) : Int)) := by
          rw [Int.zero_add, ← tk]
          exact DGet.k (k := Sum.inl (o : Int)) ed3
        have eo : (r.map fun u => V.int ((u : Nat) : Int)).getD .non = optN r := by cases r <;> rfl
        refine ⟨_, rfl, dz, rfl, .inl ⟨_, .inl ed3⟩, _, rfl, _, dg, ?_⟩
        rw [eo]
        refine ⟨optN_scal r, _, rfl, ?_⟩
        rw [show (!decide (optN r = optN r)) = false by simp]
        exact iteF ⟨_, rfl, sG.trans s3⟩
      · rintro σ G2 ⟨s9, rfl, sG⟩
        exact k G2 (s12.trans sG)
end
/-! ### two rounds as one -/
theorem wavep_of {xs : List (Int × Int)} {per : Int} {c m : Nat} {rep : Option (Nat × Nat)} (E : Ends_ xs per) (hb : ∀ y ∈ xs, y.1 ≤ 2000 ∧ y.2 ≤ 1000) (hz : xs.length ≤ 40) (hc : c < xs.length) (F : Fronts (hitsOf xs per) c m) (R : RepS (fr (hitsOf xs per) c) (hitsOf xs per).length m rep) : WaveP xs.length (fr (hitsOf xs per) c) m rep := by
  have hl := hits_len xs per
  have h := waveP (hs := hitsOf xs per) (c := c) (m := m) (rep := rep) (by rw [hl]; exact E.n0) (by omega) (by omega) (fun x hx => by
    unfold hitsOf at hx
    obtain ⟨j, hj, rfl⟩ := List.mem_map.mp hx
    have hj := List.mem_range.mp hj
    have e : xs[j]? = some xs[j] := by simp [hj]
    have b := hb _ (List.getElem_mem hj)
    have w := wf_at E.w hj
    have w0 := wf_at E.w E.n0
    have mj := inc_le E.w.inc (a := 0) (b := j) (Nat.zero_le _) hj
    rw [← (pl_of e).1, ← (pl_of e).2] at b
    have := lastHit_small (xs := xs) (per := per) (B := 3000) E.pos (i := j) (by omega) (by omega)
    have : Int.toNat 3000 * xs.length ≤ 3000 * 40 := Nat.mul_le_mul (by decide) hz
    omega) F R
  rwa [hl] at h
theorem last_pair {n F : Nat} : (F / n / 2, F / n % 2 * n + F % n) = (F / (2 * n), F % (2 * n)) := by
  rw [Nat.mul_comm 2, Nat.div_div_eq_div_mul, Nat.mod_mul]
  rw [Nat.mul_comm (F / n % 2), Nat.add_comm]
def spTwice (K : PySem.W.Frag) (C W : Addr) : Sp := fun vs H Q _ => ∃ (L0 a x w1 l : Addr) (ns : List Int) (xs : List (Int × Int)) (per : Int) (c m : Nat) (rep : Option (Nat × Nat)), vs = [.ref L0, .ref x, .int per, .ref w1, .int (c : Nat)] ∧ Drw K H L0 a ns ∧ RowAt K C H x xs ∧ Ends_ xs per ∧ (∀ y ∈ xs, y.1 ≤ 1000 ∧ y.2 ≤ 1000) ∧ per ≤ 1000 ∧ 2 * xs.length ≤ 40 ∧ c < xs.length ∧
  WvK K H w1 W l xs per c m rep ∧ l ≠ L0 ∧ ∀ H', But L0 H H' → Drw K H' L0 a ns → Q (.bl true) H'
section
variable {P : Program} {w : World} {K : PySem.W.Frag} {mg : Str → Option Value} {base : Heap}
theorem ok_twice {f C D W gL gA gS gT gE gV pI gI pO gO gC f1 f2 : Addr} {fd dT dE dV dI' dO dC d1 d2 : FuncData} {fo ro : Value} (F : Fun K "_law_are_twice" "_law_are_twice" s_law_are_twice f fd) (B : Blt mg) (R : RowC K mg C) (cE : ClsE K D) (cW : ClsW K W) (SL : Sign K C "__len__" gL) (GL : FnR P w K mg base CX0 1 gL (spLen K C))
    (SA : Sign K C "__add__" gA) (GA : FnR P w K mg base CX0 5 gA (spAdd K C)) (SS : Sign K C "__rshift__" gS) (GS : FnR P w K mg base CX0 5 gS (spShift K C))
    (noR : PySem.W.findIn K (.ref C) "__rrshift__" = some none) (noI : PySem.W.subIn K (.type "int") (.ref C) = some false) (j1 : PySem.W.findIn K (.type "int") "__rshift__" = some (some fo)) (j2 : PySem.W.findIn K (.type "int") "__rrshift__" = some (some ro)) (j3 : isSeqSlot (some fo) = false)
    (mD : mg "EndlessRow" = some (.ref D)) (ME : Mk K D gE) (FE : FnOk P w K mg base CX0 3 gE dE ["self", "row", "period"] (spEInit K C D)) (bE : Binds K dE ["self", "row", "period"] [])
    (HV : Meth K D "wave" gV) (FV : FnOk P w K mg base CX0 8 gV dV ["self", "stone"] (spWave K C D W)) (bV : Binds K dV ["self", "stone"] [])
    (prI : PropOf K W "is_endless" pI gI) (PI : FnOk P w K mg base CX0 1 gI dI' ["self"] (spIsEnd K W)) (bI : Binds K dI' ["self"] []) (prO : PropOf K W "last_fallen" pO gO) (PO : FnOk P w K mg base CX0 1 gO dO ["self"] (spLast K W)) (bO : Binds K dO ["self"] [])
    (HC : Meth K W "count_after" gC) (FC : FnOk P w K mg base CX0 3 gC dC ["self", "tick"] (spCountA K W)) (bC : Binds K dC ["self", "tick"] []) (HT : Meth K W "tick_of" gT) (FT : FnOk P w K mg base CX0 3 gT dT ["self", "number", "stone"] (spTickOf K W)) (bT : Binds K dT ["self", "number", "stone"] [])
    (T1 : At P w K mg base CX0 1 "_law_taken" ["_law_row_here", "_law_many"] (spTaken K) f1 d1) (GN : At P w K mg base CX0 2 "_law_great" ["_law_row_here", "_law_many"] (spGreatN K) f2 d2) :
    FnOk P w K mg base CX0 9 f fd ["_law_row_here", "_law_one", "_law_period", "_law_wave", "_law_stone"] (spTwice K C W) := by
  refine F.ok sc_law_are_twice (fun vs H Q E h => ?_) (fun cdv A outer s H vs Q E hr h => ?_)
  · obtain ⟨L0, a, x, w1, l, ns, xs, per, c, m, rep, rfl, _⟩ := h
    rfl
  · obtain ⟨L0, a, x, w1, l, ns, xs, per, c, m, rep, rfl, D0, hR, En, hb, hp, h40, hc, hW, hl, k⟩ := h
    have hu64 := hr.units
    have r5 : Room 5 _ := hr.mono (by decide)
    have r4 : Room 4 _ := hr.mono (by decide)
    have r3 : Room 3 _ := hr.mono (by decide)
    have r2 : Room 2 _ := hr.mono (by decide)
    have r1 : Room 1 _ := hr.mono (by decide)
    refine ⟨_, pss_cons (ps_set (i := 5) sc_law_are_twice.nd rfl (Or.inl rfl) (pe_callB (Own.call_len SL.at_ SL.fn GL r2 pass0) (by rfl) B.len PySem.boot_len (pa_cons (pv 1) pa_nil)))
      (pss_cons (ps_set (i := 6) sc_law_are_twice.nd rfl (Or.inl rfl) (pe_meth (pe_make ME FE r4 (by rfl) mD bE .nil pass0 (pa_cons (pe_op (Own.op_bin (op := .Add) (C := C) (g := gA) R.first SA.at_ SA.fn GA r5 pass0) (pv 1) (pe_op (Own.op_binI (op := .RShift) R.first SS.at_ SS.fn noR noI j1 j2 j3 GS r5 pass0) (pv 1) (pv 2))) (pa_cons (pe_op op_mul pe_int (pv 2)) pa_nil))) cE.cl HV FV hr bV .nil pass0 (pa_cons (pv 4) pa_nil)))
      (pss_cons (ps_if (pt_cmpR (op_ne) (pe_prop (pv 6) cW.cl prI PI r2 bI .nil pass0 rfl) (pe_prop (pv 3) cW.cl prI PI r2 bI .nil pass0 rfl) (nomark _)) (pss_one (ps_ret pe_bl)) pss_nil)
      (pss_cons (ps_set (i := 7) sc_law_are_twice.nd rfl (Or.inl rfl) (pe_prop (pv 3) cW.cl prO PO r2 bO .nil pass0 rfl))
      (pss_cons (ps_if (pt_cmpR (op_notN) (pv 7) (pe_non) (nomark _)) (pss_one (ps_set (i := 7) sc_law_are_twice.nd rfl (Or.inl rfl) (pe_tup (pa_cons (pe_op op_fdiv (pe_ix ix_tup (pv 7) (pe_int) (fun _ _ => rfl)) pe_int) (pa_cons (pe_op op_add (pe_op op_mul (pe_op op_mod (pe_callTy (call_int1) (by rfl) B.int boot_int (pa_cons (pe_ix ix_tup (pv 7) (pe_int) (fun _ _ => rfl)) pa_nil)) pe_int) (pv 5)) (pe_ix ix_tup (pv 7) (pe_int) (fun _ _ => rfl))) pa_nil))))) pss_nil)
      (pss_cons (ps_if (pt_cmpR (op_neD hu64) (pe_prop (pv 6) cW.cl prO PO r2 bO .nil pass0 rfl) (pv 7) (nomark _)) (pss_one (ps_ret pe_bl)) pss_nil)
      (pss_cons (ps_for PassesOwn.never rfl (pi_range1 (by rfl) B.range (pa_cons (pe_int) pa_nil)) (pg_name (i := 8) sc_law_are_twice.nd rfl (Or.inl rfl))
        (pss_cons (ps_set (i := 9) sc_law_are_twice.nd rfl (Or.inl rfl) (pe_ix ix_list (pe_lst (pa_cons (pe_at T1 r1 (pa_cons (pv 0) (pa_cons (pe_int) pa_nil))) (pa_cons (pe_at GN r2 (pa_cons (pv 0) (pa_cons (pe_op op_pow pe_int pe_int) pa_nil))) pa_nil))) (pe_at T1 r1 (pa_cons (pv 0) (pa_cons (pe_int) pa_nil))) (fun _ _ => rfl)))
        (pss_cons (ps_if (pt_cmpR (op_ne) (pe_meth (pv 6) cW.cl HC FC r3 bC .nil pass0 (pa_cons (pv 9) pa_nil)) (pe_meth (pv 3) cW.cl HC FC r3 bC .nil pass0 (pa_cons (pv 9) pa_nil)) (nomark _)) (pss_one (ps_ret pe_bl)) pss_nil)
        (pss_cons (ps_par (i := 10) (j := 11) (by rfl) sc_law_are_twice.nd rfl rfl (by decide) rfl rfl (pa_cons (pe_ix ix_list (pe_lst (pa_cons (pe_at T1 r1 (pa_cons (pv 0) (pa_cons (pe_int) pa_nil))) (pa_cons (pe_at GN r2 (pa_cons (pv 0) (pa_cons (pe_op op_pow pe_int pe_int) pa_nil))) pa_nil))) (pe_at T1 r1 (pa_cons (pv 0) (pa_cons (pe_int) pa_nil))) (fun _ _ => rfl)) (pa_cons (pe_at T1 r1 (pa_cons (pv 0) (pa_cons (pe_op op_mul pe_int (pv 5)) pa_nil))) pa_nil)) (by rfl))
        (pss_one (ps_if (pt_cmpR (op_ne) (pe_meth (pv 6) cW.cl HT FT r3 bT .nil pass0 (pa_cons (pv 10) (pa_cons (pv 11) pa_nil))) (pe_meth (pv 3) cW.cl HT FT r3 bT .nil pass0 (pa_cons (pe_op op_add (pe_op op_mul pe_int (pv 10)) (pe_op op_fdiv (pv 11) (pv 5))) (pa_cons (pe_op op_mod (pe_callTy (call_int1) (by rfl) B.int boot_int (pa_cons (pv 11) pa_nil)) (pv 5)) pa_nil))) (nomark _)) (pss_one (ps_ret pe_bl)) pss_nil))))))
      (pss_one (ps_ret pe_bl)))))))), ?_⟩
    obtain ⟨dx, _, _, ep, _, _⟩ := id hR
    have n0 := En.n0
    have p0 := En.pos
    have nle : xs.length ≤ 40 := by omega
    obtain ⟨y0, el0⟩ := D0.cell.list
    have hwT : Wf 0 (twice xs per) := by
      have := (rnds_wf En (fun y hy => (hb y hy).1) hp 1 (by decide)).1
      have e : rnds xs per 1 = twice xs per := by
        show xs ++ shR xs (((0 + 1 : Nat) : Int) * per) = xs ++ shR xs per
        rw [show ((0 + 1 : Nat) : Int) = 1 from rfl, Int.one_mul]
      rwa [e] at this
    have ET := twice_ends En hwT
    have lT := twice_len (xs := xs) (per := per)
    have bT2 : ∀ y ∈ twice xs per, y.1 ≤ 2000 ∧ y.2 ≤ 1000 := fun y hy => by
      unfold twice shR at hy
      rcases List.mem_append.mp hy with hy | hy
      · have := hb y hy; omega
      · obtain ⟨z, hz, rfl⟩ := List.mem_map.mp hy
        have := hb z hz
        show z.1 + per ≤ 2000 ∧ z.2 ≤ 1000
        omega
    -- count, other
    refine ⟨_, rfl, x, dx, _, rfl, ep, x, xs, rfl, hR, _, rfl, by omega, by omega, ?_⟩
    refine nm_of ?_
    refine ⟨_, rfl, _, rfl, _, rfl, x, dx, _, per, rfl, rfl, ep, x, xs, per, rfl, hR, En.w, nle, by omega, by omega, fun y hy => by have := hb y hy; omega, fun z2 H2 s2 nz2 R2 => ?_⟩
    obtain ⟨d2, _, _, e2, _, _⟩ := id R2
    refine ⟨x, dx, _, z2, d2, _, rfl, rfl, s2 _ _ ep, e2, x, z2, _, _, rfl, hR.same s2, R2, hwT, by show (twice xs per).length ≤ 40; omega, fun z3 H3 s3 nz3 R3 => ?_⟩
    refine ⟨_, rfl, _, _, rfl, rfl, .inr ⟨by omega, by omega⟩, fun e de ne nde nE => ?_⟩
    have s4 := same_new (o := .own e) nde
    have n4 : (upd H3 de (.own e)) e = none := by rw [upd_ne (fun q => nE q.symm)]; exact ne
    have s5 := s4.trans (same_new (o := .ins D de []) n4)
    have R3' : RowAt K C H3 z3 (twice xs per) := R3
    refine ⟨e, de, z3, twice xs per, 2 * per, rfl, upd_same, R3'.same s5, by omega, by omega, by have := ET.per; omega, by omega, fun H5 b5 e5 => ⟨rfl, ?_⟩⟩
    have s35 : Same H3 H5 := fun q o g => b5 q o (ne_of_none g ne) (s5 q o g)
    refine ⟨e, de, _, rfl, e5, rfl, _, rfl, e, z3, twice xs per, 2 * per, c, rfl, ⟨de, e5⟩, R3'.same s35, hwT, by omega, by omega, by omega, by omega, fun w2 l2 m2 rep2 H6 s6 nl2 W2a F2 Rp2 => ?_⟩
    refine nm_of ?_
    have hl2 := hits_len (twice xs per) (2 * per)
    have hl1 := hits_len xs per
    have h1 : 0 < (hitsOf xs per).length := by omega
    have h2 : 0 < (hitsOf (twice xs per) (2 * per)).length := by omega
    rw [← hl2] at Rp2
    have WP2 := wavep_of ET bT2 (by omega) (by omega) F2 Rp2
    have W2 : WvK K H6 w2 W l2 (twice xs per) (2 * per) c m2 rep2 := ⟨W2a, WP2, F2, Rp2⟩
    have s06 : Same H H6 := ((s2.trans s3).trans s35).trans s6
    have l2L : l2 ≠ L0 := fun q => by have := (((s2.trans s3).trans s35)) _ _ el0; rw [← q, nl2] at this; cases this
    have hW6 := hW.same s06
    have D6 := D0.up s06
    have fe := twice_fr En hwT c
    clear W2a s6 s35 b5 e5 R3' R3 s5 n4 s4 nde ne s3 s2 R2 e2 hR ep
    -- is_endless
    have iso : rep2.isSome = rep.isSome := by
      rw [Bool.eq_iff_iff, ends_iff h2 F2 Rp2, ends_iff h1 hW.F hW.R]
      exact forall_congr' fun k => by rw [fe, fe]
    obtain ⟨dw2, v2, ew2, _, _⟩ := id W2.at_
    obtain ⟨dw1, v1, ew1, _, _⟩ := id hW6.at_
    refine ⟨_, rfl, w2, dw2, _, rfl, ew2, w2, l2, _, _, m2, rep2, _, rfl, W2.at_, W2.p, rfl, _, rfl, w1, dw1, _, rfl, ew1, w1, l, _, _, m, rep, _, rfl, hW6.at_, hW6.p, rfl, rfl, _, rfl, ?_⟩
    rw [iso, show (!decide (V.bl rep.isSome = V.bl rep.isSome)) = false by simp]
    refine iteF ?_
    -- last_fallen
    refine ⟨_, rfl, w1, dw1, _, rfl, ew1, w1, l, _, _, m, rep, _, rfl, hW6.at_, hW6.p, rfl, fun v7 H7 s7 lv => ?_⟩
    refine nm_of ?_
    have ld : lastD (twice xs per).length (fr (hitsOf (twice xs per) (2 * per)) c) m2 rep2 = if rep = none then prD (fr (hitsOf xs per) c m / xs.length / 2, fr (hitsOf xs per) c m / xs.length % 2 * xs.length + fr (hitsOf xs per) c m % xs.length) else .none := by
      by_cases hn : rep = none
      · have hn2 : rep2 = none := by rw [hn] at iso; cases rep2 with | none => rfl | some _ => cases iso
        rw [if_pos hn, hn2]
        have R0 := hW.R
        rw [hn] at R0
        rw [hn2] at Rp2
        show prD (fr (hitsOf (twice xs per) (2 * per)) c m2 / (twice xs per).length, fr (hitsOf (twice xs per) (2 * per)) c m2 % (twice xs per).length) = _
        rw [last_one h1 h2 hW.F R0 F2 Rp2 fe, last_pair, lT]
      · rw [if_neg hn]
        cases rep2 with
        | some _ => rfl
        | none => cases rep with
          | none => exact absurd rfl hn
          | some _ => cases iso
    have s07 := s06.trans s7
    refine ⟨_, rfl, rfl, _, rfl, ?_⟩
    have br : ∃ (b : Bool), (!decide (v7 = .non)) = b ∧ ((b = false ∧ rep ≠ none ∧ v7 = .non) ∨ (b = true ∧ rep = none ∧ PairV K H7 v7 (fr (hitsOf xs per) c m / xs.length, fr (hitsOf xs per) c m % xs.length))) := by
      by_cases hn : rep = none
      · rw [hn] at lv
        obtain ⟨T, rfl, hT⟩ := id lv
        exact ⟨true, by simp, .inr ⟨rfl, hn, lv⟩⟩
      · cases rep with
        | none => exact absurd rfl hn
        | some p => obtain rfl : v7 = .non := lv; exact ⟨false, by simp, .inl ⟨rfl, hn, rfl⟩⟩
    obtain ⟨b, eb, br⟩ := br
    rw [eb]
    have fm : c ≤ fr (hitsOf xs per) c m := fr_mono (hs := hitsOf xs per) (c := c) (Nat.zero_le m)
    have sm := hW.p.small m (Nat.le_refl _)
    have ml := Nat.mod_lt (fr (hitsOf xs per) c m) n0
    have q1 := Nat.div_le_self (fr (hitsOf xs per) c m) xs.length
    rcases br with ⟨rfl, hn, rfl⟩ | ⟨rfl, hn, T, rfl, hT⟩
    case' inl =>
      refine iteF ?_
      have dp : Dp K H7 .non (lastD (twice xs per).length (fr (hitsOf (twice xs per) (2 * per)) c) m2 rep2) := by rw [ld, if_neg hn]; exact .non
      obtain ⟨v8, H8, s8, hv8, hH8, dp8⟩ : ∃ v8 H8, Same H7 H8 ∧ V.non = v8 ∧ H7 = H8 ∧ Dp K H8 v8 (lastD (twice xs per).length (fr (hitsOf (twice xs per) (2 * per)) c) m2 rep2) := ⟨.non, H7, Same.refl _, rfl, rfl, dp⟩
      rw [hv8, hH8]
    case' inr =>
      refine iteT ?_
      refine ⟨_, rfl, T, _, ((0 : Nat) : Int), _, rfl, rfl, hT, atI_nat (j := 0) rfl, _, _, rfl, rfl, ⟨by decide, by decide⟩, _, rfl, T, _, ((0 : Nat) : Int), _, rfl, rfl, hT, atI_nat (j := 0) rfl, .inl ⟨_, rfl, _, _, rfl, rfl, by show (0 : Int) < 2; decide, _, rfl, _, _, rfl, rfl, .inr ⟨by omega, by omega⟩, _, rfl, T, _, ((1 : Nat) : Int), _, rfl, rfl, hT, atI_nat (j := 1) rfl, _, _, rfl, rfl, by show 2 ≤ sizeLine; decide, fun T2 nT2 => ?_⟩⟩
      refine nm_of ?_
      have s8 := same_new (o := .tup [V.int (((fr (hitsOf xs per) c m / xs.length : Nat) : Int) / 2), V.int (((fr (hitsOf xs per) c m / xs.length : Nat) : Int) % 2 * ((xs.length : Nat) : Int) + ((fr (hitsOf xs per) c m % xs.length : Nat) : Int))]) nT2
      have dp8 : Dp K (upd H7 T2 (.tup [V.int (((fr (hitsOf xs per) c m / xs.length : Nat) : Int) / 2), V.int (((fr (hitsOf xs per) c m / xs.length : Nat) : Int) % 2 * ((xs.length : Nat) : Int) + ((fr (hitsOf xs per) c m % xs.length : Nat) : Int))])) (.ref T2) (lastD (twice xs per).length (fr (hitsOf (twice xs per) (2 * per)) c) m2 rep2) := by
        rw [ld, if_pos hn]
        refine prD_dp ⟨T2, rfl, SqT.of ?_⟩
        rw [upd_same, Int.natCast_ediv, Int.natCast_add, Int.natCast_mul, Int.natCast_emod]
        rfl
      obtain ⟨v8, hv8⟩ : ∃ v8, V.ref T2 = v8 := ⟨_, rfl⟩
      rw [hv8] at dp8
      rw [hv8]
      generalize upd H7 T2 (.tup [V.int (((fr (hitsOf xs per) c m / xs.length : Nat) : Int) / 2), V.int (((fr (hitsOf xs per) c m / xs.length : Nat) : Int) % 2 * ((xs.length : Nat) : Int) + ((fr (hitsOf xs per) c m % xs.length : Nat) : Int))]) = H8 at s8 dp8 ⊢
    all_goals
      have s68 := s7.trans s8
      have s08 := s06.trans s68
      have W28 := W2.same s68
      have W18 := hW.same s08
      have D8 := D0.up s08
      obtain ⟨dw2, v2, ew2, _, _⟩ := id W28.at_
      refine ⟨_, rfl, w2, dw2, _, rfl, ew2, w2, l2, _, _, m2, rep2, _, rfl, W28.at_, W28.p, rfl, fun v9 H9 s9 lv9 => ?_⟩
      refine ⟨_, rfl, lastD _ _ m2 rep2, lastD _ _ m2 rep2, lastD_dp lv9, dp_up s9 dp8, lastD_shaped _ _ _ _, lastD_shaped _ _ _ _, _, rfl, ?_⟩
      rw [SeqAt.eqv_refl _ (SeqAt.canLay_of_shaped (lastD_shaped _ _ _ _))]
      refine iteF ?_
      have W29 := W28.same s9
      have W19 := W18.same s9
      have D9 := D8.up s9
      have b09 : But L0 H H9 := Same.but (s08.trans s9) L0
      obtain ⟨y9, el9⟩ := D9.cell.list
      refine ⟨4, rfl, by decide, by decide, for_range (lo := 0) (n := 4) (fun j σ G => ∃ (s8 s9 s10 s11 : Option V), σ = [some (.ref L0), some (.ref x), some (.int per), some (.ref w1), some (.int (c : Nat)), some (.int (xs.length : Nat)), some (.ref w2), some v8, s8, s9, s10, s11] ∧ But L0 H9 G ∧ Cell G L0 a) ?_ ?_ ?_⟩
      · exact ⟨_, _, _, _, rfl, fun _ _ _ e => e, D9.cell⟩
      · rintro j σ G hj ⟨s8', s9', s10, s11, rfl, bG, cG⟩
        refine nm_of ?_
        have DG := D9.next bG cG
        -- tick
        refine ⟨_, rfl, L0, a, ns, 60, rfl, by decide, by decide, DG, fun k1 Ga k10 k11 Da ba => ?_⟩
        refine ⟨_, rfl, _, _, rfl, rfl, ⟨by decide, by decide, by decide⟩, L0, a, ns, _, rfl, by decide, Da, fun k2 Gb k20 k21 Db bb => ?_⟩
        refine ⟨by show 2 ≤ sizeLine; decide, fun lq nlq => ?_⟩
        have sl := same_new (o := .lst [V.int k1, V.int k2]) nlq
        have lL : lq ≠ L0 := fun q => by obtain ⟨yy, e2⟩ := Db.cell.list; rw [← q, nlq] at e2; cases e2
        refine ⟨_, rfl, L0, a, ns, 2, rfl, by decide, by decide, Db.up sl, fun i1 Gc i10 i11 Dc bc => ?_⟩
        obtain ⟨tk, htk, etk⟩ := pick (vs := [k1, k2]) rfl i10 i11
        have big17 : (10 ^ (17 : Int).toNat : Int) = 100000000000000000 := by decide
        have tkb : 0 ≤ tk ∧ tk < 100000000000000000 := by
          rw [big17] at k21
          simp at htk
          omega
        obtain ⟨kt, rfl⟩ : ∃ kt : Nat, tk = (kt : Int) := ⟨tk.toNat, by omega⟩
        refine ⟨lq, _, i1, _, rfl, rfl, SqL.of (bc _ _ lL upd_same), etk, ?_⟩
        refine nm_of ?_
        have b1c : But L0 H9 Gc := (((bG.trans ba).trans bb).trans (Same.but sl L0)).trans bc
        have W2c : WvK K Gc w2 W l2 (twice xs per) (2 * per) c m2 rep2 := ⟨W29.at_.but el9 b1c l2L, W29.p, W29.F, W29.R⟩
        have W1c : WvK K Gc w1 W l xs per c m rep := ⟨W19.at_.but el9 b1c hl, W19.p, W19.F, W19.R⟩
        obtain ⟨dw2', v2', ew2', _, _⟩ := id W2c.at_
        have c18 : (100000000000000000 : Int) ≤ 10 ^ 18 := by decide
        refine ⟨_, rfl, w2, dw2', _, rfl, ew2', rfl, _, rfl, w2, l2, _, _, m2, rep2, _, rfl, W2c.at_, W2c.p, kt, rfl, by omega, fun Gd sd => ?_⟩
        have W1d := W1c.same sd
        obtain ⟨dw1', v1', ew1', _, _⟩ := id W1d.at_
        refine ⟨_, rfl, w1, dw1', _, rfl, ew1', rfl, _, rfl, w1, l, _, _, m, rep, _, rfl, W1d.at_, W1d.p, kt, rfl, by omega, fun Ge se => ?_⟩
        rw [frontA_fr h2 F2 Rp2, frontA_fr h1 hW.F hW.R, fe kt]
        refine ⟨rfl, _, rfl, ?_⟩
        rw [show (!decide (V.int (((fr (hitsOf xs per) c kt : Nat) : Int) - ((fr (hitsOf (twice xs per) (2 * per)) c 0 : Nat) : Int) + 1) = V.int (((fr (hitsOf xs per) c kt : Nat) : Int) - ((fr (hitsOf xs per) c 0 : Nat) : Int) + 1))) = false by rw [fe 0]; simp]
        refine iteF ?_
        have De := (Dc.up sd).up se
        have b1e : But L0 H9 Ge := (b1c.trans (Same.but sd L0)).trans (Same.but se L0)
        clear W2c W1c W1d ew1' ew2' bc bb ba Da Db Dc sl nlq lL
        -- number, place
        refine ⟨_, rfl, L0, a, ns, 60, rfl, by decide, by decide, De, fun k3 Gf k30 k31 Df bf => ?_⟩
        refine ⟨_, rfl, _, _, rfl, rfl, ⟨by decide, by decide, by decide⟩, L0, a, ns, _, rfl, by decide, Df, fun k4 Gg k40 k41 Dg bg => ?_⟩
        refine ⟨by show 2 ≤ sizeLine; decide, fun l' nl' => ?_⟩
        have sl' := same_new (o := .lst [V.int k3, V.int k4]) nl'
        have lL' : l' ≠ L0 := fun q => by obtain ⟨yy, e2⟩ := Dg.cell.list; rw [← q, nl'] at e2; cases e2
        refine ⟨_, rfl, L0, a, ns, 2, rfl, by decide, by decide, Dg.up sl', fun i2 Gh i20 i21 Dh bh => ?_⟩
        obtain ⟨nu, hnu, enu⟩ := pick (vs := [k3, k4]) rfl i20 i21
        have big15 : (10 ^ (15 : Int).toNat : Int) = 1000000000000000 := by decide
        have nub : 0 ≤ nu ∧ nu < 1000000000000000 := by
          rw [big15] at k41
          simp at hnu
          omega
        obtain ⟨nn, rfl⟩ : ∃ nn : Nat, nu = (nn : Int) := ⟨nu.toNat, by omega⟩
        refine ⟨l', _, i2, _, rfl, rfl, SqL.of (bh _ _ lL' upd_same), enu, ?_⟩
        refine ⟨_, rfl, _, rfl, _, _, rfl, rfl, .inr ⟨by omega, by omega⟩, L0, a, ns, 2 * (xs.length : Int), rfl, by omega, by omega, Dh, fun pc Gi p0' p1' Di bi => ?_⟩
        obtain ⟨pp, rfl⟩ : ∃ pp : Nat, pc = (pp : Int) := ⟨pc.toNat, by omega⟩
        refine ⟨_, _, rfl, ?_⟩
        have b1i : But L0 H9 Gi := ((((b1e.trans bf).trans bg).trans (Same.but sl' L0)).trans bh).trans bi
        have W2i : WvK K Gi w2 W l2 (twice xs per) (2 * per) c m2 rep2 := ⟨W29.at_.but el9 b1i l2L, W29.p, W29.F, W29.R⟩
        have W1i : WvK K Gi w1 W l xs per c m rep := ⟨W19.at_.but el9 b1i hl, W19.p, W19.F, W19.R⟩
        obtain ⟨dw2', v2', ew2', _, _⟩ := id W2i.at_
        have c15 : (1000000000000000 : Int) ≤ 10 ^ 18 := by decide
        refine ⟨_, rfl, w2, dw2', _, rfl, ew2', rfl, _, rfl, _, rfl, w2, l2, _, _, m2, rep2, _, rfl, W2i.at_, W2i.p, nn, pp, rfl, by omega, by omega, fun r2 Gj sj T2 => ?_⟩
        have W1j := W1i.same sj
        obtain ⟨dw1', v1', ew1', _, _⟩ := id W1j.at_
        have c16 : (3000000000000000 : Int) ≤ 10 ^ 18 := by decide
        have mlp := Nat.mod_lt pp n0
        have qlp := Nat.div_le_self pp xs.length
        have args : ([V.int (2 * (nn : Int) + (pp : Int) / (xs.length : Int)), V.int ((pp : Int) % (xs.length : Int))] : List V) = [V.int ((2 * nn + pp / xs.length : Nat) : Int), V.int ((pp % xs.length : Nat) : Int)] := by
          rw [Int.natCast_add, Int.natCast_mul, Int.natCast_ediv, Int.natCast_emod]
          rfl
        refine ⟨_, rfl, w1, dw1', _, rfl, ew1', rfl, _, rfl, _, _, rfl, rfl, .inr ⟨by omega, by omega⟩, _, rfl, _, rfl, _, _, rfl, rfl, ⟨by omega, by omega⟩, _, _, rfl, rfl, _, rfl, .inl ⟨_, rfl, _, rfl, _, _, rfl, rfl, by show (0 : Int) < (xs.length : Int); omega, w1, l, _, _, m, rep, _, rfl, W1j.at_, W1j.p, 2 * nn + pp / xs.length, pp % xs.length, args, by omega, mlp, fun r1 Gk sk T1' => ?_⟩⟩
        have dmp := Nat.div_add_mod pp xs.length
        have eo : (2 * nn + pp / xs.length) * xs.length + pp % xs.length = nn * (twice xs per).length + pp := by
          rw [lT, Nat.add_mul, Nat.mul_comm (pp / xs.length), Nat.mul_assoc, Nat.mul_left_comm]
          omega
        rw [eo] at T1'
        have er : r2 = r1 := tick_eq h1 h2 hW.F hW.R (by rw [hl1]; exact T1') F2 Rp2 (by rw [hl2]; exact T2) fe
        rw [er]
        refine ⟨optN_scal r1, _, rfl, ?_⟩
        rw [show (!decide (optN r1 = optN r1)) = false by simp]
        exact iteF ⟨_, _, _, _, rfl, (b1i.trans (Same.but sj L0)).trans (Same.but sk L0), ((Di.up sj).up sk).cell⟩
      · rintro σ G ⟨s8', s9', s10, s11, rfl, bG, cG⟩
        exact k G (b09.trans bG) (D9.next bG cG)
end
/-! ### k21's law -/
def spLaw (K : PySem.W.Frag) : Sp := fun vs H Q _ => ∃ (a : Addr) (ns : List Int), vs = [.ref a] ∧ SqL K H a (ns.map V.int) ∧ ns.length ≤ 63 ∧ ∀ H', Q (.bl true) H'
theorem drawn_stone {xs : List (Int × Int)} {h : Int} (w : Wf 0 xs) (d : Drawn xs) (hl : xs.length ≤ 7) (h1 : 1 ≤ h) (h2 : h ≤ 1000) : Wf 0 (xs ++ [(100, h)]) ∧ ∀ y ∈ xs ++ [(100, h)], y.1 ≤ 100 ∧ y.2 ≤ 1000 := by
  refine ⟨w.snoc (by show (0 : Int) ≤ 100; decide) (fun x hx => by have := d x hx; show x.1 + 1 ≤ 100; omega) (by show (100 : Int) ≤ _; decide) h1 (by show h ≤ _; omega), fun y hy => ?_⟩
  rcases List.mem_append.mp hy with hy | hy
  · have := d y hy; omega
  · rw [List.mem_singleton.mp hy]; exact ⟨Int.le_refl _, h2⟩
section
variable {P : Program} {w : World} {K : PySem.W.Frag} {mg : Str → Option Value} {base : Heap}
theorem ok_law {f C D W gL gE gV pP gP f1 f2 f3 f4 f5 : Addr} {fd dE dV dP d1 d2 d3 d4 d5 : FuncData} (F : Fun K "law" "law" s_law f fd) (B : Blt mg) (R : RowC K mg C) (cE : ClsE K D) (SL : Sign K C "__len__" gL) (GL : FnR P w K mg base CX0 1 gL (spLen K C))
    (pr : PropOf K C "places" pP gP) (P1 : FnOk P w K mg base CX0 1 gP dP ["self"] (spPlaces K C)) (bP : Binds K dP ["self"] [])
    (mD : mg "EndlessRow" = some (.ref D)) (ME : Mk K D gE) (FE : FnOk P w K mg base CX0 3 gE dE ["self", "row", "period"] (spEInit K C D)) (bE : Binds K dE ["self", "row", "period"] [])
    (HV : Meth K D "wave" gV) (FV : FnOk P w K mg base CX0 8 gV dV ["self", "stone"] (spWave K C D W)) (bV : Binds K dV ["self", "stone"] [])
    (T1 : At P w K mg base CX0 1 "_law_taken" ["_law_row_here", "_law_many"] (spTaken K) f1 d1) (S2 : At P w K mg base CX0 2 "_law_stones" ["_law_row_here", "_law_most"] (spStones K) f2 d2) (R6 : At P w K mg base CX0 6 "_law_row" ["_law_stones_here"] (spRow K C) f3 d3)
    (A6 : At P w K mg base CX0 6 "_law_are_rounds" ["_law_one", "_law_wave", "_law_period", "_law_rounds", "_law_stone"] (spRounds K C W) f4 d4) (A9 : At P w K mg base CX0 9 "_law_are_twice" ["_law_row_here", "_law_one", "_law_period", "_law_wave", "_law_stone"] (spTwice K C W) f5 d5) :
    FnOk P w K mg base CX0 10 f fd ["_law_script"] (spLaw K) := by
  refine F.ok sc_law (fun vs H Q E h => ?_) (fun cdv A outer s H vs Q E hr h => ?_)
  · obtain ⟨a, ns, rfl, _⟩ := h
    rfl
  · obtain ⟨a, ns, rfl, hs, hn, k⟩ := h
    have r8 : Room 8 _ := hr.mono (by decide)
    have r6 : Room 6 _ := hr.mono (by decide)
    have r4 : Room 4 _ := hr.mono (by decide)
    have r2 : Room 2 _ := hr.mono (by decide)
    have r1 : Room 1 _ := hr.mono (by decide)
    refine ⟨_, pss_cons (ps_set (i := 1) sc_law.nd rfl (Or.inl rfl) (pe_lst (pa_cons (pv 0) (pa_cons (pe_int) (pa_cons (pe_int) (pa_cons (pe_int) pa_nil))))))
      (pss_cons (ps_for PassesOwn.never rfl (pi_range1 (by rfl) B.range (pa_cons (pe_int) pa_nil)) (pg_name (i := 2) sc_law.nd rfl (Or.inl rfl))
        (pss_cons (ps_set (i := 3) sc_law.nd rfl (Or.inl rfl) (pe_at R6 r6 (pa_cons (pe_op op_cat (pe_at S2 r2 (pa_cons (pv 1) (pa_cons (pe_int) pa_nil))) (pe_lst (pa_cons (pe_tup (pa_cons (pe_int) (pa_cons (pe_op op_add (pe_int) (pe_at T1 r1 (pa_cons (pv 1) (pa_cons (pe_int) pa_nil)))) pa_nil))) pa_nil))) pa_nil)))
        (pss_cons (ps_set (i := 4) sc_law.nd rfl (Or.inl rfl) (pe_op op_add (pe_op op_add (pe_op op_sub (pe_ix ix_tup (pe_prop (pv 3) R.cl pr P1 r2 bP .nil pass0 rfl) (pe_un un_neg pe_int) (fun _ _ => rfl)) (pe_ix ix_tup (pe_prop (pv 3) R.cl pr P1 r2 bP .nil pass0 rfl) (pe_int) (fun _ _ => rfl))) (pe_int)) (pe_at T1 r1 (pa_cons (pv 1) (pa_cons (pe_int) pa_nil)))))
        (pss_cons (ps_set (i := 5) sc_law.nd rfl (Or.inl rfl) (pe_at T1 r1 (pa_cons (pv 1) (pa_cons (pe_callB (Own.call_len SL.at_ SL.fn GL r2 pass0) (by rfl) B.len PySem.boot_len (pa_cons (pv 3) pa_nil)) pa_nil))))
        (pss_cons (ps_set (i := 6) sc_law.nd rfl (Or.inl rfl) (pe_meth (pe_make ME FE r4 (by rfl) mD bE .nil pass0 (pa_cons (pv 3) (pa_cons (pv 4) pa_nil))) cE.cl HV FV r8 bV .nil pass0 (pa_cons (pv 5) pa_nil)))
        (pss_cons (ps_if (pt_not (pt_val (pe_at A6 r6 (pa_cons (pv 3) (pa_cons (pv 6) (pa_cons (pv 4) (pa_cons (pe_op op_fdiv pe_int (pe_callB (Own.call_len SL.at_ SL.fn GL r2 pass0) (by rfl) B.len PySem.boot_len (pa_cons (pv 3) pa_nil))) (pa_cons (pv 5) pa_nil)))))))) (pss_one (ps_ret pe_bl)) pss_nil)
        (pss_one (ps_if (pt_not (pt_val (pe_at A9 hr (pa_cons (pv 1) (pa_cons (pv 3) (pa_cons (pv 4) (pa_cons (pv 6) (pa_cons (pv 5) pa_nil)))))))) (pss_one (ps_ret pe_bl)) pss_nil))))))))
      (pss_one (ps_ret pe_bl))), ?_⟩
    refine ⟨_, rfl, by show 4 ≤ sizeLine; decide, fun L0 nL => ?_⟩
    have D0 : Drw K (upd H L0 (.lst [.ref a, .int 0, .int 0, .int 0])) L0 a ns := ⟨0, 0, 0, upd_same, by decide, by decide, by decide, (same_new nL).seq hs⟩
    generalize upd H L0 (.lst [.ref a, .int 0, .int 0, .int 0]) = H1 at D0
    refine nm_of ?_
    refine ⟨3, rfl, by decide, by decide, for_range (lo := 0) (n := 3) (fun j σ G => ∃ (s2 s3 s4 s5 s6 : Option V), σ = [some (.ref a), some (.ref L0), s2, s3, s4, s5, s6] ∧ But L0 H1 G ∧ Cell G L0 a) ?_ ?_ ?_⟩
    · exact ⟨_, _, _, _, _, rfl, fun _ _ _ e => e, D0.cell⟩
    · rintro j σ G hj ⟨s2, s3, s4, s5', s6, rfl, bG, cG⟩
      refine nm_of ?_
      -- one
      refine ⟨_, rfl, L0, a, ns, 7, rfl, by decide, by decide, D0.next bG cG, fun q us ds H2 D2 b2 nq eq hS hw hd hl => ?_⟩
      have qL : q ≠ L0 := fun e => by obtain ⟨zs, z⟩ := cG.list; rw [← e, nq] at z; cases z
      refine ⟨_, rfl, L0, a, ns, 30, rfl, by decide, by decide, D2, fun hh H3 h0 h1 D3 b3 => ?_⟩
      obtain ⟨y2, el2⟩ := D2.cell.list
      refine ⟨_, _, rfl, rfl, by show 2 ≤ sizeLine; decide, fun T nT => ⟨by show 1 ≤ sizeLine; decide, fun l1 nl1 => ?_⟩⟩
      have sT := same_new (o := .tup [V.int 100, V.int (1 + hh)]) nT
      have sl := same_new (o := .lst [V.ref T]) nl1
      have eq3 := sl _ _ (sT _ _ (b3 _ _ qL eq))
      have hd' : (ds.length : Int) ≤ 7 := hl
      refine ⟨q, l1, _, _, rfl, rfl, eq3, upd_same, by rw [hS.1, sizeLine_eq]; show ds.length + 1 ≤ _; omega, fun l2 nl2 => ?_⟩
      obtain ⟨wf, hb⟩ := drawn_stone (h := 1 + hh) hw hd (by omega) (by omega) (by omega)
      have s4l := sl.trans (same_new (o := .lst (us ++ [V.ref T])) nl2)
      have S3 : StonesAt K H3 us ds := ⟨hS.1, fun i x e => by obtain ⟨c, hc, sc⟩ := hS.2 i x e; exact ⟨c, hc, sqT_but sc el2 b3⟩⟩
      have S5 := (S3.same (sT.trans s4l)).append (StonesAt.one (a := T) (x := ((100 : Int), 1 + hh)) (SqT.of (s4l _ _ upd_same)))
      have hlx : (ds ++ [((100 : Int), 1 + hh)]).length = ds.length + 1 := by rw [List.length_append]; rfl
      refine ⟨l2, us ++ [V.ref T], ds ++ [(100, 1 + hh)], rfl, SqL.of upd_same, S5, wf, by omega, fun z H5 s5 nz Rz => ?_⟩
      have D5 := D3.up ((sT.trans s4l).trans s5)
      have b5 : But L0 H1 H5 := ((bG.trans b2).trans b3).trans (Same.but ((sT.trans s4l).trans s5) L0)
      have hl8 : (ds ++ [((100 : Int), 1 + hh)]).length ≤ 8 := by omega
      have h0x : 0 < (ds ++ [((100 : Int), 1 + hh)]).length := by omega
      generalize ds ++ [((100 : Int), 1 + hh)] = xs at wf hb Rz hl8 h0x
      clear S5 S3 hlx s4l sl sT eq3 nl2 nl1 nT hS hw hd eq el2 y2
      refine nm_of ?_
      obtain ⟨dr, _, _, ep, _, _⟩ := id Rz
      have pv_len : (plV xs).length = xs.length := by unfold plV; rw [List.length_map]
      -- period
      refine ⟨_, rfl, z, dr, _, rfl, ep, z, xs, rfl, Rz, by omega, fun z1 Ha sa n1 e1 => ?_⟩
      refine ⟨1, rfl, z1, _, (-1), _, rfl, rfl, SqT.of e1, at_lastV (by
        rw [pv_len]
        unfold plV
        rw [List.getElem?_map]
        have e : xs[xs.length - 1]? = some (xs[xs.length - 1]'(by omega)) := by simp
        rw [e]
        show some (V.int _) = some (V.int (pl xs (xs.length - 1)))
        rw [(pl_of e).1]) (by rw [pv_len]; exact h0x), ?_⟩
      refine ⟨_, rfl, z, dr, _, rfl, sa _ _ ep, z, xs, rfl, Rz.same sa, by omega, fun z2 Hb sb n2 e2 => ?_⟩
      refine ⟨z2, _, _, _, rfl, rfl, SqT.of e2, pl_get (a := 0) h0x, _, _, rfl, rfl, _, _, rfl, rfl, ?_⟩
      have sab := sa.trans sb
      refine ⟨_, rfl, L0, a, ns, 12, rfl, by decide, by decide, D5.up sab, fun pk Hc pk0 pk1 Dc bc => ⟨_, _, rfl, rfl, ?_⟩⟩
      refine nm_of ?_
      show tSeq _ _ _ [some (V.ref a), some (V.ref L0), some (V.int (0 + (j : Int))), some (V.ref z), some (V.int (pl xs (xs.length - 1) - pl xs 0 + 1 + pk)), s5', s6] Hc
      generalize hper : pl xs (xs.length - 1) - pl xs 0 + 1 + pk = per
      obtain ⟨y5, el5⟩ := (D5.up sab).cell.list
      have Rc := (Rz.same sab).but el5 bc
      have bc5 : But L0 H1 Hc := (b5.trans (Same.but sab L0)).trans bc
      have w0 := wf_at wf h0x
      have wl := wf_at wf (k := xs.length - 1) (by omega)
      have mono := inc_le wf.inc (a := 0) (b := xs.length - 1) (Nat.zero_le _) (by omega)
      have bl := hb _ (List.getElem_mem (h := show xs.length - 1 < xs.length by omega))
      have epl := pl_of (xs := xs) (k := xs.length - 1) (x := xs[xs.length - 1]'(by omega)) (by simp)
      rw [← epl.1, ← epl.2] at bl
      -- stone
      obtain ⟨dc, _, _, epc, _, _⟩ := id Rc
      refine ⟨_, rfl, _, rfl, z, dc, _, rfl, epc, z, xs, rfl, Rc, _, rfl, by omega, by omega, L0, a, ns, (xs.length : Int), rfl, by omega, by omega, Dc, fun cc Hd c0 c1 Dd bd => ?_⟩
      obtain ⟨c, rfl⟩ : ∃ c : Nat, cc = (c : Int) := ⟨cc.toNat, by omega⟩
      refine nm_of ?_
      obtain ⟨yc, elc⟩ := Dc.cell.list
      have Rd := Rc.but elc bd
      have bd5 : But L0 H1 Hd := bc5.trans bd
      have En : Ends_ xs per := ⟨wf, h0x, by omega⟩
      -- wave
      refine ⟨_, rfl, _, rfl, fun y dy ny ndy nE => ?_⟩
      have t5 := same_new (o := .own y) ndy
      have n5 : (upd Hd dy (.own y)) y = none := by rw [upd_ne (fun e => nE e.symm)]; exact ny
      have t6 := t5.trans (same_new (o := .ins D dy []) n5)
      refine ⟨y, dy, z, xs, per, rfl, upd_same, Rd.same t6, by omega, h0x, by omega, by omega, fun He be ee => ⟨rfl, ?_⟩⟩
      have te : Same Hd He := fun q o g => be q o (ne_of_none g ny) (t6 q o g)
      refine ⟨y, dy, _, rfl, ee, rfl, _, rfl, y, z, xs, per, c, rfl, ⟨dy, ee⟩, Rd.same te, wf, by omega, by omega, by omega, by omega, fun w1 l m rep Hf tf nl W1 F1 Rp1 => ?_⟩
      refine nm_of ?_
      have hl1 := hits_len xs per
      rw [← hl1] at Rp1
      have WK : WvK K Hf w1 W l xs per c m rep := ⟨W1, wavep_of En (fun y hy => by have := hb y hy; omega) (by omega) (by omega) F1 Rp1, F1, Rp1⟩
      have tef := te.trans tf
      have lL : l ≠ L0 := fun e => by obtain ⟨yy, e2⟩ := (Dd.up te).cell.list; rw [← e, nl] at e2; cases e2
      have Rf := Rd.same tef
      have Df := Dd.up tef
      have bf5 : But L0 H1 Hf := bd5.trans (Same.but tef L0)
      clear W1 F1 Rp1 te tf be ee t6 n5 t5 nl
      obtain ⟨df, _, _, epf, _, _⟩ := id Rf
      -- rounds
      have e40 : ((40 : Int) / (xs.length : Int)) = ((40 / xs.length : Nat) : Int) := by rw [Int.natCast_ediv]; rfl
      refine ⟨_, rfl, _, rfl, _, rfl, _, rfl, z, df, _, rfl, epf, z, xs, rfl, Rf, _, rfl, by omega, by omega, _, _, rfl, rfl, ⟨by omega, by omega⟩, _, rfl, ?_⟩
      have args : ([V.ref z, V.ref w1, V.int per, V.int ((40 : Int) / (xs.length : Int)), V.int (c : Int)] : List V) = [V.ref z, V.ref w1, V.int per, V.int ((40 / xs.length : Nat) : Int), V.int (c : Int)] := by rw [e40]
      refine ⟨z, w1, l, xs, per, 40 / xs.length, c, m, rep, args, Rf, En, fun y hy => by have := hb y hy; omega, by omega, (Nat.one_le_div_iff h0x).mpr (by omega), Nat.div_mul_le_self 40 xs.length, by omega, WK, fun Hg sg => ⟨_, rfl, iteF ?_⟩⟩
      refine ⟨_, rfl, _, rfl, _, rfl, _, rfl, _, rfl, L0, a, z, w1, l, ns, xs, per, c, m, rep, rfl, Df.up sg, Rf.same sg, En, fun y hy => by have := hb y hy; omega, by omega, by omega, by omega, WK.same sg, lL, fun Hh bh Dh => ⟨_, rfl, iteF ?_⟩⟩
      exact ⟨_, _, _, _, _, rfl, (bf5.trans (Same.but sg L0)).trans bh, Dh.cell⟩
    · rintro σ G ⟨s2, s3, s4, s5, s6, rfl, bG, cG⟩
      exact k G
end
theorem all_mk {l : PySem.W.OpenLaw} {w : World} {K : PySem.W.Frag} {h : Heap} {mg : Str → Option Value} {fa C f_ini f_len f_add f_cal f_gti f_rsh f_num f_chn f_cst f_csi f_bes f_fel f_iss f_rer f_tic f_las f_nex f_fro f_rep f_tak f_sto f_row f_grn f_rou f_twi f_law : Addr} (X : K.In h) (G : h.Ns mainGlobals mg) (hfa : mg "law" = some (.ref fa))
    {od_ini an_ini od_len an_len od_add an_add od_cal an_cal od_gti an_gti od_rsh an_rsh od_num an_num od_chn an_chn od_cst an_cst od_csi an_csi od_bes an_bes od_fel an_fel od_iss an_iss od_rer an_rer od_tic an_tic od_las an_las od_nex an_nex od_fro an_fro od_rep an_rep od_tak an_tak od_sto an_sto od_row an_row od_grn an_grn od_rou an_rou od_twi an_twi od_law an_law : Option Addr} {sl_ini sl_len sl_add sl_cal sl_gti sl_rsh sl_num sl_chn sl_cst sl_csi sl_bes sl_fel sl_iss sl_rer sl_tic sl_las sl_nex sl_fro sl_rep sl_tak sl_sto sl_row sl_grn sl_rou sl_twi sl_law : Array (Option Value)} {oc_ini kV_ini dc_ini pm_ini cd_ini ct_ini oc_len kV_len dc_len pm_len cd_len ct_len oc_add kV_add dc_add pm_add cd_add ct_add oc_cal kV_cal dc_cal pm_cal cd_cal ct_cal oc_gti kV_gti dc_gti pm_gti cd_gti ct_gti oc_rsh kV_rsh dc_rsh pm_rsh cd_rsh ct_rsh oc_num kV_num dc_num pm_num cd_num ct_num oc_chn kV_chn dc_chn pm_chn cd_chn ct_chn oc_cst kV_cst dc_cst pm_cst cd_cst ct_cst oc_csi kV_csi dc_csi pm_csi cd_csi ct_csi oc_bes kV_bes dc_bes pm_bes cd_bes ct_bes oc_fel kV_fel dc_fel pm_fel cd_fel ct_fel oc_iss kV_iss dc_iss pm_iss cd_iss ct_iss oc_rer kV_rer dc_rer pm_rer cd_rer ct_rer oc_tic kV_tic dc_tic pm_tic cd_tic ct_tic oc_las kV_las dc_las pm_las cd_las ct_las oc_nex kV_nex dc_nex pm_nex cd_nex ct_nex oc_fro kV_fro dc_fro pm_fro cd_fro ct_fro oc_rep kV_rep dc_rep pm_rep cd_rep ct_rep oc_tak kV_tak dc_tak pm_tak cd_tak ct_tak oc_sto kV_sto dc_sto pm_sto cd_sto ct_sto oc_row kV_row dc_row pm_row cd_row ct_row oc_grn kV_grn dc_grn pm_grn cd_grn ct_grn oc_rou kV_rou dc_rou pm_rou cd_rou ct_rou oc_twi kV_twi dc_twi pm_twi cd_twi ct_twi oc_law kV_law dc_law pm_law cd_law ct_law : Value} {S : Addr} {tP tH tM : Tok} {odS : Option Addr} {itS : Array Value} {nS : Nat} {slS : Array (Option Value)} {p_pla f_pla : Addr} {od_pla an_pla : Option Addr} {sl_pla : Array (Option Value)} {oc_pla kV_pla dc_pla pm_pla cd_pla ct_pla : Value} {rs_pla : List Value} {p_get f_get : Addr} {od_get an_get : Option Addr} {sl_get : Array (Option Value)} {oc_get kV_get dc_get pm_get cd_get ct_get : Value} {rs_get : List Value} {tW tX tY : Tok} {D : Addr} {W : Addr} {f_ein : Addr} {od_ein an_ein : Option Addr} {sl_ein : Array (Option Value)} {oc_ein kV_ein dc_ein pm_ein cd_ein ct_ein : Value} {f_ewa : Addr} {od_ewa an_ewa : Option Addr} {sl_ewa : Array (Option Value)} {oc_ewa kV_ewa dc_ewa pm_ewa cd_ewa ct_ewa : Value} {f_win : Addr} {od_win an_win : Option Addr} {sl_win : Array (Option Value)} {oc_win kV_win dc_win pm_win cd_win ct_win : Value} {f_wen : Addr} {od_wen an_wen : Option Addr} {sl_wen : Array (Option Value)} {oc_wen kV_wen dc_wen pm_wen cd_wen ct_wen : Value} {p_wen : Addr} {rs_wen : List Value} {f_wla : Addr} {od_wla an_wla : Option Addr} {sl_wla : Array (Option Value)} {oc_wla kV_wla dc_wla pm_wla cd_wla ct_wla : Value} {p_wla : Addr} {rs_wla : List Value} {f_wco : Addr} {od_wco an_wco : Option Addr} {sl_wco : Array (Option Value)} {oc_wco kV_wco dc_wco pm_wco cd_wco ct_wco : Value} {f_wfa : Addr} {od_wfa an_wfa : Option Addr} {sl_wfa : Array (Option Value)} {oc_wfa kV_wfa dc_wfa pm_wfa cd_wfa ct_wfa : Value} {f_wti : Addr} {od_wti an_wti : Option Addr} {sl_wti : Array (Option Value)} {oc_wti kV_wti dc_wti pm_wti cd_wti ct_wti : Value} {f_wft : Addr} {od_wft an_wft : Option Addr} {sl_wft : Array (Option Value)} {oc_wft kV_wft dc_wft pm_wft cd_wft ct_wft : Value}
    (aC : PySem.W.nsIn K mainGlobals "Row" = some (some (.ref C)))
    (a_ini : PySem.W.findIn K (.ref C) "__init__" = some (some (.ref f_ini)))
    (i_ini : PySem.W.isFn K (.ref f_ini) = true)
    (l_ini : K.lookup f_ini = some ⟨oc_ini, od_ini, .func (PySem.W.fnOf "__init__" "Row.__init__" (defArgs s_Row_init) (defBody s_Row_init) (defScope s_Row_init) .none kV_ini dc_ini pm_ini an_ini cd_ini ct_ini), sl_ini⟩)
    (c_ini : PySem.W.codeIn K cd_ini "Row.__init__" = true)
    (k_ini : PySem.W.keepIn K (.ref f_ini) = true)
    (a_len : PySem.W.findIn K (.ref C) "__len__" = some (some (.ref f_len)))
    (i_len : PySem.W.isFn K (.ref f_len) = true)
    (l_len : K.lookup f_len = some ⟨oc_len, od_len, .func (PySem.W.fnOf "__len__" "Row.__len__" (defArgs s_Row_len) (defBody s_Row_len) (defScope s_Row_len) .none kV_len dc_len pm_len an_len cd_len ct_len), sl_len⟩)
    (c_len : PySem.W.codeIn K cd_len "Row.__len__" = true)
    (k_len : PySem.W.keepIn K (.ref f_len) = true)
    (a_add : PySem.W.findIn K (.ref C) "__add__" = some (some (.ref f_add)))
    (i_add : PySem.W.isFn K (.ref f_add) = true)
    (l_add : K.lookup f_add = some ⟨oc_add, od_add, .func (PySem.W.fnOf "__add__" "Row.__add__" (defArgs s_Row_add) (defBody s_Row_add) (defScope s_Row_add) .none kV_add dc_add pm_add an_add cd_add ct_add), sl_add⟩)
    (c_add : PySem.W.codeIn K cd_add "Row.__add__" = true)
    (k_add : PySem.W.keepIn K (.ref f_add) = true)
    (a_cal : PySem.W.findIn K (.ref C) "__call__" = some (some (.ref f_cal)))
    (i_cal : PySem.W.isFn K (.ref f_cal) = true)
    (l_cal : K.lookup f_cal = some ⟨oc_cal, od_cal, .func (PySem.W.fnOf "__call__" "Row.__call__" (defArgs s_Row_call) (defBody s_Row_call) (defScope s_Row_call) .none kV_cal dc_cal pm_cal an_cal cd_cal ct_cal), sl_cal⟩)
    (c_cal : PySem.W.codeIn K cd_cal "Row.__call__" = true)
    (k_cal : PySem.W.keepIn K (.ref f_cal) = true)
    (n_cal : PySem.W.fnIn K f_cal = true)
    (a_gti : PySem.W.findIn K (.ref C) "__getitem__" = some (some (.ref f_gti)))
    (i_gti : PySem.W.isFn K (.ref f_gti) = true)
    (l_gti : K.lookup f_gti = some ⟨oc_gti, od_gti, .func (PySem.W.fnOf "__getitem__" "Row.__getitem__" (defArgs s_Row_getitem) (defBody s_Row_getitem) (defScope s_Row_getitem) .none kV_gti dc_gti pm_gti an_gti cd_gti ct_gti), sl_gti⟩)
    (c_gti : PySem.W.codeIn K cd_gti "Row.__getitem__" = true)
    (k_gti : PySem.W.keepIn K (.ref f_gti) = true)
    (n_gti : PySem.W.fnIn K f_gti = true)
    (a_rsh : PySem.W.findIn K (.ref C) "__rshift__" = some (some (.ref f_rsh)))
    (i_rsh : PySem.W.isFn K (.ref f_rsh) = true)
    (l_rsh : K.lookup f_rsh = some ⟨oc_rsh, od_rsh, .func (PySem.W.fnOf "__rshift__" "Row.__rshift__" (defArgs s_Row_rshift) (defBody s_Row_rshift) (defScope s_Row_rshift) .none kV_rsh dc_rsh pm_rsh an_rsh cd_rsh ct_rsh), sl_rsh⟩)
    (c_rsh : PySem.W.codeIn K cd_rsh "Row.__rshift__" = true)
    (k_rsh : PySem.W.keepIn K (.ref f_rsh) = true)
    (a_num : PySem.W.nsIn K mainGlobals "is_number" = some (some (.ref f_num)))
    (l_num : K.lookup f_num = some ⟨oc_num, od_num, .func (PySem.W.fnOf "is_number" "is_number" (defArgs s_is_number) (defBody s_is_number) (defScope s_is_number) .none kV_num dc_num pm_num an_num cd_num ct_num), sl_num⟩)
    (c_num : PySem.W.codeIn K cd_num "is_number" = true)
    (k_num : PySem.W.keepIn K (.ref f_num) = true)
    (a_chn : PySem.W.nsIn K mainGlobals "check_number" = some (some (.ref f_chn)))
    (l_chn : K.lookup f_chn = some ⟨oc_chn, od_chn, .func (PySem.W.fnOf "check_number" "check_number" (defArgs s_check_number) (defBody s_check_number) (defScope s_check_number) .none kV_chn dc_chn pm_chn an_chn cd_chn ct_chn), sl_chn⟩)
    (c_chn : PySem.W.codeIn K cd_chn "check_number" = true)
    (k_chn : PySem.W.keepIn K (.ref f_chn) = true)
    (a_cst : PySem.W.nsIn K mainGlobals "check_stone" = some (some (.ref f_cst)))
    (l_cst : K.lookup f_cst = some ⟨oc_cst, od_cst, .func (PySem.W.fnOf "check_stone" "check_stone" (defArgs s_check_stone) (defBody s_check_stone) (defScope s_check_stone) .none kV_cst dc_cst pm_cst an_cst cd_cst ct_cst), sl_cst⟩)
    (c_cst : PySem.W.codeIn K cd_cst "check_stone" = true)
    (k_cst : PySem.W.keepIn K (.ref f_cst) = true)
    (a_csi : PySem.W.nsIn K mainGlobals "check_side" = some (some (.ref f_csi)))
    (l_csi : K.lookup f_csi = some ⟨oc_csi, od_csi, .func (PySem.W.fnOf "check_side" "check_side" (defArgs s_check_side) (defBody s_check_side) (defScope s_check_side) .none kV_csi dc_csi pm_csi an_csi cd_csi ct_csi), sl_csi⟩)
    (c_csi : PySem.W.codeIn K cd_csi "check_side" = true)
    (k_csi : PySem.W.keepIn K (.ref f_csi) = true)
    (a_bes : PySem.W.nsIn K mainGlobals "stones_beside" = some (some (.ref f_bes)))
    (l_bes : K.lookup f_bes = some ⟨oc_bes, od_bes, .func (PySem.W.fnOf "stones_beside" "stones_beside" (defArgs s_stones_beside) (defBody s_stones_beside) (defScope s_stones_beside) .none kV_bes dc_bes pm_bes an_bes cd_bes ct_bes), sl_bes⟩)
    (c_bes : PySem.W.codeIn K cd_bes "stones_beside" = true)
    (k_bes : PySem.W.keepIn K (.ref f_bes) = true)
    (a_fel : PySem.W.nsIn K mainGlobals "felled_by" = some (some (.ref f_fel)))
    (l_fel : K.lookup f_fel = some ⟨oc_fel, od_fel, .func (PySem.W.fnOf "felled_by" "felled_by" (defArgs s_felled_by) (defBody s_felled_by) (defScope s_felled_by) .none kV_fel dc_fel pm_fel an_fel cd_fel ct_fel), sl_fel⟩)
    (c_fel : PySem.W.codeIn K cd_fel "felled_by" = true)
    (k_fel : PySem.W.keepIn K (.ref f_fel) = true)
    (a_iss : PySem.W.nsIn K mainGlobals "_is_stone" = some (some (.ref f_iss)))
    (l_iss : K.lookup f_iss = some ⟨oc_iss, od_iss, .func (PySem.W.fnOf "_is_stone" "_is_stone" (defArgs s_is_stone) (defBody s_is_stone) (defScope s_is_stone) .none kV_iss dc_iss pm_iss an_iss cd_iss ct_iss), sl_iss⟩)
    (c_iss : PySem.W.codeIn K cd_iss "_is_stone" = true)
    (k_iss : PySem.W.keepIn K (.ref f_iss) = true)
    (a_rer : PySem.W.nsIn K mainGlobals "_reaches" = some (some (.ref f_rer)))
    (l_rer : K.lookup f_rer = some ⟨oc_rer, od_rer, .func (PySem.W.fnOf "_reaches" "_reaches" (defArgs s_reaches) (defBody s_reaches) (defScope s_reaches) .none kV_rer dc_rer pm_rer an_rer cd_rer ct_rer), sl_rer⟩)
    (c_rer : PySem.W.codeIn K cd_rer "_reaches" = true)
    (k_rer : PySem.W.keepIn K (.ref f_rer) = true)
    (a_tic : PySem.W.nsIn K mainGlobals "fall_ticks" = some (some (.ref f_tic)))
    (l_tic : K.lookup f_tic = some ⟨oc_tic, od_tic, .func (PySem.W.fnOf "fall_ticks" "fall_ticks" (defArgs s_fall_ticks) (defBody s_fall_ticks) (defScope s_fall_ticks) .none kV_tic dc_tic pm_tic an_tic cd_tic ct_tic), sl_tic⟩)
    (c_tic : PySem.W.codeIn K cd_tic "fall_ticks" = true)
    (k_tic : PySem.W.keepIn K (.ref f_tic) = true)
    (a_las : PySem.W.nsIn K mainGlobals "_last_hit" = some (some (.ref f_las)))
    (l_las : K.lookup f_las = some ⟨oc_las, od_las, .func (PySem.W.fnOf "_last_hit" "_last_hit" (defArgs s_last_hit) (defBody s_last_hit) (defScope s_last_hit) .none kV_las dc_las pm_las an_las cd_las ct_las), sl_las⟩)
    (c_las : PySem.W.codeIn K cd_las "_last_hit" = true)
    (k_las : PySem.W.keepIn K (.ref f_las) = true)
    (a_nex : PySem.W.nsIn K mainGlobals "_next_front" = some (some (.ref f_nex)))
    (l_nex : K.lookup f_nex = some ⟨oc_nex, od_nex, .func (PySem.W.fnOf "_next_front" "_next_front" (defArgs s_next_front) (defBody s_next_front) (defScope s_next_front) .none kV_nex dc_nex pm_nex an_nex cd_nex ct_nex), sl_nex⟩)
    (c_nex : PySem.W.codeIn K cd_nex "_next_front" = true)
    (k_nex : PySem.W.keepIn K (.ref f_nex) = true)
    (a_fro : PySem.W.nsIn K mainGlobals "_fronts_of_wave" = some (some (.ref f_fro)))
    (l_fro : K.lookup f_fro = some ⟨oc_fro, od_fro, .func (PySem.W.fnOf "_fronts_of_wave" "_fronts_of_wave" (defArgs s_fronts_of_wave) (defBody s_fronts_of_wave) (defScope s_fronts_of_wave) .none kV_fro dc_fro pm_fro an_fro cd_fro ct_fro), sl_fro⟩)
    (c_fro : PySem.W.codeIn K cd_fro "_fronts_of_wave" = true)
    (k_fro : PySem.W.keepIn K (.ref f_fro) = true)
    (a_rep : PySem.W.nsIn K mainGlobals "_first_repeat" = some (some (.ref f_rep)))
    (l_rep : K.lookup f_rep = some ⟨oc_rep, od_rep, .func (PySem.W.fnOf "_first_repeat" "_first_repeat" (defArgs s_first_repeat) (defBody s_first_repeat) (defScope s_first_repeat) .none kV_rep dc_rep pm_rep an_rep cd_rep ct_rep), sl_rep⟩)
    (c_rep : PySem.W.codeIn K cd_rep "_first_repeat" = true)
    (k_rep : PySem.W.keepIn K (.ref f_rep) = true)
    (a_tak : PySem.W.nsIn K mainGlobals "_law_taken" = some (some (.ref f_tak)))
    (l_tak : K.lookup f_tak = some ⟨oc_tak, od_tak, .func (PySem.W.fnOf "_law_taken" "_law_taken" (defArgs s_law_taken) (defBody s_law_taken) (defScope s_law_taken) .none kV_tak dc_tak pm_tak an_tak cd_tak ct_tak), sl_tak⟩)
    (c_tak : PySem.W.codeIn K cd_tak "_law_taken" = true)
    (k_tak : PySem.W.keepIn K (.ref f_tak) = true)
    (a_sto : PySem.W.nsIn K mainGlobals "_law_stones" = some (some (.ref f_sto)))
    (l_sto : K.lookup f_sto = some ⟨oc_sto, od_sto, .func (PySem.W.fnOf "_law_stones" "_law_stones" (defArgs s_law_stones) (defBody s_law_stones) (defScope s_law_stones) .none kV_sto dc_sto pm_sto an_sto cd_sto ct_sto), sl_sto⟩)
    (c_sto : PySem.W.codeIn K cd_sto "_law_stones" = true)
    (k_sto : PySem.W.keepIn K (.ref f_sto) = true)
    (a_row : PySem.W.nsIn K mainGlobals "_law_row" = some (some (.ref f_row)))
    (l_row : K.lookup f_row = some ⟨oc_row, od_row, .func (PySem.W.fnOf "_law_row" "_law_row" (defArgs s_law_row) (defBody s_law_row) (defScope s_law_row) .none kV_row dc_row pm_row an_row cd_row ct_row), sl_row⟩)
    (c_row : PySem.W.codeIn K cd_row "_law_row" = true)
    (k_row : PySem.W.keepIn K (.ref f_row) = true)
    (a_grn : PySem.W.nsIn K mainGlobals "_law_great" = some (some (.ref f_grn)))
    (l_grn : K.lookup f_grn = some ⟨oc_grn, od_grn, .func (PySem.W.fnOf "_law_great" "_law_great" (defArgs s_law_great) (defBody s_law_great) (defScope s_law_great) .none kV_grn dc_grn pm_grn an_grn cd_grn ct_grn), sl_grn⟩)
    (c_grn : PySem.W.codeIn K cd_grn "_law_great" = true)
    (k_grn : PySem.W.keepIn K (.ref f_grn) = true)
    (a_rou : PySem.W.nsIn K mainGlobals "_law_are_rounds" = some (some (.ref f_rou)))
    (l_rou : K.lookup f_rou = some ⟨oc_rou, od_rou, .func (PySem.W.fnOf "_law_are_rounds" "_law_are_rounds" (defArgs s_law_are_rounds) (defBody s_law_are_rounds) (defScope s_law_are_rounds) .none kV_rou dc_rou pm_rou an_rou cd_rou ct_rou), sl_rou⟩)
    (c_rou : PySem.W.codeIn K cd_rou "_law_are_rounds" = true)
    (k_rou : PySem.W.keepIn K (.ref f_rou) = true)
    (a_twi : PySem.W.nsIn K mainGlobals "_law_are_twice" = some (some (.ref f_twi)))
    (l_twi : K.lookup f_twi = some ⟨oc_twi, od_twi, .func (PySem.W.fnOf "_law_are_twice" "_law_are_twice" (defArgs s_law_are_twice) (defBody s_law_are_twice) (defScope s_law_are_twice) .none kV_twi dc_twi pm_twi an_twi cd_twi ct_twi), sl_twi⟩)
    (c_twi : PySem.W.codeIn K cd_twi "_law_are_twice" = true)
    (k_twi : PySem.W.keepIn K (.ref f_twi) = true)
    (a_law : PySem.W.nsIn K mainGlobals "law" = some (some (.ref f_law)))
    (l_law : K.lookup f_law = some ⟨oc_law, od_law, .func (PySem.W.fnOf "law" "law" (defArgs s_law) (defBody s_law) (defScope s_law) .none kV_law dc_law pm_law an_law cd_law ct_law), sl_law⟩)
    (c_law : PySem.W.codeIn K cd_law "law" = true)
    (k_law : PySem.W.keepIn K (.ref f_law) = true)
    (z_isinstance : PySem.W.nsIn K mainGlobals "isinstance" = some none)
    (z_int : PySem.W.nsIn K mainGlobals "int" = some none)
    (z_bool : PySem.W.nsIn K mainGlobals "bool" = some none)
    (z_len : PySem.W.nsIn K mainGlobals "len" = some none)
    (z_tuple : PySem.W.nsIn K mainGlobals "tuple" = some none)
    (z_list : PySem.W.nsIn K mainGlobals "list" = some none)
    (z_range : PySem.W.nsIn K mainGlobals "range" = some none)
    (z_enumerate : PySem.W.nsIn K mainGlobals "enumerate" = some none)
    (z_abs : PySem.W.nsIn K mainGlobals "abs" = some none)
    (z_max : PySem.W.nsIn K mainGlobals "max" = some none)
    (z_min : PySem.W.nsIn K mainGlobals "min" = some none)
    (z_sorted : PySem.W.nsIn K mainGlobals "sorted" = some none)
    (aS : PySem.W.nsIn K mainGlobals "SIDES" = some (some (.ref S)))
    (lS : K.lookup S = some ⟨.type "tuple", odS, .seq itS nS, slS⟩)
    (pS : itS.size ≤ sizeLine)
    (vS : Vals [.str "left", .str "right"] itS.toList)
    (aP : PySem.W.nsIn K mainGlobals "GREATEST_PLACE" = some (some (.int 1000000000 tP)))
    (aH : PySem.W.nsIn K mainGlobals "GREATEST_HEIGHT" = some (some (.int 1000000000 tH)))
    (pg : PySem.W.plainGet K C Str.empty = true)
    (hd : PySem.W.hasDictIn K C = true)
    (po : PySem.W.plainOver K C = true)
    (sa : PySem.W.findIn K (.ref C) "__setattr__" = some (some (.builtin "object.__setattr__")))
    (mk : PySem.W.makesIn K C = true)
    (kc : PySem.W.keepIn K (.ref C) = true)
    (nQ : PySem.W.findIn K (.ref C) "_stones" = some none)
    (mM : PySem.W.findIn K (.ref C) "MAX_STONES" = some (some (.int 40 tM)))
    (gM : PySem.W.specialIn K (.int 40 tM) "__get__" = some none)
    (sf : PySem.W.selfFirst K C = true)
    (ca : PySem.W.findIn K (.ref C) "__class__" = some (some (.builtin "object.__class__")))
    (cn : PySem.W.specialIn K (.builtin "object.__class__") "__get__" = some (some (.builtin "getset_descriptor.__get__")))
    (ct : PySem.W.takesIn K (.builtin "object.__class__") = some true)
    (cm : PySem.W.mroIn K C (.type "object") = some true)
    (pa_pla : PySem.W.findIn K (.ref C) "places" = some (some (.ref p_pla)))
    (pb_pla : PySem.W.specialIn K (.ref p_pla) "__get__" = some (some (.builtin "property.__get__")))
    (pc_pla : PySem.W.takesIn K (.ref p_pla) = some true)
    (pd_pla : PySem.W.recIn K p_pla "property" = some (.ref f_pla :: rs_pla))
    (l_pla : K.lookup f_pla = some ⟨oc_pla, od_pla, .func (PySem.W.fnOf "places" "Row.places" (defArgs s_Row_places) (defBody s_Row_places) (defScope s_Row_places) .none kV_pla dc_pla pm_pla an_pla cd_pla ct_pla), sl_pla⟩)
    (c_pla : PySem.W.codeIn K cd_pla "Row.places" = true)
    (k_pla : PySem.W.keepIn K (.ref f_pla) = true)
    (pa_get : PySem.W.findIn K (.ref C) "stones" = some (some (.ref p_get)))
    (pb_get : PySem.W.specialIn K (.ref p_get) "__get__" = some (some (.builtin "property.__get__")))
    (pc_get : PySem.W.takesIn K (.ref p_get) = some true)
    (pd_get : PySem.W.recIn K p_get "property" = some (.ref f_get :: rs_get))
    (l_get : K.lookup f_get = some ⟨oc_get, od_get, .func (PySem.W.fnOf "stones" "Row.stones" (defArgs s_Row_stones) (defBody s_Row_stones) (defScope s_Row_stones) .none kV_get dc_get pm_get an_get cd_get ct_get), sl_get⟩)
    (c_get : PySem.W.codeIn K cd_get "Row.stones" = true)
    (k_get : PySem.W.keepIn K (.ref f_get) = true)
    (z_divmod : PySem.W.nsIn K mainGlobals "divmod" = some none)
    (aW : PySem.W.nsIn K mainGlobals "GREATEST_PERIOD" = some (some (.int 1000000000 tW)))
    (aX : PySem.W.nsIn K mainGlobals "GREATEST_TICK" = some (some (.int 1000000000000000000 tX)))
    (aY : PySem.W.nsIn K mainGlobals "GREATEST_ROUND" = some (some (.int 1000000000000000000 tY)))
    (noR : PySem.W.findIn K (.ref C) "__rrshift__" = some none)
    (noI : PySem.W.subIn K (.type "int") (.ref C) = some false)
    (j1 : PySem.W.findIn K (.type "int") "__rshift__" = some (some (.builtin "int.__rshift__")))
    (j2 : PySem.W.findIn K (.type "int") "__rrshift__" = some (some (.builtin "int.__rrshift__")))
    (aD : PySem.W.nsIn K mainGlobals "EndlessRow" = some (some (.ref D)))
    (pgD : PySem.W.plainGet K D Str.empty = true)
    (hdD : PySem.W.hasDictIn K D = true)
    (poD : PySem.W.plainOver K D = true)
    (saD : PySem.W.findIn K (.ref D) "__setattr__" = some (some (.builtin "object.__setattr__")))
    (mkD : PySem.W.makesIn K D = true)
    (kcD : PySem.W.keepIn K (.ref D) = true)
    (nD0 : PySem.W.findIn K (.ref D) "_row" = some none)
    (nD1 : PySem.W.findIn K (.ref D) "_period" = some none)
    (aWc : PySem.W.nsIn K mainGlobals "Wave" = some (some (.ref W)))
    (pgW : PySem.W.plainGet K W Str.empty = true)
    (hdW : PySem.W.hasDictIn K W = true)
    (poW : PySem.W.plainOver K W = true)
    (saW : PySem.W.findIn K (.ref W) "__setattr__" = some (some (.builtin "object.__setattr__")))
    (mkW : PySem.W.makesIn K W = true)
    (kcW : PySem.W.keepIn K (.ref W) = true)
    (nW0 : PySem.W.findIn K (.ref W) "_count" = some none)
    (nW1 : PySem.W.findIn K (.ref W) "_fronts" = some none)
    (nW2 : PySem.W.findIn K (.ref W) "_repeat" = some none)
    (a_ein : PySem.W.findIn K (.ref D) "__init__" = some (some (.ref f_ein)))
    (i_ein : PySem.W.isFn K (.ref f_ein) = true)
    (l_ein : K.lookup f_ein = some ⟨oc_ein, od_ein, .func (PySem.W.fnOf "__init__" "EndlessRow.__init__" (defArgs s_EndlessRow_init) (defBody s_EndlessRow_init) (defScope s_EndlessRow_init) .none kV_ein dc_ein pm_ein an_ein cd_ein ct_ein), sl_ein⟩)
    (c_ein : PySem.W.codeIn K cd_ein "EndlessRow.__init__" = true)
    (k_ein : PySem.W.keepIn K (.ref f_ein) = true)
    (a_ewa : PySem.W.findIn K (.ref D) "wave" = some (some (.ref f_ewa)))
    (i_ewa : PySem.W.isFn K (.ref f_ewa) = true)
    (l_ewa : K.lookup f_ewa = some ⟨oc_ewa, od_ewa, .func (PySem.W.fnOf "wave" "EndlessRow.wave" (defArgs s_EndlessRow_wave) (defBody s_EndlessRow_wave) (defScope s_EndlessRow_wave) .none kV_ewa dc_ewa pm_ewa an_ewa cd_ewa ct_ewa), sl_ewa⟩)
    (c_ewa : PySem.W.codeIn K cd_ewa "EndlessRow.wave" = true)
    (k_ewa : PySem.W.keepIn K (.ref f_ewa) = true)
    (a_win : PySem.W.findIn K (.ref W) "__init__" = some (some (.ref f_win)))
    (i_win : PySem.W.isFn K (.ref f_win) = true)
    (l_win : K.lookup f_win = some ⟨oc_win, od_win, .func (PySem.W.fnOf "__init__" "Wave.__init__" (defArgs s_Wave_init) (defBody s_Wave_init) (defScope s_Wave_init) .none kV_win dc_win pm_win an_win cd_win ct_win), sl_win⟩)
    (c_win : PySem.W.codeIn K cd_win "Wave.__init__" = true)
    (k_win : PySem.W.keepIn K (.ref f_win) = true)
    (pa_wen : PySem.W.findIn K (.ref W) "is_endless" = some (some (.ref p_wen)))
    (pb_wen : PySem.W.specialIn K (.ref p_wen) "__get__" = some (some (.builtin "property.__get__")))
    (pc_wen : PySem.W.takesIn K (.ref p_wen) = some true)
    (pd_wen : PySem.W.recIn K p_wen "property" = some (.ref f_wen :: rs_wen))
    (l_wen : K.lookup f_wen = some ⟨oc_wen, od_wen, .func (PySem.W.fnOf "is_endless" "Wave.is_endless" (defArgs s_Wave_is_endless) (defBody s_Wave_is_endless) (defScope s_Wave_is_endless) .none kV_wen dc_wen pm_wen an_wen cd_wen ct_wen), sl_wen⟩)
    (c_wen : PySem.W.codeIn K cd_wen "Wave.is_endless" = true)
    (k_wen : PySem.W.keepIn K (.ref f_wen) = true)
    (pa_wla : PySem.W.findIn K (.ref W) "last_fallen" = some (some (.ref p_wla)))
    (pb_wla : PySem.W.specialIn K (.ref p_wla) "__get__" = some (some (.builtin "property.__get__")))
    (pc_wla : PySem.W.takesIn K (.ref p_wla) = some true)
    (pd_wla : PySem.W.recIn K p_wla "property" = some (.ref f_wla :: rs_wla))
    (l_wla : K.lookup f_wla = some ⟨oc_wla, od_wla, .func (PySem.W.fnOf "last_fallen" "Wave.last_fallen" (defArgs s_Wave_last_fallen) (defBody s_Wave_last_fallen) (defScope s_Wave_last_fallen) .none kV_wla dc_wla pm_wla an_wla cd_wla ct_wla), sl_wla⟩)
    (c_wla : PySem.W.codeIn K cd_wla "Wave.last_fallen" = true)
    (k_wla : PySem.W.keepIn K (.ref f_wla) = true)
    (a_wco : PySem.W.findIn K (.ref W) "count_after" = some (some (.ref f_wco)))
    (i_wco : PySem.W.isFn K (.ref f_wco) = true)
    (l_wco : K.lookup f_wco = some ⟨oc_wco, od_wco, .func (PySem.W.fnOf "count_after" "Wave.count_after" (defArgs s_Wave_count_after) (defBody s_Wave_count_after) (defScope s_Wave_count_after) .none kV_wco dc_wco pm_wco an_wco cd_wco ct_wco), sl_wco⟩)
    (c_wco : PySem.W.codeIn K cd_wco "Wave.count_after" = true)
    (k_wco : PySem.W.keepIn K (.ref f_wco) = true)
    (a_wfa : PySem.W.findIn K (.ref W) "_front_after" = some (some (.ref f_wfa)))
    (i_wfa : PySem.W.isFn K (.ref f_wfa) = true)
    (l_wfa : K.lookup f_wfa = some ⟨oc_wfa, od_wfa, .func (PySem.W.fnOf "_front_after" "Wave._front_after" (defArgs s_Wave_front_after) (defBody s_Wave_front_after) (defScope s_Wave_front_after) .none kV_wfa dc_wfa pm_wfa an_wfa cd_wfa ct_wfa), sl_wfa⟩)
    (c_wfa : PySem.W.codeIn K cd_wfa "Wave._front_after" = true)
    (k_wfa : PySem.W.keepIn K (.ref f_wfa) = true)
    (a_wti : PySem.W.findIn K (.ref W) "tick_of" = some (some (.ref f_wti)))
    (i_wti : PySem.W.isFn K (.ref f_wti) = true)
    (l_wti : K.lookup f_wti = some ⟨oc_wti, od_wti, .func (PySem.W.fnOf "tick_of" "Wave.tick_of" (defArgs s_Wave_tick_of) (defBody s_Wave_tick_of) (defScope s_Wave_tick_of) .none kV_wti dc_wti pm_wti an_wti cd_wti ct_wti), sl_wti⟩)
    (c_wti : PySem.W.codeIn K cd_wti "Wave.tick_of" = true)
    (k_wti : PySem.W.keepIn K (.ref f_wti) = true)
    (a_wft : PySem.W.findIn K (.ref W) "_first_tick" = some (some (.ref f_wft)))
    (i_wft : PySem.W.isFn K (.ref f_wft) = true)
    (l_wft : K.lookup f_wft = some ⟨oc_wft, od_wft, .func (PySem.W.fnOf "_first_tick" "Wave._first_tick" (defArgs s_Wave_first_tick) (defBody s_Wave_first_tick) (defScope s_Wave_first_tick) .none kV_wft dc_wft pm_wft an_wft cd_wft ct_wft), sl_wft⟩)
    (c_wft : PySem.W.codeIn K cd_wft "Wave._first_tick" = true)
    (k_wft : PySem.W.keepIn K (.ref f_wft) = true) :
    ∃ fd : FuncData, (∀ (s : Shared) (v : Value), BindsTo s fd ⟨[v], []⟩ [("_law_script", v)]) ∧ ∀ base : Heap, K.In base → base.Ns mainGlobals mg → FnOk l.prog w K mg base CX0 10 fa fd ["_law_script"] (spLaw K) := by
  have e := hfa.symm.trans (PySem.W.mg_of X G a_law)
  obtain rfl : f_law = fa := by cases e; rfl
  have B : Blt mg := ⟨PySem.W.mg_none_of X G z_isinstance, PySem.W.mg_none_of X G z_int, PySem.W.mg_none_of X G z_bool, PySem.W.mg_none_of X G z_len, PySem.W.mg_none_of X G z_tuple, PySem.W.mg_none_of X G z_list, PySem.W.mg_none_of X G z_range, PySem.W.mg_none_of X G z_enumerate, PySem.W.mg_none_of X G z_abs, PySem.W.mg_none_of X G z_max, PySem.W.mg_none_of X G z_min, PySem.W.mg_none_of X G z_sorted⟩
  have F_ini := fun_mk (st := s_Row_init) l_ini c_ini k_ini
  have F_len := fun_mk (st := s_Row_len) l_len c_len k_len
  have b_len := F_len.binds (ps := ["self"]) fun _ _ _ _ _ _ us hl => match us, hl with | [_], _ => rfl
  have F_add := fun_mk (st := s_Row_add) l_add c_add k_add
  have b_add := F_add.binds (ps := ["self", "other"]) fun _ _ _ _ _ _ us hl => match us, hl with | [_, _], _ => rfl
  have F_cal := fun_mk (st := s_Row_call) l_cal c_cal k_cal
  have b_cal := F_cal.binds (ps := ["self", "stone", "side"]) fun _ _ _ _ _ _ us hl => match us, hl with | [_, _, _], _ => rfl
  have F_gti := fun_mk (st := s_Row_getitem) l_gti c_gti k_gti
  have b_gti := F_gti.binds (ps := ["self", "stone"]) fun _ _ _ _ _ _ us hl => match us, hl with | [_, _], _ => rfl
  have F_rsh := fun_mk (st := s_Row_rshift) l_rsh c_rsh k_rsh
  have b_rsh := F_rsh.binds (ps := ["self", "distance"]) fun _ _ _ _ _ _ us hl => match us, hl with | [_, _], _ => rfl
  have F_num := fun_mk (st := s_is_number) l_num c_num k_num
  have D_num : DefAt K mg "is_number" s_is_number ["value", "least", "greatest"] f_num _ := ⟨F_num, PySem.W.mg_of X G a_num, F_num.binds fun _ _ _ _ _ _ us hl => match us, hl with | [_, _, _], _ => rfl⟩
  have F_chn := fun_mk (st := s_check_number) l_chn c_chn k_chn
  have D_chn : DefAt K mg "check_number" s_check_number ["value", "least", "greatest"] f_chn _ := ⟨F_chn, PySem.W.mg_of X G a_chn, F_chn.binds fun _ _ _ _ _ _ us hl => match us, hl with | [_, _, _], _ => rfl⟩
  have F_cst := fun_mk (st := s_check_stone) l_cst c_cst k_cst
  have D_cst : DefAt K mg "check_stone" s_check_stone ["stone", "count"] f_cst _ := ⟨F_cst, PySem.W.mg_of X G a_cst, F_cst.binds fun _ _ _ _ _ _ us hl => match us, hl with | [_, _], _ => rfl⟩
  have F_csi := fun_mk (st := s_check_side) l_csi c_csi k_csi
  have D_csi : DefAt K mg "check_side" s_check_side ["side"] f_csi _ := ⟨F_csi, PySem.W.mg_of X G a_csi, F_csi.binds fun _ _ _ _ _ _ us hl => match us, hl with | [_], _ => rfl⟩
  have F_bes := fun_mk (st := s_stones_beside) l_bes c_bes k_bes
  have D_bes : DefAt K mg "stones_beside" s_stones_beside ["stone", "side", "count"] f_bes _ := ⟨F_bes, PySem.W.mg_of X G a_bes, F_bes.binds fun _ _ _ _ _ _ us hl => match us, hl with | [_, _, _], _ => rfl⟩
  have F_fel := fun_mk (st := s_felled_by) l_fel c_fel k_fel
  have D_fel : DefAt K mg "felled_by" s_felled_by ["stones", "standing", "stone", "side"] f_fel _ := ⟨F_fel, PySem.W.mg_of X G a_fel, F_fel.binds fun _ _ _ _ _ _ us hl => match us, hl with | [_, _, _, _], _ => rfl⟩
  have F_iss := fun_mk (st := s_is_stone) l_iss c_iss k_iss
  have D_iss : DefAt K mg "_is_stone" s_is_stone ["stone", "least_place"] f_iss _ := ⟨F_iss, PySem.W.mg_of X G a_iss, F_iss.binds fun _ _ _ _ _ _ us hl => match us, hl with | [_, _], _ => rfl⟩
  have F_rer := fun_mk (st := s_reaches) l_rer c_rer k_rer
  have D_rer : DefAt K mg "_reaches" s_reaches ["stone", "other"] f_rer _ := ⟨F_rer, PySem.W.mg_of X G a_rer, F_rer.binds fun _ _ _ _ _ _ us hl => match us, hl with | [_, _], _ => rfl⟩
  have F_tic := fun_mk (st := s_fall_ticks) l_tic c_tic k_tic
  have D_tic : DefAt K mg "fall_ticks" s_fall_ticks ["row", "stone", "side"] f_tic _ := ⟨F_tic, PySem.W.mg_of X G a_tic, F_tic.binds fun _ _ _ _ _ _ us hl => match us, hl with | [_, _, _], _ => rfl⟩
  have F_las := fun_mk (st := s_last_hit) l_las c_las k_las
  have D_las : DefAt K mg "_last_hit" s_last_hit ["row", "period", "stone"] f_las _ := ⟨F_las, PySem.W.mg_of X G a_las, F_las.binds fun _ _ _ _ _ _ us hl => match us, hl with | [_, _, _], _ => rfl⟩
  have F_nex := fun_mk (st := s_next_front) l_nex c_nex k_nex
  have D_nex : DefAt K mg "_next_front" s_next_front ["hits", "first", "front"] f_nex _ := ⟨F_nex, PySem.W.mg_of X G a_nex, F_nex.binds fun _ _ _ _ _ _ us hl => match us, hl with | [_, _, _], _ => rfl⟩
  have F_fro := fun_mk (st := s_fronts_of_wave) l_fro c_fro k_fro
  have D_fro : DefAt K mg "_fronts_of_wave" s_fronts_of_wave ["hits", "first"] f_fro _ := ⟨F_fro, PySem.W.mg_of X G a_fro, F_fro.binds fun _ _ _ _ _ _ us hl => match us, hl with | [_, _], _ => rfl⟩
  have F_rep := fun_mk (st := s_first_repeat) l_rep c_rep k_rep
  have D_rep : DefAt K mg "_first_repeat" s_first_repeat ["fronts", "count"] f_rep _ := ⟨F_rep, PySem.W.mg_of X G a_rep, F_rep.binds fun _ _ _ _ _ _ us hl => match us, hl with | [_, _], _ => rfl⟩
  have F_tak := fun_mk (st := s_law_taken) l_tak c_tak k_tak
  have D_tak : DefAt K mg "_law_taken" s_law_taken ["_law_row_here", "_law_many"] f_tak _ := ⟨F_tak, PySem.W.mg_of X G a_tak, F_tak.binds fun _ _ _ _ _ _ us hl => match us, hl with | [_, _], _ => rfl⟩
  have F_sto := fun_mk (st := s_law_stones) l_sto c_sto k_sto
  have D_sto : DefAt K mg "_law_stones" s_law_stones ["_law_row_here", "_law_most"] f_sto _ := ⟨F_sto, PySem.W.mg_of X G a_sto, F_sto.binds fun _ _ _ _ _ _ us hl => match us, hl with | [_, _], _ => rfl⟩
  have F_row := fun_mk (st := s_law_row) l_row c_row k_row
  have D_row : DefAt K mg "_law_row" s_law_row ["_law_stones_here"] f_row _ := ⟨F_row, PySem.W.mg_of X G a_row, F_row.binds fun _ _ _ _ _ _ us hl => match us, hl with | [_], _ => rfl⟩
  have F_grn := fun_mk (st := s_law_great) l_grn c_grn k_grn
  have D_grn : DefAt K mg "_law_great" s_law_great ["_law_row_here", "_law_many"] f_grn _ := ⟨F_grn, PySem.W.mg_of X G a_grn, F_grn.binds fun _ _ _ _ _ _ us hl => match us, hl with | [_, _], _ => rfl⟩
  have F_rou := fun_mk (st := s_law_are_rounds) l_rou c_rou k_rou
  have D_rou : DefAt K mg "_law_are_rounds" s_law_are_rounds ["_law_one", "_law_wave", "_law_period", "_law_rounds", "_law_stone"] f_rou _ := ⟨F_rou, PySem.W.mg_of X G a_rou, F_rou.binds fun _ _ _ _ _ _ us hl => match us, hl with | [_, _, _, _, _], _ => rfl⟩
  have F_twi := fun_mk (st := s_law_are_twice) l_twi c_twi k_twi
  have D_twi : DefAt K mg "_law_are_twice" s_law_are_twice ["_law_row_here", "_law_one", "_law_period", "_law_wave", "_law_stone"] f_twi _ := ⟨F_twi, PySem.W.mg_of X G a_twi, F_twi.binds fun _ _ _ _ _ _ us hl => match us, hl with | [_, _, _, _, _], _ => rfl⟩
  have F_law := fun_mk (st := s_law) l_law c_law k_law
  have D_law : DefAt K mg "law" s_law ["_law_script"] f_law _ := ⟨F_law, PySem.W.mg_of X G a_law, F_law.binds fun _ _ _ _ _ _ us hl => match us, hl with | [_], _ => rfl⟩
  have F_pla := fun_mk (st := s_Row_places) l_pla c_pla k_pla
  have b_pla := F_pla.binds (ps := ["self"]) fun _ _ _ _ _ _ us hl => match us, hl with | [_], _ => rfl
  have P_pla : PropOf K C "places" p_pla f_pla := ⟨pa_pla, pb_pla, pc_pla, ⟨rs_pla, pd_pla⟩⟩
  have F_get := fun_mk (st := s_Row_stones) l_get c_get k_get
  have b_get := F_get.binds (ps := ["self"]) fun _ _ _ _ _ _ us hl => match us, hl with | [_], _ => rfl
  have P_get : PropOf K C "stones" p_get f_get := ⟨pa_get, pb_get, pc_get, ⟨rs_get, pd_get⟩⟩
  have F_ein := fun_mk (st := s_EndlessRow_init) l_ein c_ein k_ein
  have b_ein := F_ein.binds (ps := ["self", "row", "period"]) fun _ _ _ _ _ _ us hl => match us, hl with | [_, _, _], _ => rfl
  have F_ewa := fun_mk (st := s_EndlessRow_wave) l_ewa c_ewa k_ewa
  have b_ewa := F_ewa.binds (ps := ["self", "stone"]) fun _ _ _ _ _ _ us hl => match us, hl with | [_, _], _ => rfl
  have F_win := fun_mk (st := s_Wave_init) l_win c_win k_win
  have b_win := F_win.binds (ps := ["self", "row", "period", "stone"]) fun _ _ _ _ _ _ us hl => match us, hl with | [_, _, _, _], _ => rfl
  have F_wen := fun_mk (st := s_Wave_is_endless) l_wen c_wen k_wen
  have b_wen := F_wen.binds (ps := ["self"]) fun _ _ _ _ _ _ us hl => match us, hl with | [_], _ => rfl
  have P_wen : PropOf K W "is_endless" p_wen f_wen := ⟨pa_wen, pb_wen, pc_wen, ⟨rs_wen, pd_wen⟩⟩
  have F_wla := fun_mk (st := s_Wave_last_fallen) l_wla c_wla k_wla
  have b_wla := F_wla.binds (ps := ["self"]) fun _ _ _ _ _ _ us hl => match us, hl with | [_], _ => rfl
  have P_wla : PropOf K W "last_fallen" p_wla f_wla := ⟨pa_wla, pb_wla, pc_wla, ⟨rs_wla, pd_wla⟩⟩
  have F_wco := fun_mk (st := s_Wave_count_after) l_wco c_wco k_wco
  have b_wco := F_wco.binds (ps := ["self", "tick"]) fun _ _ _ _ _ _ us hl => match us, hl with | [_, _], _ => rfl
  have F_wfa := fun_mk (st := s_Wave_front_after) l_wfa c_wfa k_wfa
  have b_wfa := F_wfa.binds (ps := ["self", "tick"]) fun _ _ _ _ _ _ us hl => match us, hl with | [_, _], _ => rfl
  have F_wti := fun_mk (st := s_Wave_tick_of) l_wti c_wti k_wti
  have b_wti := F_wti.binds (ps := ["self", "number", "stone"]) fun _ _ _ _ _ _ us hl => match us, hl with | [_, _, _], _ => rfl
  have F_wft := fun_mk (st := s_Wave_first_tick) l_wft c_wft k_wft
  have b_wft := F_wft.binds (ps := ["self", "ordinal"]) fun _ _ _ _ _ _ us hl => match us, hl with | [_, _], _ => rfl
  have L : Lims mg := ⟨⟨tP, PySem.W.mg_of X G aP⟩, ⟨tH, PySem.W.mg_of X G aH⟩⟩
  have R : RowC K mg C := ⟨⟨pg, hd, po, sa⟩, nQ, ⟨_, mM, ⟨tM, rfl⟩, gM, by decide⟩, PySem.W.mg_of X G aC, sf, ca, cn, ct, cm⟩
  have M : Mk K C f_ini := ⟨mk, a_ini, i_ini, kc⟩
  have hS : ∀ H : Hp, SqT K H S [.str "left", .str "right"] := fun H => .inr ⟨_, itS, nS, lS, rfl, rfl, pS, vS⟩
  refine ⟨PySem.W.fnOf "law" "law" (defArgs s_law) (defBody s_law) (defScope s_law) .none kV_law dc_law pm_law an_law cd_law ct_law, fun s v => .of_eq rfl, fun base _ _ => ?_⟩
  have A_num := D_num.at (ok_num (P := l.prog) (w := w) (base := base) F_num B)
  have A_cst := D_cst.at (ok_checkStone F_cst A_num)
  have A_csi := D_csi.at (ok_checkSide (P := l.prog) (w := w) (base := base) F_csi (PySem.W.mg_of X G aS) hS)
  have A_bes := D_bes.at (ok_beside (P := l.prog) (w := w) (base := base) F_bes B)
  have A_fel := D_fel.at (ok_felled F_fel B A_bes)
  have A_iss := D_iss.at (ok_isStone F_iss B L A_num)
  have G_ini : FnR l.prog w K mg base CX0 3 f_ini (spMake K C) := ok_init F_ini B R A_iss
  have G_len := toR (ok_len (P := l.prog) (w := w) (base := base) F_len B R) b_len
  have G_add := toR (ok_add F_add B R M G_ini) b_add
  have G_cal := toR (ok_call F_cal B R A_cst A_csi A_fel) b_cal
  have O_get := ok_get (P := l.prog) (w := w) (base := base) F_get R
  have SL : Sign K C "__len__" f_len := ⟨a_len, i_len⟩
  have OC : StX.CallO K C f_cal := ⟨a_cal, i_cal, n_cal⟩
  have G_gti := toR (ok_item F_gti B R A_cst) b_gti
  have O_pla := ok_places (P := l.prog) (w := w) (base := base) F_pla B R
  have A_chn := D_chn.at (ok_checkNum F_chn A_num)
  have SG : Sign K C "__getitem__" f_gti := ⟨a_gti, i_gti⟩
  have A_rer := D_rer.at (ok_reaches (P := l.prog) (w := w) (base := base) F_rer B)
  have A_tic := D_tic.at (ok_ticks F_tic B R SL G_len P_get O_get b_get A_cst A_csi A_bes A_rer)
  have G_rsh := toR (ok_shift F_rsh R L M G_ini A_chn) b_rsh
  have A_tak := D_tak.at (ok_taken (P := l.prog) (w := w) (base := base) F_tak B)
  have A_sto := D_sto.at (ok_stones F_sto B A_tak)
  have A_row := D_row.at (ok_row F_row B R M G_ini G_add ⟨a_add, i_add⟩)
  have cE : ClsE K D := ⟨⟨pgD, hdD, poD, saD⟩, nD0, nD1⟩
  have cW : ClsW K W := ⟨⟨pgW, hdW, poW, saW⟩, nW0, nW1, nW2⟩
  have zV := PySem.W.mg_none_of X G z_divmod
  have A_las := D_las.at (ok_lastHit F_las B R zV SL G_len SG n_gti G_gti P_pla O_pla b_pla)
  have A_nex := D_nex.at (ok_next (P := l.prog) (w := w) (base := base) F_nex B zV)
  have A_fro := D_fro.at (ok_fronts F_fro B A_nex)
  have A_rep := D_rep.at (ok_repeat (P := l.prog) (w := w) (base := base) F_rep B zV)
  have O_ein := ok_eInit F_ein B R cE ⟨_, PySem.W.mg_of X G aW, ⟨tW, rfl⟩⟩ SL G_len P_pla O_pla b_pla A_chn
  have O_win := ok_wInit F_win B R cW SL G_len A_las A_fro A_rep
  have O_ewa := ok_wave F_ewa B cE (PySem.W.mg_of X G aWc) SL G_len A_cst ⟨mkW, a_win, i_win, kcW⟩ O_win b_win
  have O_wen := ok_isEnd (P := l.prog) (w := w) (mg := mg) (base := base) F_wen cW
  have O_wla := ok_last (P := l.prog) (w := w) (mg := mg) (base := base) F_wla cW zV
  have O_wfa := ok_frontA (P := l.prog) (w := w) (base := base) F_wfa B cW zV
  have O_wco := ok_countA F_wco cW ⟨_, PySem.W.mg_of X G aX, ⟨tX, rfl⟩⟩ A_chn ⟨a_wfa, i_wfa, k_wfa⟩ O_wfa b_wfa
  have O_wft := ok_firstT (P := l.prog) (w := w) (base := base) F_wft B cW
  have O_wti := ok_tickOf F_wti B cW ⟨_, PySem.W.mg_of X G aY, ⟨tY, rfl⟩⟩ A_chn A_cst ⟨a_wft, i_wft, k_wft⟩ O_wft b_wft
  have A_grn := D_grn.at (ok_greatN F_grn B A_tak)
  have SA : Sign K C "__add__" f_add := ⟨a_add, i_add⟩
  have SS : Sign K C "__rshift__" f_rsh := ⟨a_rsh, i_rsh⟩
  have A_rou := D_rou.at (ok_rounds F_rou B R cW SL G_len SA G_add SS G_rsh noR noI j1 j2 (by decide) ⟨a_wti, i_wti, k_wti⟩ O_wti b_wti A_tic)
  have mD := PySem.W.mg_of X G aD
  have A_twi := D_twi.at (ok_twice F_twi B R cE cW SL G_len SA G_add SS G_rsh noR noI j1 j2 (by decide) mD ⟨mkD, a_ein, i_ein, kcD⟩ O_ein b_ein ⟨a_ewa, i_ewa, k_ewa⟩ O_ewa b_ewa P_wen O_wen b_wen P_wla O_wla b_wla ⟨a_wco, i_wco, k_wco⟩ O_wco b_wco ⟨a_wti, i_wti, k_wti⟩ O_wti b_wti A_tak A_grn)
  exact ok_law F_law B R cE SL G_len P_pla O_pla b_pla mD ⟨mkD, a_ein, i_ein, kcD⟩ O_ein b_ein ⟨a_ewa, i_ewa, k_ewa⟩ O_ewa b_ewa A_tak A_sto A_row A_rou A_twi
theorem walk {l : PySem.W.OpenLaw} {q : Program} {loose : List Str} {XP : (Str → Option Value) → Heap → Prop} {YP : World → Heap → Prop} {d : DefRec} {K : Params → PySem.W.Frag} (hn : l.most = some 63) (hdf : d.params.defaults = [])
    (hY : ∀ (w : World) (h : Heap), YP w h → (K w.params).In h)
    (F : ∀ (w : World) (mg : Str → Option Value) (fa : Addr) (h : Heap), (K w.params).In h → h.Ns mainGlobals mg → mg d.name = some (.ref fa) →
      ∃ fd : FuncData, (∀ (s : Shared) (u : Value), BindsTo s fd ⟨[u], []⟩ [("_law_script", u)]) ∧ ∀ base : Heap, (K w.params).In base → base.Ns mainGlobals mg → FnOk l.prog w (K w.params) mg base CX0 10 fa fd ["_law_script"] (spLaw (K w.params))) :
    PySem.W.WalkO q loose XP YP l.row.toRowW d [] (fun f vs => PySem.call f vs) :=
  L2.walk_of (n := 63) (k := 10) (x := "_law_script") (CX := fun _ => CX0) (sp := fun w => spLaw (K w.params)) hn (by decide) hdf ⟨rfl, by decide, by decide⟩ hY F (fun _ _ a ns hl _ hS => ⟨a, ns, rfl, hS, hl, fun _ => rfl⟩) fun _ _ _ _ _ z => z
end RD
end
open PySem PySem.W PyProof.Rows
set_option maxRecDepth 100000 in
set_option maxHeartbeats 0 in
theorem PySem.Challenge.cw_rowdominoes_k21_whole_rounds_of_endless_holds : PySem.Challenge.rw_rowdominoes_k21_whole_rounds_of_endless.Holds := by
  w_on; o_law; k_head; (case hw => w_witness2)
  k_fill
  refine RD.walk (l := PySem.Challenge.rw_rowdominoes_k21_whole_rounds_of_endless) rfl rfl (fun w h Y => PySem.W.kIn_of Y) ?F
  case F =>
    intro w mg fa h KX G hmg
    refine' RD.all_mk KX G hmg ?aC ?a_ini ?i_ini ?l_ini ?c_ini ?k_ini ?a_len ?i_len ?l_len ?c_len ?k_len ?a_add ?i_add ?l_add ?c_add ?k_add ?a_cal ?i_cal ?l_cal ?c_cal ?k_cal ?n_cal ?a_gti ?i_gti ?l_gti ?c_gti ?k_gti ?n_gti ?a_rsh ?i_rsh ?l_rsh ?c_rsh ?k_rsh ?a_num ?l_num ?c_num ?k_num ?a_chn ?l_chn ?c_chn ?k_chn ?a_cst ?l_cst ?c_cst ?k_cst ?a_csi ?l_csi ?c_csi ?k_csi ?a_bes ?l_bes ?c_bes ?k_bes ?a_fel ?l_fel ?c_fel ?k_fel ?a_iss ?l_iss ?c_iss ?k_iss ?a_rer ?l_rer ?c_rer ?k_rer ?a_tic ?l_tic ?c_tic ?k_tic ?a_las ?l_las ?c_las ?k_las ?a_nex ?l_nex ?c_nex ?k_nex ?a_fro ?l_fro ?c_fro ?k_fro ?a_rep ?l_rep ?c_rep ?k_rep ?a_tak ?l_tak ?c_tak ?k_tak ?a_sto ?l_sto ?c_sto ?k_sto ?a_row ?l_row ?c_row ?k_row ?a_grn ?l_grn ?c_grn ?k_grn ?a_rou ?l_rou ?c_rou ?k_rou ?a_twi ?l_twi ?c_twi ?k_twi ?a_law ?l_law ?c_law ?k_law ?z_isinstance ?z_int ?z_bool ?z_len ?z_tuple ?z_list ?z_range ?z_enumerate ?z_abs ?z_max ?z_min ?z_sorted ?aS ?lS ?pS ?vS ?aP ?aH ?pg ?hd ?po ?sa ?mk ?kc ?nQ ?mM ?gM ?sf ?ca ?cn ?ct ?cm ?pa_pla ?pb_pla ?pc_pla ?pd_pla ?l_pla ?c_pla ?k_pla ?pa_get ?pb_get ?pc_get ?pd_get ?l_get ?c_get ?k_get ?z_divmod ?aW ?aX ?aY ?noR ?noI ?j1 ?j2 ?aD ?pgD ?hdD ?poD ?saD ?mkD ?kcD ?nD0 ?nD1 ?aWc ?pgW ?hdW ?poW ?saW ?mkW ?kcW ?nW0 ?nW1 ?nW2 ?a_ein ?i_ein ?l_ein ?c_ein ?k_ein ?a_ewa ?i_ewa ?l_ewa ?c_ewa ?k_ewa ?a_win ?i_win ?l_win ?c_win ?k_win ?pa_wen ?pb_wen ?pc_wen ?pd_wen ?l_wen ?c_wen ?k_wen ?pa_wla ?pb_wla ?pc_wla ?pd_wla ?l_wla ?c_wla ?k_wla ?a_wco ?i_wco ?l_wco ?c_wco ?k_wco ?a_wfa ?i_wfa ?l_wfa ?c_wfa ?k_wfa ?a_wti ?i_wti ?l_wti ?c_wti ?k_wti ?a_wft ?i_wft ?l_wft ?c_wft ?k_wft
    (case aC => k_is)
    (case a_ini => k_is)
    (case i_ini => k_is)
    (case l_ini => k_is)
    (case c_ini => k_is)
    (case k_ini => k_is)
    (case a_len => k_is)
    (case i_len => k_is)
    (case l_len => k_is)
    (case c_len => k_is)
    (case k_len => k_is)
    (case a_add => k_is)
    (case i_add => k_is)
    (case l_add => k_is)
    (case c_add => k_is)
    (case k_add => k_is)
    (case a_cal => k_is)
    (case i_cal => k_is)
    (case l_cal => k_is)
    (case c_cal => k_is)
    (case k_cal => k_is)
    (case n_cal => k_is)
    (case a_gti => k_is)
    (case i_gti => k_is)
    (case l_gti => k_is)
    (case c_gti => k_is)
    (case k_gti => k_is)
    (case n_gti => k_is)
    (case a_rsh => k_is)
    (case i_rsh => k_is)
    (case l_rsh => k_is)
    (case c_rsh => k_is)
    (case k_rsh => k_is)
    (case a_num => k_is)
    (case l_num => k_is)
    (case c_num => k_is)
    (case k_num => k_is)
    (case a_chn => k_is)
    (case l_chn => k_is)
    (case c_chn => k_is)
    (case k_chn => k_is)
    (case a_cst => k_is)
    (case l_cst => k_is)
    (case c_cst => k_is)
    (case k_cst => k_is)
    (case a_csi => k_is)
    (case l_csi => k_is)
    (case c_csi => k_is)
    (case k_csi => k_is)
    (case a_bes => k_is)
    (case l_bes => k_is)
    (case c_bes => k_is)
    (case k_bes => k_is)
    (case a_fel => k_is)
    (case l_fel => k_is)
    (case c_fel => k_is)
    (case k_fel => k_is)
    (case a_iss => k_is)
    (case l_iss => k_is)
    (case c_iss => k_is)
    (case k_iss => k_is)
    (case a_rer => k_is)
    (case l_rer => k_is)
    (case c_rer => k_is)
    (case k_rer => k_is)
    (case a_tic => k_is)
    (case l_tic => k_is)
    (case c_tic => k_is)
    (case k_tic => k_is)
    (case a_las => k_is)
    (case l_las => k_is)
    (case c_las => k_is)
    (case k_las => k_is)
    (case a_nex => k_is)
    (case l_nex => k_is)
    (case c_nex => k_is)
    (case k_nex => k_is)
    (case a_fro => k_is)
    (case l_fro => k_is)
    (case c_fro => k_is)
    (case k_fro => k_is)
    (case a_rep => k_is)
    (case l_rep => k_is)
    (case c_rep => k_is)
    (case k_rep => k_is)
    (case a_tak => k_is)
    (case l_tak => k_is)
    (case c_tak => k_is)
    (case k_tak => k_is)
    (case a_sto => k_is)
    (case l_sto => k_is)
    (case c_sto => k_is)
    (case k_sto => k_is)
    (case a_row => k_is)
    (case l_row => k_is)
    (case c_row => k_is)
    (case k_row => k_is)
    (case a_grn => k_is)
    (case l_grn => k_is)
    (case c_grn => k_is)
    (case k_grn => k_is)
    (case a_rou => k_is)
    (case l_rou => k_is)
    (case c_rou => k_is)
    (case k_rou => k_is)
    (case a_twi => k_is)
    (case l_twi => k_is)
    (case c_twi => k_is)
    (case k_twi => k_is)
    (case a_law => k_is)
    (case l_law => k_is)
    (case c_law => k_is)
    (case k_law => k_is)
    (case z_isinstance => k_is)
    (case z_int => k_is)
    (case z_bool => k_is)
    (case z_len => k_is)
    (case z_tuple => k_is)
    (case z_list => k_is)
    (case z_range => k_is)
    (case z_enumerate => k_is)
    (case z_abs => k_is)
    (case z_max => k_is)
    (case z_min => k_is)
    (case z_sorted => k_is)
    (case aS => k_is)
    (case lS => k_is)
    (case pS => decide)
    (case vS => exact .cons ⟨_, rfl⟩ (.cons ⟨_, rfl⟩ .nil))
    (case aP => k_is)
    (case aH => k_is)
    (case pg => k_is)
    (case hd => k_is)
    (case po => k_is)
    (case sa => k_is)
    (case mk => k_is)
    (case kc => k_is)
    (case nQ => k_is)
    (case mM => k_is)
    (case gM => k_is)
    (case sf => k_is)
    (case ca => k_is)
    (case cn => k_is)
    (case ct => k_is)
    (case cm => k_is)
    (case pa_pla => k_is)
    (case pb_pla => k_is)
    (case pc_pla => k_is)
    (case pd_pla => k_is)
    (case l_pla => k_is)
    (case c_pla => k_is)
    (case k_pla => k_is)
    (case pa_get => k_is)
    (case pb_get => k_is)
    (case pc_get => k_is)
    (case pd_get => k_is)
    (case l_get => k_is)
    (case c_get => k_is)
    (case k_get => k_is)
    (case z_divmod => k_is)
    (case aW => k_is)
    (case aX => k_is)
    (case aY => k_is)
    (case noR => k_is)
    (case noI => k_is)
    (case j1 => k_is)
    (case j2 => k_is)
    (case aD => k_is)
    (case pgD => k_is)
    (case hdD => k_is)
    (case poD => k_is)
    (case saD => k_is)
    (case mkD => k_is)
    (case kcD => k_is)
    (case nD0 => k_is)
    (case nD1 => k_is)
    (case aWc => k_is)
    (case pgW => k_is)
    (case hdW => k_is)
    (case poW => k_is)
    (case saW => k_is)
    (case mkW => k_is)
    (case kcW => k_is)
    (case nW0 => k_is)
    (case nW1 => k_is)
    (case nW2 => k_is)
    (case a_ein => k_is)
    (case i_ein => k_is)
    (case l_ein => k_is)
    (case c_ein => k_is)
    (case k_ein => k_is)
    (case a_ewa => k_is)
    (case i_ewa => k_is)
    (case l_ewa => k_is)
    (case c_ewa => k_is)
    (case k_ewa => k_is)
    (case a_win => k_is)
    (case i_win => k_is)
    (case l_win => k_is)
    (case c_win => k_is)
    (case k_win => k_is)
    (case pa_wen => k_is)
    (case pb_wen => k_is)
    (case pc_wen => k_is)
    (case pd_wen => k_is)
    (case l_wen => k_is)
    (case c_wen => k_is)
    (case k_wen => k_is)
    (case pa_wla => k_is)
    (case pb_wla => k_is)
    (case pc_wla => k_is)
    (case pd_wla => k_is)
    (case l_wla => k_is)
    (case c_wla => k_is)
    (case k_wla => k_is)
    (case a_wco => k_is)
    (case i_wco => k_is)
    (case l_wco => k_is)
    (case c_wco => k_is)
    (case k_wco => k_is)
    (case a_wfa => k_is)
    (case i_wfa => k_is)
    (case l_wfa => k_is)
    (case c_wfa => k_is)
    (case k_wfa => k_is)
    (case a_wti => k_is)
    (case i_wti => k_is)
    (case l_wti => k_is)
    (case c_wti => k_is)
    (case k_wti => k_is)
    (case a_wft => k_is)
    (case i_wft => k_is)
    (case l_wft => k_is)
    (case c_wft => k_is)
    (case k_wft => k_is)
#print axioms PySem.Challenge.cw_rowdominoes_k21_whole_rounds_of_endless_holds
