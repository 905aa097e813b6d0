import PyProof.Rows.All
import Wide.All
import OpenK.AllK
import Wide.FinOn
import KE.KOpsOwn
import KE.GoesMore
import KE.GoesEnum
import HandS.ForMost
import HandS.Star
import HandS.Conv
import HandS.Deep
import HandS.DictTup
import HandS.IsInst
import HandS.Walk
import HandS.SlotsOwn
import HandS.TupAny
import HandS.Property
import KE.KDflt
import HandS.Lambda
import HandS.EndTab
import HandS.Nested
import HandS.Words
import HandS.SetFor
import HandS.ExcIs
import HandS.ExcField
import KE.KExcIs
import HandS.More
import PyProof.InstEq
import KE.KItemsList
import KE.KDictWalk
import HandS.SortInts
import HandS.ListItems
import HandS.DictComp
import HandS.Iter
import HandS.Sort
import OpenK.KMeth
import HandS.Strs
import HandS.List
import HandS.Style
import PyProof.EqAt
import PyProof.EqKinds
import PyProof.TupleCall
import KE.KDictList
import HandS.Base
import HandS.Call
import HandS.Dict
import HandS.TupMul
import HandS.GenBody
import HandS.GenYield
import PyProof.GenComp
import HandS.GenList
import KE.KExcSuper
import KE.KSuper
import HandS.Exc
import HandS.ExcInit
import HandS.ClsMeth
import HandS.OwnEq
import HandS.EndOwn
import KE.KNestM
import HandS.ExcSuper
import HandS.RaiseMore
import HandS.FStr
import HandS.WordsExc
import HandS.TupSets
import HandS.GenCall
import HandS.Small
import PySem.Challenge.RW_rowdominoes_k42_undo_and_redo
set_option Elab.async false
set_option maxRecDepth 100000
section
set_option maxHeartbeats 4000000
/-! Own signs of own classes, as rules of the hand layer. -/
namespace Own
open PySem PySem.Spec PyProof.Rows L2

section
variable {X : Cx} {CX : CXT} {n : Nat} {C g : Addr} {sp : Sp} {E : XK}

/-- an instance of C, as the library's rules want it -/
theorem insAt {pins : List (Addr × Obj)} {sl : L2.St} {H : Hp} {st : Shared} {a dx : Addr} {fs : List (Str × V)} (inv : Inv X pins sl H st) (ea : H a = some (.ins C dx fs)) :
    ∃ od, PySem.W.InstAt st.heap a (PySem.W.instObj C dx) C (some od) := by
  obtain ⟨mm, ob, _⟩ := ins_get inv.hok ea
  obtain ⟨od, at1, _⟩ := ob.look
  exact ⟨od, at1⟩
/-- the def of a sign, called with the object and one more -/
theorem run2 {pins : List (Addr × Obj)} {sl : L2.St} {H : Hp} {st : Shared} {Q : VK} {a : Addr} {y : V} {u : Value} (F : FnR X.prog X.w X.K X.mg X.base CX n g sp) (hr : Room n X.A) (hx : Passes CX X E) (inv : Inv X pins sl H st) (ry : RelV y u)
    (h : sp [.ref a, y] H Q E) : wpAny (model X.prog X.w) X.A (call (.ref g) [.ref a, u]) (PySem.W.CmpBack (EP X pins sl Q)) X.xe st := by
  have go := wpAny_call (run_fnR (us := [.ref a, u]) (vs := [.ref a, y]) F hr hx inv (.cons rfl (.cons ry .nil)) h)
  refine wpAny_mono go (fun r st' z => ?_) fun _ _ z => z
  obtain ⟨z', H', inv', rz, qz⟩ := z
  exact SlX.cmpback rz ⟨z', H', inv', rz, qz⟩

/-- x op y: the class of x has the sign's def, y is an instance of it, too -/
def rBin (C : Addr) (sp : Sp) (E : XK) : R2 := fun x y H Q => ∃ a dx fs b dy gs, x = .ref a ∧ y = .ref b ∧ H a = some (.ins C dx fs) ∧ H b = some (.ins C dy gs) ∧ sp [x, y] H Q E
theorem op_bin {op : Operator} (hc : PySem.W.selfFirst X.K C = true) (hs : PySem.W.findIn X.K (.ref C) (PySem.dunder op.info.2) = some (some (.ref g))) (hf : PySem.W.isFn X.K (.ref g) = true)
    (F : FnR X.prog X.w X.K X.mg X.base CX n g sp) (hr : Room n X.A) (hx : Passes CX X E) : OpR X (binaryOp op) (rBin C sp E) := by
  intro pins st sl H x y v u Q inv rx ry h
  obtain ⟨a, dx, fs, b, dy, gs, rfl, rfl, ea, eb, h⟩ := h
  obtain rfl : v = Value.ref a := rx
  obtain rfl : u = Value.ref b := ry
  obtain ⟨_, ja⟩ := insAt inv ea
  obtain ⟨_, jb⟩ := insAt inv eb
  obtain ⟨_, fr⟩ := inv.fr
  exact PySem.W.binop_K fr inv.ok.mod.kin ja jb.type hc hs hf (run2 (y := .ref b) F hr hx inv rfl h)

/-- x op y: y an int, a bool, None or a text -/
def flatTy : V → Option String
  | .int _ => some "int"
  | .bl _ => some "bool"
  | .non => some "NoneType"
  | .str _ => some "str"
  | _ => none
theorem typeOf_flat {y : V} {u : Value} {t : String} (h : flatTy y = some t) (r : RelV y u) : typeOf u = pure (.type t) := by
  cases y with
  | int i => obtain ⟨k, rfl⟩ := r; cases h; rfl
  | bl i => cases r; cases h; rfl
  | non => cases r; cases h; rfl
  | str i => obtain ⟨k, rfl⟩ := r; cases h; rfl
  | byt i => cases h
  | flt i => cases h
  | ref i => cases h
  | ty i => cases h
def rBinF (K : PySem.W.Frag) (C : Addr) (nm : String) (sp : Sp) (E : XK) : R2 := fun x y H Q => ∃ a dx fs t fo ro, x = .ref a ∧ H a = some (.ins C dx fs) ∧ flatTy y = some t ∧
  PySem.W.findIn K (.type t) (PySem.dunder nm) = some fo ∧ PySem.W.findIn K (.type t) (dunderR nm) = some ro ∧ PySem.W.subIn K (.type t) (.ref C) = some false ∧ sp [x, y] H Q E

/-- len(x): the class of x has __len__ -/
def rLen (C : Addr) (sp : Sp) (E : XK) : List V → Hp → VK → Prop := fun xs H Q => ∃ a dx fs, xs = [.ref a] ∧ H a = some (.ins C dx fs) ∧ sp [.ref a] H (fun z H' => ∃ k : Int, z = .int k ∧ 0 ≤ k ∧ k < 2 ^ 63 ∧ Q z H') E
theorem call_len (hs : PySem.W.findIn X.K (.ref C) "__len__" = some (some (.ref g))) (hf : PySem.W.isFn X.K (.ref g) = true) (F : FnR X.prog X.w X.K X.mg X.base CX n g sp) (hr : Room (n + 1) X.A) (hx : Passes CX X E) :
    CallR X (.builtin "len") (rLen C sp E) := by
  intro pins st sl H xs us Q inv r h
  obtain ⟨a, dx, fs, rfl, ea, h⟩ := h
  obtain ⟨u, rfl, ru⟩ := r.one
  obtain rfl : u = Value.ref a := ru
  obtain ⟨_, ja⟩ := insAt inv ea
  obtain ⟨_, fr⟩ := inv.fr
  have go := wpAny_call (SlX.run_at (A := X.A.in1) (us := [.ref a]) (ws := [.ref a]) F hr.in1 inv.env0.in1 hx inv (.cons rfl .nil) h)
  refine PySem.W.len_K fr inv.ok.mod.kin ja hs hf (wpAny_mono go (fun v st' z => ?_) fun _ _ z => z)
  obtain ⟨z', H', inv', rz, k, rfl, h0, h1, qz⟩ := z
  obtain ⟨t, rfl⟩ := rz
  exact ⟨⟨h0, h1⟩, .int k, H', inv'.tok _, ⟨_, rfl⟩, qz⟩
end

/-! ### C(), C(e), C(*e) where __init__ has a star -/
section
variable {X : Cx} {CX : CXT} {k : Nat} {f C : Addr} {sp : Sp} {E : XK} {x : Str} {e : Expr} {te : TE} {p ps pos : Pos}
theorem pe_makeR0 (M : Mk X.K C f) (F : FnR X.prog X.w X.K X.mg X.base CX k f sp) (hr : Room (k + 1) X.A) (hg : Gl X x) (hm : X.mg x = some (.ref C)) (hx : Passes CX X E) (hdb : (x == ("__debug__" : Str)) = false := by decide) :
    PE X (.Call (.Name x p) [] [] pos) (StX.tMakeR C sp E tNil) := by
  refine ⟨fun pins st sl H Q inv h => wpAny_Call_Name_kw (ld_glob inv hg hm ?_ hdb)⟩
  exact PySem.W.callWith_K0 inv.kIn M.kp (StX.run_makeR (us := []) M F hr hx inv .nil h)
/-- C(*e) -/
def tMakeS (K : PySem.W.Frag) (C : Addr) (sp : Sp) (E : XK) (te : TE) : TE := fun sl H Q => te sl H fun y H1 => ∃ a xs, y = V.ref a ∧ (SqT K H1 a xs ∨ SqL K H1 a xs) ∧ ∀ z dz, H1 z = Option.none → H1 dz = Option.none → dz ≠ z →
  sp (V.ref z :: xs) (upd (upd H1 dz (.own z)) z (.ins C dz [])) (fun v H2 => v = .non ∧ Q (.ref z) H2) E
theorem pe_makeS (M : Mk X.K C f) (F : FnR X.prog X.w X.K X.mg X.base CX k f sp) (hr : Room (k + 1) X.A) (hg : Gl X x) (hm : X.mg x = some (.ref C)) (hx : Passes CX X E) (he : PE X e te) (hdb : (x == ("__debug__" : Str)) = false := by decide)
    (hst : starEach [.Starred e ps] X.env = [(true, eval e X.env)] := by rfl) : PE X (.Call (.Name x p) [.Starred e ps] [] pos) (tMakeS X.K C sp E te) := by
  refine ⟨fun pins st sl H Q inv h => wpAny_Call_Name_kw (ld_glob inv hg hm ?_ hdb)⟩
  refine PySem.W.callWith_S (h₀ := X.base) inv.ok.mod.kin M.kp (thn (he.run pins st sl H _ inv h) fun v s1 z => ?_) hst
  obtain ⟨y, H1, inv1, ry, a, xs, ey, hxs, q⟩ := z
  subst ey
  obtain rfl : v = Value.ref a := ry
  exact StX.star_any inv1 hxs fun us s2 inv2 rv => ⟨inv2.kIn, StX.run_makeR M F hr hx inv2 rv q⟩
end

/-! ### enumerate(tuple) -/
section
def Item (K : PySem.W.Frag) (a : Addr) : It :=
  ⟨fun i H => ∃ (xs : List V) (x : V), SqT K H a xs ∧ xs[i]? = some x, fun i H v H' => ∃ T x, v = .ref T ∧ H T = none ∧ H' = upd H T (.tup [.int (i : Nat), x]) ∧ ∀ ys, SqT K H a ys → ys[i]? = some x, fun i H => ∃ ys : List V, SqT K H a ys ∧ ys.length = i⟩
theorem walk_item {K : PySem.W.Frag} {a : Addr} {xs : List V} : Walk (Item K a) xs.length (fun H => SqT K H a xs) (YPair (fun i => some (.int (i : Nat))) (fun i => xs[i]?)) := by
  refine ⟨fun i _ hi q => ⟨xs, xs[i], q, by simp [hi]⟩, fun _ q => ⟨xs, q, rfl⟩, fun i H v H' _ q y => ?_⟩
  obtain ⟨T, x, e1, e2, e3, e4⟩ := y
  exact ⟨T, .int (i : Nat), x, e1, e2, e3, rfl, e4 xs q⟩
theorem two_cases {b en it : Addr} (hb : b ∈ [en, it]) : b = en ∨ b = it := by simpa using hb
theorem turn_item {P : Program} {w : World} {K : PySem.W.Frag} {elts : List Expr} {kk : Nat} {tpos : Pos} (a en it : Addr) (hat : a ≠ it) :
    Turn P w K (.Tuple elts kk tpos) (Item K a) [en, it] en (fun i h => (∃ old, IsEnum h en it ((i : Nat) : Int) old) ∧ h.IsTupleIter it a i ∧ en ≠ it ∧ en ≠ a) where
  mem := by simp
  obj := fun i h st b hb => by
    obtain ⟨⟨_, q⟩, ⟨oo, q1, _, q2⟩, _⟩ := st
    rcases two_cases hb with rfl | rfl
    · exact ⟨_, q, fun v z => nomatch z⟩
    · exact ⟨oo, q1, fun v z => by rw [q2] at z; cases z⟩
  keep := fun i h h' st k => let ⟨⟨old, q⟩, q1, q2⟩ := st; ⟨⟨old, k en (by simp) _ q⟩, q1.at fun o z => k it (by simp) o z, q2⟩
  item := by
    intro X hP hw hK hc i pins st sl H E inv free now hg
    subst hP hw hK
    obtain ⟨⟨old, q⟩, q1, q2, q3⟩ := now
    obtain ⟨xs, x, hq, hx⟩ := hg
    obtain ⟨its, rv, hp, _⟩ := inv.tuple hq
    obtain ⟨u, hu, ru⟩ := rv.get hx
    have lt1 : en < st.heap.objs.size := Heap.lt_size q
    have lt2 : it < st.heap.objs.size := by obtain ⟨_, z, _⟩ := q1; exact Heap.lt_size z
    have lt3 : a < st.heap.objs.size := by obtain ⟨_, z, _⟩ := hp; exact Heap.lt_size z
    have dr := Draws.tuple (prog := X.prog) (w := X.w) (A := X.A.in1) (show X.A.in1.handled = none from inv.ok.hd hc) it a hat its.toArray
    have hi : i < its.toArray.size := by
      have := (List.getElem?_eq_some_iff.mp hu).1
      simpa using this
    refine wpAny_pyNext_enum_itemD dr q ⟨q1, hp⟩ hi q2 (by simp [q2, q3]) fun x' h1 tk hx' ho hs1 hT hsz hk => ?_
    obtain rfl : x' = u := by
      have z : its.toArray[i]? = some u := by simpa using hu
      rw [z] at hx'
      exact (Option.some.inj hx').symm
    refine ⟨_, rfl, wpAny_letOwnedTupleGo_enum (s := { st with heap := h1, toks := tk + 1 }) ho fun h2 he2 sb => ?_⟩
    have hT2 : h2.get? st.heap.objs.size = some { cls := .type "tuple", data := .seq #[.int i tk, x'] } := (sb.2 _ (Nat.ne_of_gt lt1)).trans hT
    have pair : ObjOk X.prog X.w (upd H st.heap.objs.size (.tup [.int (i : Nat), x])) h2 st.heap.objs.size (.tup [.int (i : Nat), x]) :=
      ⟨by show 2 ≤ sizeLine; decide, [.int i tk, x'], .cons ⟨_, rfl⟩ (.cons ru .nil), ⟨_, hT2, rfl, _, rfl⟩⟩
    have inv2 : Inv X pins sl (upd H st.heap.objs.size (.tup [.int (i : Nat), x])) { st with heap := h2, toks := tk + 1 } :=
      inv.turnedNew (ch := [en, it]) (fun b ob hb z => (sb.2 b (fun y => hb (by simp [y]))).trans (hk b ob (fun y => hb (by simp [y])) (fun y => hb (by simp [y])) z)) free (Nat.le_refl _) pair
    refine ⟨.ref st.heap.objs.size, _, inv2, rfl, ⟨_, x, rfl, inv.hok.fresh (Nat.le_refl _), rfl, fun ys hy => by rw [inv.tuple_inj hy hq]; exact hx⟩, ⟨⟨x', ?_⟩, hs1.1.at fun o z => (sb.2 it (Ne.symm q2)).trans z, q2, q3⟩, fun b hb => ?_⟩
    · have e1 : ((i + 1 : Nat) : Int) = (i : Int) + 1 := by omega
      rw [e1]
      exact he2
    · have hb' : b < st.heap.objs.size := by
        rcases two_cases hb with rfl | rfl
        · exact lt1
        · exact lt2
      rw [upd_ne (Nat.ne_of_lt hb')]
      exact (free b hb).1
  done := by
    intro X hP hw hK hc i pins st sl H E inv free now hg
    subst hP hw hK
    obtain ⟨⟨old, q⟩, q1, q2, q3⟩ := now
    obtain ⟨xs, hq, hx⟩ := hg
    obtain ⟨its, rv, hp, _⟩ := inv.tuple hq
    obtain ⟨f0, f1, f2, f3, f4, f5⟩ := free it (by simp)
    have len := rv.length
    have dr := Draws.tuple (prog := X.prog) (w := X.w) (A := X.A.in1) (show X.A.in1.handled = none from inv.ok.hd hc) it a hat (its.toArray)
    have hn : i = its.toArray.size := by rw [List.size_toArray, ← len, hx]
    subst hn
    exact wpAny_pyNext_enum_endD dr q ⟨q1, hp⟩ fun h1 eb => ⟨rfl, inv.turned (t' := st.toks) (fun b o hb z => eb b o hb z) f0 f1 f3 f4 f5⟩
  self := fun A i s Q E now h => let ⟨⟨_, q⟩, _⟩ := now; wpAny_pyIter_enum q h

theorem new_enum {v : Value} {o : Obj} {G : Heap → Prop} (B : Begins v o G) :
    Meets (Builtin.«enumerate.__new__» ⟨[.type "enumerate", v], []⟩) (fun _ R st => G st.heap ∧
      R (.ok (.ret (.ref (st.heap.push o).objs.size))) { st with heap := (st.heap.push o).push { cls := .type "enumerate", data := .fields #[.none, .bool false, .ref st.heap.objs.size, rawInt 0, .none, .none] } }) :=
  .of_wp fun prog w A R st h => by
    obtain ⟨hp, g, d, tk, os⟩ := st; obtain ⟨h1, h⟩ := h
    have hsub := sub_enumerate
    have it1 : ∀ {A' : Around} {E : Value → Shared → Prop} {Q : Value → Shared → Prop}, Q (.ref hp.objs.size) ⟨hp.push o, g, d, tk, os⟩ → wpAny (model prog w) A' (pyIter v) Q E ⟨hp, g, d, tk, os⟩ :=
      fun z => B.iter prog w _ _ ⟨hp, g, d, tk, os⟩ _ h1 z
    wp_walk using it1
    refine wpAny_stack_any fun fs => wpAny_pure ?_
    split
    · rename_i c _ _ _ _ _
      cases (c == Value.type "enumerate")
      · wp_walk using it1
        exact ⟨_, rfl, h⟩
      · wp_walk using it1
        exact ⟨_, rfl, h⟩
    · wp_walk using it1
      exact ⟨_, rfl, h⟩
section
variable {prog : Program} {w : World} {A : Around} {E : Value → Shared → Prop} {st : Shared}
theorem call_enum {v : Value} {o : Obj} {G : Heap → Prop} {Q : Value → Shared → Prop} (B : Begins v o G) (h1 : G st.heap)
    (h : ∀ h', IsEnum h' (st.heap.objs.size + 1) st.heap.objs.size 0 .none → h'.get? st.heap.objs.size = some o → h'.objs.size = st.heap.objs.size + 2 →
      (∀ b u, st.heap.get? b = some u → h'.get? b = some u) → Q (.ref (st.heap.objs.size + 1)) { st with heap := h' }) :
    wpAny (model prog w) A (call (.type "enumerate") [v]) Q E st := by
  refine callType_new F.called_enumerate (by decide) (F.typeCall_enumerate_1 _) (F.newCall_enumerate_1 _) (fun obj => F.args_object_init_2 obj _) F.entry_enumerate_new (new_enum B) ⟨h1, ?_⟩
  have sz : (st.heap.push o).objs.size = st.heap.objs.size + 1 := Heap.size_push ..
  show _ ∧ _
  rw [sz]
  have en : IsEnum ((st.heap.push o).push { cls := .type "enumerate", data := .fields #[.none, .bool false, .ref st.heap.objs.size, rawInt 0, .none, .none] }) (st.heap.objs.size + 1) st.heap.objs.size 0 .none := by
    have z := Heap.get?_push_size (st.heap.push o) (o := { cls := .type "enumerate", data := .fields #[.none, .bool false, .ref st.heap.objs.size, rawInt 0, .none, .none] }) rfl
    rw [sz] at z
    exact z
  exact ⟨⟨_, en, rfl⟩, h _ en (Heap.get?_push_of_some _ (Heap.get?_push_size _ B.free)) (by rw [Heap.size_push, sz]) fun b u z => Heap.get?_push_of_some _ (Heap.get?_push_of_some _ z)⟩
end
def iEnumT (K : PySem.W.Frag) (ta : TA) : TI := fun sl H R => ta sl H fun vs H1 => ∃ a xs, vs = [.ref a] ∧ SqT K H1 a xs ∧ R (Item K a) H1
theorem pi_enumT {X : Cx} {e : Expr} {ta : TA} {p pos tpos : Pos} {elts : List Expr} {kk : Nat} (hg : Gl X "enumerate") (hm : X.mg "enumerate" = none) (ha : PA X [e] ta) (hs : starEach [e] X.env = [(false, eval e X.env)] := by rfl) :
    PI X (.Tuple elts kk tpos) (.Call (.Name "enumerate" p) [e] [] pos) (iEnumT X.K ta) := by
  refine ⟨fun pins st sl H R inv h => Call_ (ld_blt inv hg hm boot_enumerate (PyProof.Rows.callWith_type1 (thn (ha.run pos pins st sl H _ inv h) fun us s1 z => ?_) hs rfl))⟩
  obtain ⟨vs, H1, inv1, r1, a, xs, ex, hq, q⟩ := z
  subst ex
  obtain ⟨u, rfl, ru⟩ := r1.one
  obtain rfl : u = Value.ref a := ru
  obtain ⟨its, rv, hp, _⟩ := inv1.tuple hq
  have lt3 : a < s1.heap.objs.size := by obtain ⟨_, z, _⟩ := hp; exact Heap.lt_size z
  refine call_enum (begins_tuple a its.toArray) hp fun h' en hit hsz hk => wpAny_pyIter_enum en ?_
  have inv2 : Inv X pins sl H1 { s1 with heap := h' } := inv1.kept (t' := s1.toks) hk
  refine ⟨s1.heap.objs.size + 1, [s1.heap.objs.size + 1, s1.heap.objs.size], _, _, H1, rfl, inv2, turn_item a (s1.heap.objs.size + 1) s1.heap.objs.size (Nat.ne_of_lt lt3), ⟨⟨.none, en⟩, ⟨_, hit, rfl, rfl⟩, Nat.succ_ne_self _, Nat.ne_of_gt (Nat.lt_succ_of_lt lt3)⟩, fun b hb => ?_, q⟩
  have low : s1.heap.objs.size ≤ b := by
    rcases two_cases hb with rfl | rfl
    · exact Nat.le_add_right _ _
    · exact Nat.le_refl _
  exact inv1.fpOk low (inv1.hok.fresh low)
end

/-! ### list(range(a, b, -1)) -/
section
def dnV (a b : Int) : List V := (List.range (a - b).toNat).map fun i => V.int (a - (i : Nat))
theorem dnV_length (a b : Int) : (dnV a b).length = (a - b).toNat := by unfold dnV; simp
def tDown (ta : TA) : TE := fun sl H Q => ta sl H fun vs H1 => ∃ i j : Int, vs = [.int i, .int j, .int (-1)] ∧ -1000000 ≤ i ∧ i ≤ 1000000 ∧ -1000000 ≤ j ∧ j ≤ 1000000 ∧ ∀ q, H1 q = none → Q (.ref q) (upd H1 q (.lst (dnV i j)))
theorem pe_listDown {X : Cx} {a b c : Expr} {ta : TA} {p pos rp rpos : Pos} (hc : X.calm = true) (hg : Gl X "list") (hm : X.mg "list" = none) (hg2 : Gl X "range") (hm2 : X.mg "range" = none) (ha : PA X [a, b, c] ta)
    (hs : starEach [a, b, c] X.env = (false, eval a X.env) :: starEach [b, c] X.env := by rfl) (hpl : (backTo rpos (starEach [b, c] X.env)).any (·.1) = false := by rfl)
    (na : starEach [.Call (.Name "range" rp) [a, b, c] [] rpos] X.env = (false, eval (.Call (.Name "range" rp) [a, b, c] [] rpos) X.env) :: starEach [] X.env := by rfl) :
    PE X (.Call (.Name "list" p) [.Call (.Name "range" rp) [a, b, c] [] rpos] [] pos) (tDown ta) := by
  refine ⟨fun pins st sl H Q inv h => ?_⟩
  refine Call_ (ld_blt inv hg hm boot_list (PyProof.Rows.callWith_type1 (args_cons ?_ na) na))
  refine Call_ (ld_blt inv hg2 hm2 boot_range (PyProof.Rows.callWith_type1 (thn (ha.run rpos pins st sl H _ inv h) fun us s1 z => ?_) hs hpl))
  obtain ⟨vs, H1, inv1, r1, i, j, e, b1, b2, b3, b4, q⟩ := z
  subst e
  cases r1 with
  | cons r rr =>
    cases rr with
    | cons r' rr =>
      cases rr with
      | cons r'' rr =>
        cases rr
        obtain ⟨t, rfl⟩ := r
        obtain ⟨t', rfl⟩ := r'
        obtain ⟨t'', rfl⟩ := r''
        obtain ⟨c0, c1, c2, c3⟩ := RgC.neg (i := i) (j := j) (by omega) (by omega) (by omega) (by omega)
        refine call_range_3 c0 (args_nil ?_) (.inl (PyProof.noPylong_small c1))
        have inv2 : Inv X pins sl H1 { s1 with heap := s1.heap.push { cls := .type "range", data := .fields #[.int i t, .int j t', .int (-1) t''] } } := inv1.kept (t' := s1.toks) fun b o e => Heap.get?_push_of_some _ e
        refine call_list_range (n := (i - j).toNat) (inv2.ok.hd hc) (IsRange.new ..) c2 c3 (by omega) fun h' tk acc c' hk e' hi => ?_
        refine ⟨.ref _, upd H1 _ (.lst (dnV i j)), inv2.laid hk (Nat.le_refl _) (show ObjOk X.prog X.w _ _ _ (.lst (dnV i j)) from ⟨?_, acc.toList, c', ?_, ?_⟩), rfl, q _ (inv2.hok.fresh (Nat.le_refl _))⟩
        · rw [dnV_length, sizeLine_eq]; omega
        · have e : acc.toList.length = (i - j).toNat := by rw [Array.length_toList]; exact hi.1
          unfold dnV
          rw [← e]
          refine vals_of_get acc.toList _ fun k u hk => ?_
          obtain ⟨t, rfl⟩ := hi.2 k u (by rw [← hk, Array.getElem?_toList])
          exact ⟨t, by congr 1; omega⟩
        · rw [Array.toArray_toList]; exact e'
end
end Own

/-! Lambdas as values: made, kept in lists, handed to a def that calls them. -/
namespace LamV
open PySem PySem.Spec PyProof.Rows L2 LamX NdefX
/-- a lambda as it was made -/
structure LF where
  qual : Str
  params : Arguments
  body : Expr
  scope : Scope
  cl : List (Str × Addr)
  dV : Value
  c : Addr
abbrev LF.data (F : LF) (doc pm ctv : Value) : FuncData := PySem.W.kdv_fn "<lambda>" F.qual F.params (.expr F.body) F.scope F.cl F.dV doc pm (.ref F.c) ctv
/-- at f stands the lambda F -/
def LamO (f : Addr) (F : LF) : HO := .ext fun h => ∃ (doc pm ctv : Value), h.get? f = some ({ cls := .type "function", data := .func (F.data doc pm ctv) } : Obj)
theorem lamO_at {P : Program} {w : World} {H : Hp} {hp : Heap} {f : Addr} {F : LF} (ok : HOk P w H hp) (e : H f = some (LamO f F)) : ∃ (doc pm ctv : Value), hp.get? f = some ({ cls := .type "function", data := .func (F.data doc pm ctv) } : Obj) :=
  (ok f _ e).1
section
variable {X : Cx} {pins : List (Addr × Obj)} {sl : L2.St} {H : Hp} {st : Shared}
theorem lamO_laid {F : LF} {ob : Obj} {tk : Nat} {doc pm ctv : Value} (inv : Inv X pins sl H st) (eo : ob = { cls := .type "function", data := .func (F.data doc pm ctv) }) :
    Inv X pins sl (upd H st.heap.objs.size (LamO st.heap.objs.size F)) { st with heap := st.heap.push ob, toks := tk } := by
  subst eo
  have got : (st.heap.push ({ cls := .type "function", data := .func (F.data doc pm ctv) } : Obj)).get? st.heap.objs.size = some ({ cls := .type "function", data := .func (F.data doc pm ctv) } : Obj) := Heap.get?_push_size _ rfl
  exact inv.laid (a := st.heap.objs.size) (fun _ _ q => Heap.get?_push_of_some _ q) (Nat.le_refl _) ⟨⟨doc, pm, ctv, got⟩, ⟨_, got⟩, fun _ _ ⟨a, b, c, z⟩ k => ⟨a, b, c, k _ z⟩⟩
/-- what a new lambda leaves -/
def Born (T : List (Addr × Str)) (H : Hp) (Q : VK) (F : Addr → LF) : Prop :=
  ∀ (f c' : Addr) (H1 : Hp), ExtN H H1 → (∀ b, H1 b = none → H b = none) → Tabs T H1 → H f = none → H1 f = some (LamO f (F c')) → H1 c' = some (CodeO c' (F c').qual) → Q (.ref f) H1
theorem born {T : List (Addr × Str)} {c P : Addr} {params : Arguments} {body : Expr} {scope : Scope} {pos : Pos} {dV : Value} {Q : VK} (inv : Inv X pins sl H st) (TB : TabB X.base X.mg c P) (ec : X.env.code = .ref c)
    (inT : (P, X.env.qual ++ "<lambda>") ∈ T) (one : ∀ p ∈ T, p.1 = P → p.2 = X.env.qual ++ "<lambda>") (tabs : Tabs T H) (frees : ∀ y ∈ scope.names, y.2 = .free → ∃ c, X.env.cells.lookup y.1 = some c)
    (k : Born T H Q fun c' => ⟨X.env.qual ++ "<lambda>", params, body, scope, cloFrom X.env.cells scope.names [], dV, c'⟩) :
    wpAny (model X.prog X.w) X.A (makeTail "<lambda>" (X.env.qual ++ "<lambda>") params (.expr body) scope X.env dV .none none pos pos.line) (EP X pins sl Q) X.xe st := by
  obtain ⟨ps, eP, trip, all⟩ := tabs _ inT
  have bmP : st.heap.BuiltinsAt X.mg P := TB.bm.keeps inv.bk
  have atP : st.heap.get? P = some { cls := .none, data := .fields ps } := inv.hok P _ eP
  cases found : codeAmong pos ps.toList with
  | none =>
    refine PySem.W.kdv_makeTail (mg := X.mg) (c := c) (P := P) (ps := ps) (closure_ok frees) inv.ok.glob (inv.mod.glob.keeps inv.bk) ec (TB.code.keeps inv.bk) atP trip found TB.gP bmP fun c' ctv doc hp tk but ge lt rec tb => ?_
    obtain ⟨c2, oc, vs, t, e2, hoc, hd, hv⟩ := rec
    cases e2
    have nc : H c' = none := inv.hok.fresh ge
    have j1 := inv_table (t' := tk) (more := #[rawInt pos.line, rawInt pos.col, .ref c']) (h' := hp) inv eP (fun b o n q => but b o n q) tb ge ⟨oc, vs, t, hoc, hd, hv⟩
    have ex : ExtN H (upd (upd H P (.tbl (ps ++ #[rawInt pos.line, rawInt pos.col, .ref c']))) c' (CodeO c' (X.env.qual ++ "<lambda>"))) := fun b o q n => by
      rw [upd_ne (ne_of_none q nc), upd_ne (fun z => n ps (by rw [z, eP] at q; exact (Option.some.inj q).symm))]
      exact q
    have eL : (ps ++ #[rawInt pos.line, rawInt pos.col, .ref c']).toList = ps.toList ++ [rawInt pos.line, rawInt pos.col, .ref c'] := by simp
    have t1 : Tabs T (upd (upd H P (.tbl (ps ++ #[rawInt pos.line, rawInt pos.col, .ref c']))) c' (CodeO c' (X.env.qual ++ "<lambda>"))) := fun p hp => by
      by_cases same : p.1 = P
      · rw [one p hp same, same]
        refine ⟨_, by rw [upd_ne (ne_of_none eP nc), upd_same], by rw [eL]; exact PySem.TriplesOk_snoc _ _ _ _ trip, fun p' cv q => ?_⟩
        rw [eL] at q
        rcases among_app _ trip q with z | z
        · obtain ⟨c0, q1, q2⟩ := all p' cv z
          exact ⟨c0, q1, ex _ _ q2 codeO_ne⟩
        · exact ⟨c', z, upd_same⟩
      · obtain ⟨ps', q1, q2, q3⟩ := tabs p hp
        refine ⟨ps', by rw [upd_ne (ne_of_none q1 nc), upd_ne same]; exact q1, q2, fun p' cv q => ?_⟩
        obtain ⟨c0, r1, r2⟩ := q3 p' cv q
        exact ⟨c0, r1, ex _ _ r2 codeO_ne⟩
    have nf := j1.hok.fresh (Nat.le_refl _)
    have j2 := lamO_laid (F := ⟨X.env.qual ++ "<lambda>", params, body, scope, cloFrom X.env.cells scope.names [], dV, c'⟩) (tk := tk) (doc := doc) (pm := (X.mg "__name__").getD .none) (ctv := ctv) j1 rfl
    refine ⟨.ref hp.objs.size, _, j2, rfl, k hp.objs.size c' _ (fun b o q n => ?_) (fun b q => upd_none (upd_none (upd_none q))) (fun p hp => (t1 p hp).ext fun b o q => ?_) (inv.hok.fresh (Nat.le_trans ge (Nat.le_of_lt lt))) upd_same ?_⟩
    · have q1 := ex b o q n
      exact (upd_ne (ne_of_none q1 nf)).trans q1
    · exact (upd_ne (ne_of_none q nf)).trans q
    · exact (upd_ne (Nat.ne_of_lt lt)).trans upd_same
  | some cv =>
    obtain ⟨c', ecv, known⟩ := all pos cv found
    subst ecv
    refine PySem.W.kdv_makeTailHit (mg := X.mg) (c := c) (P := P) (ps := ps) (closure_ok frees) inv.ok.glob (inv.mod.glob.keeps inv.bk) ec (TB.code.keeps inv.bk) atP trip found bmP fun ctv doc hp tk keep sz => ?_
    have j1 : Inv X pins sl H { st with heap := hp, toks := tk } := inv.kept keep
    have nf : H hp.objs.size = none := j1.hok.fresh (Nat.le_refl _)
    have j2 := lamO_laid (F := ⟨X.env.qual ++ "<lambda>", params, body, scope, cloFrom X.env.cells scope.names [], dV, c'⟩) (tk := tk) (doc := doc) (pm := (X.mg "__name__").getD .none) (ctv := ctv) j1 rfl
    refine ⟨.ref hp.objs.size, _, j2, rfl, k hp.objs.size c' _ (fun b o q n => ?_) (fun b q => upd_none q) (fun p hp => (tabs p hp).ext fun b o q => ?_) nf upd_same ?_⟩
    · exact (upd_ne (ne_of_none q nf)).trans q
    · exact (upd_ne (ne_of_none q nf)).trans q
    · exact (upd_ne (ne_of_none known nf)).trans known
/-! ### the expression -/
def tLamN (T : List (Addr × Str)) (F : Addr → LF) : TE := fun _ H Q => Tabs T H ∧ Born T H Q F
def tLamD (T : List (Addr × Str)) (te : TE) (F : Addr → Addr → LF) : TE := fun sl H Q => te sl H fun v H1 => Tabs T H1 ∧ ∀ t, H1 t = none → Born T (upd H1 t (.tup [v])) Q (F t)
theorem pe_lam0 {T : List (Addr × Str)} {c P : Addr} {params : Arguments} {body : Expr} {scope : Scope} {pos : Pos} (TB : TabB X.base X.mg c P) (ec : X.env.code = .ref c) (inT : (P, X.env.qual ++ "<lambda>") ∈ T)
    (one : ∀ p ∈ T, p.1 = P → p.2 = X.env.qual ++ "<lambda>") (frees : ∀ y ∈ scope.names, y.2 = .free → X.env.scope.names.lookup y.1 = some .cell ∨ X.env.scope.names.lookup y.1 = some .free) (nod : defaultsOf params X.env = ([], [])) :
    PE X (.Lambda params body scope pos) (tLamN T fun c' => ⟨X.env.qual ++ "<lambda>", params, body, scope, cloFrom X.env.cells scope.names [], .none, c'⟩) := by
  refine ⟨fun pins st sl H Q inv h => PySem.W.kla_eval nod ?_⟩
  rw [makeFunction_eq]
  simp only [List.zip_nil_right, List.filterMap_nil, List.isEmpty_nil, if_true, pure_bind]
  exact born inv TB ec inT one h.1 (fun y hy e => (frees y hy e).elim (fun z => inv.ok.has _ (.inl z)) fun z => inv.ok.has _ (.inr z)) h.2
theorem pe_lam1 {T : List (Addr × Str)} {c P : Addr} {params : Arguments} {body e : Expr} {scope : Scope} {pos : Pos} {te : TE} (TB : TabB X.base X.mg c P) (ec : X.env.code = .ref c) (inT : (P, X.env.qual ++ "<lambda>") ∈ T)
    (one : ∀ p ∈ T, p.1 = P → p.2 = X.env.qual ++ "<lambda>") (frees : ∀ y ∈ scope.names, y.2 = .free → X.env.scope.names.lookup y.1 = some .cell ∨ X.env.scope.names.lookup y.1 = some .free) (ed : params.defaults = [e]) (ek : params.kw_defaults = []) (he : PE X e te) :
    PE X (.Lambda params body scope pos) (tLamD T te fun t c' => ⟨X.env.qual ++ "<lambda>", params, body, scope, cloFrom X.env.cells scope.names [], .ref t, c'⟩) := by
  refine ⟨fun pins st sl H Q inv h => PySem.W.kdv_lam (by rw [ed]; rfl) ek ?_⟩
  rw [ed]
  refine PySem.W.kdv_all1 (wpAny_mono (he.run pins st sl H _ inv h) (fun u s1 q => PySem.W.kdv_all0 ?_) fun _ _ z => z)
  obtain ⟨v, H1, i1, rv, tabs, k⟩ := q
  rw [makeFunction_eq]
  simp only [List.zip_nil_right, List.filterMap_nil, List.isEmpty_nil, if_true, pure_bind, List.isEmpty_cons, Bool.false_eq_true, if_false]
  refine wpAny_bind (wpAny_newTextTuple ?_)
  have nt : H1 s1.heap.objs.size = none := i1.hok.fresh (Nat.le_refl _)
  have i2 : Inv X pins sl (upd H1 s1.heap.objs.size (.tup [v])) { s1 with heap := s1.heap.push { cls := .type "tuple", data := .seq [u].toArray }, toks := s1.toks } :=
    i1.laid (fun _ _ z => Heap.get?_push_of_some _ z) (Nat.le_refl _) ⟨by show 1 ≤ sizeLine; decide, [u], .cons rv .nil, ⟨_, Heap.get?_push_size _ rfl, rfl, _, rfl⟩⟩
  exact born i2 TB ec inT one (fun p hp => (tabs p hp).ext fun b o z => (upd_ne (ne_of_none z nt)).trans z) (fun y hy e => (frees y hy e).elim (fun z => i2.ok.has _ (.inl z)) fun z => i2.ok.has _ (.inr z)) (k _ nt)
end
/-! ### the body -/
/-- captured names, globals, and own names that the maker's frame has not -/
structure LamN (N : List Str) (sc scope : Scope) : Prop where
  kind : scope.kind = .function
  co : scope.isCoroutine = false
  gen : scope.isGenerator = false
  own : ∀ y ∈ scope.names, y.2 ≠ .cell ∧ (y.2 = .local → y.1 ∉ N)
  free : ∀ y ∈ scope.names, y.2 = .free → sc.names.lookup y.1 = some .cell ∨ sc.names.lookup y.1 = some .free
def lamNB (N : List Str) (sc scope : Scope) : Bool :=
  decide (scope.kind = .function) && !scope.isCoroutine && !scope.isGenerator && scope.names.all fun y => !decide (y.2 = .cell) && (!decide (y.2 = .local) || !N.contains y.1) && (!decide (y.2 = .free) || decide (sc.names.lookup y.1 = some .cell) || decide (sc.names.lookup y.1 = some .free))
theorem lamN_by {N : List Str} {sc scope : Scope} (h : lamNB N sc scope = true) : LamN N sc scope := by
  unfold lamNB at h
  simp only [Bool.and_eq_true, Bool.or_eq_true, Bool.not_eq_true', decide_eq_true_eq, decide_eq_false_iff_not, List.all_eq_true] at h
  obtain ⟨⟨⟨a, b⟩, c⟩, d⟩ := h
  refine ⟨a, b, c, fun y hy => ⟨(d y hy).1.1, fun e z => ?_⟩, fun y hy e => ?_⟩
  · rcases (d y hy).1.2 with q | q
    · exact q e
    · rw [List.contains_iff_mem.mpr z] at q
      cases q
  · rcases (d y hy).2 with (q | q) | q
    · exact absurd e q
    · exact .inl q
    · exact .inr q
/-- the maker's cells stand as they stood -/
def Kept (X : Cx) (h0 : Heap) (HZ : Hp) (h : Heap) : Prop := ∀ y c, X.env.cells.lookup y = some c → HZ c = none ∧ ∀ o, h0.get? c = some o → ∃ sl, h.get? c = some { o with slots := sl }
section
variable {X : Cx} {pins : List (Addr × Obj)} {sl : L2.St} {H HZ : Hp} {st s1 : Shared}
theorem enter {A : Around} {outer : List Env} {E : XK} {scope : Scope} {f c' : Addr} {h1 : Heap} {tk : Nat} {bs : List (Str × Value)} (inv : Inv X pins sl H st) (L : LamN X.N X.env.scope scope) (e0 : Env0 X.prog X.w X.K X.mg X.base A outer s1 HZ) (hd : A.handled = none)
    (kept : Kept X st.heap HZ s1.heap) (ns : h1.Ns s1.heap.objs.size fun y => bs.reverse.lookup y) (grow : ∀ b o, s1.heap.get? b = some o → h1.get? b = some o) :
    Inv (lamCx X A outer s1 HZ E scope f c') [] sl HZ { s1 with heap := h1, toks := tk } := by
  have frees : ∀ y ∈ scope.names, y.2 = .free → ∃ c, X.env.cells.lookup y.1 = some c := fun y hy e => (L.free y hy e).elim (fun z => inv.ok.has _ (.inl z)) fun z => inv.ok.has _ (.inr z)
  have same : ∀ {y c}, (cloFrom X.env.cells scope.names []).lookup y = some c → X.env.cells.lookup y = some c := fun {y c} e => clo_cm frees e
  have cell : ∀ {y : Str} {c : Addr} {v : Option Value}, X.env.cells.lookup y = some c → st.heap.IsCell c v → h1.IsCell c v := fun {y c v} q ⟨o, ho, hv⟩ => by
    obtain ⟨sl, z⟩ := (kept y c q).2 o ho
    exact ⟨_, grow _ _ z, hv⟩
  have noex : ∀ b : Addr, b ∉ (lamCx X A outer s1 HZ E scope f c').ex := fun b z => absurd (show b ∈ ([] : List Addr) from z) (by simp)
  refine ⟨⟨e0.mod, L.kind, rfl, rfl, Nat.le_refl _, fun y z c a b => inv.ok.inj y z c (same a) (same b), fun y hy => ?_, fun y c z _ => ?_, fun _ => hd, Around.frames_deeper e0.frames, .inr ⟨rfl, rfl⟩, fun b z => absurd z (noex b), e0.bs, e0.bsz, fun b _ _ => noex b,
      fun b z => absurd z (noex b), e0.funs, e0.frf⟩,
    rfl, e0.bare, Un.kept grow, ⟨_, ns, fun i y v a b d => ?_⟩, fun y c e => ?_, e0.hok.fresh (Nat.le_refl _), fun y c e => (kept y c (same e)).1, fun q hq => absurd (show q ∈ ([] : List (Addr × Obj)) ++ [] from hq) (by simp), e0.hok.kept grow, inv.len⟩
  · have hy : scope.names.lookup y = some .cell ∨ scope.names.lookup y = some .free := hy
    rcases hy with z | z
    · exact absurd rfl (L.own _ (PySem.mem_of_lookup z)).1
    · obtain ⟨c, q⟩ := frees _ (PySem.mem_of_lookup z) rfl
      exact ⟨c, clo_has frees (PySem.mem_of_lookup z) q⟩
  · have z : false = true := z
    cases z
  · have d : Vis scope y := d
    have a : X.N[i]? = some y := a
    rcases d with k | k | k
    · exact absurd (List.mem_of_getElem? a) ((L.own _ (PySem.mem_of_lookup k)).2 rfl)
    · exact absurd rfl (L.own _ (PySem.mem_of_lookup k)).1
    · obtain ⟨m, hn, look⟩ := inv.loc
      have fr := L.free _ (PySem.mem_of_lookup k) rfl
      obtain ⟨u, r, q⟩ := look i y v a b (fr.elim (fun z => .inr (.inl z)) fun z => .inr (.inr z))
      obtain ⟨c1, h1'⟩ := frees _ (PySem.mem_of_lookup k) rfl
      refine ⟨u, r, .inr ⟨.inr k, c1, clo_has frees (PySem.mem_of_lookup k) h1', ?_⟩⟩
      rcases q with ⟨k', _⟩ | ⟨_, c2, q1, q2⟩
      · have k' : X.env.scope.names.lookup y = some .local := k'
        rcases fr with z | z <;> rw [show X.env.scope.names.lookup y = _ from z] at k' <;> cases k'
      · have e : c2 = c1 := Option.some.inj (q1.symm.trans h1')
        subst e
        exact cell h1' q2
  · obtain ⟨w', z⟩ := inv.cell y c (same e)
    exact ⟨w', cell (same e) z⟩
/-- a call without arguments finds its bindings -/
def Bound (P : Program) (w : World) (F : LF) (D : Hp → Prop) : Prop := ∀ (s : Shared) (H : Hp), HOk P w H s.heap → D H → ∀ doc pm ctv, ∃ bs, BindsTo s (F.data doc pm ctv) ⟨[], []⟩ bs ∧ ∀ y ∈ bs, F.scope.names.lookup y.1 = some .local
/-- v(), in the def that got the lambda: that def's context, entered at s1 with H1 -/
theorem pe_act {CXg : CXT} {Eg : XK} {Ng : List Str} {qg : Str} {sg : Scope} {g f : Addr} {cdg : Value} {F : LF} {D : Hp → Prop} {k i : Nat} {a : Str} {pn : List (Addr × Obj)} {xe : Value → Shared → Prop} {W : WX} {E : XK} {tb : TE} {p1 p2 : Pos} {H1 : Hp}
    (inv : Inv X pins sl H st) (eq : F.qual = X.env.qual ++ "<lambda>") (ec : F.cl = cloFrom X.env.cells F.scope.names []) (L : LamN X.N X.env.scope F.scope) (bd : Bound X.prog X.w F D) (kept : Kept X st.heap H1 s1.heap)
    (tk : Takes ((cxOf CXg X.prog X.w X.K X.mg X.base Ng qg sg g cdg X.A X.stack s1 H1 Eg).tr pn xe) W) (hW : ∀ cls d σ' H', E cls d H' → W cls d σ' H') (hr : Room (k + 1) (X.A.deeper (envOfC qg sg s1.heap.objs.size g cdg)))
    (hbody : ∀ (A : Around) (outer : List Env) (s : Shared) (H : Hp), Room k (A.deeper (lamEnv X F.scope s.heap.objs.size f F.c)) → PE (lamCx X A outer s H E F.scope f F.c) F.body tb)
    (hN : Ng[i]? = some a) (hv : Vis sg a) (hd : (a == ("__debug__" : Str)) = false := by decide) (hcd : (a == ("__classdict__" : Str)) = false := by decide) :
    PE ((cxOf CXg X.prog X.w X.K X.mg X.base Ng qg sg g cdg X.A X.stack s1 H1 Eg).tr pn xe) (.Call (.Name a p1) [] [] p2)
      (fun σZ HZ Q => σZ[i]? = some (some (.ref f)) ∧ HZ f = some (LamO f F) ∧ HZ F.c = some (CodeO F.c F.qual) ∧ D HZ ∧ tb sl HZ Q) := by
  refine ⟨fun pinsZ sZ σZ HZ Q IZ h => ?_⟩
  obtain ⟨at_, isF, isC, dv, go⟩ := h
  refine wpAny_Call_Name_kw (thn ((pe_var (pos := p1) (i := i) hN hv hd hcd).run pinsZ sZ σZ HZ (fun v H2 => v = .ref f ∧ H2 = HZ) IZ ⟨.ref f, at_, rfl, rfl⟩) fun u s2 ⟨v, H2, J, rv, qv⟩ => ?_)
  obtain ⟨ev, eH⟩ := qv
  subst ev
  rw [eH] at J
  obtain rfl : u = Value.ref f := rv
  obtain ⟨doc, pm, ctv, ob⟩ := lamO_at J.hok isF
  refine PySem.W.callWith_F0 ⟨_, _, _, _, ob⟩ ?_
  have un : Un (frs X.stack) [] H1 HZ s1.heap s2.heap := J.base
  have kept2 : Kept X st.heap HZ s2.heap := fun y c q => by
    obtain ⟨n1, k1⟩ := kept y c q
    obtain ⟨v0, o0, ho0, _⟩ := inv.cell y c q
    obtain ⟨sl0, z0⟩ := k1 o0 ho0
    refine ⟨un.free c _ z0 n1 (by simp), fun o ho => ?_⟩
    obtain ⟨sl1, z1⟩ := k1 o ho
    obtain ⟨sl2, z2⟩ := un.any z1 n1 (by simp)
    exact ⟨sl2, z2⟩
  obtain ⟨bs, bto, bl⟩ := bd s2 HZ J.hok dv doc pm ctv
  have rc : codeAny (model X.prog X.w) (X.A.deeper (envOfC qg sg s1.heap.objs.size g cdg)) (.call (.ref f) ⟨[], []⟩) (CR (L2.CX X.prog X.w) (envOfC qg sg s1.heap.objs.size g cdg :: X.stack) X.prog X.w HZ s2 Q E) s2 := by
    refine PySem.W.kla_callFunE hr.depth ob rfl L.co L.gen rfl (codeO_at J.hok isC) (bto _ _ _ _ ?_)
    refine wpAny_newFunctionEnv (fun y hy => (L.own y hy).1) bl (fun h1 ns sb => ⟨J.nolimit.fresh _ sb, ?_⟩) L.kind
    have grow : ∀ b o, s2.heap.get? b = some o → h1.get? b = some o := fun b o e => sb.extBut b o (Nat.ne_of_lt (Heap.lt_size e)) (Heap.get?_push_of_some _ e)
    have start : Inv (lamCx X (X.A.deeper (envOfC qg sg s1.heap.objs.size g cdg)) (envOfC qg sg s1.heap.objs.size g cdg :: X.stack) s2 HZ E F.scope f F.c) [] sl HZ { s2 with heap := h1, toks := s2.toks + bs.length } :=
      enter inv L J.env0 hr.hd kept2 ns grow
    show codeAny _ _ (.expr F.body (PySem.W.envX F.qual F.scope s2.heap.objs.size f (.ref F.c) F.cl)) _ _
    rw [eq, ec]
    refine PySem.W.kla_codeExpr (wpAny_mono ((hbody _ _ s2 HZ (hr.deeper _)).run [] _ _ HZ Q start go) (fun v s' q => ?_) fun e s' q => q)
    obtain ⟨u', H', J', rv', q'⟩ := q
    exact ⟨u', H', J'.os, J'.bare, J'.base, J'.hok, rv', q'⟩
  have ps : Passes (L2.CX X.prog X.w) ((cxOf CXg X.prog X.w X.K X.mg X.base Ng qg sg g cdg X.A X.stack s1 H1 Eg).tr pn xe) E := passes_call tk hW
  refine wpAny_call (codeAny_mono rc fun r s' q => ?_)
  match r, q with
  | .error e, q => exact ps pinsZ σZ HZ s2 e s' J q
  | .ok (.ret u), q => exact J.after q
  | .ok .next, q => exact False.elim q
  | .ok .brk, q => exact False.elim q
  | .ok .cont, q => exact False.elim q
/-- the def that calls what it got, at the first slot: TT tells what it makes of the lambda's reading -/
def Gives (X : Cx) (Ng : List Str) (x : Str) (sg : Scope) (g : Addr) (cdg : Value) (bg : List Stmt) (a : Str) (TT : (XK → Hp → VK → Prop) → Hp → VK → Prop) : Prop :=
  ∀ (f : Addr) (is : Hp → Prop) (s : Shared) (H : Hp) (Q : VK) (tl : XK → Hp → VK → Prop),
    (∀ (W : WX) (pn : List (Addr × Obj)) (xe : Value → Shared → Prop) (E : XK) (p1 p2 : Pos), Takes ((cxOf CX0 X.prog X.w X.K X.mg X.base Ng x sg g cdg X.A X.stack s H E0).tr pn xe) W → (∀ cls d σ' H', E cls d H' → W cls d σ' H') →
      PE ((cxOf CX0 X.prog X.w X.K X.mg X.base Ng x sg g cdg X.A X.stack s H E0).tr pn xe) (.Call (.Name a p1) [] [] p2) (fun σZ HZ Q => σZ[0]? = some (some (.ref f)) ∧ is HZ ∧ tl E HZ Q)) →
    is H → TT tl H Q →
    ∃ t, PSs (cxOf CX0 X.prog X.w X.K X.mg X.base Ng x sg g cdg X.A X.stack s H E0).nox bg t ∧ t { nx := fun _ H' => Q .non H', rt := Q } (L2.start Ng [.ref f]) H
/-- a written lambda's place in the maker's frame: its words, and its body's reading -/
structure Form where
  params : Arguments
  body : Expr
  scope : Scope
  t : XK → TE
def LF.is (F : LF) (f : Addr) (D : Hp → Prop) (HZ : Hp) : Prop := HZ f = some (LamO f F) ∧ HZ F.c = some (CodeO F.c F.qual) ∧ D HZ
/-- F is the lambda of these words, made here -/
structure LF.Of (F : LF) (X : Cx) (o : Form) (D : Hp → Prop) (k : Nat) : Prop where
  qual : F.qual = X.env.qual ++ "<lambda>"
  body : F.body = o.body
  scope : F.scope = o.scope
  cl : F.cl = cloFrom X.env.cells F.scope.names []
  names : LamN X.N X.env.scope F.scope
  bound : Bound X.prog X.w F D
  reads : ∀ (A : Around) (outer : List Env) (s : Shared) (H : Hp) (E : XK) (f c' : Addr), Room k (A.deeper (lamEnv X o.scope s.heap.objs.size f c')) → PE (lamCx X A outer s H E o.scope f c') o.body (o.t E)
theorem code_give {x a : Str} {g f : Addr} {k : Nat} {pg : Arguments} {bg : List Stmt} {sg : Scope} {dV kV doc pm cdv ct oc : Value} {an od : Option Addr} {osl : Array (Option Value)} {Ng : List Str} {TT : (XK → Hp → VK → Prop) → Hp → VK → Prop}
    {F : LF} {o : Form} {D : Hp → Prop} {H1 : Hp} {Q : VK} (inv : Inv X pins sl H st) (of : F.Of X o D k)
    (lk : X.K.lookup g = some ⟨oc, od, .func (PySem.W.fnOf x x pg bg sg dV kV doc pm an cdv ct), osl⟩) (hcg : PySem.W.codeIn X.K cdv x = true) (hb : L2.Binds X.K (PySem.W.fnOf x x pg bg sg dV kV doc pm an cdv ct) [a] []) (Sg : FnScope Ng [a] sg) (hNg : Ng[0]? = some a) (hva : Vis sg a)
    (hG : Gives X Ng x sg g cdv bg a TT) (hr : Room (k + 2) X.A) (e0 : Env0 X.prog X.w X.K X.mg X.base X.A X.stack s1 H1) (kept : Kept X st.heap H1 s1.heap) (is : F.is f D H1) (go : TT (fun E H' Q' => o.t E sl H' Q') H1 Q)
    (hd : (a == ("__debug__" : Str)) = false := by decide) (hcd : (a == ("__classdict__" : Str)) = false := by decide) :
    codeAny (model X.prog X.w) X.A (.call (.ref g) ⟨[.ref f], []⟩) (CR CX0 X.stack X.prog X.w H1 s1 Q E0) s1 := by
  refine run_ofS (N := Ng) (ps := [a]) (us := [.ref f]) (vs := [.ref f]) lk hcg Sg hr e0 (hb s1 [.ref f] (e0.mod.kin.keeps fun b o e => (e0.bs b o e).1) rfl) (.cons rfl .nil) rfl fun hr' => ?_
  obtain ⟨eq, eb, es, ec, L, bd, hbody⟩ := of
  have hb' : ∀ (E : XK) (A : Around) (outer : List Env) (s : Shared) (H : Hp), Room k (A.deeper (lamEnv X F.scope s.heap.objs.size f F.c)) → PE (lamCx X A outer s H E F.scope f F.c) F.body (o.t E) := by
    rw [es, eb]
    exact fun E A outer s H r => hbody A outer s H E f F.c r
  obtain ⟨t', ht', hq'⟩ := hG f (F.is f D) s1 H1 Q (fun E H' Q' => o.t E sl H' Q') (fun W pn xe E p1 p2 tk hW => ⟨fun pinsZ sZ σZ HZ Q' IZ h =>
    (pe_act (i := 0) inv eq ec L bd kept tk hW hr' (hb' E) hNg hva hd hcd).run pinsZ sZ σZ HZ Q' IZ ⟨h.1, h.2.1.1, h.2.1.2.1, h.2.1.2.2, h.2.2⟩⟩) is go
  exact ⟨t', ht'.nox, hq'⟩
theorem Kept.here (inv : Inv X pins sl H st) : Kept X st.heap H st.heap := fun y c q => ⟨inv.freeC y c q, fun o ho => ⟨o.slots, ho⟩⟩
/-- back from the call -/
theorem back {Y : Cx} {pinsY : List (Addr × Obj)} {slY : L2.St} {HY : Hp} {sY : Shared} {Q : VK} {v : Value} {args : Args} (J : Inv Y pinsY slY HY sY)
    (rc : codeAny (model Y.prog Y.w) Y.A (.call v args) (CR CX0 Y.stack Y.prog Y.w HY sY Q E0) sY) : wpAny (model Y.prog Y.w) Y.A (call v args.pos args.kw) (EP Y pinsY slY Q) Y.xe sY := by
  refine wpAny_call (codeAny_mono rc fun r s' q => ?_)
  match r, q with
  | .ok (.ret u), q => exact J.after q
  | .error e, q => exact False.elim q
  | .ok .brk, q => exact False.elim q
  | .ok .cont, q => exact False.elim q
  | .ok .next, q => exact False.elim q
/-- the reading of x(e), e a lambda made in the frame of X at the slots sl -/
def tGive (X : Cx) (k : Nat) (TT : (XK → Hp → VK → Prop) → Hp → VK → Prop) (ta : TA) (sl : L2.St) : TE := fun slY H Q => ta slY H fun vs H1 =>
  ∃ (f : Addr) (F : LF) (o : Form) (D : Hp → Prop), vs = [.ref f] ∧ F.Of X o D k ∧ F.is f D H1 ∧ TT (fun E H' Q' => o.t E sl H' Q') H1 Q
theorem pe_give {x a : Str} {g : Addr} {k : Nat} {pg : Arguments} {bg : List Stmt} {sg : Scope} {dV kV doc pm cdv ct oc : Value} {an od : Option Addr} {osl : Array (Option Value)} {Ng : List Str} {TT : (XK → Hp → VK → Prop) → Hp → VK → Prop} {e : Expr} {ta : TA} {p pos : Pos}
    (hg : Gl X x) (hm : X.mg x = some (.ref g)) (hk : PySem.W.keepIn X.K (.ref g) = true)
    (lk : X.K.lookup g = some ⟨oc, od, .func (PySem.W.fnOf x x pg bg sg dV kV doc pm an cdv ct), osl⟩) (hcg : PySem.W.codeIn X.K cdv x = true) (hb : L2.Binds X.K (PySem.W.fnOf x x pg bg sg dV kV doc pm an cdv ct) [a] []) (Sg : FnScope Ng [a] sg) (hNg : Ng[0]? = some a) (hva : Vis sg a)
    (hG : Gives X Ng x sg g cdv bg a TT) (hr : Room (k + 2) X.A) (ha : PA X [e] ta) (he : starEach [e] X.env = [(false, eval e X.env)] := by rfl)
    (hdb : (x == ("__debug__" : Str)) = false := by decide) (hd : (a == ("__debug__" : Str)) = false := by decide) (hcd : (a == ("__classdict__" : Str)) = false := by decide) :
    PE X (.Call (.Name x p) [e] [] pos) (fun sl H Q => tGive X k TT ta sl sl H Q) := by
  refine ⟨fun pins st sl H Q inv h => wpAny_Call_Name_kw (ld_glob inv hg hm ?_ hdb)⟩
  refine PySem.W.callWith_K (h₀ := X.base) inv.ok.mod.kin hk (thn (ha.run pos pins st sl H _ inv h) fun us s1 ⟨vs, H1, J, r, q⟩ => ⟨J.kIn, ?_⟩) he (by rfl)
  obtain ⟨f, F, o, D, rfl, of, is, go⟩ := q
  obtain ⟨u, rfl, ru⟩ : ∃ u, us = [u] ∧ RelV (.ref f) u := by
    cases r with
    | cons a b => cases b; exact ⟨_, rfl, a⟩
  obtain rfl : u = .ref f := ru
  exact back (args := ⟨[.ref f], []⟩) J (code_give J of lk hcg hb Sg hNg hva hG hr J.env0 (Kept.here J) is go hd hcd)
/-- .. in a block of the frame of X -/
theorem pe_giveB {x a : Str} {g : Addr} {k : Nat} {pg : Arguments} {bg : List Stmt} {sg : Scope} {dV kV doc pm cdv ct oc : Value} {an od : Option Addr} {osl : Array (Option Value)} {Ng : List Str} {TT : (XK → Hp → VK → Prop) → Hp → VK → Prop} {e : Expr} {ta : TA} {p pos : Pos}
    {scope : Scope} {cenv : Env} {fp : List Addr} (inv : Inv X pins sl H st) (nfp : ∀ b ∈ fp, ∀ y c, X.env.cells.lookup y = some c → c ≠ b) (hg : Gl (X.blk st H scope cenv fp) x) (hm : X.mg x = some (.ref g)) (hk : PySem.W.keepIn X.K (.ref g) = true)
    (lk : X.K.lookup g = some ⟨oc, od, .func (PySem.W.fnOf x x pg bg sg dV kV doc pm an cdv ct), osl⟩) (hcg : PySem.W.codeIn X.K cdv x = true) (hb : L2.Binds X.K (PySem.W.fnOf x x pg bg sg dV kV doc pm an cdv ct) [a] []) (Sg : FnScope Ng [a] sg) (hNg : Ng[0]? = some a) (hva : Vis sg a)
    (hG : Gives X Ng x sg g cdv bg a TT) (hr : Room (k + 2) X.A) (ha : PA (X.blk st H scope cenv fp) [e] ta) (he : starEach [e] cenv = [(false, eval e cenv)] := by rfl)
    (hdb : (x == ("__debug__" : Str)) = false := by decide) (hd : (a == ("__debug__" : Str)) = false := by decide) (hcd : (a == ("__classdict__" : Str)) = false := by decide) :
    PE (X.blk st H scope cenv fp) (.Call (.Name x p) [e] [] pos) (tGive X k TT ta sl) := by
  refine ⟨fun pinsY sY slY HY Q invY h => wpAny_Call_Name_kw (ld_glob invY hg hm ?_ hdb)⟩
  refine PySem.W.callWith_K (h₀ := X.base) invY.ok.mod.kin hk (thn (ha.run pos pinsY sY slY HY _ invY h) fun us s1 ⟨vs, H1, J, r, q⟩ => ⟨J.kIn, ?_⟩) he (by rfl)
  obtain ⟨f, F, o, D, rfl, of, is, go⟩ := q
  obtain ⟨u, rfl, ru⟩ : ∃ u, us = [u] ∧ RelV (.ref f) u := by
    cases r with
    | cons a b => cases b; exact ⟨_, rfl, a⟩
  obtain rfl : u = .ref f := ru
  have un := J.base
  have kept : Kept X st.heap H1 s1.heap := fun y c q => by
    have out : c ∉ fp := fun z => nfp c z y c q rfl
    obtain ⟨v0, o0, ho0, _⟩ := inv.cell y c q
    have n0 := inv.freeC y c q
    exact ⟨un.free c _ ho0 n0 out, fun o ho => un.any ho n0 out⟩
  exact back (Y := X.blk st H scope cenv fp) (args := ⟨[.ref f], []⟩) J (code_give (X := X) inv of lk hcg hb Sg hNg hva hG hr J.env0 kept is go hd hcd)
/-! ### a comprehension that keeps nothing, its test told of the frame as it stands -/
def tNone (wi : TI) (g : TG) (tt : L2.St → TT) (vs : List Nat) : TE := fun sl H Q => wi sl H fun J H1 => ∀ D, H1 D = none → ∃ W : Nat → Nat → Hp → Prop, (∃ m, W 0 m (upd H1 D (.lst []))) ∧
  ∀ i m G, W i m G → (J.stop i G ∧ Q (.ref D) G) ∨ (J.go i G ∧ ∀ x G1, J.yld i G x G1 → g x (wipe sl vs) G1 fun s2 G2 => wipe s2 vs = wipe sl vs ∧ tt sl s2 G2 fun b G3 => b = false ∧ ∃ m', m' < m ∧ W (i + 1) m' G3)
theorem pe_none {elt tg iter : Expr} {ifs : List Expr} {scope : Scope} {own : List (Str × Nat)} {pos : Pos} {wi : TI} {g : TG} {tt : L2.St → TT} (calm : X.calm = true) (nd : X.N.Nodup) (hi : PI X tg iter wi) (ok : BlkOk X.N X.env.scope scope own)
    (hg : ∀ (s : Shared) (H : Hp) (C : Addr) (cl : List (Str × Addr)) (fp : List Addr), PG (X.blk s H scope (compEnvC scope cl C X.env) fp) tg g)
    (ht : ∀ (pins : List (Addr × Obj)) (st : Shared) (sl : L2.St) (H : Hp) (C : Addr) (cl : List (Str × Addr)) (fp : List Addr), Inv X pins sl H st → (∀ b ∈ fp, ∀ y c, X.env.cells.lookup y = some c → c ≠ b) → PTs (X.blk st H scope (compEnvC scope cl C X.env) fp) ifs (tt sl))
    (hs : ∀ x, foldedSetIterable iter X.env x = pure x := by intro _; rfl) : PE X (.ListComp elt [⟨tg, iter, ifs, 0⟩] scope pos) (tNone wi g tt (own.map (·.2))) := by
  refine ⟨fun pins st sl H Q inv h => ?_⟩
  rw [eval_ListComp]
  have frees : ∀ y ∈ scope.names, y.2 = .free → ∃ c, X.env.cells.lookup y.1 = some c := fun y hy e => (ok.free y hy e).elim (fun z => inv.ok.has _ (.inl z)) fun z => inv.ok.has _ (.inr z)
  refine wpAny_comprehension_free (use := none) rfl hs (closure_ok frees) ok.kind (fun y hy e => (ok.uniq y hy).trans (by rw [e])) (thn (hi.run pins st sl H _ inv h) fun _ _ go => thn go fun _ sa found => ?_)
  obtain ⟨it, fp, tn, J, H1, rfl, ia, T, ta, fa, more⟩ := found
  refine wpAny_newObj_type (newEnv_comp ?_) (by show 0 ≤ sizeLine; decide)
  have nD : H1 sa.heap.objs.size = none := ia.hok.fresh (Nat.le_refl _)
  obtain ⟨W, ⟨m0, w0⟩, each⟩ := more _ nD
  generalize eD : sa.heap.objs.size = D at nD w0 each ⊢
  have small : ∀ b ∈ fp, b < sa.heap.objs.size := fun b hb => let ⟨_, e, _⟩ := T.obj _ _ ta b hb; Heap.lt_size e
  -- the new list is laid
  obtain ⟨sb, esb⟩ : ∃ sb : Shared, sb = { sa with heap := sa.heap.push { cls := .type "list", data := .seq ([] : List Value).toArray } } := ⟨_, rfl⟩
  have grow1 : ∀ b o, sa.heap.get? b = some o → sb.heap.get? b = some o := fun b o e => by rw [esb]; exact Heap.get?_push_of_some _ e
  have ib : Inv X pins sl (upd H1 D (.lst [])) sb := by
    rw [esb, ← eD]
    exact ia.laid (t' := sa.toks) (fun _ _ e => Heap.get?_push_of_some _ e) (Nat.le_refl _) ⟨Nat.zero_le _, [], 0, .nil, Heap.get?_push_size _ rfl⟩
  have fb : ∀ b ∈ fp, FpOk X pins (upd H1 D (.lst [])) b ∧ b < sb.heap.objs.size := fun b hb => by
    have lt := small b hb
    refine ⟨⟨(upd_ne (by rw [← eD]; exact Nat.ne_of_lt lt)).trans (fa b hb).1, (fa b hb).2⟩, ?_⟩
    rw [esb, Heap.size_push]
    exact Nat.lt_succ_of_lt lt
  rw [← esb]
  -- the block
  have ic := block_start ib ok nd fb
  generalize eC : sb.heap.objs.size = C at ic ⊢
  generalize eG : upd H1 D (.lst []) = G at ib fb ic w0
  have pg := hg sb G C (cellsFrom (C + 1) scope.names (cloFrom X.env.cells scope.names [])) fp
  have pt := ht pins sb sl G C (cellsFrom (C + 1) scope.names (cloFrom X.env.cells scope.names [])) fp ib fun b hb y c e => (fb b hb).1.2.2.2.2.1 y c e
  generalize eE : compEnvC scope (cellsFrom (C + 1) scope.names (cloFrom X.env.cells scope.names [])) C X.env = ce at ic pg pt
  have lE : ce.locals = C := by rw [← eE]; rfl
  generalize esc : ({ sb with heap := pushCells (sb.heap.push { cls := .type "dict", data := .dict #[] }) scope.names } : Shared) = sc at ic
  have tc : tn 0 sc.heap := T.keep _ _ _ ta fun b _ o e => by rw [← esc]; exact pushCells_keeps _ _ _ _ (Heap.get?_push_of_some _ (grow1 b o e))
  have held : ∀ {s2 : L2.St} {G2 : Hp} {t2 : Shared}, Inv (X.blk sb G scope ce fp) [] s2 G2 t2 → (∀ b ∈ fp, G2 b = none) → ∀ b ∈ fp, FpOk (X.blk sb G scope ce fp) [] G2 b := fun iv nb b hb =>
    ⟨nb b hb, (iv.ok.exf b hb).1, iv.ok.exfs b hb, .inl hb, fun y c e => (iv.ok.exf b hb).2 y c e, fun p hp => absurd (show p ∈ ([] : List (Addr × Obj)) ++ [] from hp) (by simp)⟩
  have turns : codeAny (model X.prog X.w) X.A (.compLoop (.ListComp elt [⟨tg, iter, ifs, 0⟩] scope pos) 0 (.ref it) (.ref D) ce) (compPost (model X.prog X.w) X.A X.xe none (EP X pins sl Q) (.ref D) C) sc := by
    refine compLoop_any (fun m t => ∃ i G2, Inv (X.blk sb G scope ce fp) [] (wipe sl (own.map (·.2))) G2 t ∧ tn i t.heap ∧ (∀ b ∈ fp, G2 b = none) ∧ W i m G2) ?_ m0 ⟨0, G, ic, tc, fun b hb => (fb b hb).1.1, w0⟩
    rintro m t ⟨i, G2, i2, t2, n2, w2⟩
    cases each i m G2 w2 with
    | inl stop =>
      refine thnF (T.done (X.blk sb G scope ce fp) rfl rfl rfl calm i [] t _ G2 (fun _ _ => False) i2 (held i2 n2) t2 stop.1) fun r t3 done => ?_
      obtain ⟨rfl, i3⟩ := done
      have i4 : Inv X pins sl G2 t3 := ib.call' (ch := fp) i3.os i3.base i3.hok i3.bare fun b hb => ⟨(fb b hb).1.2.2.2.1, (fb b hb).1.2.1, (fb b hb).1.2.2.2.2.1, (fb b hb).1.2.2.2.2.2⟩
      have nC : G2 C = none := by rw [← lE]; exact i3.free
      obtain ⟨names, hn, _⟩ := i3.loc
      have hn : t3.heap.Ns ce.locals names := hn
      rw [lE] at hn
      obtain ⟨f0, f1, f2, f3, f4, f5⟩ := ib.fpOk (Nat.le_of_eq eC) nC
      exact ⟨names, hn, fun hp sbt => ⟨.ref D, G2, i4.turned (t' := t3.toks) (fun b o nb e => (sbt.2 b nb).trans e) f0 f1 f3 f4 f5, rfl, stop.2⟩⟩
    | inr next =>
      refine thnF (T.item (X.blk sb G scope ce fp) rfl rfl rfl calm i [] t _ G2 (fun _ _ => False) i2 (held i2 n2) t2 next.1) fun r t3 came => ?_
      obtain ⟨u, rfl, kept⟩ := came
      refine thnF kept fun _ t4 got => ?_
      obtain ⟨x, G4, i4, r4, y4, tn4, n4⟩ := got
      refine thnF (pg.run _ t4 _ G4 x u _ (i4.pinned (held i4 n4) (T.obj _ _ tn4)) r4 (next.2 x G4 y4)) fun _ t5 put => ?_
      obtain ⟨s5, G5, i5, e5, q5⟩ := put
      refine thnF (pt.run _ t5 s5 G5 _ i5 q5) fun b t6 told => ?_
      obtain ⟨G6, i6, eb, m', lt, w6⟩ := told
      subst eb
      have pin : ∀ b ∈ fp, ∀ o, t4.heap.get? b = some o → t6.heap.get? b = some o ∧ G6 b = none := fun b hb o e =>
        have z := i6.pin (b, o) (List.mem_append_right _ (List.mem_append_right _ (mem_pinsAt hb e)))
        ⟨z.1, z.2.1⟩
      simp only [Bool.false_eq_true, if_false]
      refine ⟨m', lt, i + 1, G6, (i6.unpinned (pins := [])).weak (by rw [← e5, wipe_length]) (fun j v e => ?_), T.keep _ _ _ tn4 fun b hb o e => (pin b hb o e).1, fun b hb => ?_, w6⟩
      · rw [← e5] at e
        exact (wipe_some e).1
      · obtain ⟨o, e, _⟩ := T.obj _ _ tn4 b hb
        exact (pin b hb o e).2
  have fine := codeAny_compStart_list turns (T.self X.A 0 _ _ _ tc turns)
  rw [← eE] at fine
  subst eC
  exact fine
end
end LamV

namespace LamV
open PySem PySem.Spec PyProof.Rows L2
/-! ### list.count over nested data, isinstance of a caught exception with or without fields -/
def rCountD (K : PySem.W.Frag) : V → List V → Hp → VK → Prop := fun x xs H Q => ∃ (a : Addr) (y : V) (d : PyData) (ds : List PyData), x = .ref a ∧ xs = [y] ∧ Dp K H (.ref a) (.list ds) ∧ Dp K H y d ∧ SeqAt.shaped (.list ds) = true ∧ SeqAt.shaped d = true ∧ Q (.int (ds.countP fun z => PyData.eqv z d : Nat)) H
section
variable {X : Cx}
theorem mt_countD (hu : X.A.units + 65 < cLine) : MtR X "list.count" (rCountD X.K) := by
  intro pins st sl H x xs v us Q inv rx rxs h
  obtain ⟨a, y, d, ds, rfl, rfl, dl, dy, sh, sd, q⟩ := h
  obtain rfl : v = .ref a := rx
  obtain ⟨uy, rfl, ry⟩ := rxs.one
  obtain ⟨bs, r1⟩ := Dp.reads inv d y uy dy ry
  have lay : PyData.canLayAll0 ds = true := SeqAt.canLay_of_shaped sh
  cases dl with
  | lst hs ha =>
    obtain ⟨its, rv, ⟨⟨cls, dd, data, sls⟩, n, ho, hc, _, hdt⟩, _⟩ := inv.list hs
    simp only at hc hdt
    subst hc hdt
    obtain ⟨as, reads⟩ := Dp.readsAll inv ds _ its ha rv
    have em : its.map (SeqAt.readOf st.heap) = ds := SeqAt.readsAll_map ds its as lay reads
    refine call_meets PySem.F.slot_list_count ⟨_, ho, rfl⟩ PySem.F.entry_list_count (PySem.F.args_list_count_2 _ _) (SeqAt.list_countAt a its.toArray n dd sls uy (fun u => PyData.eqv (SeqAt.readOf st.heap u) d)) ⟨ho, SeqAt.items_eqAt (vs := its.toArray) reads r1 lay (SeqAt.canLay_of_shaped sd) (room_in_shaped sd hu), ?_⟩
    refine ⟨.int (ds.countP fun z => PyData.eqv z d : Nat), H, inv.tok _, ⟨st.toks, ?_⟩, q⟩
    rw [← em, List.countP_map]
    rfl
/-- isinstance(e, c), e the caught exception of the class D, its dict at d if it has one -/
def rIsD (K : PySem.W.Frag) (D a : Addr) (d : Option Addr) : List V → Hp → VK → Prop := fun xs H Q => ∃ (c : V) (cv : Value) (b : Bool), xs = [.ref a, c] ∧ (∀ u, RelV c u → u = cv) ∧ PySem.W.kitOne K (.ref D) cv = some b ∧ (∀ dd, d = some dd → ∃ fs, H dd = some (.xd fs)) ∧ Q (.bl b) H
theorem call_isD {a D : Addr} {oe : Obj} {d : Option Addr} {pn : List (Addr × Obj)} (C : ExcC X.K D) (hz : Zc (.ref D) d oe) (hf : ∃ vs, oe.data = .fields vs) : CallR (X.suite a ((a, oe) :: pn)) (.builtin "isinstance") (rIsD X.K D a d) := by
  intro pins st sl H xs us Q inv r h
  obtain ⟨c, cv, b, rfl, one, is, dict, q⟩ := h
  cases r with
  | cons rx rr =>
    obtain ⟨ut, rfl, rt⟩ := Vals.one rr
    obtain rfl := one _ rt
    obtain rfl := (show _ = Value.ref a from rx)
    obtain ⟨got, _⟩ := inv.pin (a, oe) (List.mem_append.mpr (.inl List.mem_cons_self))
    obtain ⟨vs, hv⟩ := hf
    have fin : ∀ tk, EP (X.suite a ((a, oe) :: pn)) pins sl Q (.bool b) { st with toks := tk } := fun tk => ⟨.bl b, H, inv.kept (t' := tk) fun _ _ z => z, rfl, q⟩
    have nc : PySem.W.notCls oe = true := by
      unfold PySem.W.notCls
      rw [hv] <;> rfl
    cases d with
    | none => exact PySem.W.kia_one (PySem.W.handS_kitx_exc C.hg C.hk C.hs C.hd C.ha C.hn C.ht C.hm) inv.kIn (show PySem.W.InstAt st.heap a oe D none from ⟨got, hz.1, nc, by rw [hz.2]; trivial⟩) is (fun z => nomatch z) fin
    | some dd =>
      obtain ⟨fs, ed⟩ := dict dd rfl
      obtain ⟨mA, ns, _⟩ := (show ObjOk X.prog X.w H st.heap dd (.xd fs) from inv.hok dd _ ed)
      obtain ⟨od, ho, _⟩ := lookIn_ns ns
      exact PySem.W.kia_one (PySem.W.kitx_exc (by obtain ⟨cd, e, _⟩ := PySem.W.any_some C.hd; rw [e]; rfl) C.hg C.hk C.hs C.ha C.hn C.ht C.hm) inv.kIn (show PySem.W.InstAt st.heap a oe D (some od) from ⟨got, hz.1, nc, by rw [hz.2]; exact ho⟩) is (fun z => nomatch z) fin
end
end LamV

/-! x != y and x == y of instances whose class has its own __eq__ alone. -/
namespace Own
open PySem PySem.Spec PyProof.Rows L2
section
variable {prog : Program} {w : World} {A : Around} {E : Value → Shared → Prop} {s : Shared} {K : PySem.W.Frag} {x y C g : Addr} {ox oy : Obj} {od od' : Option Obj}
/-- object.__ne__ asks __eq__ -/
theorem ne_body {Q : Fin → Shared → Prop} (hu : A.units < cLine) (KX : K.In s.heap) (I : PySem.W.InstAt s.heap x ox C od) (hs : PySem.W.findIn K (.ref C) "__eq__" = some (some (.ref g))) (hf : PySem.W.isFn K (.ref g) = true)
    (h : wpAny (model prog w) A (call (.ref g) [.ref x, .ref y]) (fun v s' => ∃ b, v = .bool b ∧ Q (.done (.ret (.bool !b))) s') E s) : wpAny (model prog w) A (Builtin.«object.__ne__» ⟨[.ref x, .ref y], []⟩) Q E s := by
  unfold Builtin.«object.__ne__»
  refine wpAny_bind (wpAny_of_eq (a := ((Value.ref x : Value), [Value.ref y])) (by first | rfl | (simp only [slotArgs]; rfl)) ?_)
  refine wpAny_bind (wpAny_cRoomFor hu ?_)
  refine wpAny_bind (PySem.W.ifBound_K (args := [.ref y]) KX I hs hf (wpAny_mono h (fun v s' z => ?_) fun _ _ z => z))
  obtain ⟨b, rfl, q⟩ := z
  exact wpAny_bind (wpAny_pure (wpAny_pure q))
theorem rich_ne {Q : Value → Shared → Prop} (hu : A.units + 1 < cLine) (KX : K.In s.heap) (I : PySem.W.InstAt s.heap x ox C od) (J : PySem.W.InstAt s.heap y oy C od') (hn : PySem.W.findIn K (.ref C) "__ne__" = some (some (.builtin "object.__ne__")))
    (ho : PySem.W.subIn K (.ref C) (.type "object") = some true) (hs : PySem.W.findIn K (.ref C) "__eq__" = some (some (.ref g))) (hf : PySem.W.isFn K (.ref g) = true)
    (h : wpAny (model prog w) A.in1 (call (.ref g) [.ref x, .ref y]) (fun v s' => ∃ b, v = .bool b ∧ Q (.bool !b) s') E s) : wpAny (model prog w) A (richCompare .NotEq (.ref x) (.ref y)) Q E s := by
  have one : wpAny (model prog w) A (tryCompare (.ref x) "__ne__" (.ref y)) (fun r s' => ∃ v, r = some v ∧ Q v s') E s := by
    unfold tryCompare
    have sub : PySem.W.Looks (model prog w) s.heap (isInstance (.ref x) (.type "object")) true := (I.type).andThen (PySem.W.looks_subIn KX ho)
    have run : wpAny (model prog w) A (call (.builtin "object.__ne__") [.ref x, .ref y]) (fun v s' => ∃ b, v = .bool b ∧ Q (.bool b) s') E s := by
      refine wpAny_call (codeAny_call_builtin PySem.F.cmp_object.ne.plain PySem.F.cmpEntry_ne (PySem.W.check_slot PySem.F.cmpKind_ne PySem.F.cmpSplit_ne sub (PySem.F.cmpArgs_ne _ _) ?_))
      refine ne_body (A := A.in1) (by show A.units + 1 < cLine; exact hu) KX I hs hf (wpAny_mono h (fun v s' z => ?_) fun _ _ z => z)
      obtain ⟨b, rfl, q⟩ := z
      exact ⟨b, rfl, _, rfl, q⟩
    refine wpAny_bind ?_
    simp only [callSpecialIfBound?, bindSpecialIfBound?]
    refine wpAny_holding (wpAny_bind (wpAny_bind (wpAny_bind (I.type.here ((PySem.W.looks_findIn KX hn).here ?_)))))
    refine wpAny_bind (wpAny_askSetting (wpAny_ite ?_))
    have fin : wpAny (model prog w) A (call (.builtin "object.__ne__") ([.ref x] ++ [.ref y]) >>= fun v => pure (some v)) (fun r s' => wpAny (model prog w) A (match r with | some .notImplemented | none => pure none | some v => pure (some v) : Sem (Option Value)) (fun r s' => ∃ v, r = some v ∧ Q v s') E s') E s :=
      wpAny_bind (wpAny_mono run (fun v s' z => by obtain ⟨b, rfl, q⟩ := z; exact wpAny_pure (wpAny_pure ⟨_, rfl, q⟩)) fun _ _ z => z)
    split
    · rw [PySem.F.cmp_object.ne.bind (.ref x)]
      exact wpAny_bind (wpAny_pure (wpAny_pure fin))
    · rw [PySem.F.cmp_object.ne.bind (.ref x)]
      exact wpAny_tryCatch (wpAny_bind (wpAny_pure (wpAny_pure fin)))
  unfold richCompare
  simp only [PySem.oneThing_ref]
  refine wpAny_holding (wpAny_bind (wpAny_cRoomFor (by omega) (wpAny_bind (I.type.here (wpAny_bind (J.type.here ?_))))))
  rw [if_neg (by simp)]
  refine wpAny_bind (wpAny_pure ?_)
  simp only [Bool.false_eq_true, if_false]
  refine wpAny_bind (wpAny_mono one (fun r s' z => ?_) fun _ _ e => e)
  obtain ⟨v, rfl, q⟩ := z
  exact wpAny_pure q
end
section
variable {X : Cx} {CX : CXT} {n : Nat} {C g : Addr} {sp : Sp} {E : XK}
/-- x == y, x != y: instances of C that hold attributes; the own __eq__ answers with a truth value -/
def rOwnEq (neg : Bool) (C : Addr) (sp : Sp) (E : XK) : R2 := fun x y H Q => ∃ a dx fs b dy gs, x = .ref a ∧ y = .ref b ∧ H a = some (.ins C dx fs) ∧ H b = some (.ins C dy gs) ∧ sp [x, y] H (fun v H' => ∃ r, v = .bl r ∧ Q (.bl (if neg then !r else r)) H') E
theorem op_neOwn (hn : PySem.W.findIn X.K (.ref C) "__ne__" = some (some (.builtin "object.__ne__"))) (ho : PySem.W.subIn X.K (.ref C) (.type "object") = some true) (hs : PySem.W.findIn X.K (.ref C) "__eq__" = some (some (.ref g))) (hf : PySem.W.isFn X.K (.ref g) = true)
    (F : FnR X.prog X.w X.K X.mg X.base CX n g sp) (hr : Room (n + 1) X.A) (hx : Passes CX X E) : OpR X (compareOp .NotEq) (rOwnEq true C sp E) := by
  intro pins st sl H x y v u Q inv rx ry h
  obtain ⟨a, dx, fs, b, dy, gs, rfl, rfl, ea, eb, q⟩ := h
  obtain rfl := (show v = Value.ref a from rx)
  obtain rfl := (show u = Value.ref b from ry)
  obtain ⟨oa, ia⟩ := insAt inv ea
  obtain ⟨ob, ib⟩ := insAt inv eb
  show wpAny _ _ (richCompare .NotEq (.ref a) (.ref b)) _ _ _
  refine rich_ne (hu_of hr) inv.kIn ia ib hn ho hs hf (wpAny_mono (wpAny_call (SlX.run_at (us := [.ref a, .ref b]) (ws := [.ref a, .ref b]) F (Room.in1 hr) inv.env0.in1 hx inv (.cons rfl (.cons rfl .nil)) q)) (fun w s' z => ?_) fun _ _ z => z)
  obtain ⟨z', H', inv', rz, r, ez, qz⟩ := z
  subst ez
  obtain rfl := (show w = Value.bool r from rz)
  exact ⟨r, rfl, .bl (!r), H', inv', rfl, qz⟩
/-- o.m(), m a def with a star -/
theorem pe_methR0 {k : Nat} {f : Addr} {m : Str} {o : Expr} {ta : TE} {apos pos : Pos} {pl : Sem Bool} (he : PE X o ta) (c : Cls X.K C) (hm : Meth X.K C m f) (F : FnR X.prog X.w X.K X.mg X.base CX k f sp) (hr : Room k X.A) (hx : Passes CX X E)
    (ht : eval (.Call (.Attribute o m apos) [] [] pos) X.env = (do let ov ← eval o X.env; standAt apos.atName; let (f, first) ← holding [ov] (getMethod ov m pl); callWith pos f first (backTo pos (starEach [] X.env)) (backToKw pos (keywordEach [] X.env))) := by rfl) :
    PE X (.Call (.Attribute o m apos) [] [] pos) (tMethR C m sp E ta tNil) := by
  refine ⟨fun pins st sl H Q inv h => PySem.W.methodCall_KW (pl := pl) (thn (he.run pins st sl H _ inv h) fun u s1 got => ?_) ht⟩
  obtain ⟨x, H1, i1, rx, a, dx, fs, rfl, ea, lk, q⟩ := got
  obtain rfl := (show u = Value.ref a from rx)
  refine getmeth_ok i1 ea c hm lk ?_
  exact PySem.W.callWith_K0 (first := [.ref a]) i1.kIn hm.kp (wpAny_call (run_fnR (us := [.ref a]) (vs := [.ref a]) F hr hx i1 (.cons rfl .nil) q))
end
end Own

/-! Dicts with int keys: sorted, min, max of them; sorted(d.items()) of ints; x not in a tuple of data. -/
namespace DictI
open PySem PySem.Spec PyProof.Rows L2
section
variable {X : Cx}
theorem keyInt {knd : Bool} {i : Int} {v : Value} (h : keyIs (Sum.inl i : Key) v = true) : ∃ t, v = .int i t := by
  have r : RelV (.int i) v := relV_key h
  exact r
theorem ints_at {vs : List (Key × Value)} {acc : List Value} {ns : List Int} (hkeys : vs.map (·.1) = ns.map Sum.inl) (hal : acc.length = ns.length)
    (hv : ∀ (j : Nat) (v : Value), acc[j]? = some v → ∃ k x, vs[j]? = some (k, x) ∧ keyIs k v = true) : IntsAre acc ns := by
  have each : ∀ v ∈ acc, ∃ i t, v = Value.int i t := fun v hv' => by
    obtain ⟨j, hj⟩ := List.mem_iff_getElem?.mp hv'
    obtain ⟨k, x, e1, e2⟩ := hv j v hj
    have e3 : (vs.map (·.1))[j]? = some k := by rw [List.getElem?_map, e1]; rfl
    rw [hkeys, List.getElem?_map] at e3
    cases e4 : ns[j]? with
    | none => rw [e4] at e3; cases e3
    | some i =>
      rw [e4] at e3
      obtain rfl : Sum.inl i = k := Option.some.inj e3
      obtain ⟨t, rfl⟩ := keyInt (knd := true) e2
      exact ⟨i, t, rfl⟩
  have e : acc.map SrtO.iv = ns := by
    apply List.ext_getElem?
    intro j
    rw [List.getElem?_map]
    cases ha : acc[j]? with
    | none =>
      have : ns.length ≤ j := by rw [← hal]; exact List.getElem?_eq_none_iff.mp ha
      rw [List.getElem?_eq_none_iff.mpr this]
      rfl
    | some v =>
      obtain ⟨k, x, e1, e2⟩ := hv j v ha
      have e3 : (vs.map (·.1))[j]? = some k := by rw [List.getElem?_map, e1]; rfl
      rw [hkeys, List.getElem?_map] at e3
      cases e4 : ns[j]? with
      | none => rw [e4] at e3; cases e3
      | some i =>
        rw [e4] at e3
        obtain rfl : Sum.inl i = k := Option.some.inj e3
        obtain ⟨t, rfl⟩ := keyInt (knd := true) e2
        rfl
  have := SrtO.ints_iv each
  rwa [e] at this
def rSortedDI : List V → Hp → VK → Prop := fun xs H Q => ∃ (a : Addr) (kvs : List (Key × V)) (ns : List Int), xs = [.ref a] ∧ Rd H a (.dK kvs) ∧ kvs.map (·.1) = ns.map Sum.inl ∧
    ∀ (ys : List Int) (p : Addr), ys.Perm ns → ys.Pairwise (· ≤ ·) → H p = none → Q (.ref p) (upd H p (.lst (ys.map V.int)))
/-- sorted(d), d's keys ints -/
theorem cr_sortedDI (hcalm : X.calm = true) : CallR X (.builtin "sorted") rSortedDI := by
  intro pins s σ H xs us Q I r q
  obtain ⟨a, kvs, ns, ex, hd, hks, q⟩ := q
  subst ex
  obtain ⟨u, eu, rx⟩ := vals1 r
  subst eu
  cases rx
  obtain ⟨z, lo, vs, rel, dd⟩ := dk_rd I.hok hd
  obtain ⟨ep, hat⟩ := dd.dictAt
  have hkeys : vs.map (·.1) = ns.map Sum.inl := rel.keys.symm.trans hks
  have hl : vs.length = ns.length := by
    have e := congrArg List.length hkeys
    rw [List.length_map, List.length_map] at e
    exact e
  have h16 : vs.length ≤ sizeLine := by rw [← Paired.length rel]; exact z
  refine Calls.call_function_entry PyProof.Rows.kind_sorted PyProof.Rows.plain_sorted PyProof.Rows.entry_sorted (PyProof.Rows.args_sorted1 _) ?_
  unfold Builtin.«sorted»
  refine wpAny_bind (m := checkCount "sorted" 1 1 _) (wpAny_pure ?_)
  refine wpAny_bind (PySem.W.kdu_collect (A := X.A.in1) (PySem.W.kdl_dict (knd := mixKind X.prog X.w) (kvs := vs) (ep := ep) lo) (I.ok.hd hcalm) hat h16 fun h' tk acc hk hacc => ?_)
  have hal : acc.toList.length = ns.length := by rw [Array.length_toList, hacc.1, hl]
  have hi : IntsAre acc.toList ns := ints_at hkeys hal fun j v e => hacc.2 j v (by rw [← Array.getElem?_toList]; exact e)
  have I1 : Inv X pins σ H { s with heap := h', toks := tk } := I.kept hk
  have hz : acc.toList.length ≤ sizeLine := by rw [hal, ← hl]; exact h16
  refine wpAny_bind (wpAny_newList ?_ hz)
  have hoL : (h'.push (seqObj "list" acc.toList.toArray 0)).get? h'.objs.size = some (seqObj "list" acc.toList.toArray 0) := Heap.get?_push_size _ rfl
  show wpAny _ _ _ _ _ { s with heap := h'.push (seqObj "list" acc.toList.toArray 0), toks := tk }
  refine wpAny_bind (wpAny_holding (wpAny_call_entry PyProof.Rows.slot_list_sort ⟨_, hoL, rfl⟩ PyProof.Rows.entry_list_sort
    (SrtO.list_sort_ord SrtO.swo_int hoL hz (fun h2 => SrtO.ints_sortable hi h2) fun out h1 h2 => ⟨_, rfl, ?_⟩) (PyProof.Rows.args_list_sort _)))
  obtain ⟨k1, k2, k3⟩ := SrtO.ints_out hi h1 h2
  obtain ⟨e', he'⟩ := PyProof.Rows.sortedHeap_at (vs := acc.toList) (out := out.toArray) hoL
  have hlen : ((out.map SrtO.iv).map V.int).length ≤ sizeLine := by
    rw [List.length_map, k2.length_eq, ← hl]
    exact h16
  refine wpAny_pure ⟨_, rfl, .ref h'.objs.size, upd H h'.objs.size (.lst ((out.map SrtO.iv).map V.int)), I1.laid (t' := tk) (fun b u e => ?_) (Nat.le_refl _)
    (show ObjOk X.prog X.w _ _ _ (.lst ((out.map SrtO.iv).map V.int)) from ⟨hlen, out, e', vals_of_ints k1, he'⟩), rfl, q _ _ k2 k3 (I1.hok.fresh (Nat.le_refl _))⟩
  have hb : b < h'.objs.size := Heap.lt_size e
  rw [PyProof.Rows.sortedHeap_old (Nat.ne_of_lt hb) (by rw [size_push']; exact Nat.lt_succ_of_lt hb)]
  exact Heap.get?_push_of_some _ e
def rBestDI (le : Int → Int → Prop) : List V → Hp → VK → Prop := fun xs H Q => ∃ (a : Addr) (kvs : List (Key × V)) (ns : List Int), xs = [.ref a] ∧ Rd H a (.dK kvs) ∧ kvs.map (·.1) = ns.map Sum.inl ∧ 0 < ns.length ∧
    ∀ m, m ∈ ns → (∀ y ∈ ns, le m y) → Q (.int m) H
theorem key_at {vs : List (Key × Value)} {ns : List Int} (hkeys : vs.map (·.1) = ns.map Sum.inl) {i : Nat} {v : Value} (h : ∃ k x, vs[i]? = some (k, x) ∧ keyIs k v = true) : ∃ t, v = .int (ns.getD i 0) t := by
  obtain ⟨k, x, e1, e2⟩ := h
  have e3 : (vs.map (·.1))[i]? = some k := by rw [List.getElem?_map, e1]; rfl
  rw [hkeys, List.getElem?_map] at e3
  cases e4 : ns[i]? with
  | none => rw [e4] at e3; cases e3
  | some j =>
    rw [e4] at e3
    obtain rfl : Sum.inl j = k := Option.some.inj e3
    rw [List.getD_eq_getElem?_getD, e4]
    exact keyInt (knd := true) e2
theorem getD_in {ns : List Int} {i : Nat} (h : i < ns.length) : ns.getD i 0 ∈ ns := by
  rw [List.getD_eq_getElem?_getD, List.getElem?_eq_getElem h]
  exact List.getElem_mem h
theorem in_getD {ns : List Int} {y : Int} (h : y ∈ ns) : ∃ j, j < ns.length ∧ ns.getD j 0 = y := by
  obtain ⟨j, hj, e⟩ := List.mem_iff_getElem.mp h
  exact ⟨j, hj, by rw [List.getD_eq_getElem?_getD, List.getElem?_eq_getElem hj]; exact e⟩
/-- min(d), d's keys ints -/
theorem cr_minDI (hc : X.calm = true) : CallR X (.builtin "min") (rBestDI (· ≤ ·)) := by
  intro pins s σ H xs us Q I r h
  obtain ⟨a, kvs, ns, rfl, hd, hks, hne, q⟩ := h
  rw [Vals.ref1 r]
  obtain ⟨z, lo, vs, rel, dd⟩ := dk_rd I.hok hd
  obtain ⟨ep, hat⟩ := dd.dictAt
  have hkeys : vs.map (·.1) = ns.map Sum.inl := rel.keys.symm.trans hks
  have hl : vs.length = ns.length := by
    have e := congrArg List.length hkeys
    rw [List.length_map, List.length_map] at e
    exact e
  have ha : a < s.heap.objs.size := hat.lt_size
  refine call_min_walk (wpAny_pyIter_dict lo hat ?_)
  refine ⟨_, _, _, _, _, _, fun i j => decide (ns.getD i 0 < ns.getD j 0), rfl, Walks.dictKeys (A := X.A.in1) (I.ok.hd hc) _ a (Nat.ne_of_lt ha) vs ep, ⟨⟨_, Heap.get?_push_size _ rfl, rfl, rfl⟩, hat.push _⟩, fun b hb => ?_, by omega, CmpOf.ints_lt (fun i => ns.getD i 0) (fun i v z => key_at hkeys z), fun v h' tk hv' hk => ?_⟩
  · show b < (s.heap.push _).objs.size
    rw [size_push']
    rcases List.mem_cons.mp hb with z | z
    · rw [z]
      exact Nat.lt_succ_self _
    · rw [List.mem_singleton.mp z]
      exact Nat.lt_succ_of_lt ha
  · obtain ⟨t, rfl⟩ := key_at hkeys hv'
    obtain ⟨m1', m2'⟩ := argBest_lt (fun i => ns.getD i 0) (vs.length - 1)
    refine ⟨.int _, H, I.kept fun b o e => hk b o (fun z => ?_) (Heap.get?_push_of_some _ e), ⟨t, rfl⟩, q _ (getD_in (by omega)) fun y hy => ?_⟩
    · rw [List.mem_singleton.mp z] at e
      exact absurd (Heap.lt_size e) (Nat.lt_irrefl _)
    · obtain ⟨j, hj, rfl⟩ := in_getD hy
      exact m2' j (by omega)
/-- max(d), d's keys ints -/
theorem cr_maxDI (hc : X.calm = true) : CallR X (.builtin "max") (rBestDI (· ≥ ·)) := by
  intro pins s σ H xs us Q I r h
  obtain ⟨a, kvs, ns, rfl, hd, hks, hne, q⟩ := h
  rw [Vals.ref1 r]
  obtain ⟨z, lo, vs, rel, dd⟩ := dk_rd I.hok hd
  obtain ⟨ep, hat⟩ := dd.dictAt
  have hkeys : vs.map (·.1) = ns.map Sum.inl := rel.keys.symm.trans hks
  have hl : vs.length = ns.length := by
    have e := congrArg List.length hkeys
    rw [List.length_map, List.length_map] at e
    exact e
  have ha : a < s.heap.objs.size := hat.lt_size
  refine call_max_walk (wpAny_pyIter_dict lo hat ?_)
  refine ⟨_, _, _, _, _, _, fun i j => decide (ns.getD i 0 > ns.getD j 0), rfl, Walks.dictKeys (A := X.A.in1) (I.ok.hd hc) _ a (Nat.ne_of_lt ha) vs ep, ⟨⟨_, Heap.get?_push_size _ rfl, rfl, rfl⟩, hat.push _⟩, fun b hb => ?_, by omega, CmpOf.ints_gt (fun i => ns.getD i 0) (fun i v z => key_at hkeys z), fun v h' tk hv' hk => ?_⟩
  · show b < (s.heap.push _).objs.size
    rw [size_push']
    rcases List.mem_cons.mp hb with z | z
    · rw [z]
      exact Nat.lt_succ_self _
    · rw [List.mem_singleton.mp z]
      exact Nat.lt_succ_of_lt ha
  · obtain ⟨t, rfl⟩ := key_at hkeys hv'
    obtain ⟨m1', m2'⟩ := argBest_gt (fun i => ns.getD i 0) (vs.length - 1)
    refine ⟨.int _, H, I.kept fun b o e => hk b o (fun z => ?_) (Heap.get?_push_of_some _ e), ⟨t, rfl⟩, q _ (getD_in (by omega)) fun y hy => ?_⟩
    · rw [List.mem_singleton.mp z] at e
      exact absurd (Heap.lt_size e) (Nat.lt_irrefl _)
    · obtain ⟨j, hj, rfl⟩ := in_getD hy
      exact m2' j (by omega)
/-- x not in a tuple of data -/
def rNotInT (K : PySem.W.Frag) : R2 := fun x y H Q => ∃ d ds, Dp K H x d ∧ Dp K H y (.tuple ds) ∧ SeqAt.shaped d = true ∧ SeqAt.shaped (.list ds) = true ∧ Q (.bl (!ds.any fun z => PyData.eqv z d)) H
theorem op_notInT (hu : X.A.units + 65 < cLine) : OpR X (compareOp .NotIn) (rNotInT X.K) := by
  intro pins s σ H x y v u Q I rx ry h
  obtain ⟨d, ds, hd, he, sd, se, q⟩ := h
  obtain ⟨as, r1⟩ := Dp.reads I d x v hd rx
  obtain ⟨bs, r2⟩ := Dp.reads I (.tuple ds) y u he ry
  exact SeqAt.notIn_tuple_reads r2 r1 (SeqAt.canLay_of_shaped se) (SeqAt.canLay_of_shaped sd) (room_in_shaped sd hu) ⟨.bl _, H, I, rfl, q⟩
/-- d.items() as a value, d's keys ints or texts -/
def rItemsK : V → List V → Hp → VK → Prop := fun x xs H Q => ∃ (a : Addr) (kvs : List (Key × V)), x = .ref a ∧ xs = [] ∧ H a = some (.dK kvs) ∧ ∀ p, H p = none → Q (.ref p) (upd H p (DX.itemsO p a))
theorem mt_itemsK : MtR X "dict.items" rItemsK := by
  intro pins s σ H x xs v us Q I rx rxs h
  obtain ⟨a, kvs, rfl, rfl, ha, q⟩ := h
  cases rx
  cases rxs
  obtain ⟨z, hs0, vs, kv, hdo⟩ := I.hok a _ ha
  refine call_meetsIn F.slot_dict_items hdo.typeIs F.entry_dict_items (F.args_dict_items_1 _) (meets_dict_items (mixKind X.prog X.w) a hs0) ⟨⟨vs, hdo⟩, ?_⟩
  have hf : H s.heap.objs.size = none := I.hok.fresh (Nat.le_refl _)
  exact ⟨.ref s.heap.objs.size, upd H s.heap.objs.size (DX.itemsO s.heap.objs.size a), I.laid (t' := s.toks) (fun b u e => Heap.get?_push_of_some _ e) (Nat.le_refl _) (DX.itemsO_ok (Heap.get?_push_size _ rfl)), rfl, q _ hf⟩
abbrev entI (e : Int × Int) : Key × V := (Sum.inl e.1, V.int e.2)
def addrV : Value → Addr
  | .ref b => b
  | _ => 0
/-- sorted(d.items()), keys and values ints -/
def rSortIK : List V → Hp → VK → Prop := fun vs H Q => ∃ (p a : Addr) (fs : List (Int × Int)), vs = [.ref p] ∧ H p = some (DX.itemsO p a) ∧ H a = some (.dK (fs.map entI)) ∧
  ∀ (H' : Hp) (l : Addr) (ts : List Addr) (ys : List (Int × Int)), (∀ b o, H b = some o → H' b = some o) → H l = none → ys.Perm fs → ys.Pairwise (fun x y => SrtO.lexB y x = false) → H' l = some (.lst (ts.map V.ref)) →
    Paired (fun (t : Addr) (y : Int × Int) => H' t = some (.tup [.int y.1, .int y.2])) ts ys → Q (.ref l) H'
theorem paired_map {α β γ : Type} {F : α → β → Prop} (f : γ → α) (g : γ → β) : ∀ {l : List γ}, (∀ x ∈ l, F (f x) (g x)) → Paired F (l.map f) (l.map g)
  | [], _ => .nil
  | x :: l, h => .cons (h x (by simp)) (paired_map f g fun z hz => h z (by simp [hz]))
theorem cr_sortedIK (hc : X.calm = true) : CallR X (.builtin "sorted") rSortIK := by
  intro pins s σ H xs us Q I r h
  obtain ⟨p, a, fs, rfl, hp, ha, q⟩ := h
  obtain rfl := Vals.ref1 r
  have view : s.heap.IsItemsView p a := (show ObjOk X.prog X.w H s.heap p (DX.itemsO p a) from I.hok p _ hp).1
  obtain ⟨z, lo, vs, rel, dd⟩ := dk_of I.hok ha
  obtain ⟨ep, hat⟩ := dd.dictAt
  have l1 : (fs.map entI).length = vs.length := Paired.length rel
  rw [List.length_map] at l1 z
  have hh : X.A.handled = none := I.ok.hd hc
  refine Calls.call_function_entry PyProof.Rows.kind_sorted PyProof.Rows.plain_sorted PyProof.Rows.entry_sorted (PyProof.Rows.args_sorted1 _) ?_
  unfold Builtin.«sorted»
  refine wpAny_bind (m := checkCount "sorted" 1 1 _) (wpAny_pure ?_)
  obtain ⟨es, ep', raw, esz, eat⟩ := dd.raw
  refine wpAny_bind (DT.collectI (A := X.A.in1) (es := es) (ep := ep') hh view raw (by omega) fun h' tk as hk hlt0 hl hG => ?_)
  have hz : (as.map Value.ref).length ≤ sizeLine := by rw [List.length_map, hl]; omega
  refine wpAny_bind (wpAny_newList ?_ hz)
  have laf : as.length = fs.length := by omega
  have nd : as.Nodup := hG.rise.imp (fun h => Nat.ne_of_lt h)
  -- the pairs that were made
  have pr : ∀ (j : Nat) (b : Addr), as[j]? = some b → ∃ (e : Int × Int) (t u : Tok), fs[j]? = some e ∧ h'.get? b = some { cls := .type "tuple", data := .seq #[Value.int e.1 t, Value.int e.2 u] } := by
    intro j b hj
    obtain ⟨en, he, f3⟩ := hG.pairs j b hj
    obtain ⟨hjs, rfl⟩ := Array.getElem?_eq_some_iff.mp he
    obtain ⟨⟨k, x⟩, f1⟩ : ∃ p, vs[j]? = some p := ⟨vs[j]'(by omega), by simp⟩
    obtain ⟨f2, fx⟩ := eat j hjs k x f1
    obtain ⟨qv, g1, g2, g3⟩ := DX.pget rel f1
    have g3 : RelV qv.2 x := g3
    rw [← fx] at g3
    rw [List.getElem?_map] at g1
    cases hfj : fs[j]? with
    | none => rw [hfj] at g1; cases g1
    | some e =>
      rw [hfj] at g1
      obtain rfl : entI e = qv := Option.some.inj g1
      have f2' : keyIs (Sum.inl e.1 : Key) es[j].key = true := by
        have : (entI e).1 = k := g2
        rw [← this] at f2
        exact f2
      obtain ⟨t, et⟩ := keyInt (knd := true) f2'
      obtain ⟨u, eu⟩ : ∃ u, es[j].val = Value.int e.2 u := g3
      rw [et, eu] at f3
      exact ⟨e, t, u, rfl, f3⟩
  -- each pair's ints
  let k : Value → Int × Int := fun v => fs.getD (as.idxOf (addrV v)) (0, 0)
  have k_at : ∀ (j : Nat) (b : Addr) (e : Int × Int), as[j]? = some b → fs[j]? = some e → k (.ref b) = e := fun j b e hj he => by
    obtain ⟨hlt, rfl⟩ := List.getElem?_eq_some_iff.mp hj
    show fs.getD (as.idxOf as[j]) (0, 0) = e
    rw [nd.idxOf_getElem, List.getD_eq_getElem?_getD, he]
    rfl
  -- the heap of the sort
  have hoL : (h'.push (seqObj "list" (as.map Value.ref).toArray 0)).get? h'.objs.size = some (seqObj "list" (as.map Value.ref).toArray 0) := Heap.get?_push_size _ rfl
  have ka : ∀ b o, h'.get? b = some o → (h'.push (seqObj "list" (as.map Value.ref).toArray 0)).get? b = some o := fun b o e => Heap.get?_push_of_some _ e
  have ne0 : ∀ b o, h'.get? b = some o → b ≠ h'.objs.size := fun b o e => Nat.ne_of_lt (Heap.lt_size e)
  have hls : h'.objs.size < (h'.push (seqObj "list" (as.map Value.ref).toArray 0)).objs.size := by rw [size_push']; exact Nat.lt_succ_self _
  show wpAny _ _ _ _ _ { s with heap := h'.push (seqObj "list" (as.map Value.ref).toArray 0), toks := tk }
  generalize h'.push (seqObj "list" (as.map Value.ref).toArray 0) = h2 at hoL ka hls ⊢
  have hp2 : ∀ v ∈ as.map Value.ref, Srt.IsPair h2 v (k v).1 (k v).2 := fun v hv => by
    obtain ⟨b, hb, rfl⟩ := List.mem_map.mp hv
    obtain ⟨j, hj⟩ := List.mem_iff_getElem?.mp hb
    obtain ⟨e, t, u, he, hg⟩ := pr j b hj
    rw [k_at j b e hj he]
    exact ⟨b, _, t, u, 0, rfl, ka _ _ hg, rfl, rfl⟩
  refine wpAny_bind (wpAny_holding (wpAny_call_entry PyProof.Rows.slot_list_sort ⟨_, hoL, rfl⟩ PyProof.Rows.entry_list_sort
    (SrtO.list_sort_ord (s := { s with heap := h2, toks := tk }) (SrtO.swo_lex k) hoL hz (fun hlen => SrtO.pairs_sortableO (by omega) hp2 fun o e => ?_) fun out o1 o2 => ⟨_, rfl, ?_⟩) (PyProof.Rows.args_list_sort _)))
  · have e' : some o = some (seqObj "list" (as.map Value.ref).toArray 0) := e.symm.trans hoL
    cases e'
    intro c
    exact absurd (Value.type.inj c) (by decide)
  -- what came out
  have back : ∀ l : List Addr, (l.map Value.ref).map addrV = l := fun l => by rw [List.map_map]; exact List.map_id _
  have tsp : (out.map addrV).Perm as := by
    have := o2.perm.map addrV
    rwa [back] at this
  have outE : out = (out.map addrV).map Value.ref := by
    rw [List.map_map]
    refine ((List.map_id _).symm).trans (List.map_congr_left fun v hv => ?_)
    obtain ⟨b, _, rfl⟩ := List.mem_map.mp (o2.perm.mem_iff.mp hv)
    rfl
  generalize out.map addrV = ts at tsp outE
  subst outE
  have hperm : (ts.map fun b => k (.ref b)).Perm fs := by
    refine (tsp.map fun b => k (.ref b)).trans (.of_eq ?_)
    apply List.ext_getElem?
    intro j
    rw [List.getElem?_map]
    cases hj : as[j]? with
    | none =>
      have : fs.length ≤ j := by rw [← laf]; exact List.getElem?_eq_none_iff.mp hj
      rw [List.getElem?_eq_none_iff.mpr this]
      rfl
    | some b =>
      obtain ⟨e, _, _, he, _⟩ := pr j b hj
      rw [he]
      exact congrArg some (k_at j b e hj he)
  have hsort : (ts.map fun b => k (.ref b)).Pairwise (fun x y => SrtO.lexB y x = false) := by
    rw [List.pairwise_map]
    have := o1
    unfold SrtO.Srtd at this
    rw [List.pairwise_map] at this
    exact this
  have kF : ∀ b o, b ≠ h'.objs.size → h2.get? b = some o → (sortedHeap h2 h'.objs.size (as.map Value.ref) (ts.map Value.ref).toArray).get? b = some o := fun b o hb e => (PyProof.Rows.sortedHeap_old hb (Heap.lt_size e)).trans e
  have kS : ∀ b o, s.heap.get? b = some o → (sortedHeap h2 h'.objs.size (as.map Value.ref) (ts.map Value.ref).toArray).get? b = some o := fun b o e => kF b o (ne0 _ _ (hk b o e)) (ka _ _ (hk b o e))
  obtain ⟨eF, heF⟩ := PyProof.Rows.sortedHeap_at (vs := as.map Value.ref) (out := (ts.map Value.ref).toArray) hoL
  have I1 : Inv X pins σ H { s with heap := sortedHeap h2 h'.objs.size (as.map Value.ref) (ts.map Value.ref).toArray, toks := tk } := I.kept (t' := tk) kS
  have hlt : s.heap.objs.size ≤ h'.objs.size := Nat.le_of_lt hlt0
  have hn0 : H h'.objs.size = none := I.hok.fresh hlt
  have hlen : (ts.map V.ref).length ≤ sizeLine := by rw [List.length_map, tsp.length_eq, ← List.length_map (f := Value.ref)]; exact hz
  have I2 : Inv X pins σ (upd H h'.objs.size (.lst (ts.map V.ref))) { s with heap := sortedHeap h2 h'.objs.size (as.map Value.ref) (ts.map Value.ref).toArray, toks := tk } :=
    I1.take (h' := sortedHeap h2 h'.objs.size (as.map Value.ref) (ts.map Value.ref).toArray) (t' := tk) (fun b ob _ e => e) (I.fpOk hlt hn0) ⟨hlen, ts.map Value.ref, eF, LiI.vals_refs ts, heF⟩
  obtain ⟨H2, I3, g, qt⟩ := DX.takeT (P := fun b vs => vs = [.int (k (.ref b)).1, .int (k (.ref b)).2]) I as _ I2 nd fun b hb => by
    obtain ⟨j, hj⟩ := List.mem_iff_getElem?.mp hb
    obtain ⟨e, t, u, he, hg⟩ := pr j b hj
    have hbl : s.heap.objs.size ≤ b := Nat.le_of_lt (hG.above b hb)
    refine ⟨hbl, ?_, _, rfl, fun H3 => ⟨(by rw [sizeLine_eq]; show 2 ≤ 16777216; omega), [Value.int e.1 t, Value.int e.2 u], ?_, ⟨_, kF _ _ (ne0 _ _ hg) (ka _ _ hg), rfl, 0, rfl⟩⟩⟩
    · rw [upd_ne (ne0 _ _ hg)]
      exact I.hok.fresh hbl
    · rw [k_at j b e hj he]
      exact .cons ⟨_, rfl⟩ (.cons ⟨_, rfl⟩ .nil)
  have gr : ∀ b o, H b = some o → H2 b = some o := fun b o e => g b o (by rw [upd_ne (ne_of_none e hn0)]; exact e)
  refine wpAny_pure ⟨_, rfl, .ref h'.objs.size, H2, I3, rfl, q H2 h'.objs.size ts (ts.map fun b => k (.ref b)) gr hn0 hperm hsort (g _ _ upd_same) ?_⟩
  have := paired_map (F := fun (t : Addr) (y : Int × Int) => H2 t = some (.tup [.int y.1, .int y.2])) (fun b : Addr => b) (fun b => k (.ref b)) (l := ts) fun b hb => by
    obtain ⟨vs, rfl, hv⟩ := qt b (tsp.mem_iff.mp hb)
    exact hv
  rwa [List.map_id'] at this
end
/-- {k: v for x in ..}: over whatever is walked -/
theorem dc_it {J : It} {n : Nat} {G : Hp → Prop} {Y : Nat → Hp → V → Hp → Prop} (w : Walk J n G Y) {g : TG} {tt : TT} {tk tv : TE} {vs : List Nat} {σ : L2.St} {H1 : Hp} {D : Addr} {Qd : Hp → Prop} (Pv : Nat → Hp → Prop) (h0 : Pv 0 (upd H1 D (.dK []))) (hG : ∀ i H, i ≤ n → Pv i H → G H)
    (hs : ∀ i x H H', i < n → Pv i H → Y i H x H' → g x (wipe σ vs) H' fun σ2 H2 => wipe σ2 vs = wipe σ vs ∧ tt σ2 H2 fun b H3 =>
      if b = true then tk σ2 H3 fun y H4 => tv σ2 H4 fun z H5 => ∃ kvs k, y = kV k ∧ H5 D = some (.dK kvs) ∧ kvs.length < sizeLine ∧ Pv (i + 1) (upd H5 D (.dK (putK kvs k z))) else Pv (i + 1) H3) (hd : ∀ H, Pv n H → Qd H) :
    ∃ W : Nat → Nat → Hp → Prop, (∃ m, W 0 m (upd H1 D (.dK []))) ∧ ∀ i m H, W i m H →
      (J.stop i H ∧ Qd H) ∨ (J.go i H ∧ ∃ Nx : Hp → Prop, (∀ H', Nx H' → ∃ m', m' < m ∧ W (i + 1) m' H') ∧ ∀ x H', J.yld i H x H' → g x (wipe σ vs) H' fun σ2 H2 => wipe σ2 vs = wipe σ vs ∧ tt σ2 H2 fun b H3 =>
        if b = true then tk σ2 H3 fun y H4 => tv σ2 H4 fun z H5 => ∃ kvs k, y = kV k ∧ H5 D = some (.dK kvs) ∧ kvs.length < sizeLine ∧ Nx (upd H5 D (.dK (putK kvs k z))) else Nx H3) := by
  refine ⟨fun i m H => m = n - i ∧ i ≤ n ∧ Pv i H, ⟨n, by simp, Nat.zero_le _, h0⟩, ?_⟩
  rintro i m H ⟨rfl, hi, p⟩
  have q := hG i H hi p
  by_cases hlt : i < n
  · exact .inr ⟨w.goes i H hlt q, Pv (i + 1), fun H' p' => ⟨n - (i + 1), by omega, rfl, hlt, p'⟩, fun x H' y => hs i x H H' hlt p (w.yields i H x H' hlt q y)⟩
  · have e : i = n := by omega
    subst e
    exact .inl ⟨w.stops H q, hd H p⟩
section
variable {X : Cx} {a b c d : Expr} {ta tb tc td : TE} {pos : Pos}
/-- a op1 b op2 c op3 d, as a test -/
def tChain3 (r r' r'' : R2) (ta tb tc td : TE) : TT := fun σ H Q => ta σ H fun x H1 => tb σ H1 fun y H2 => r x y H2 fun e H3 => ∃ k, e = .bl k ∧
  (if k = true then tc σ H3 fun z H4 => r' y z H4 fun e' H5 => ∃ k', e' = .bl k' ∧ (if k' = true then td σ H5 fun u H6 => r'' z u H6 fun e'' H7 => ∃ k'', e'' = .bl k'' ∧ Q k'' H7 else Q false H5) else Q false H3)
theorem pt_chain3 {op op' op'' : CmpOp} {r r' r'' : R2} (ho : OpR X (compareOp op) r) (ho' : OpR X (compareOp op') r') (ho'' : OpR X (compareOp op'') r'') (ha : PE X a ta) (hb : PE X b tb) (hc : PE X c tc) (hd : PE X d td)
    (hm : lastMarks [op, op', op''] [b, c, d] = false := by with_unfolding_all rfl) : PT X (.Compare a [op, op', op''] [b, c, d] pos) (tChain3 r r' r'' ta tb tc td) := by
  refine ⟨fun pins s σ H Q I h => ?_⟩
  refine isTrue_chain (thn (ha.run pins s σ H _ I h) fun v s1 ⟨x, H1, I1, r1, q1⟩ => test_link (thn (hb.run pins s1 σ H1 _ I1 q1) fun u s2 ⟨y, H2, I2, r2, q2⟩ =>
    thn (ho pins s2 σ H2 x y v u _ I2 r1 r2 q2) fun d s3 ⟨z, H3, I3, r3, k, e, q3⟩ => ?_)) hm
  subst e
  cases r3
  refine wpAny_truthy_bool ?_
  cases k with
  | false => exact ite_ff ⟨H3, I3, q3⟩
  | true =>
    refine ite_tt (test_link (thn (hc.run pins s3 σ H3 _ I3 q3) fun w' s4 ⟨z', H4, I4, r4, q4⟩ => thn (ho' pins s4 σ H4 y z' u w' _ I4 r2 r4 q4) fun d' s5 ⟨z2, H5, I5, r5, k2, e2, q5⟩ => ?_))
    subst e2
    cases r5
    refine wpAny_truthy_bool ?_
    cases k2 with
    | false => exact ite_ff ⟨H5, I5, q5⟩
    | true =>
      refine ite_tt (test_last (thn (hd.run pins s5 σ H5 _ I5 q5) fun w'' s6 ⟨z'', H6, I6, r6, q6⟩ => thn (ho'' pins s6 σ H6 z' z'' w' w'' _ I6 r4 r6 q6) fun d'' s7 ⟨z3, H7, I7, r7, k3, e3, q7⟩ => ?_))
      subst e3
      cases r7
      exact wpAny_truthy_bool ⟨H7, I7, q7⟩
end
end DictI

/-! # own subscripts, and ranges kept in a name (own work) -/
open PySem PyProof PyProof.Rows L2
namespace Cut
section
variable {X : Cx} {CX : CXT} {n : Nat} {C g : Addr} {sp : Sp} {E : XK}
/-- x[y]: the class of x has __getitem__ -/
def rSub (C : Addr) (sp : Sp) (E : XK) : R2 := fun x y H Q => ∃ a dx fs, x = .ref a ∧ H a = some (.ins C dx fs) ∧ sp [x, y] H Q E
theorem pe_sub {a b : Expr} {ta tb : TE} {pos : Pos} (hs : PySem.W.findIn X.K (.ref C) "__getitem__" = some (some (.ref g))) (hf : PySem.W.fnIn X.K g = true) (hfn : PySem.W.isFn X.K (.ref g) = true)
    (F : FnR X.prog X.w X.K X.mg X.base CX n g sp) (hr : Room (n + 1) X.A) (hx : Passes CX X E) (ha : PE X a ta) (hb : PE X b tb)
    (hsl : ∀ x i, subscripted b true (.ref x) i = runValue (.builtin "lifetime.subscript" ⟨[.ref x, i], []⟩)) : PE X (.Subscript a b pos) (tOp (rSub C sp E) ta tb) := by
  refine ⟨fun pins s σ H Q I h => ?_⟩
  refine Subscript_ (binT ha hb I h fun v u s2 x y H2 I2 rx ry q => ?_)
  obtain ⟨a', dx, fs, rfl, ea, q⟩ := q
  obtain rfl : v = Value.ref a' := rx
  obtain ⟨_, ja⟩ := Own.insAt I2 ea
  obtain ⟨_, fr⟩ := I2.fr
  have go := wpAny_call (SlX.run_at (A := X.A.in1) (us := [.ref a', u]) (ws := [.ref a', y]) F hr.in1 I2.env0.in1 hx I2 (.cons rfl (.cons ry .nil)) q)
  exact PySem.W.sub_K fr I2.ok.mod.kin ja hs hf hfn (wpAny_mono go (fun v st' z => z) fun _ _ z => z) (hsl _ _)
/-- a range that stands in a name, walked -/
def iRngO (te : TE) : TI := fun sl H R => te sl H fun x H1 => ∃ a lo hi, x = .ref a ∧ H1 a = some (.rng lo hi) ∧ (-(2 ^ 62) ≤ lo ∧ lo < 2 ^ 62 ∧ -(2 ^ 62) ≤ hi ∧ hi < 2 ^ 62) ∧ R (Itr lo (hi - lo).toNat) H1
theorem pi_rngO {tg l : Expr} {tl : TE} (hl : PE X l tl) : PI X tg l (iRngO tl) := by
  refine ⟨fun pins s σ H R I h => ?_⟩
  refine thn (hl.run pins s σ H _ I h) fun v s1 ⟨x, H1, I1, r1, q1⟩ => ?_
  obtain ⟨a, lo, hi, rfl, ha, ⟨h1, h2, h3, h4⟩, q⟩ := q1
  obtain rfl : v = Value.ref a := r1
  obtain ⟨t, u, w', ho⟩ := I1.hok a _ ha
  refine wpAny_pyIter_range (a := lo) (b := hi) (c := 1) ho (small_one h1 h2 h3 h4) ?_
  refine ⟨s1.heap.objs.size, [s1.heap.objs.size], _, _, H1, rfl, I1.kept (t' := s1.toks) fun b o e => Heap.get?_push_of_some _ e, turn_range _ lo (hi - lo).toNat, ?_, fun b hb => ?_, q⟩
  · have e1 : lo + ((0 : Nat) : Int) * 1 = lo := by simp
    have e2 : (((hi - lo).toNat : Nat) : Int) - ((0 : Nat) : Int) = Builtin.Range.rangeSize lo hi 1 := by rw [rangeSize_one]; split <;> omega
    show IsRangeIter _ _ (lo + ((0 : Nat) : Int) * 1) ((((hi - lo).toNat : Nat) : Int) - ((0 : Nat) : Int)) 1
    rw [e1, e2]
    exact Heap.get?_push_size _ rfl
  · have e : b = s1.heap.objs.size := by simpa using hb
    subst e
    exact I1.fpOk (Nat.le_refl _) (I1.hok.fresh (Nat.le_refl _))
end
end Cut

/-! # set(xs), xs a list of ints (own work) -/
open PySem PySem.Spec PyProof.Rows L2
namespace SetL
abbrev frO (w : World) : Obj := { cls := .type "set", dict := none, data := .set #[] 0 (.fresh 0 0 (!w.params.followText "set-order")) }
section
variable {P : Program} {w : World} {A : Around} {E : Value → Shared → Prop} {s : Shared}
theorem init_list {l : Addr} {items : Array Value} (ns : List Int) {R : Value → Shared → Prop} (hh : A.handled = none) (hl : s.heap.IsList l items) (hit : IntsAre items.toList ns) (few : ns.length + 1 < scanBound)
    (hR : ∀ (h' : Heap) (tk c : Nat), SetR w h' s.heap.objs.size (fun j => decide (j ∈ ns)) c → c ≤ ns.length → (∀ b o, s.heap.get? b = some o → h'.get? b = some o) → R .none { s with heap := h', toks := tk }) :
    codeAny (model P w) A (.call (.builtin "set.__init__") ⟨[.ref s.heap.objs.size, .ref l], []⟩) (wants R E) { s with heap := s.heap.push (frO w) } := by
  have eS : (s.heap.push (frO w)).get? s.heap.objs.size = some (frO w) := Heap.get?_push_size _ rfl
  have tS : Shared.TypeIs { s with heap := s.heap.push (frO w) } (.ref s.heap.objs.size) "set" := ⟨_, eS, rfl⟩
  have el : items.size = ns.length := by have z := IntsAre.length hit; rwa [Array.length_toList] at z
  refine codeAny_call_builtin F.called_set.init.plain F.entry_set_init (check_set_init_1 tS ?_)
  obtain ⟨⟨k1, k2, k3, k4⟩, gl, ck, kn, dk⟩ := hl
  dsimp only at ck dk
  subst ck
  subst dk
  have gl2 : (s.heap.push (frO w)).get? l = some ⟨.type "list", k2, .seq items kn, k4⟩ := Heap.get?_push_of_some _ gl
  have ll : (s.heap.push (frO w)).IsList l items := ⟨_, gl2, rfl, kn, rfl⟩
  have lt : l < s.heap.objs.size := Heap.lt_size gl
  have sz : (s.heap.push (frO w)).objs.size = s.heap.objs.size + 1 := Heap.size_push ..
  have q1 := F.sub_list_set
  have q2 := F.sub_list_frozenset
  have q3 : (Value.type "list" == Value.type "dict") = false := by decide
  unfold Builtin.«set.__init__» noKeywords Builtin.Frozenset.updateFrom
  generalize hp : pyIter = it
  wp_walk
  subst hp
  refine wpAny_pyIter_list ll (wpAny_bind (wpAny_runValue ?_))
  have nfp : s.heap.objs.size ∉ [(s.heap.push (frO w)).objs.size, l] := fun hm => by
    rcases List.mem_cons.mp hm with e | e
    · rw [sz] at e
      exact Nat.ne_of_lt (Nat.lt_succ_self _) e
    · exact Nat.ne_of_gt lt (List.mem_singleton.mp e)
  have nI : l ≠ (s.heap.push (frO w)).objs.size := by
    rw [sz]
    exact Nat.ne_of_lt (Nat.lt_succ_of_lt lt)
  refine set_update_ints (Walks.list (by simp [hh]) _ l nI items).toS s.heap.objs.size nfp ns el few (fun i v hv => ?val) _ 0 _ rfl (Nat.zero_le _) ⟨⟨_, Heap.get?_push_size _ rfl, rfl, rfl⟩, ll.push _⟩ ⟨0, Nat.le_refl 0, setR_new_at (Heap.get?_push_of_some _ eS)⟩ fun s' c mv hc hS => ?fin
  case val =>
    have hi : i < items.size := (Array.getElem?_eq_some_iff.mp hv).1
    obtain ⟨t, e⟩ := IntsAre.int_at hit i v (by rw [Array.getElem?_toList]; exact hv)
    exact ⟨ns.getD i 0, t, by simp [List.getD, show i < ns.length by omega], e⟩
  case fin =>
    have e1 : s' = { s with heap := s'.heap, toks := s'.toks } := by
      have a1 := mv.gens
      have a2 := mv.drawn
      have a3 := mv.os
      cases s'
      cases s
      simp only at a1 a2 a3
      subst a1 a2 a3
      rfl
    show wpAny _ _ (pure ()) _ _ s'
    refine wpAny_pure ?_
    show wpAny _ _ (ret Value.none) _ _ s'
    rw [e1]
    refine wpAny_pure (hR s'.heap s'.toks c hS (by omega) fun b o e => ?_)
    have hb : b < s.heap.objs.size := Heap.lt_size e
    refine mv.heap b o ?_ (Heap.get?_push_of_some _ (Heap.get?_push_of_some _ e))
    intro hm
    rcases List.mem_cons.mp hm with q | q
    · exact Nat.ne_of_lt hb q
    · have q := List.mem_singleton.mp q
      rw [sz] at q
      exact Nat.ne_of_lt (Nat.lt_succ_of_lt hb) q
theorem call_setL {l : Addr} {items : Array Value} (ns : List Int) {Q : Value → Shared → Prop} (hh : A.handled = none) (hl : s.heap.IsList l items) (hit : IntsAre items.toList ns) (few : ns.length + 1 < scanBound)
    (hQ : ∀ (h' : Heap) (tk c : Nat), SetR w h' s.heap.objs.size (fun j => decide (j ∈ ns)) c → c ≤ ns.length → (∀ b o, s.heap.get? b = some o → h'.get? b = some o) → Q (.ref s.heap.objs.size) { s with heap := h', toks := tk }) :
    wpAny (model P w) A (call (.type "set") [.ref l]) Q E s := by
  obtain ⟨c, tl, m1⟩ := F.called_set.mro
  have m2 := F.called_set.made
  have m3 := F.called_set.sub
  have m4 := F.called_set.notType
  have m5 := F.called_set.canCreate
  have m6 := F.typeCall_set_1 (.ref l)
  refine wpAny_call (codeAny_of_tree (show wpAny _ _ (callAny (.type "set") _) _ _ _ from wpAny_pure ⟨Code.quiet_builtin _ (by decide +kernel), codeAny_builtin F.entry_type_call ?_⟩))
  rw [Around.under_plain (weight_type_call_type "set" [.ref l] []) rfl]
  repeat any_goals first | assumption | wp_step
  refine codeAny_mono (code_set_led1 (.ref l) (E := E) (Q₁ := fun v u => v = .ref s.heap.objs.size ∧ u = { s with heap := s.heap.push (frO w) }) ⟨rfl, rfl⟩) fun r u hr => ?_
  match r, hr with
  | .error e, hr => exact hr
  | .ok (.ret v), hr =>
    obtain ⟨rfl, rfl⟩ := hr
    have tS : Shared.TypeIs { s with heap := s.heap.push (frO w) } (.ref s.heap.objs.size) "set" := ⟨_, Heap.get?_push_size _ rfl, rfl⟩
    have m7 := F.called_set.init.lookup
    have m8 := F.called_set.init.bind (.ref s.heap.objs.size)
    repeat any_goals first | assumption | wp_step
    refine codeAny_mono (init_list (E := E) (R := fun v u => v = .none ∧ Q (.ref s.heap.objs.size) u) ns ?_ hl hit few fun h' tk c a b d => ⟨rfl, hQ h' tk c a b d⟩) fun r2 u2 hr2 => ?_
    · simp [hh]
    match r2, hr2 with
    | .error e, hr2 => exact hr2
    | .ok (.ret v2), hr2 =>
      obtain ⟨rfl, q⟩ := hr2
      repeat any_goals first | assumption | wp_step
end
section
variable {X : Cx}
/-- set(xs), xs a list of ints -/
def rSetL (K : PySem.W.Frag) (w : World) : List V → Hp → VK → Prop := fun xs H Q => ∃ (l : Addr) (ns : List Int), xs = [V.ref l] ∧ SqL K H l (ns.map V.int) ∧ ns.length ≤ 1000 ∧ ∀ a c, H a = none → c ≤ ns.length → Q (.ref a) (upd H a (SetO w a (fun j => decide (j ∈ ns)) c))
theorem cr_setL (hc : X.calm = true) : CallR X (.type "set") (rSetL X.K X.w) := by
  intro pins s sl H xs us Q inv r h
  obtain ⟨l, ns, rfl, hl, few, q⟩ := h
  rw [Vals.ref1 r]
  obtain ⟨its, rv, pl, _⟩ := inv.list hl
  have fresh : H s.heap.objs.size = none := inv.hok.fresh (Nat.le_refl _)
  refine call_setL ns (inv.ok.hd hc) pl.isList (ints_of_vals rv) (by unfold scanBound; omega) fun h' tk c R lc k => ?_
  exact ⟨.ref s.heap.objs.size, upd H s.heap.objs.size (SetO X.w s.heap.objs.size (fun j => decide (j ∈ ns)) c), inv.laid (t' := tk) k (Nat.le_refl _) (setO_new R), rfl, q _ c fresh lc⟩
end
end SetL

/-! ~x of instances whose class has its own __invert__. -/
namespace Own
open PySem PySem.Spec PyProof.Rows L2
section
variable {X : Cx} {CX : CXT} {n : Nat} {C g : Addr} {sp : Sp} {E : XK}
def rInvO (C : Addr) (sp : Sp) (E : XK) : V → Hp → VK → Prop := fun x H Q => ∃ a dx fs, x = .ref a ∧ H a = some (.ins C dx fs) ∧ sp [x] H Q E
theorem un_invO (hs : PySem.W.findIn X.K (.ref C) "__invert__" = some (some (.ref g))) (hf : PySem.W.isFn X.K (.ref g) = true) (F : FnR X.prog X.w X.K X.mg X.base CX n g sp) (hr : Room n X.A) (hx : Passes CX X E) : UnR X (unaryOp .Invert) (rInvO C sp E) := by
  intro pins st sl H x v Q inv rx h
  obtain ⟨a, dx, fs, rfl, ea, h⟩ := h
  obtain rfl : v = Value.ref a := rx
  obtain ⟨_, ja⟩ := insAt inv ea
  have go := wpAny_call (run_fnR (us := [.ref a]) (vs := [.ref a]) F hr hx inv (.cons rfl .nil) h)
  unfold unaryOp
  refine wpAny_holding ?_
  show wpAny _ _ (callSpecial? (.ref a) "__invert__" >>= fun r => match r with | some r => pure r | none => _) _ _ _
  refine wpAny_bind (PySem.W.special_fn inv.kIn ja hs (beq_iff_eq.mp hf) (wpAny_mono go (fun v st' z => ?_) fun _ _ z => z))
  exact wpAny_pure z
end
end Own

/-! t[::-1], t a tuple. -/
namespace TRev
open PySem PySem.Spec PyProof PyProof.Rows L2 HT
open PySem.SeqAt
open PySem.AutoSeq1 (wpAny_loadPart')
open PySem.MeetsSeq PySem.MeetsSeq2 PySem.MeetsSeq3
theorem fm_congr {α β : Type} {f g : α → Option β} : ∀ {l : List α}, (∀ x ∈ l, f x = g x) → l.filterMap f = l.filterMap g
  | [], _ => rfl
  | x :: l, h => by
    rw [List.filterMap_cons, List.filterMap_cons, h x List.mem_cons_self, fm_congr fun y hy => h y (List.mem_cons_of_mem _ hy)]
section
variable {prog : Program} {w : World} {A : Around} {E : Value → Shared → Prop} {s : Shared}
theorem applied_rev {sl : Addr} {vl vu vs : Value} {n : Nat} {Q : Int × Int × Nat → Shared → Prop} (hs : s.heap.IsSliceOf sl vl vu vs) (pl : IsPart vl none) (pu : IsPart vu none) (ps : IsPart vs (some (-1)))
    (h : Q ((n : Int) - 1, -1, n) s) : wpAny (model prog w) A (Builtin.Slice.sliceApplied (.ref sl) (pure (n : Int))) Q E s := by
  obtain ⟨os, hos, hcs, hds⟩ := id hs
  unfold Builtin.Slice.sliceApplied Builtin.Slice.sliceFields
  refine wpAny_bind (wpAny_bind (wpAny_field hos hds (x := vl) rfl (wpAny_bind (wpAny_field hos hds (x := vu) rfl (wpAny_bind (wpAny_field hos hds (x := vs) rfl (wpAny_pure ?_)))))))
  refine wpAny_bind (slicePart_ ps ?_)
  show wpAny _ _ (if ((-1 : Int) == 0) = true then _ else _) _ _ s
  rw [if_neg (by decide)]
  refine wpAny_bind (slicePart_ pl (wpAny_bind (slicePart_ pu (wpAny_bind (wpAny_pure ?_)))))
  show wpAny _ _ (pure ((n : Int) - 1, (-1 : Int), Builtin.Slice.slicePlaces ((n : Int) - 1) (-1) (-1))) _ _ s
  have e : Builtin.Slice.slicePlaces ((n : Int) - 1) (-1) (-1) = n := by
    unfold Builtin.Slice.slicePlaces
    rw [if_neg (by decide)]
    split
    · have : (-(-1) : Int) = 1 := by decide
      rw [this, Int.ediv_one]
      omega
    · omega
  rw [e]
  exact wpAny_pure h
theorem pick_rev (xs : Array Value) : ((List.range xs.size).filterMap fun (m : Nat) => xs[((xs.size : Int) - 1 + (m : Int) * (-1)).toNat]?).toArray = xs.toList.reverse.toArray := by
  congr 1
  have e : (List.range xs.size).filterMap (fun (m : Nat) => xs[((xs.size : Int) - 1 + (m : Int) * (-1)).toNat]?) = (List.range xs.size).filterMap (fun (m : Nat) => xs.toList.reverse[m]?) := by
    refine fm_congr fun m hm => ?_
    have hm := List.mem_range.mp hm
    rw [List.getElem?_reverse (by rw [Array.length_toList]; exact hm), Array.getElem?_toList, Array.length_toList]
    congr 1
    omega
  rw [e]
  have l : xs.size = xs.toList.reverse.length := by simp
  rw [l]
  generalize xs.toList.reverse = ys
  refine List.ext_getElem? fun k => ?_
  have : (List.range ys.length).filterMap (fun m => ys[m]?) = ys := by
    induction ys with
    | nil => rfl
    | cons y ys ih =>
      rw [List.length_cons, List.range_succ_eq_map, List.filterMap_cons]
      simp only [List.getElem?_cons_zero]
      rw [List.filterMap_map]
      congr 1
  rw [this]
theorem getItem_rev {t sl : Addr} {items : Array Value} {vl vu vs : Value} {Q : Value → Shared → Prop} (ht : IsTup s.heap t items) (hs : s.heap.IsSliceOf sl vl vu vs) (pl : IsPart vl none) (pu : IsPart vu none) (ps : IsPart vs (some (-1)))
    (h : Q (.ref s.heap.objs.size) { s with heap := s.heap.push { cls := .type "tuple", data := .seq items.toList.reverse.toArray } })
    (hsz : items.size ≤ sizeLine) : wpAny (model prog w) A (getItem (.ref t) (.ref sl)) Q E s := by
  have htake : sizeOk (.seq items.toList.reverse.toArray) := by
    show items.toList.reverse.toArray.size ≤ sizeLine
    rw [List.size_toArray, List.length_reverse, Array.length_toList]
    omega
  obtain ⟨os, hos, hcs, hds⟩ := id hs
  have hTs : s.TypeIs (.ref sl) "slice" := ⟨os, hos, hcs⟩
  unfold getItem
  try with_reducible refine wpAny_holding ?_
  first | refine wpAny_bind (wpAny_pure ?_) | skip
  refine wpAny_bind (wpAny_sequenceKey ht.typeIs (by decide) ?_)
  refine wpAny_bind (wpAny_callSpecial?_slot (name := Str.ofString "__getitem__") ht.typeIs PyProof.Rows.slot_tuple_getitem
    (wpAny_call_entry PyProof.Rows.slot_tuple_getitem ht.typeIs entry_tuple_getitem ?_ (args_tuple_getitem _ _)))
  show wpAny _ _ (Builtin.Tuple.tupleItemsOf (.ref t) >>= _) _ _ s
  refine wpAny_bind (tupleItemsOf_ ht ?_)
  refine wpAny_bind (wpAny_typeOf hTs ?_)
  rw [if_pos (by decide)]
  refine wpAny_bind (applied_rev hs pl pu ps ?_)
  show wpAny _ _ (if (((items.size : Int) - 1) == 0 && (-1 : Int) == 1 && items.size == items.size) = true then _ else _) _ _ s
  rw [if_neg (by rw [show ((-1 : Int) == 1) = false from rfl, Bool.and_false, Bool.false_and]; exact Bool.false_ne_true), pick_rev]
  first
    | exact wpAny_bind (m := Builtin.Tuple.tupleExact _) (wpAny_newObj_type (wpAny_pure ⟨_, rfl, wpAny_pure h⟩) htake)
    | exact wpAny_bind (m := Builtin.Tuple.tupleExact _) (wpAny_newObj_type (wpAny_bind (wpAny_pure (wpAny_pure ⟨_, rfl, wpAny_pure h⟩))) htake)
    | exact wpAny_bind (wpAny_bind (m := Builtin.Tuple.tupleExact _) (wpAny_newObj_type (wpAny_pure (wpAny_pure ⟨_, rfl, wpAny_pure h⟩)) htake))
    | exact wpAny_bind (wpAny_bind (m := Builtin.Tuple.tupleExact _) (wpAny_newObj_type (wpAny_pure ⟨_, rfl, wpAny_pure h⟩) htake))
end
section
variable {X : Cx}
def tRevT (K : PySem.W.Frag) (te : TE) : TE := fun σ H Q => te σ H fun x H1 => ∃ a xs, x = .ref a ∧ SqT K H1 a xs ∧ ∀ p, H1 p = none → Q (.ref p) (upd H1 p (.tup xs.reverse))
theorem pe_revT {e : Expr} {te : TE} {k : Nat} {p1 p2 p3 pos : Pos} (he : PE X e te) : PE X (.Subscript e (.Slice none none (some (.UnaryOp .USub (.Constant (.int 1) k p1) p2)) p3) pos) (tRevT X.K te) := by
  refine ⟨fun pins s σ H Q I h => ?_⟩
  refine Subscript_ (thn (he.run pins s σ H _ I h) fun v s1 ⟨x, H1, I1, r1, q1⟩ => ?_)
  obtain ⟨a, xs, ex, hx, q⟩ := q1
  subst ex
  cases r1
  have hst : PO X (some (.UnaryOp .USub (.Constant (.int 1) k p1) p2)) (tPart (tUn (rU fun i => .int (-i)) (tC (.int 1)))) := po_some (pe_un un_neg pe_int)
  refine wpAny_Slice (thn (po_none.run pins s1 σ H1 (fun o H2 => o = none ∧ H2 = H1) I1 ⟨rfl, rfl⟩) fun vl s2 ⟨l, H2, I2, pl, el, e2⟩ => ?_)
  subst el e2
  refine thn (po_none.run pins s2 σ H2 (fun o H3 => o = none ∧ H3 = H2) I2 ⟨rfl, rfl⟩) fun vu s3 ⟨u, H3, I3, pu, eu, e3⟩ => ?_
  subst eu e3
  refine thn (hst.run pins s3 σ H3 (fun o H4 => o = some (-1) ∧ H4 = H3) I3 ⟨1, rfl, -1, rfl, rfl, rfl⟩) fun vs s4 ⟨o, H4, I4, ps, eo, e4⟩ => ?_
  subst eo e4
  have I5 : Inv X pins σ H4 { s4 with heap := s4.heap.push { cls := .type "slice", data := .fields #[vl, vu, vs] } } := I4.kept (t' := s4.toks) fun b ob q => Heap.get?_push_of_some _ q
  obtain ⟨its, r, ht, hz⟩ := I5.tuple hx
  show wpAny (model X.prog X.w) X.A (subscriptTail e (.Slice none none (some (.UnaryOp .USub (.Constant (.int 1) k p1) p2)) p3) (.ref a) (.ref s4.heap.objs.size)) (EP X pins σ Q) X.xe _
  refine tail_any (ops := [.ref a, .ref s4.heap.objs.size]) ht.typeIs PyProof.Rows.slot_tuple_getitem.lookup ?_ (by with_unfolding_all rfl)
  have hlen : its.toArray.size = xs.length := by rw [List.size_toArray]; exact r.length.symm
  refine getItem_rev ht (Heap.IsSliceOf.new _ vl vu vs) pl pu ps ?_ (by rw [hlen]; exact hz)
  refine ⟨.ref _, _, I5.laid (t' := s4.toks) (o := .tup xs.reverse) (fun b ob q => Heap.get?_push_of_some _ q) (Nat.le_refl _) ?_, rfl, q _ (I5.hok.fresh (Nat.le_refl _))⟩
  exact ⟨by rw [List.length_reverse]; exact hz, _, r.reverse, IsTup.new _ _⟩
end
end TRev

/-! x op y: the class of x has the sign's def and no reflected one, y is an int. -/
namespace Own
open PySem PySem.Spec PyProof.Rows L2
section
variable {prog : Program} {w : World} {A : Around} {E : Value → Shared → Prop} {s : Shared} {K : PySem.W.Frag} {x C L f : Addr} {h₀ : Heap} {m : Str → Option Value} {ox : Obj} {od : Option Obj}
theorem binop_I {op : Operator} {i : Int} {t : Tok} {fo ro : Value} {Q : Value → Shared → Prop} (X : K.In s.heap) (I : PySem.W.InstAt s.heap x ox C od) (hc : PySem.W.selfFirst K C = true)
    (hs : PySem.W.findIn K (.ref C) (PySem.dunder op.info.2) = some (some (.ref f))) (hf : PySem.W.isFn K (.ref f) = true) (hr : PySem.W.findIn K (.ref C) (PySem.dunderR op.info.2) = some none) (ho : PySem.W.subIn K (.type "int") (.ref C) = some false)
    (h1 : PySem.W.findIn K (.type "int") (PySem.dunder op.info.2) = some (some fo)) (h2 : PySem.W.findIn K (.type "int") (PySem.dunderR op.info.2) = some (some ro)) (n1 : isSeqSlot (some fo) = false)
    (h : wpAny (model prog w) A (call (.ref f) [.ref x, .int i t]) (PySem.W.CmpBack Q) E s) : wpAny (model prog w) A (binaryOp op (.ref x) (.int i t)) Q E s := by
  obtain ⟨cd, hcd, hm⟩ := PySem.W.any_some hc
  obtain ⟨rest, hm⟩ : ∃ rest, cd.mro = .ref C :: rest := by
    cases q : cd.mro with
    | nil => rw [q] at hm; cases hm
    | cons a r => rw [q] at hm; exact ⟨r, by rw [List.head?_cons] at hm; cases (beq_iff_eq.mp hm); rfl⟩
  unfold binaryOp
  refine wpAny_holding (wpAny_bind ?_)
  unfold binaryOp1
  refine wpAny_bind (I.type.here (wpAny_bind ?_))
  show wpAny _ _ (pure (Value.type "int") : Sem Value) _ _ _
  refine wpAny_pure (wpAny_bind ((PySem.W.fills_K X hcd hm hs).here ?_))
  have ne : ((Value.ref C) == (Value.type "int")) = false := rfl
  rw [ne]
  simp only [Bool.false_eq_true, if_false, if_true]
  refine wpAny_bind ?_
  have right : PySem.W.Looks (model prog w) s.heap (fillsNumberSlot (.type "int") op.info.2) true := by
    intro A Q E s k q
    unfold fillsNumberSlot
    refine wpAny_bind (PySem.W.looks_findIn X h1 A _ E s k ?_)
    refine wpAny_bind (PySem.W.looks_findIn X h2 A _ E s k ?_)
    refine wpAny_pure ?_
    rw [n1]
    exact q
  refine right.here ?_
  simp only [Bool.and_self, if_true]
  refine wpAny_bind ((PySem.W.looks_subIn X ho).here ?_)
  simp only [Bool.false_eq_true, if_false]
  have mine : PySem.W.Looks (model prog w) s.heap (numberSlotInPython (.ref C) op.info.2) true := by
    intro A Q E s k q
    unfold numberSlotInPython
    refine wpAny_bind (PySem.W.looks_findIn X hs A _ E s k ?_)
    refine wpAny_bind (m := calledByName _ _ _) ?_
    unfold calledByName
    refine wpAny_pure ?_
    refine wpAny_bind (PySem.W.looks_findIn X hr A _ E s k ?_)
    refine wpAny_bind (wpAny_pure ?_)
    exact wpAny_pure q
  refine wpAny_bind (mine.here ?_)
  simp only [if_true]
  refine wpAny_bind (m := numberSlotInPython (.type "int") _) ?_
  unfold numberSlotInPython
  refine wpAny_pure ?_
  simp only [Bool.not_false, if_true]
  refine wpAny_bind ((PySem.W.looks_findIn X h2).here ?_)
  refine wpAny_bind (m := tryMethod (.ref x) _ (.int i t)) ?_
  unfold tryMethod
  refine wpAny_bind (PySem.W.special_fn X I hs (beq_iff_eq.mp hf) (wpAny_mono h (fun v s' hv => ?_) fun _ _ e => e))
  cases v <;> first | exact hv.elim | exact wpAny_pure (wpAny_pure (wpAny_pure hv))
end
section
variable {X : Cx} {CX : CXT} {n : Nat} {C g : Addr} {sp : Sp} {E : XK}
def rBinI (C : Addr) (sp : Sp) (E : XK) : R2 := fun x y H Q => ∃ a dx fs i, x = .ref a ∧ y = .int i ∧ H a = some (.ins C dx fs) ∧ sp [x, y] H Q E
theorem op_binI {op : Operator} {fo ro : Value} (hc : PySem.W.selfFirst X.K C = true) (hs : PySem.W.findIn X.K (.ref C) (PySem.dunder op.info.2) = some (some (.ref g))) (hf : PySem.W.isFn X.K (.ref g) = true) (hr' : PySem.W.findIn X.K (.ref C) (PySem.dunderR op.info.2) = some none)
    (ho : PySem.W.subIn X.K (.type "int") (.ref C) = some false) (h1 : PySem.W.findIn X.K (.type "int") (PySem.dunder op.info.2) = some (some fo)) (h2 : PySem.W.findIn X.K (.type "int") (PySem.dunderR op.info.2) = some (some ro)) (n1 : isSeqSlot (some fo) = false)
    (F : FnR X.prog X.w X.K X.mg X.base CX n g sp) (hr : Room n X.A) (hx : Passes CX X E) : OpR X (binaryOp op) (rBinI C sp E) := by
  intro pins st sl H x y v u Q inv rx ry h
  obtain ⟨a, dx, fs, i, rfl, rfl, ea, h⟩ := h
  obtain rfl : v = Value.ref a := rx
  obtain ⟨t, rfl⟩ := ry
  obtain ⟨_, ja⟩ := insAt inv ea
  exact binop_I inv.kIn ja hc hs hf hr' ho h1 h2 n1 (run2 (y := .int i) F hr hx inv ⟨t, rfl⟩ h)
end
end Own

/-! list(d.values()). -/
namespace LiV
open PySem PySem.Spec PyProof.Rows L2
def tListVals (te : TE) : TE := fun σ H Q => te σ H fun x H1 => ∃ (d : Addr) (kvs : List (Key × V)), x = .ref d ∧ H1 d = some (.dK kvs) ∧ ∀ p, H1 p = none → Q (.ref p) (upd H1 p (.lst (kvs.map (·.2))))
theorem vals_get {kvs : List (Key × V)} {vs : List (Key × Value)} {acc : List Value} (kv : KV kvs vs) (hl : acc.length = vs.length) (h : ∀ (j : Nat) (v : Value), acc[j]? = some v → ∃ k, vs[j]? = some (k, v)) : Vals (kvs.map (·.2)) acc := by
  induction kv generalizing acc with
  | nil => cases acc with
    | nil => exact .nil
    | cons _ _ => cases hl
  | @cons a b l1 l2 r t ih =>
    cases acc with
    | nil => cases hl
    | cons x acc =>
      obtain ⟨k, e⟩ := h 0 x rfl
      have e : b = (k, x) := by simpa using e
      subst e
      refine .cons r.2 (ih (by simpa using hl) fun j v q => ?_)
      obtain ⟨k', e'⟩ := h (j + 1) v (by simpa using q)
      exact ⟨k', by simpa using e'⟩
section
variable {X : Cx} {e : Expr} {te : TE} {p apos cpos pos : Pos}
theorem pe_listVals (hc : X.calm = true) (he : PE X e te) (hg : Gl X "list") (hm : X.mg "list" = none) (hv : bootBuiltins "list" = some (.type "list")) (hbase : attributeBase e "values" X.env (eval e X.env) = eval e X.env := by rfl) (hline : (apos.endLine == cpos.line) = true := by rfl)
    (hs : starEach [.Call (.Attribute e "values" apos) [] [] cpos] X.env = (false, eval (.Call (.Attribute e "values" apos) [] [] cpos) X.env) :: starEach [] X.env := by rfl) :
    PE X (.Call (.Name "list" p) [.Call (.Attribute e "values" apos) [] [] cpos] [] pos) (tListVals te) := by
  refine ⟨fun pins s σ H Q I hq => ?_⟩
  refine wpAny_Call_Name_kw (ld_blt I hg hm hv ?_)
  refine PyProof.Rows.callWith_type1 ?_ hs rfl
  rw [hs]
  show wpAny _ _ (spliced ((false, eval (.Call (.Attribute e "values" apos) [] [] cpos) X.env) :: backTo pos (starEach [] X.env))) _ _ s
  refine Calls.spliced_cons ?_
  refine wpAny_Call_method (T := "dict") (id := "dict.values") hbase rfl hline F.plainAttrs_dict F.slot_dict_values F.type_dict_values (thn (he.run pins s σ H _ I hq) fun u s1 ⟨x, H1, I1, rx, d, kvs, ex, hd, q⟩ => ?_)
  subst ex
  obtain rfl : u = Value.ref d := rx
  obtain ⟨hz, hs0, vs, kv, hdo⟩ := I1.hok d _ hd
  obtain ⟨ep, hat⟩ := hdo.dictAt
  have lk : kvs.length = vs.length := Paired.length kv
  have I2 : Inv X pins σ H1 { s1 with heap := s1.heap.push { cls := .type "dict_values", data := .fields #[.ref d] } } := I1.kept (t' := s1.toks) fun b ob q => Heap.get?_push_of_some _ q
  refine ⟨hdo.typeIs, hdo.mapOf.noDict, ?_⟩
  show wpAny _ _ (callWith cpos (.builtin "dict.values") [.ref d] [] []) _ X.xe s1
  refine method_meetsIn F.slot_dict_values F.entry_dict_values rfl (PySem.evalArgs_none ⟨rfl, hdo.typeIs, F.args_dict_values_1 _, _, meets_dict_values (mixKind X.prog X.w) d hs0, ⟨vs, hdo⟩, ?_⟩)
  refine Calls.spliced_nil ?_
  refine PySem.W.kdl_call (PySem.W.kdl_values (knd := mixKind X.prog X.w) (d := d) (kvs := vs) (ep := ep)) (I1.ok.hd hc) ⟨⟨_, Heap.get?_push_size _ rfl, rfl, rfl⟩, hat.push _⟩ (by omega) fun h' tk acc c' hk hD hacc => ?_
  have hvv : Vals (kvs.map (·.2)) acc.toList := vals_get kv (by rw [Array.length_toList]; exact hacc.1) fun j v e => hacc.2 j v (by rw [← Array.getElem?_toList]; exact e)
  exact ⟨.ref _, upd H1 _ (.lst (kvs.map (·.2))), I2.laid (t' := tk) hk (Nat.le_refl _) (show ObjOk X.prog X.w _ _ _ (.lst (kvs.map (·.2))) from ⟨by rw [List.length_map]; exact hz, acc.toList, c', hvv, by rw [Array.toArray_toList]; exact hD⟩), rfl, q _ (I2.hok.fresh (Nat.le_refl _))⟩
end
end LiV

/-! (v,) * k, k from 0 on. -/
namespace TOne
open PySem PySem.Spec PyProof.Rows L2
open PySem.AutoSeq1 (wpAny_loadPart')
theorem mul_one (l : Addr) (items : Array Value) (n : Nat) (dd : Option Addr) (sl : Array (Option Value)) (u : Tok) :
    Meets (Builtin.«tuple.__mul__» ⟨[.ref l, .int 1 u], []⟩) (fun _ R s => s.heap.get? l = some { cls := .type "tuple", dict := dd, data := .seq items n, slots := sl } ∧ R (.ok (.ret (.ref l))) s) :=
  .of_wp fun prog w A R s h => by
    obtain ⟨hp, g, d, tk, os⟩ := s
    obtain ⟨hl, h⟩ := h
    have f1 := AutoSeq1.idx_int
    have c1 : (items.isEmpty || (1 : Int) == 1) = true := by simp
    wp_walk using wpAny_loadPart' hl
    exact ⟨_, rfl, h⟩
theorem mul_zero (l : Addr) (items : Array Value) (n : Nat) (dd : Option Addr) (sl : Array (Option Value)) (u : Tok) (hi : items.isEmpty = false) :
    Meets (Builtin.«tuple.__mul__» ⟨[.ref l, .int 0 u], []⟩) (fun _ R s => s.heap.get? l = some { cls := .type "tuple", dict := dd, data := .seq items n, slots := sl } ∧
      R (.ok (.ret (Value.ref s.heap.objs.size))) { s with heap := s.heap.push { cls := Value.type "tuple", data := Data.seq #[] }, toks := s.toks }) :=
  .of_wp fun prog w A R s h => by
    obtain ⟨hp, g, d, tk, os⟩ := s
    obtain ⟨hl, h⟩ := h
    have f1 := AutoSeq1.idx_int
    have c1 : (items.isEmpty || (0 : Int) == 1) = false := by rw [hi]; rfl
    have c2 : (decide ((0 : Int) ≤ 0) || items.isEmpty) = true := by simp
    wp_walk using wpAny_loadPart' hl
    repeat (first
      | (refine wpAny_ite_false (decide_eq_false (by rw [c1]; exact Bool.false_ne_true)) ?_; wp_walk using wpAny_loadPart' hl)
      | (refine wpAny_ite_true (decide_eq_true c2) ?_; wp_walk using wpAny_loadPart' hl))
    exact ⟨_, rfl, h⟩
def rRep1 (K : PySem.W.Frag) : R2 := fun x y H Q => ∃ (l : Addr) (k : Nat) (v : V), x = .ref l ∧ y = .int (k : Nat) ∧ SqT K H l [v] ∧ k ≤ 1000 ∧ ∀ p H', Same H H' → SqT K H' p (List.replicate k v) → Q (.ref p) H'
section
variable {X : Cx}
theorem op_rep1 : OpR X (binaryOp .Mult) (rRep1 X.K) := by
  intro pins s σ H x y v u Q I rx ry h
  obtain ⟨l, k, v0, rfl, rfl, hT, hz, q⟩ := h
  by_cases h2 : 2 ≤ k
  · refine op_repT pins s σ H _ _ v u Q I rx ry ⟨l, (k : Nat), [v0], rfl, rfl, hT, (fun z => nomatch z), by omega, by omega, by simp, fun p hp => q p _ (fun b o e => by rw [upd_ne (fun z => by rw [z, hp] at e; cases e)]; exact e) (SqT.of ?_)⟩
    rw [upd_same, Int.toNat_natCast]
    congr 2
    clear h2 q hz ry
    induction k with
    | zero => rfl
    | succ k ih => rw [List.replicate_succ, List.flatten_cons, ih, List.replicate_succ]; rfl
  · cases rx
    obtain ⟨t, rfl⟩ := ry
    obtain ⟨its, r, ⟨⟨cls, dd, data, sl⟩, ho, hc, n, hd⟩, hs⟩ := I.tuple hT
    simp only at hc hd
    subst hc hd
    have hle : its.length = 1 := r.length.symm
    have hi : its.toArray.isEmpty = false := by
      cases its with
      | nil => cases hle
      | cons a b => rfl
    match k, h2, q with
    | 1, _, q =>
      refine wpAny_binaryOp_repeat_ref (T := "tuple") (U := "int") (by decide) ⟨_, ho, rfl⟩ (fun s' => typeIs_int s' 1 t) noFill_tuple_mul F.fills_int_mul F.slot_int_rmul repeat_tuple F.slot_int_index.lookup
        (call_meets F.slot_int_rmul (typeIs_int s 1 t) F.entry_int_rmul (F.args_int_rmul_2 _ _) (int_rmul_tuple 1 t l its.toArray n dd sl)
          ⟨ho, rfl, ⟨_, ho, rfl⟩, call_meets F.slot_tuple_mul ⟨_, ho, rfl⟩ F.entry_tuple_mul (F.args_tuple_mul_2 _ _) (mul_one l its.toArray n dd sl t) ⟨ho, ?_⟩⟩)
      exact ⟨.ref l, _, I, rfl, q l H (fun _ _ e => e) hT⟩
    | 0, _, q =>
      refine wpAny_binaryOp_repeat_ref (T := "tuple") (U := "int") (by decide) ⟨_, ho, rfl⟩ (fun s' => typeIs_int s' 0 t) noFill_tuple_mul F.fills_int_mul F.slot_int_rmul repeat_tuple F.slot_int_index.lookup
        (call_meets F.slot_int_rmul (typeIs_int s 0 t) F.entry_int_rmul (F.args_int_rmul_2 _ _) (int_rmul_tuple 0 t l its.toArray n dd sl)
          ⟨ho, rfl, ⟨_, ho, rfl⟩, call_meets F.slot_tuple_mul ⟨_, ho, rfl⟩ F.entry_tuple_mul (F.args_tuple_mul_2 _ _) (mul_zero l its.toArray n dd sl t hi) ⟨ho, ?_⟩⟩)
      have np : H s.heap.objs.size = none := I.hok.fresh (Nat.le_refl _)
      refine ⟨.ref s.heap.objs.size, _, I.laid (t' := s.toks) (o := .tup []) (fun b ob e => Heap.get?_push_of_some _ e) (Nat.le_refl _) ?_, rfl, q _ _ (fun b o e => by rw [upd_ne (fun z => by rw [z, np] at e; cases e)]; exact e) (SqT.of upd_same)⟩
      exact ⟨by show 0 ≤ sizeLine; decide, _, .nil, IsTup.new _ _⟩
    | k + 2, h2, _ => exact absurd (Nat.le_add_left 2 k) h2
end
end TOne

/-! x in o, x not in o: o an instance whose class has its own __contains__ that gives a bool. -/
namespace Own
open PySem PySem.Spec PyProof.Rows L2
section
variable {M : Model} {A : Around} {E : Value → Shared → Prop} {s : Shared} {K : PySem.W.Frag} {a C g : Addr} {ox : Obj} {od : Option Obj} {v : Value}
theorem contains_own {Q : Bool → Shared → Prop} (X : K.In s.heap) (I : PySem.W.InstAt s.heap a ox C od) (hs : PySem.W.findIn K (.ref C) "__contains__" = some (some (.ref g))) (hf : PySem.W.isFn K (.ref g) = true)
    (h : wpAny M A (call (.ref g) [.ref a, v]) (fun r s' => ∃ b, r = .bool b ∧ Q b s') E s) : wpAny M A (contains (.ref a) v) Q E s := by
  have sp : ∀ {R : Option Value → Shared → Prop}, R (some (.ref g)) s → wpAny M A (specialOf (.ref a) "__contains__") R E s := fun {R} r => wpAny_bind (I.type.here ((PySem.W.looks_findIn X hs).here r))
  unfold contains
  refine wpAny_holding ?_
  refine wpAny_bind (sp ?_)
  rw [if_neg (show ¬ ((some (Value.ref g) == some Value.none) = true) from Bool.false_ne_true)]
  have call' : wpAny M A (callSpecialUnlessNone? (.ref a) "__contains__" [v] (do rule "in.none"; raiseError "TypeError" s!"'{← typeNameOf (.ref a)}' object is not a container")) (fun r s' => ∃ b, r = some (Value.bool b) ∧ Q b s') E s := by
    simp only [callSpecialUnlessNone?]
    refine wpAny_bind (sp ?_)
    refine wpAny_holding ?_
    refine wpAny_bind ((PySem.W.bind_fn X _ (beq_iff_eq.mp hf)).here ?_)
    show wpAny _ _ (if (Value.ref g == Value.none) = true then _ else _) _ _ _
    rw [if_neg (show ¬ ((Value.ref g == Value.none) = true) from Bool.false_ne_true)]
    refine wpAny_bind (wpAny_mono h (fun r s' z => ?_) fun _ _ z => z)
    obtain ⟨b, rfl, q⟩ := z
    exact wpAny_pure ⟨b, rfl, q⟩
  show wpAny M A (callSpecialUnlessNone? (.ref a) "__contains__" [v] _ >>= _) Q E s
  refine wpAny_bind (wpAny_mono call' (fun r s' z => ?_) fun _ _ z => z)
  obtain ⟨b, rfl, q⟩ := z
  exact wpAny_truthy_bool q
end
section
variable {X : Cx} {CX : CXT} {n : Nat} {C g : Addr} {sp : Sp} {E : XK}
def rInO (neg : Bool) (C : Addr) (sp : Sp) (E : XK) : V → V → Hp → VK → Prop := fun x y H Q => ∃ a dx fs, y = .ref a ∧ H a = some (.ins C dx fs) ∧ sp [y, x] H (fun v H' => ∃ b, v = .bl b ∧ Q (.bl (if neg then !b else b)) H') E
theorem in_run (hs : PySem.W.findIn X.K (.ref C) "__contains__" = some (some (.ref g))) (hf : PySem.W.isFn X.K (.ref g) = true) (F : FnR X.prog X.w X.K X.mg X.base CX n g sp) (hr : Room n X.A) (hx : Passes CX X E)
    {pins : List (Addr × Obj)} {st : Shared} {sl : L2.St} {H : Hp} {x : V} {a dx : Addr} {fs : List (Str × V)} {u : Value} {Q : Bool → Hp → Prop} {R : Bool → Shared → Prop} (inv : Inv X pins sl H st) (rx : RelV x u) (ea : H a = some (.ins C dx fs))
    (h : sp [.ref a, x] H (fun v H' => ∃ b, v = .bl b ∧ Q b H') E) (go : ∀ b st' H', Inv X pins sl H' st' → Q b H' → R b st') : wpAny (model X.prog X.w) X.A (contains (.ref a) u) R X.xe st := by
  obtain ⟨_, ja⟩ := insAt inv ea
  refine contains_own inv.kIn ja hs hf (wpAny_mono (wpAny_call (run_fnR (us := [.ref a, u]) (vs := [.ref a, x]) F hr hx inv (.cons rfl (.cons rx .nil)) h)) (fun r st' z => ?_) fun _ _ z => z)
  obtain ⟨y, H', inv', ry, b, rfl, q⟩ := z
  obtain rfl : r = Value.bool b := ry
  exact ⟨b, rfl, go b st' H' inv' q⟩
theorem op_inO (hs : PySem.W.findIn X.K (.ref C) "__contains__" = some (some (.ref g))) (hf : PySem.W.isFn X.K (.ref g) = true) (F : FnR X.prog X.w X.K X.mg X.base CX n g sp) (hr : Room n X.A) (hx : Passes CX X E) : OpR X (compareOp .In) (rInO false C sp E) := by
  intro pins st sl H x y v u Q inv rx ry h
  obtain ⟨a, dx, fs, rfl, ea, h⟩ := h
  obtain rfl : u = Value.ref a := ry
  show wpAny _ _ (contains (.ref a) v >>= fun b => pure (Value.bool b)) _ _ _
  refine wpAny_bind (in_run hs hf F hr hx inv rx ea h fun b st' H' inv' q => wpAny_pure ⟨.bl b, H', inv', rfl, q⟩)
theorem op_notInO (hs : PySem.W.findIn X.K (.ref C) "__contains__" = some (some (.ref g))) (hf : PySem.W.isFn X.K (.ref g) = true) (F : FnR X.prog X.w X.K X.mg X.base CX n g sp) (hr : Room n X.A) (hx : Passes CX X E) : OpR X (compareOp .NotIn) (rInO true C sp E) := by
  intro pins st sl H x y v u Q inv rx ry h
  obtain ⟨a, dx, fs, rfl, ea, h⟩ := h
  obtain rfl : u = Value.ref a := ry
  show wpAny _ _ (contains (.ref a) v >>= fun b => pure (Value.bool (!b))) _ _ _
  refine wpAny_bind (in_run hs hf F hr hx inv rx ea h fun b st' H' inv' q => wpAny_pure ⟨.bl (!b), H', inv', rfl, q⟩)
end
end Own

/-! GenFor: for in a generator def's body. -/
namespace GenW2
open PySem
section
variable {M : Model} {A : Around} {R : GenEnd} {Y : Protocol} {n : Nat} {s₀ : Shared} {c : Code} {fs : List Frame} {s : Shared} {env : Env}
  {K : Flow → Sem Fin} {H : Value → Sem Fin} {gd : Bool → Bool} {lv : List Value → List Value}
theorem seg_For {target iter : Expr} {body : List Stmt} {pos : Pos}
    (h : wpAny M (A.over c fs) (eval iter env) (fun x s₁ => wpAny M (A.over c fs) (pyIter x) (fun it s₂ => ∀ p, Seg M A R Y n s₀ (.forLoop target it body [] env) (M.den (.forLoop target it body [] env))
      (.ret (fun r => ((match r with | .ok f => (.pure f : Sem Flow) | .error e => .raise e).onRaise fun (x : Value) => do
        if (← field x 1) == Value.none then unsupported "frame.own-activation:exception-without-traceback"
        setFlight x env.frame).wrap K H gd lv) none (gd false) (lv []) c p [] :: fs) s₂) (fun e s' => Seg M A R Y n s₀ c (H e) fs s') s₁) (fun e s' => Seg M A R Y n s₀ c (H e) fs s') s)
    (hs : ∀ x, foldedSetIterable iter env x = pure x := by intro _; rfl) :
    Seg M A R Y n s₀ c ((exec (.For target iter body [] pos) env).wrap K H gd lv) fs s := by
  rw [exec_For]
  refine seg_bind_wrap (wpAny_standAt ?_)
  refine seg_bind_wrap (wpAny_mono h (fun x s₁ h₁ => ?_) (fun e s' he => he))
  refine seg_bind_wrap (wpAny_of_eq (hs x) ?_)
  refine seg_bind_wrap (wpAny_standAt ?_)
  refine seg_bind_wrap (wpAny_holding (wpAny_mono h₁ (fun it s₂ h₂ => ?_) fun _ _ z => z))
  exact seg_call h₂
end
section
variable {prog : Program} {w : World} {A : Around} {R : GenEnd} {Y : Protocol} {n : Nat} {s₀ : Shared} {fs : List Frame} {s : Shared} {env : Env}
theorem seg_forLoop {target : Expr} {it : Value} {body : List Stmt}
    (h : wpAny (model prog w) (A.over (.forLoop target it body [] env) fs) (pyNext it) (fun r s' => match r with
        | none => Seg (model prog w) A R Y n s₀ (.block [] env) ((model prog w).den (.block [] env)) fs s'
        | some v => wpAny (model prog w) (A.over (.forLoop target it body [] env) fs) (letOwnedTupleGo target it v) (fun _ s₁ => wpAny (model prog w) (A.over (.forLoop target it body [] env) fs) (assign target env v) (fun _ s₂ =>
          Seg (model prog w) A R Y n s₀ (.forLoop target it body [] env) ((execs body env).wrap (fun f => match f with
            | .next | .cont => .pure (.again (.forLoop target it body [] env))
            | .brk => .pure (.done .next)
            | .ret v => .pure (.done (.ret v))) (fun e => (do noteFrame e env; theTreesLotGoes e : Sem Unit).wrap (fun _ => .raise e) .raise id id) id id) fs s₂)
            (fun x s' => Seg (model prog w) A R Y n s₀ (.forLoop target it body [] env) ((do noteFrame x env; theTreesLotGoes x : Sem Unit).wrap (fun _ => .raise x) .raise id id) fs s') s₁)
            (fun x s' => Seg (model prog w) A R Y n s₀ (.forLoop target it body [] env) ((do noteFrame x env; theTreesLotGoes x : Sem Unit).wrap (fun _ => .raise x) .raise id id) fs s') s')
      (fun x s' => Seg (model prog w) A R Y n s₀ (.forLoop target it body [] env) ((do noteFrame x env; theTreesLotGoes x : Sem Unit).wrap (fun _ => .raise x) .raise id id) fs s') s) :
    Seg (model prog w) A R Y n s₀ (.forLoop target it body [] env) ((model prog w).den (.forLoop target it body [] env)) fs s := by
  show Seg _ A R Y n s₀ _ ((forTurn target it body [] env).onRaise (fun x => do noteFrame x env; theTreesLotGoes x)) fs s
  have ex : ∀ {x s'}, Seg (model prog w) A R Y n s₀ (.forLoop target it body [] env) ((do noteFrame x env; theTreesLotGoes x : Sem Unit).wrap (fun _ => .raise x) .raise id id) fs s' →
      Seg (model prog w) A R Y n s₀ (.forLoop target it body [] env) ((do noteFrame x env; theTreesLotGoes x : Sem Unit).bind fun _ => (.raise x : Sem Fin)) fs s' := fun {x s'} hx => by
    rw [Sem.bind_eq_wrap]; exact hx
  unfold forTurn
  rw [Sem.onRaise_eq_wrap]
  refine seg_bind_wrap (wpAny_standAt ?_)
  refine seg_bind_wrap (wpAny_onRaise (wpAny_mono h (fun r s₁ h₁ => ?_) fun e s' he => wpAny_standAt (ex he)))
  cases r with
  | none => exact seg_again rfl h₁
  | some v =>
    refine seg_bind_wrap (wpAny_mono h₁ (fun _ s₂ h₂ => ?_) fun e s' he => ex he)
    refine seg_bind_wrap (wpAny_mono h₂ (fun _ s₃ h₃ => ?_) fun e s' he => ex he)
    rw [Sem.bind_eq_wrap', Sem.wrap_wrap]
    rw [Sem.wrap_congr (execs body env) _ _ (K' := fun f => match f with
            | .next | .cont => .pure (.again (.forLoop target it body [] env))
            | .brk => .pure (.done .next)
            | .ret v => .pure (.done (.ret v))) (H' := (fun e => (do noteFrame e env; theTreesLotGoes e : Sem Unit).wrap (fun _ => .raise e) .raise id id))
        (fun f => by cases f <;> rfl)
        (fun e => by first | exact Sem.bind_eq_wrap _ _ | (show (do noteFrame e env; theTreesLotGoes e : Sem Unit).bind (fun _ => .raise e) = _; rw [Sem.bind_eq_wrap]))]
    exact h₃
end
end GenW2
namespace L2
open PySem PySem.Spec PyProof.Rows GenW
section
variable {X : Cx}
/-- the reading of a generator's for: W tells what is out too -/
def tGFor (wi : TI) (g : TG) (tb : TGn) : TGn := fun D ys σ H => wi σ H fun J H1 => ∃ W : Nat → Nat → List V → St → Hp → Prop, (∃ m, W 0 m ys σ H1) ∧ ∀ i m ys σ H, W i m ys σ H →
  (J.stop i H ∧ D.nx ys σ H) ∨ (J.go i H ∧ ∃ N : List V → St → Hp → Prop, (∀ ys' σ' H', N ys' σ' H' → ∃ m', m' < m ∧ W (i + 1) m' ys' σ' H') ∧ ∀ x H', J.yld i H x H' → g x σ H' fun σ2 H2 => tb { D with nx := N, ct := N, bk := D.nx } ys σ2 H2)
theorem gs_for {tg iter : Expr} {body : List Stmt} {wi : TI} {g : TG} {tb : TGn} {pos : Pos} (hp : PassesOwn (model X.prog X.w) X.A X.env X.xe) (hc : X.calm = true) (hi : PI X tg iter wi) (hg : PG X tg g) (hb : GSs X body tb)
    (hs : ∀ x, foldedSetIterable iter X.env x = pure x := by intro _; rfl) : GS X (.For tg iter body [] pos) (tGFor wi g tb) := by
  refine ⟨fun A S ip R n ys s₀ c fs K J0 gd lv s σ H D gc hn k hI ht => ?_⟩
  obtain ⟨acc0, cc0, r0, I⟩ := hI
  refine GenW2.seg_For ?_ hs
  rw [gc.over]
  refine wpAny_mono (hi.run _ s σ H _ I ht) (fun v s1 h1 => wpAny_mono h1 (fun itv s2 h2 => ?_) fun x s' hx => k.exc n s₀ x s' hx) fun x s' hx => k.exc n s₀ x s' hx
  obtain ⟨it, fp, tn, J, H2, e, I2, T, st2, f2, W, ⟨m0, w0⟩, turn⟩ := h2
  subst e
  intro p
  have hS : ∀ b ∈ fp, b ≠ S := fun b hb z => (f2 b hb).2.2.2.2.2 (S, lstObj acc0 cc0) (List.mem_append_right _ List.mem_cons_self) z.symm
  have stat : ∀ {H' : Hp} (acc : Array Value) (cc : Nat), (∀ b ∈ fp, H' b = none) → ∀ b ∈ fp, FpOk X ((S, lstObj acc cc) :: ip) H' b := fun acc cc hn b hb => by
    obtain ⟨_, a1, a2, a3, a4, a5⟩ := f2 b hb
    refine ⟨hn b hb, a1, a2, a3, a4, fun q hq => ?_⟩
    rcases List.mem_append.mp hq with hq | hq
    · exact a5 q (List.mem_append_left _ hq)
    · rcases List.mem_cons.mp hq with hq | hq
      · rw [hq]
        exact fun z => hS b hb z.symm
      · exact a5 q (List.mem_append_right _ (List.mem_cons_of_mem _ hq))
  have gl := fun (kk : Result → Sem PySem.Fin) => gc_loop (k := kk) (c' := .forLoop tg (.ref it) body [] X.env) (l := lv []) (kp := []) (p := p) gc rfl rfl
  have gb := fun (kk : Result → Sem PySem.Fin) => gc_loop (k := kk) (c' := .block [] X.env) (l := lv []) (kp := []) (p := p) gc rfl rfl
  have loop : ∀ (m i n : Nat) (ys : List V) (s₀ s : Shared) (σ : St) (H : Hp), n + ys.length = sizeLine → W i m ys σ H → GI X S ip ys σ H s → tn i s.heap → (∀ b ∈ fp, H b = none) →
      Seg (model X.prog X.w) A R (GY X S) n s₀ (.forLoop tg (.ref it) body [] X.env) ((model X.prog X.w).den (.forLoop tg (.ref it) body [] X.env))
        (.ret (fun r => ((match r with | .ok f => (.pure f : Sem Flow) | .error e => .raise e).onRaise (cameBack X.env)).wrap K J0 gd lv) none (gd false) (lv []) c p [] :: fs) s := by
    intro m
    induction m using Nat.strongRecOn with
    | ind m ih =>
      intro i n ys s₀ s3 σ3 H3 hn w3 hI st3 fr3
      have ee : ∀ (n : Nat) (s₀ : Shared) (x : Value) (s' : Shared), X.xe x s' → Seg (model X.prog X.w) A R (GY X S) n s₀ (.forLoop tg (.ref it) body [] X.env)
          ((do noteFrame x X.env; theTreesLotGoes x : Sem Unit).wrap (fun _ => .raise x) .raise id id)
          (.ret (fun r => ((match r with | .ok f => (.pure f : Sem Flow) | .error e => .raise e).onRaise (cameBack X.env)).wrap K J0 gd lv) none (gd false) (lv []) c p [] :: fs) s' := fun n s₀ x s' hx => by
        refine seg_wrap ?_
        rw [(gl _).over]
        refine wpAny_bind (wpAny_mono (hp x s' hx) (fun _ s'' hcb => wpAny_theTreesLotGoes ?_) fun y s'' hcb => ?_)
        · exact seg_leaf (.error x) (seg_cameBack gc k hcb)
        · exact seg_leaf (.error y) (seg_cameBack gc k hcb)
      refine GenW2.seg_forLoop ?_
      rw [(gl _).over]
      obtain ⟨acc, cc, r, I3⟩ := hI
      rcases turn i m ys σ3 H3 w3 with ⟨stop, qn⟩ | ⟨go, N, hN, step⟩
      · refine wpAny_mono (T.done X rfl rfl rfl hc i _ s3 σ3 H3 X.xe I3 (stat acc cc fr3) st3 stop) (fun r0 s4 ⟨hr, I4⟩ => ?_) fun x s' hx => ee n s₀ x s' hx
        subst hr
        exact seg_leaf (.ok .next) (k.ok n ys s₀ s4 .next hn ⟨σ3, H3, ⟨acc, cc, r, I4⟩, qn⟩)
      · refine wpAny_mono (T.item X rfl rfl rfl hc i _ s3 σ3 H3 X.xe I3 (stat acc cc fr3) st3 go) (fun r0 s4 ⟨u, hr, h4⟩ => ?_) fun x s' hx => ee n s₀ x s' hx
        subst hr
        refine wpAny_mono h4 (fun _ s5 ⟨x, H5, I5, r5, y5, st5, fr5⟩ => ?_) fun x s' hx => ee n s₀ x s' hx
        have I5' := I5.pinned (stat acc cc fr5) (T.obj _ _ st5)
        refine wpAny_mono (hg.run _ s5 σ3 H5 x u _ I5' r5 (step x H5 y5)) (fun _ s6 ⟨σ6, H6, I6, q6⟩ => ?_) fun x s' hx => ee n s₀ x s' hx
        have gcb : GC X S (ip ++ pinsAt fp s5.heap) A (.forLoop tg (.ref it) body [] X.env) (.ret (fun r => ((match r with | .ok f => (.pure f : Sem Flow) | .error e => .raise e).onRaise (cameBack X.env)).wrap K J0 gd lv) none (gd false) (lv []) c p [] :: fs) id :=
          { gl _ with ip := fun q hq => (List.mem_append.mp hq).elim (fun z => gc.ip q z) fun z => hS _ (of_pinsAt z).1 }
        have back : ∀ {ys7 : List V} {σ7 : St} {H7 : Hp} {s7 : Shared}, GI X S (ip ++ pinsAt fp s5.heap) ys7 σ7 H7 s7 → GI X S ip ys7 σ7 H7 s7 := fun {ys7 σ7 H7 s7} ⟨a7, c7, r7, I7⟩ => ⟨a7, c7, r7, Inv.unpinned (pins := (S, lstObj a7 c7) :: ip) I7⟩
        have again : ∀ {n' : Nat} {s₀' : Shared} {ys7 : List V} {σ7 : St} {H7 : Hp} {s7 : Shared}, n' + ys7.length = sizeLine → GI X S (ip ++ pinsAt fp s5.heap) ys7 σ7 H7 s7 → N ys7 σ7 H7 →
            Seg (model X.prog X.w) A R (GY X S) n' s₀' (.forLoop tg (.ref it) body [] X.env) ((model X.prog X.w).den (.forLoop tg (.ref it) body [] X.env))
              (.ret (fun r => ((match r with | .ok f => (.pure f : Sem Flow) | .error e => .raise e).onRaise (cameBack X.env)).wrap K J0 gd lv) none (gd false) (lv []) c p [] :: fs) s7 := fun {n' s₀' ys7 σ7 H7 s7} hn7 g7 n7 => by
          obtain ⟨m', hm, w7⟩ := hN ys7 σ7 H7 n7
          obtain ⟨a7, c7, r7, I7⟩ := g7
          refine ih m' hm (i + 1) n' ys7 s₀' s7 σ7 H7 hn7 w7 (back ⟨a7, c7, r7, I7⟩) (T.keep _ _ _ st5 fun b hb o e => (I7.pin (b, o) (List.mem_append_right _ (List.mem_cons_of_mem _ (List.mem_append_right _ (mem_pinsAt hb e))))).1) fun b hb => ?_
          obtain ⟨o, e, d⟩ := T.obj _ _ st5 b hb
          exact (I7.pin (b, o) (List.mem_append_right _ (List.mem_cons_of_mem _ (List.mem_append_right _ (mem_pinsAt hb e))))).2.1
        refine hb.run A S (ip ++ pinsAt fp s5.heap) R n ys s₀ _ _ _ _ id id s6 σ6 H6 { D with nx := N, ct := N, bk := D.nx } gcb hn ⟨fun n' ys' s₀' s7 f hn' hs => ?_, fun n' s₀' x s7 hx => ee n' s₀' x s7 hx⟩ ⟨acc, cc, r, I6⟩ q6
        cases f with
        | next =>
          obtain ⟨σ7, H7, I7, n7⟩ := hs
          exact seg_again rfl (again hn' I7 n7)
        | cont =>
          obtain ⟨σ7, H7, I7, n7⟩ := hs
          exact seg_again rfl (again hn' I7 n7)
        | brk =>
          obtain ⟨σ7, H7, I7, n7⟩ := hs
          exact seg_leaf (.ok .next) (k.ok n' ys' s₀' s7 .next hn' ⟨σ7, H7, back I7, n7⟩)
        | ret v =>
          obtain ⟨v7, σ7, H7, I7, r7, n7⟩ := hs
          exact seg_leaf (.ok (.ret v)) (k.ok n' ys' s₀' s7 (.ret v) hn' ⟨v7, σ7, H7, back I7, r7, n7⟩)
  exact loop m0 0 n ys s₀ s2 σ H2 hn w0 ⟨acc0, cc0, r0, I2⟩ st2 fun b hb => (f2 b hb).1
end
end L2

/-! GenStar: a generator def with a star. -/
namespace GSt
open PySem PySem.Spec PyProof.Rows GenW L2
section
variable {P : Program} {w : World} {K : PySem.W.Frag} {mg : Str → Option Value} {base : Heap} {k : Nat} {f : Addr} {name qual : Str} {params : Arguments} {body : List Stmt} {scope : Scope} {dV kV doc pm cdv ct oc : Value} {an od : Option Addr}
  {osl : Array (Option Value)} {N ps : List Str} {A : Around} {outer : List Env} {s s1 s2 : Shared} {H : Hp} {E : XK} {us : List Value} {vs : List V} {Q : List V → Hp → Prop} {go : Obj} {S : Addr}
abbrev Made (s s1 : Shared) (qual : Str) (scope : Scope) (f : Addr) (cdv : Value) (ps : List Str) (us : List Value) : Prop :=
  InCallC s s.heap.objs.size (bindL (envOfC qual scope s.heap.objs.size f cdv).kindOf (ps.zip us) fun _ => none) (cellsFrom (s.heap.objs.size + 1) scope.names []) (bindC (envOfC qual scope s.heap.objs.size f cdv).kindOf (ps.zip us) fun _ => none) s1
/-- what is laid after the frame is none of the frame's -/
theorem young {pn : List (Addr × Obj)} (I : Inv (gcxOf P w K mg base N qual scope f cdv A outer s H E pn) [] (start N vs) H s1) {b : Addr} (hb : s1.heap.objs.size ≤ b) :
    H b = none ∧ b ≠ s.heap.objs.size ∧ b ∉ frs outer ∧ s.heap.objs.size ≤ b ∧ ∀ y c, (cellsFrom (s.heap.objs.size + 1) scope.names []).lookup y = some c → c ≠ b := by
  have lt : s.heap.objs.size < s1.heap.objs.size := I.lt
  refine ⟨I.hok.fresh hb, Nat.ne_of_gt (Nat.lt_of_lt_of_le lt hb), I.nofs hb, Nat.le_of_lt (Nat.lt_of_lt_of_le lt hb), fun y c e z => ?_⟩
  obtain ⟨v, q⟩ := I.cell y c e
  exact absurd (Nat.lt_of_lt_of_le q.lt (z ▸ hb)) (Nat.lt_irrefl _)
/-- the body begins: the generator's own object is pinned, the consumer's list is empty -/
theorem gi_begin (S0 : GScope N ps scope) (hd : A.handled = none) (e0 : Env0 P w K mg base A outer s H) (hl : vs.length = ps.length) (r : Vals vs us) (x : Made s s1 qual scope f cdv ps us) (hos : s2.os = s.os) (hba : AllBare s2.gens)
    (kp : ∀ b o, s1.heap.get? b = some o → s2.heap.get? b = some o) (hS : s1.heap.objs.size < S) (hSo : ∃ c, s2.heap.get? S = some (lstObj #[] c)) (hg : s2.heap.get? s1.heap.objs.size = some go) (hgd : ∀ v, go.data ≠ .cell v) :
    GI (gcxOf P w K mg base N qual scope f cdv A outer s H E [(s1.heap.objs.size, go)]) S [] [] (start N vs) H s2 ∧ Apart (gcxOf P w K mg base N qual scope f cdv A outer s H E [(s1.heap.objs.size, go)]) S := by
  have I1 := inv_startG (E := E) S0 hd e0 hl r x
  obtain ⟨h1, tk, es1, hk1⟩ := x.done
  have I2 : Inv (gcxOf P w K mg base N qual scope f cdv A outer s H E []) [] (start N vs) H s2 :=
    I1.call' (ch := []) (by rw [hos, es1]) (Un.kept kp) (I1.hok.kept kp) hba fun b z => absurd z (by simp)
  obtain ⟨c, hSo⟩ := hSo
  have yg := young I1 (Nat.le_refl _)
  have yS := young I1 (Nat.le_of_lt hS)
  refine ⟨⟨#[], c, .nil, Inv.pinnedG I2 fun p hp => ?_⟩, yS.2.2.2.1, yS.2.1, yS.2.2.2.2⟩
  have hp : p = (s1.heap.objs.size, go) ∨ p = (S, lstObj #[] c) := by simpa using hp
  rcases hp with rfl | rfl
  · exact ⟨hg, yg.1, yg.2.1, yg.2.2.1, hgd⟩
  · exact ⟨hSo, yS.1, yS.2.1, yS.2.2.1, fun v q => nomatch q⟩
theorem gi_pin {a : Addr} {ip : List (Addr × Obj)} {ys : List V} {σ : L2.St} {H' : Hp} {s' : Shared} (h : GI (gcxOf P w K mg base N qual scope f cdv A outer s H E [(a, go)]) S ip ys σ H' s') : s'.heap.get? a = some go ∧ s'.os = s.os ∧ AllBare s'.gens ∧ s'.heap.NoLimit := by
  obtain ⟨acc, c, _, J⟩ := h
  exact ⟨(J.pin (a, go) (List.mem_append_left _ (List.mem_singleton.mpr rfl))).1, J.os, J.bare, J.nolimit⟩
/-- the body run to its end -/
theorem seg_body {a g : Nat} {t : TGn} (hgen : ∀ h : Heap, h.get? a = some go → h.IsGen a g) (hne : a ≠ S) (hG : GI (gcxOf P w K mg base N qual scope f cdv A outer s H E [(a, go)]) S [] [] (start N vs) H s2)
    (hA : Apart (gcxOf P w K mg base N qual scope f cdv A outer s H E [(a, go)]) S) (ht : GSs (gcxOf P w K mg base N qual scope f cdv A outer s H E [(a, go)]) body t)
    (hq : t { nx := fun ys _ H' => Q ys H', rt := fun ys v H' => v = .non ∧ Q ys H' } [] (start N vs) H) :
    Seg (model P w) A (REnd P w outer H s [] S a g Q E) (YItem s S a g) sizeLine s2 (.func body (envOfC qual scope s.heap.objs.size f cdv)) ((model P w).den (.func body (envOfC qual scope s.heap.objs.size f cdv))) [] s2 := by
  refine seg_func (seg_imp (R := GR (gcxOf P w K mg base N qual scope f cdv A outer s H E [(a, go)]) S (fun ys v H' => v = .non ∧ Q ys H') fun e s' => CX P w outer H s E e s' ∧ s'.heap.get? a = some go)
    (Y := GY (gcxOf P w K mg base N qual scope f cdv A outer s H E [(a, go)]) S) (fun n s₀ r s1' hR => ?_) (fun n s₀ v s1' kap kap' hkk hY => ?_) sizeLine ?_)
  · cases r with
    | error e => exact .inr ⟨e, rfl, hR.1, hgen _ hR.2⟩
    | ok fl =>
      cases fl with
      | next => exact hR.elim
      | brk => exact hR.elim
      | cont => exact hR.elim
      | ret u =>
        obtain ⟨ys, v, ip, σ', H', hn, hI, rv, rfl, hQ⟩ := hR
        obtain rfl : u = Value.none := rv
        obtain ⟨h1, _, _, acc, cc, ra, ea⟩ := hI.at
        have hp := gi_pin hI
        obtain ⟨_, _, _, J⟩ := hI
        exact .inl ⟨.inl rfl, H', ys, acc, cc, hp.2.1, hp.2.2.1, J.base, J.hok, h1, ea, ra, by omega, hQ⟩
  · obtain ⟨ys, xx, ip, σ', H', hn, rx, hI, h3⟩ := hY
    obtain ⟨_, _, _, acc, cc, ra, ea⟩ := hI.at
    have hp := gi_pin hI
    have e1 : ys.length = acc.size := by rw [ra.length]; simp
    exact ⟨hp.2.1, hp.2.2.1, hp.2.2.2, hgen _ hp.1, ⟨acc, cc, ea, by omega⟩, fun s' z => hkk _ _ (h3 s' z)⟩
  · refine ht.run A S [] _ sizeLine [] s2 _ [] _ _ id id s2 (start N vs) H _ ⟨fun p hp => ?_, fun p hp => absurd hp (by simp), hA, over_func, rfl, rfl, rfl⟩ rfl ⟨fun n ys s₀ s' fl hn hs => ?_, fun n s₀ e s' hx => ?_⟩ hG hq
    · rw [List.mem_singleton.mp hp]
      exact hne
    · cases fl with
      | next =>
        obtain ⟨σ', H', hI, hQ⟩ := hs
        exact seg_end (.ok (.ret .none)) ⟨ys, .non, [], σ', H', hn, hI, rfl, rfl, hQ⟩
      | brk => exact hs.choose_spec.choose_spec.2.elim
      | cont => exact hs.choose_spec.choose_spec.2.elim
      | ret u =>
        obtain ⟨v, σ', H', hI, rv, rfl, hQ⟩ := hs
        exact seg_end (.ok (.ret u)) ⟨ys, .non, [], σ', H', hn, hI, rv, rfl, hQ⟩
    · refine seg_wrap ?_
      rw [over_func]
      refine wpAny_mono (show wpAny (model P w) (A.deeper (envOfC qual scope s.heap.objs.size f cdv)) (leaving (envOfC qual scope s.heap.objs.size f cdv) e) (fun _ s'' => CX P w outer H s E e s'' ∧ ∀ p ∈ [(a, go)], s''.heap.get? p.1 = some p.2) (fun _ _ => False) s' from hx) (fun _ s'' q => ?_) fun _ s'' q => q.elim
      exact seg_end (.error e) ⟨q.1, q.2 (a, go) (List.mem_singleton.mpr rfl)⟩
/-- what a call of a generator def gives, once its arguments are bound -/
theorem gmade {t : ∀ (A : Around) (pn : List (Addr × Obj)), TGn} (S0 : GScope N ps scope) (mod : Mod K mg base) (bs : ∀ b o, base.get? b = some o → s.heap.get? b = some o ∧ H b = none) (bsz : base.objs.size ≤ s.heap.objs.size) (funs : s.heap.FunFrames base outer) (frf : ∀ b ∈ frs outer, H b = none) (hok : HOk P w H s.heap) (bare : AllBare s.gens) (lim : s.heap.NoLimit)
    (hl : vs.length = ps.length) (r : Vals vs us) (x : Made s s1 qual scope f cdv ps us) (n0 q0 : Value) (tk2 : Nat) (eg : go = { cls := .type "generator", data := .fields #[.int s1.gens.size 0, n0, q0] })
    (hbody : ∀ (A : Around) (pn : List (Addr × Obj)), Room k (A.deeper (envOfC qual scope s.heap.objs.size f cdv)) → GSs (gcxOf P w K mg base N qual scope f cdv A outer s H E pn) body (t A pn) ∧ t A pn { nx := fun ys _ H' => Q ys H', rt := fun ys v H' => v = .non ∧ Q ys H' } [] (start N vs) H) :
    GMade P w (k + 1) outer H s [] Q E (.ref s1.heap.objs.size) { s1 with gens := s1.gens.push (.fresh (.func body (envOfC qual scope s.heap.objs.size f cdv))), toks := tk2, heap := s1.heap.push go } := by
  have lim1 : s1.heap.NoLimit := lim.keeps x.toInCall.keep
  have lt1 : s.heap.objs.size < s1.heap.objs.size := x.toInCall.ns.lt
  have kp1 : ∀ b o, s.heap.get? b = some o → s1.heap.get? b = some o := x.toInCall.keep
  obtain ⟨h1, tk, es1, hk1⟩ := id x.done
  have hp : (s1.heap.push go).get? s1.heap.objs.size = some go := Heap.get?_push_size _ (by rw [eg]; rfl)
  have hgen : ∀ h : Heap, h.get? s1.heap.objs.size = some go → h.IsGen s1.heap.objs.size s1.gens.size := fun h e => ⟨go, n0, q0, e, by rw [eg], by rw [eg], by rw [eg]⟩
  have hsz : (s1.heap.push go).objs.size = s1.heap.objs.size + 1 := Heap.size_push ..
  refine ⟨s1.heap.objs.size, s1.gens.size, _, rfl, Nat.le_of_lt lt1, by rw [hsz]; exact Nat.lt_succ_self _, hgen _ hp, Array.getElem?_push_size .., by rw [es1], AllBare.push (by rw [es1]; exact bare) rfl, lim1.keeps fun b o e => Heap.get?_push_of_some _ e, fun b o e => Heap.get?_push_of_some _ (kp1 b o e), ?_⟩
  intro Aw Sx s2 hrw hfr hSx hk2 hSo hos hba
  have hS : s1.heap.objs.size < Sx := by
    have hSx : (s1.heap.push go).objs.size ≤ Sx := hSx
    rw [hsz] at hSx
    exact hSx
  have e0 : Env0 P w K mg base Aw outer s H := ⟨hfr, mod, bs, bsz, funs, frf, hok, bare⟩
  obtain ⟨ht, hq⟩ := hbody Aw [(s1.heap.objs.size, go)] (hrw.deeper _)
  obtain ⟨hG, hA⟩ := gi_begin (E := E) S0 hrw.hd e0 hl r x hos hba (fun b o e => hk2 b o (Heap.get?_push_of_some _ e)) hS hSo (hk2 _ _ hp) (fun v q => by rw [eg] at q; cases q)
  exact seg_body hgen (Nat.ne_of_lt hS) hG hA ht hq
end
/-- a generator def's promise by positional values: its own tuple may have been laid -/
def GFnR (P : Program) (w : World) (K : PySem.W.Frag) (mg : Str → Option Value) (base : Heap) (k : Nat) (f : Addr) (sp : SpG) : Prop :=
  ∀ (A : Around) (outer : List Env) (s : Shared) (H : Hp) (us : List Value) (vs : List V) (Q : List V → Hp → Prop) (E : XK), Room k A → Env0 P w K mg base A outer s H → Vals vs us → sp vs H Q E →
    codeAny (model P w) A (.call (.ref f) ⟨us, []⟩) (fun r s' => match r with | .ok (.ret u) => ∃ (H2 : Hp) (s2 : Shared), (∀ (X : Cx) (pins : List (Addr × Obj)) (σ : L2.St), X.prog = P → X.w = w → Inv X pins σ H s → Inv X pins σ H2 s2) ∧ GMade P w k outer H2 s2 [] Q E u s' | _ => False) s
section
variable {P : Program} {w : World} {K : PySem.W.Frag} {mg : Str → Option Value} {base : Heap} {k : Nat} {f : Addr} {name qual : Str} {params : Arguments} {body : List Stmt} {scope : Scope} {dV kV doc pm cdv ct oc : Value} {an od : Option Addr}
  {osl : Array (Option Value)} {N ps : List Str} {sp : SpG}
/-- THE RULE: a generator def with a star, by its body -/
theorem gfn_star {pv : Str} (lk : K.lookup f = some ⟨oc, od, .func (PySem.W.fnOf name qual params body scope dV kV doc pm an cdv ct), osl⟩) (hcd : PySem.W.codeIn K cdv qual = true) (S : GScope N (ps ++ [pv]) scope)
    (hb : ∀ us rest : List Value, us.length = ps.length → bindArgs (PySem.W.fnOf name qual params body scope dV kV doc pm an cdv ct) ⟨us ++ rest, []⟩ = (newTuple rest >>= fun t => pure (ps.zip us ++ [(pv, t)])))
    (hbody : ∀ (A : Around) (outer : List Env) (s : Shared) (H : Hp) (vs : List V) (Q : List V → Hp → Prop) (E : XK) (pn : List (Addr × Obj)), Room k (A.deeper (envOfC qual scope s.heap.objs.size f cdv)) → sp vs H Q E →
      ∃ t, GSs (gcxOf P w K mg base N qual scope f cdv A outer s H E pn) body t ∧ t { nx := fun ys _ H' => Q ys H', rt := fun ys v H' => v = .non ∧ Q ys H' } [] (start N vs) H) :
    GFnR P w K mg base (k + 1) f (fun vs H Q E => ∃ ws rest, vs = ws ++ rest ∧ ws.length = ps.length ∧ rest.length ≤ sizeLine ∧ ∀ p, H p = Option.none → sp (ws ++ [V.ref p]) (upd H p (.tup rest)) Q E) := by
  intro A outer s H us vs Q E hr e0 r hsp
  obtain ⟨ws, rest, ev, hl, hz, hq⟩ := hsp
  subst ev
  obtain ⟨u1, u2, eu, r1, r2⟩ := StX.vals_split r
  subst eu
  have hn : H s.heap.objs.size = Option.none := e0.hok.fresh (Nat.le_refl _)
  have hl1 : u1.length = ps.length := by rw [← r1.length]; exact hl
  have hl2 : u2.length ≤ sizeLine := by rw [← r2.length]; exact hz
  have KX : K.In s.heap := e0.mod.kin.keeps fun b o e => (e0.bs b o e).1
  refine codeAny_call_generator hr.depth (KX _ _ lk) rfl S.co S.gen rfl (PySem.W.codeRec_of KX hcd) ?_
  rw [hb u1 u2 hl1]
  refine wpAny_bind (wpAny_newTuple (wpAny_pure ?_) hl2)
  have new : ObjOk P w (upd H s.heap.objs.size (.tup rest)) (s.heap.push ({ cls := .type "tuple", data := .seq u2.toArray } : Obj)) s.heap.objs.size (.tup rest) := ⟨hz, u2, r2, ⟨_, Heap.get?_push_size _ rfl, rfl, _, rfl⟩⟩
  have e2 := StX.env0_laid e0 new
  have conv : ∀ (X : Cx) (pins : List (Addr × Obj)) (σ : L2.St), X.prog = P → X.w = w → Inv X pins σ H s → Inv X pins σ (upd H s.heap.objs.size (.tup rest)) { s with heap := s.heap.push ({ cls := .type "tuple", data := .seq u2.toArray } : Obj) } := fun X pins σ eP ew I => by
    subst eP ew
    exact I.laid (t' := s.toks) (fun b o q => Heap.get?_push_of_some _ q) (Nat.le_refl _) new
  have hq := hq _ hn
  have rr : Vals (ws ++ [V.ref s.heap.objs.size]) (u1 ++ [Value.ref s.heap.objs.size]) := r1.append (.cons rfl .nil)
  have ll : (ws ++ [V.ref s.heap.objs.size]).length = (ps ++ [pv]).length := by rw [List.length_append, List.length_append, hl] <;> rfl
  have ez : ps.zip u1 ++ [(pv, Value.ref s.heap.objs.size)] = (ps ++ [pv]).zip (u1 ++ [Value.ref s.heap.objs.size]) := by rw [List.zip_append hl1.symm] <;> rfl
  rw [ez]
  generalize hs2 : ({ s with heap := s.heap.push ({ cls := .type "tuple", data := .seq u2.toArray } : Obj) } : Shared) = s2 at e2 conv
  have hkind : ∀ y ∈ (ps ++ [pv]).zip (u1 ++ [Value.ref s.heap.objs.size]), scope.names.lookup y.1 = some .local ∨ (scope.names.lookup y.1 = some .cell ∧ ((cellsFrom (s2.heap.objs.size + 1) scope.names []).lookup y.1).isSome = true) := fun y hy => by
    rcases S.par y.1 (List.of_mem_zip hy).1 with q | q
    · exact .inl q
    · exact .inr ⟨q, PySem.W.cellsFrom_some _ _ _ (.inl q)⟩
  have lim2 : s2.heap.NoLimit := e2.mod.nolimit.keeps fun b o e => (e2.bs b o e).1
  refine wpAny_newFunctionEnv_cells (s := s2) S.kind hkind fun env he s1 x => ?_
  subst he
  refine ⟨lim2.keeps x.toInCall.keep, _, s2, conv, ?_⟩
  classical
  refine gmade (t := fun A' pn => if h : Room k (A'.deeper (envOfC qual scope s2.heap.objs.size f cdv)) then (hbody A' outer s2 _ _ Q E pn h hq).choose else fun _ _ _ _ => True) S e2.mod e2.bs e2.bsz e2.funs e2.frf e2.hok e2.bare lim2 ll rr x _ _ _ rfl fun A' pn h => ?_
  rw [dif_pos h]
  exact (hbody A' outer s2 _ _ Q E pn h hq).choose_spec
end
section
variable {X : Cx} {k : Nat} {f : Addr} {sp : SpG} {E : XK} {e : Expr} {es : List Expr} {t : TA} {x : Str} {p pos' : Pos}
/-- f(e, ..) of a generator def with a star -/
theorem pgen_callR (F : GFnR X.prog X.w X.K X.mg X.base k f sp) (hr : Room k X.A) (hg : Gl X x) (hm : X.mg x = some (.ref f)) (hk : PySem.W.keepIn X.K (.ref f) = true)
    (ha : PA X (e :: es) t) (hdb : (x == ("__debug__" : Str)) = false := by decide) (he : starEach (e :: es) X.env = (false, eval e X.env) :: starEach es X.env := by rfl) (hpl : (backTo pos' (starEach es X.env)).any (·.1) = false := by rfl) :
    PGen X k (.Call (.Name x p) (e :: es) [] pos') (tCallG sp [] E t) E := by
  refine ⟨fun pins s σ H cont I h => ?_⟩
  refine wpAny_Call_Name_kw (ld_glob I hg hm ?_ hdb)
  refine PySem.W.callWith_K (h₀ := X.base) I.ok.mod.kin hk (thn (ha.run pos' pins s σ H _ I h) fun us s1 ⟨vs, H1, I1, r, q⟩ => ⟨I1.kIn, ?_⟩) he hpl
  have q : sp (vs ++ []) H1 cont E := q
  rw [List.append_nil] at q
  refine wpAny_call (codeAny_mono (F X.A X.stack s1 H1 us vs cont E hr I1.env0 r q) fun r s' hq => ?_)
  cases r with
  | error e => exact False.elim hq
  | ok fl =>
    cases fl with
    | ret u =>
      obtain ⟨H2, s2, conv, hG⟩ := hq
      exact ⟨H2, s2, [], conv X pins σ rfl rfl I1, .nil, hG⟩
    | next => exact False.elim hq
    | brk => exact False.elim hq
    | cont => exact False.elim hq
end
/-- a generator's for over what walks: Pv by the turn, what is out, the slots and the heap -/
theorem gfor_it {J : It} {n : Nat} {G : Hp → Prop} {Y : Nat → Hp → V → Hp → Prop} (w : Walk J n G Y) {g : TG} {tb : TGn} {D : GEnds} {ys : List V} {σ : L2.St} {H : Hp} (Pv : Nat → List V → L2.St → Hp → Prop) (h0 : Pv 0 ys σ H) (hG : ∀ i ys σ H, i ≤ n → Pv i ys σ H → G H)
    (hs : ∀ i x ys σ H H', i < n → Pv i ys σ H → Y i H x H' → g x σ H' fun σ2 H2 => tb { D with nx := Pv (i + 1), ct := Pv (i + 1), bk := D.nx } ys σ2 H2) (hd : ∀ ys σ H, Pv n ys σ H → D.nx ys σ H) :
    ∃ W : Nat → Nat → List V → L2.St → Hp → Prop, (∃ m, W 0 m ys σ H) ∧ ∀ i m ys σ H, W i m ys σ H →
      (J.stop i H ∧ D.nx ys σ H) ∨ (J.go i H ∧ ∃ N : List V → L2.St → Hp → Prop, (∀ ys' σ' H', N ys' σ' H' → ∃ m', m' < m ∧ W (i + 1) m' ys' σ' H') ∧ ∀ x H', J.yld i H x H' → g x σ H' fun σ2 H2 => tb { D with nx := N, ct := N, bk := D.nx } ys σ2 H2) := by
  refine ⟨fun i m ys σ H => m = n - i ∧ i ≤ n ∧ Pv i ys σ H, ⟨n, rfl, Nat.zero_le _, h0⟩, ?_⟩
  rintro i m ys σ H ⟨rfl, hi, p⟩
  have q := hG i ys σ H hi p
  rcases Nat.lt_or_ge i n with hlt | hge
  · exact .inr ⟨w.goes i H hlt q, Pv (i + 1), fun ys' σ' H' p' => ⟨n - (i + 1), by omega, rfl, hlt, p'⟩, fun x H' y => hs i x ys σ H H' hlt p (w.yields i H x H' hlt q y)⟩
  · obtain rfl : i = n := by omega
    exact .inl ⟨w.stops H q, hd ys σ H p⟩
end GSt

/-! SupX: a def of an own exception class whose first statement is super().__init__(e). -/
namespace SupX
open PySem PySem.Spec PyProof.Rows L2 NdefX

theorem fs_lt {X : Cx} (ok : X.Ok) {b : Addr} (hb : b ∈ X.fs) : b < X.s_0.heap.objs.size := by
  obtain ⟨_, o, e, _⟩ := ok.funs.mem hb
  exact Heap.lt_size e
/-- a new object is pinned -/
theorem inv_pinNew {X : Cx} {pins : List (Addr × Obj)} {σ : L2.St} {H : Hp} {s : Shared} {h' : Heap} {a : Addr} {o : Obj} {t' : Nat} (I : Inv X pins σ H s) (k : ∀ b u, s.heap.get? b = some u → h'.get? b = some u) (ha : s.heap.objs.size ≤ a) (e : h'.get? a = some o) (hd : ∀ v, o.data ≠ .cell v) :
    Inv X (pins ++ [(a, o)]) σ H { s with heap := h', toks := t' } := by
  have J : Inv X pins σ H { s with heap := h', toks := t' } := I.kept k
  refine J.pins_of fun p hp => (List.mem_append.mp hp).elim (fun z => J.pin p (List.mem_append_right _ z)) fun z => ?_
  obtain rfl : p = (a, o) := by simpa using z
  refine ⟨e, I.hok.fresh ha, fun z => ?_, fun z => ?_, hd⟩
  · have z' : a = X.env.locals := z
    exact absurd I.lt (by rw [← z']; exact Nat.not_lt.mpr ha)
  · exact absurd (show a < X.s_0.heap.objs.size from fs_lt I.ok z) (Nat.not_lt.mpr (Nat.le_trans I.sz ha))
/-- what the written part says of super() in the class D -/
structure SupD (P : Program) (K : PySem.W.Frag) (cc D : Addr) : Prop where
  cell : ∃ cl cld csl, K.lookup cc = some ⟨cl, cld, .cell (some (.ref D)), csl⟩
  is : ∃ cdD, PySem.W.clsIn K D = some cdD
  mro : PySem.W.mroIn K D (.ref D) = some true
  sup : PySem.W.ks_superIn K D D "__init__" = some (some (.builtin "ValueError.__init__"))
  sub : PySem.W.subIn K (.ref D) (.type "ValueError") = some true
  opq : PySem.W.nsIn K cStatics "thirdparty.any" = some none
  top : (P.main.scope.names.lookup ("super" : Str)).isSome = false
/-- the reading of super().__init__(e): nothing of it is told -/
def tSup (K : PySem.W.Frag) (D : Addr) (ta : TA) : TS := fun En σ H => ∃ a : Addr, σ[0]? = some (some (.ref a)) ∧ H a = some (exo a D none) ∧ ta σ H fun vs H1 => vs.length ≤ 1000 ∧ H1 a = some (exo a D none) ∧ OexC K D ∧ En.nx σ H1
section
variable {X : Cx} {cc D : Addr}
open PySem.W in
/-- the call of the wrapper -/
theorem call_mw {pins : List (Addr × Obj)} {σ : L2.St} {H : Hp} {s : Shared} {E : Value → Shared → Prop} {Q : Value → Shared → Prop} {u a : Addr} {us : List Value} (T : OexC X.K D) (I : Inv X pins σ H s) (hu : s.heap.get? u = some (kxs_mw "ValueError.__init__" a)) (e : H a = some (exo a D none)) (hl : us.length ≤ sizeLine)
    (h : ∀ s', Inv X pins σ H s' → Q .none s') : wpAny (model X.prog X.w) X.A (call (.ref u) us) Q E s := by
  obtain ⟨nm, q, N, bs, bm, sn, sub, ab, col, dd, k0, k1, k2, k3, k5, hC, hbm⟩ := T.cls
  obtain ⟨t1, ho⟩ := exo_at I.hok e
  have hC' := I.kIn _ _ hC
  have fin : ∀ (h' : Heap) (t2 : Addr), (∀ b o, b ≠ a → s.heap.get? b = some o → h'.get? b = some o) → h'.get? a = some (excObj D t2 none .none) → Q .none { s with heap := h' } := fun h' t2 k hx => by
    have J := I.write (t' := s.toks) (x := a) (e := a) (o := exo a D none) (by rw [e]; exact True.intro) (.inl rfl) k ⟨_, hx⟩ (exo_ok hx)
    have eu : upd H a (exo a D none) = H := by
      funext b
      by_cases hb : b = a
      · rw [hb, upd_same, e]
      · rw [upd_ne hb]
    rw [eu] at J
    exact h _ J
  obtain ⟨hh, g, d, tk, os⟩ := s
  refine wpAny_call (codeAny_of_tree ?_)
  show wpAny _ X.A.in1 (callAny (.ref u) ⟨us, []⟩) _ _ _
  simp only [callAny]
  refine wpAny_bind (wpAny_load hu ?_)
  simp only [kxs_mw, show (Value.type "method-wrapper" == Value.type "method" || Value.type "method-wrapper" == Value.type "builtin_function_or_method" || Value.type "method-wrapper" == Value.type "method-wrapper") = true by decide, if_true]
  refine KFB.if_so (by decide) ?_
  refine wpAny_bind (check_bound_init PySem.F.excBase_ValueError.toExcCallFacts hC' ho rfl ?_)
  refine wpAny_bind (wpAny_pure (wpAny_pure ?_))
  refine ⟨plainId_quiet PySem.F.excBase_ValueError.init.plain _, codeAny_builtin PySem.F.excBase_ValueError.initEntry ?_⟩
  exact exc_init_tree (cls := .ref D) (t0 := t1) (dv := none) (c2 := .none) (c3 := .none) (b4 := .bool false) ho hl fun h' k hx _ => fin h' _ k hx

/-- super().__init__(e) as the first statement of the def's body -/
theorem at_sup {pins : List (Addr × Obj)} {σ : L2.St} {H : Hp} {s : Shared} {En : Ends} {body : List Stmt} {f cd : Addr} {fo : Obj} {fd : FuncData} {ar : Arg} {e : Expr} {ta : TA} {p0 p1 p2 p3 p4 : Pos} {pl : Sem Bool} {file : Str} {vs : Array Value} {tf : Tok} {lf : Obj} {R : Flow → Shared → Prop}
    (Z : SupD X.prog X.K cc D) (hfu : X.env.func = some f) (lk : X.K.lookup f = some fo) (hfd : fo.data = .func fd) (hp : (fd.params.posonlyargs ++ fd.params.args).head? = some ar) (hco : X.env.code = .ref cd) (lc : X.K.lookup cd = some lf) (hlf : lf.data = .fields vs) (hv2 : vs[2]? = some (.str file tf)) (hfile : ((X.prog.main.file : Str) == file) = true)
    (hcl : X.env.cells.lookup ("__class__" : Str) = some cc) (hks : X.env.kindOf ("super" : Str) = some .globalImplicit) (hkc : X.env.kindOf ("__class__" : Str) = some .free) (hm : X.mg ("super" : Str) = none) (hN : X.N[0]? = some ar.arg) (hka : X.env.scope.names.lookup ar.arg = some .local)
    (ha : PA X [e] ta) (hint : interactive X.env = false) (I : Inv X pins σ H s) (h : tSup X.K D ta En σ H) (hR : ∀ s', SP X pins En .next s' → R .next s')
    (hs : swapsWith (.Call (.Attribute (.Call (.Name "super" p0) [] [] p1) "__init__" p2) [e] [] p3) none p4.line X.env = pure false := by rfl)
    (he : starEach [e] X.env = (false, eval e X.env) :: starEach [] X.env := by rfl)
    (hev : eval (.Call (.Attribute (.Call (.Name "super" p0) [] [] p1) "__init__" p2) [e] [] p3) X.env = (do
      let ov ← attributeBase (.Call (.Name "super" p0) [] [] p1) "__init__" X.env (eval (.Call (.Name "super" p0) [] [] p1) X.env)
      standAt p2.atName
      let (f, first) ← holding [ov] (getMethod ov "__init__" pl)
      callWith p3 f first (backTo p3 (starEach [e] X.env)) []) := by rfl) :
    _root_.PySem.wpAt (model X.prog X.w) X.A (.func body X.env) (exec (.Expr (.Call (.Attribute (.Call (.Name "super" p0) [] [] p1) "__init__" p2) [e] [] p3) p4) X.env) R X.xe s := by
  obtain ⟨a, hσ, h⟩ := h
  obtain ⟨cl, cld, csl, hcell⟩ := Z.cell
  obtain ⟨cdD, hD⟩ := Z.is
  have KI := I.kIn
  obtain ⟨oD, hD1, hD2⟩ : ∃ oD, s.heap.get? D = some oD ∧ oD.data = .cls cdD := by
    unfold PySem.W.clsIn at hD
    split at hD
    · rename_i c d cd' sl ho
      cases hD
      exact ⟨_, KI _ _ ho, rfl⟩
    · cases hD
  obtain ⟨m, hn, hl⟩ := I.loc
  obtain ⟨u, ru, hlook⟩ := hl 0 ar.arg (.ref a) hN hσ (.inl hka)
  obtain rfl : u = Value.ref a := ru
  have hma : m ar.arg = some (.ref a) := by
    rcases hlook with ⟨_, z⟩ | ⟨z, _⟩
    · exact z
    · have z' : X.env.scope.names.lookup ar.arg = some .cell ∨ X.env.scope.names.lookup ar.arg = some .free := z
      rw [hka] at z'
      rcases z' with z' | z' <;> cases z'
  refine ks_wpAt_Expr_any (ks_wpAt_MethodCall (pl := pl) ?_ hev) hint hs
  refine ks_wpAt_super_base (f := f) (cc := cd) hks hkc (by decide) hfu (KI _ _ lk) hfd hp hco (KI _ _ lc) hlf hv2 hfile Z.top ?_
  obtain ⟨mb, h1, h2⟩ := I.mod.blt
  refine PySem.W.ks_loadName_global I.ok.kind hks (Calls.loadGlobal_builtin (by rw [I.ok.glob]; exact I.mod.glob.keeps I.bk) hm (by rw [I.ok.blt]; exact h1.keeps I.bk) ((h2 "super" (by decide)).trans PyProof.Rows.Boot.«super») ⟨rfl, ?_⟩)
  refine wpAny_loadName_free I.ok.kind hkc hcl ⟨_, KI _ _ hcell, rfl⟩ ?_
  refine wpAny_loadName_local I.ok.kind hka hn hma ?_
  refine ks_wpAny_isType_cls hD1 hD2 ⟨rfl, ?_⟩
  obtain ⟨t1, ho⟩ := exo_at I.hok h.1
  have hta := h.2
  have hsup := Z.sup
  unfold PySem.W.ks_superIn at hsup
  rw [hD] at hsup
  obtain ⟨hh, g, d, tk, os⟩ := s
  refine ks_wpAny_call_super hD1 hD2 ho rfl (fun c z => nomatch z) (PySem.W.looks_mroIn KI Z.mro) (fun h' eso k => ?_)
  have I1 : Inv X pins σ H ⟨h', g, d, tk, os⟩ := I.kept (t' := tk) k
  have IA : PySem.W.InstAt h' a { cls := .ref D, dict := none, data := .fields #[.ref t1, .none, .none, .none, .bool false, .none] } D none := ⟨k _ _ ho, rfl, rfl, True.intro⟩
  refine PySem.W.kxs_getMethod PySem.W.kxs_ValueError eso (PySem.W.looks_opaque I1.kIn Z.opq) (l₀ := cdD.mro) (fun A Q E s k q => wpAny_bind ((PySem.W.looks_clsIn I1.kIn hD) A _ E s k (wpAny_pure q))) rfl I1.kIn hsup (IA.type.andThen (PySem.W.looks_subIn I1.kIn Z.sub)) (PySem.W.ks_ne I1.kIn IA hD) (by decide) ?_
  have I2 := inv_pinNew (t' := tk + 1) (o := PySem.W.kxs_mw "ValueError.__init__" a) (a := h'.objs.size) (h' := h'.push (PySem.W.kxs_mw "ValueError.__init__" a)) I1 (fun b o e => Heap.get?_push_of_some _ e) (Nat.le_refl _) (Heap.get?_push_size _ rfl) (fun v z => nomatch z)
  refine PySem.W.kxs_callWith (i := "ValueError.__init__") (x := a) (by rw [he]; rfl) ?_
  have hrun := ha.run p3 _ _ σ H _ I2 hta
  rw [he] at hrun ⊢
  refine Calls.evalArgs_plain (thn hrun fun us s1 ⟨vs1, H1, I3, r1, hlen, ea, T, q⟩ => ?_)
  have hpin := (I3.pin (h'.objs.size, PySem.W.kxs_mw "ValueError.__init__" a) (List.mem_append_right _ (List.mem_append_right _ (List.mem_singleton.mpr rfl)))).1
  refine ⟨hpin, call_mw T I3 hpin ea ?_ fun s' J => hR s' ⟨σ, H1, J.unpinned, q⟩⟩
  rw [List.nil_append, ← Paired.length r1, sizeLine_eq]
  omega
end
open PySem.W in
/-- THE RULE: a def whose first statement is super().__init__(e), by its body -/
theorem fn_sup {CX : CXT} {P : Program} {w : World} {K : PySem.W.Frag} {mg : Str → Option Value} {base : Heap} {k : Nat} {f cc D cd : Addr} {name qual : Str} {params : Arguments} {scope : Scope} {rest : List Stmt} {dV kV doc pm ct oc : Value} {an od : Option Addr}
    {osl : Array (Option Value)} {N ps : List Str} {sp : Sp} {ar : Arg} {lf : Obj} {vs0 : Array Value} {file : Str} {tf : Tok} {e : Expr} {p0 p1 p2 p3 p4 : Pos} {pl : Env → Sem Bool}
    (lk : K.lookup f = some ⟨oc, od, .func (fnX name qual params (.Expr (.Call (.Attribute (.Call (.Name "super" p0) [] [] p1) "__init__" p2) [e] [] p3) p4 :: rest) scope [("__class__", cc)] dV kV doc pm an (.ref cd) ct), osl⟩) (hcd : codeIn K (.ref cd) qual = true)
    (Z : SupD P K cc D) (S : NScope N ps ["__class__"] scope) (hp : (params.posonlyargs ++ params.args).head? = some ar) (lc : K.lookup cd = some lf) (hlf : lf.data = .fields vs0) (hv2 : vs0[2]? = some (.str file tf)) (hfile : ((P.main.file : Str) == file) = true)
    (hks : scope.names.lookup ("super" : Str) = some .globalImplicit) (hm : mg ("super" : Str) = none) (hN : N[0]? = some ar.arg) (hka : scope.names.lookup ar.arg = some .local)
    (len : ∀ vs H Q E, sp vs H Q E → vs.length = ps.length)
        (hev : ∀ env : Env, eval (.Call (.Attribute (.Call (.Name "super" p0) [] [] p1) "__init__" p2) [e] [] p3) env = (do
      let ov ← attributeBase (.Call (.Name "super" p0) [] [] p1) "__init__" env (eval (.Call (.Name "super" p0) [] [] p1) env)
      standAt p2.atName
      let (f, first) ← holding [ov] (getMethod ov "__init__" (pl env))
      callWith p3 f first (backTo p3 (starEach [e] env)) []))
    (hstar : ∀ env : Env, starEach [e] env = (false, eval e env) :: starEach [] env)
    (hbody : ∀ (A : Around) (outer : List Env) (s : Shared) (H : Hp) (vs : List V) (Q : VK) (E : XK), Room k (A.deeper (envF ⟨name, qual, params, .Expr (.Call (.Attribute (.Call (.Name "super" p0) [] [] p1) "__init__" p2) [e] [] p3) p4 :: rest, scope, [("__class__", cc)], cd⟩ f s.heap.objs.size)) → sp vs H Q E →
      ∃ ta t, PA (ncx CX P w K mg base N ⟨name, qual, params, .Expr (.Call (.Attribute (.Call (.Name "super" p0) [] [] p1) "__init__" p2) [e] [] p3) p4 :: rest, scope, [("__class__", cc)], cd⟩ f A outer s H E) [e] ta ∧
        PSs (ncx CX P w K mg base N ⟨name, qual, params, .Expr (.Call (.Attribute (.Call (.Name "super" p0) [] [] p1) "__init__" p2) [e] [] p3) p4 :: rest, scope, [("__class__", cc)], cd⟩ f A outer s H E) rest t ∧
        tSup K D ta { nx := t { nx := fun _ H' => Q .non H', rt := Q }, rt := fun _ _ => False } (startF N vs [none]) H) :
    FnOk P w K mg base CX (k + 1) f (fnX name qual params (.Expr (.Call (.Attribute (.Call (.Name "super" p0) [] [] p1) "__init__" p2) [e] [] p3) p4 :: rest) scope [("__class__", cc)] dV kV doc pm an (.ref cd) ct) ps sp := by
  refine ⟨len, fun A outer s H args us vs Q E hr e0 hb r hsp => ?_⟩
  have hl := len _ _ _ _ hsp
  have KX : K.In s.heap := e0.mod.kin.keeps fun b o e => (e0.bs b o e).1
  have lim : s.heap.NoLimit := e0.mod.nolimit.keeps fun b o e => (e0.bs b o e).1
  obtain ⟨cl, cld, csl, hcell⟩ := Z.cell
  have hbc := e0.bs _ _ (e0.mod.kin _ _ hcell)
  have look1 : ∀ {y : Str} {c : Addr}, List.lookup y [(("__class__" : Str), cc)] = some c → y = "__class__" ∧ c = cc := fun {y c} z => by
    rw [List.lookup_cons] at z
    split at z
    · rename_i q
      exact ⟨by simpa using q, (Option.some.inj z).symm⟩
    · cases z
  have C : CellsAt [(("__class__" : Str), cc)] ["__class__"] [none] s.heap H := ⟨rfl, fun y c z => by
      obtain ⟨_, rfl⟩ := look1 z
      exact ⟨hbc.2, _, _, hbc.1, rfl⟩, fun x y c z1 z2 => (look1 z1).1.trans (look1 z2).1.symm, fun i y z => by
      cases i with
      | zero =>
        cases z
        exact ⟨cc, rfl, fun v z => by cases z⟩
      | succ i => cases z⟩
  refine ks_codeAny_call_defAt (binds := ps.zip us) hr.depth (KX _ _ lk) rfl lim (codeRec_of KX hcd) rfl hb S.nocell (fun ⟨n, _⟩ hy => S.par n (List.of_mem_zip hy).1) (fun h₁ hns kp => ?_) S.co S.gen S.kind
  obtain ⟨ta, t, hta, ht, hq⟩ := hbody A outer s H vs Q E (hr.deeper _) hsp
  have I : Inv (ncx CX P w K mg base N ⟨name, qual, params, .Expr (.Call (.Attribute (.Call (.Name "super" p0) [] [] p1) "__init__" p2) [e] [] p3) p4 :: rest, scope, [("__class__", cc)], cd⟩ f A outer s H E) [] (startF N vs [none]) H { s with heap := h₁, toks := s.toks + (ps.zip us).length } := inv_startN S hr.hd e0 hl r C hns kp
  refine ks_wpAt_execs_cons ?_
  refine at_sup (X := ncx CX P w K mg base N ⟨name, qual, params, .Expr (.Call (.Attribute (.Call (.Name "super" p0) [] [] p1) "__init__" p2) [e] [] p3) p4 :: rest, scope, [("__class__", cc)], cd⟩ f A outer s H E) (En := { nx := t { nx := fun _ H' => Q .non H', rt := Q }, rt := fun _ _ => False }) (cc := cc) Z rfl lk rfl hp rfl lc hlf hv2 hfile rfl hks (S.frk _ (List.mem_singleton.mpr rfl)) hm hN hka hta (by unfold interactive; rw [show (Cx.env (ncx CX P w K mg base N ⟨name, qual, params, .Expr (.Call (.Attribute (.Call (.Name "super" p0) [] [] p1) "__init__" p2) [e] [] p3) p4 :: rest, scope, [("__class__", cc)], cd⟩ f A outer s H E)).scope.kind = .function from S.kind]; rfl) I hq (fun s' hs => ?_) rfl (hstar _) (hev _)
  obtain ⟨σ1, H1, I1, q1⟩ := hs
  refine wpAt_of_wpAny (wpAny_mono (ht.run [] _ σ1 H1 _ I1 q1) (fun fl s' hs => ?_) fun e s' hs => hs)
  have fin : ∀ {σ' : L2.St} {H' : Hp} {v : V} {u : Value}, Inv (ncx CX P w K mg base N ⟨name, qual, params, .Expr (.Call (.Attribute (.Call (.Name "super" p0) [] [] p1) "__init__" p2) [e] [] p3) p4 :: rest, scope, [("__class__", cc)], cd⟩ f A outer s H E) [] σ' H' s' → L2.RelV v u → Q v H' → CE outer P w H s Q u s' :=
    fun {σ' H' v u} J rv q => ⟨v, H', J.os, J.bare, J.base, J.hok, rv, q⟩
  cases fl with
  | ret u =>
    obtain ⟨v, σ', H', J, rv, q⟩ := hs
    exact fin J rv q
  | next =>
    obtain ⟨σ', H', J, q⟩ := hs
    exact fin (v := V.non) (u := Value.none) J rfl q
  | brk =>
    obtain ⟨_, _, _, q⟩ := hs
    exact False.elim q
  | cont =>
    obtain ⟨_, _, _, q⟩ := hs
    exact False.elim q
end SupX

/-! ClsV: an instance made of a class that a slot holds; o.m( *e), e a list or a tuple. -/
namespace ClsV
open PySem PySem.Spec PyProof.Rows L2
section
variable {X : Cx} {CX : CXT} {k i : Nat} {f C g : Addr} {fd : FuncData} {ps : List Str} {ds : List Value} {dvs : List V} {sp : Sp} {E : XK} {x m : Str} {p pos apos : Pos} {e o : Expr} {es : List Expr} {t : TA} {ta te : TE}
def tMakeV (i : Nat) (C : Addr) (sp : Sp) (dvs : List V) (E : XK) (t : TA) : TE := fun σ H Q => σ[i]? = some (some (.ref C)) ∧ tMake C sp dvs E t σ H Q
theorem pe_makeV (M : Mk X.K C f) (F : FnOk X.prog X.w X.K X.mg X.base CX k f fd ps sp) (hr : Room (k + 1) X.A) (hN : X.N[i]? = some x) (hv : Vis X.env.scope x) (hb : Binds X.K fd ps ds) (hd : Vals dvs ds) (hx : Passes CX X E)
    (ha : PA X (e :: es) t) (hdb : (x == ("__debug__" : Str)) = false := by decide) (hcd : (x == ("__classdict__" : Str)) = false := by decide) (he : starEach (e :: es) X.env = (false, eval e X.env) :: starEach es X.env := by rfl) (hpl : (backTo pos (starEach es X.env)).any (·.1) = false := by rfl) :
    PE X (.Call (.Name x p) (e :: es) [] pos) (tMakeV i C sp dvs E t) := by
  refine ⟨fun pins s σ H Q I h => ?_⟩
  obtain ⟨at_, h⟩ := h
  refine wpAny_Call_Name_kw (thn ((pe_var (pos := p) (i := i) hN hv hdb hcd).run pins s σ H (fun v H2 => v = .ref C ∧ H2 = H) I ⟨.ref C, at_, rfl, rfl⟩) fun u s2 ⟨v, H2, J, rv, qv⟩ => ?_)
  obtain ⟨ev, eH⟩ := qv
  subst ev
  rw [eH] at J
  obtain rfl : u = Value.ref C := rv
  refine PySem.W.callWith_K (h₀ := X.base) J.ok.mod.kin M.kp (thn (ha.run pos pins s2 σ H _ J h) fun us s1 ⟨vs, H1, I1, r, q⟩ => ⟨I1.kIn, ?_⟩) he hpl
  exact run_make M F hr hb hd hx I1 r q
def tMethSA (K : PySem.W.Frag) (C : Addr) (m : Str) (g : Addr) (sp : Sp) (E : XK) (ta te : TE) : TE := fun σ H Q => ta σ H fun x H1 => ∃ a dx fs, x = .ref a ∧ H1 a = some (.ins C dx fs) ∧ fs.lookup m = none ∧
  ∀ q, H1 q = none → te σ (upd H1 q (.met g a)) fun y H2 => ∃ b vs, y = .ref b ∧ (SqT K H2 b vs ∨ SqL K H2 b vs) ∧ H2 q = some (.met g a) ∧ sp (.ref a :: vs) H2 Q E
theorem pe_methSA (he : PE X o ta) (c : Cls X.K C) (b : BMeth X.K C m g) (F : FnR X.prog X.w X.K X.mg X.base CX k g sp) (hr : Room k X.A)
    (hx : Passes CX X E) (ha : PE X e te) (hbase : attributeBase o m X.env (eval o X.env) = eval o X.env := by rfl) : PE X (.Call (.Attribute o m apos) [.Starred e p] [] pos) (tMethSA X.K C m g sp E ta te) := by
  refine ⟨fun pins s σ H Q I h => ?_⟩
  refine starcall_of hbase (thn (he.run pins s σ H _ I h) fun u s1 ⟨x, H1, I1, rx, a, dx, fs, ex, ea, l, q⟩ => ?_)
  subst ex
  obtain rfl : u = Value.ref a := rx
  refine getbound_ok I1 ea c b l fun q1 s2 hq1 I2 => ?_
  refine PySem.W.ks_call (P := PySem.W.MethP X.K q1 g (.ref a)) rfl (PySem.W.keeps_M b.fi) (PySem.W.ks_lone ?_)
  refine thn (ha.run pins s2 σ _ _ I2 (q q1 hq1)) fun v s3 ⟨y, H2, I3, ry, t, vs, ey, ht, hm, hsp⟩ => ?_
  subst ey
  obtain rfl : v = Value.ref t := ry
  refine StX.star_any I3 ht fun us s4 I4 rv => ⟨met_P I4 hm, ?_⟩
  exact wpAny_call (PySem.W.method_call (met_P I4 hm).1 (run_fnR (us := Value.ref a :: us) (vs := V.ref a :: vs) F hr hx I4 (.cons rfl rv) hsp))
end
end ClsV

namespace RD
open PySem PySem.Spec PyProof.Rows L2
def top (i : Nat) : Stmt := PySem.Challenge.pw_rowdominoes_k42_undo_and_redo.main.body.getD i (.Pass ⟨0, 0, 0, 0⟩)
abbrev s_InvalidRow_init : Stmt := inClass (top 3) 0
abbrev s_NotStanding_init : Stmt := inClass (top 8) 0
abbrev s_NotLying_init : Stmt := inClass (top 9) 0
abbrev s_InvalidOperation_init : Stmt := inClass (top 10) 0
abbrev s_NotationError_init : Stmt := inClass (top 12) 0
abbrev s_DecodeError_init : Stmt := inClass (top 14) 0
abbrev s_is_number : Stmt := top 17
abbrev s_check_number : Stmt := top 18
abbrev s_check_stone : Stmt := top 19
abbrev s_check_side : Stmt := top 20
abbrev s_stones_beside : Stmt := top 24
abbrev s_felled_by : Stmt := top 25
abbrev s_is_stone : Stmt := top 26
abbrev s_Row_init : Stmt := inClass (top 27) 1
abbrev s_Row_stones : Stmt := inClass (top 27) 3
abbrev s_Row_places : Stmt := inClass (top 27) 4
abbrev s_Row_len : Stmt := inClass (top 27) 5
abbrev s_Row_getitem : Stmt := inClass (top 27) 6
abbrev s_Row_iter : Stmt := inClass (top 27) 7
abbrev s_Row_contains : Stmt := inClass (top 27) 8
abbrev s_Row_add : Stmt := inClass (top 27) 9
abbrev s_Row_rshift : Stmt := inClass (top 27) 10
abbrev s_Row_invert : Stmt := inClass (top 27) 11
abbrev s_Row_eq : Stmt := inClass (top 27) 12
abbrev s_Row_call : Stmt := inClass (top 27) 13
abbrev s_is_operation : Stmt := top 33
abbrev s_stones_with : Stmt := top 34
abbrev s_with_condition : Stmt := top 35
abbrev s_executed : Stmt := top 36
abbrev s_pushed : Stmt := top 37
abbrev s_lifted : Stmt := top 38
abbrev s_taken : Stmt := top 39
abbrev s_LiveRow_init : Stmt := inClass (top 40) 0
abbrev s_LiveRow_replay : Stmt := inClass (top 40) 1
abbrev s_LiveRow_enter : Stmt := inClass (top 40) 2
abbrev s_LiveRow_exit : Stmt := inClass (top 40) 3
abbrev s_LiveRow_contains : Stmt := inClass (top 40) 4
abbrev s_LiveRow_len : Stmt := inClass (top 40) 5
abbrev s_LiveRow_standing : Stmt := inClass (top 40) 6
abbrev s_LiveRow_lying : Stmt := inClass (top 40) 7
abbrev s_LiveRow_history : Stmt := inClass (top 40) 8
abbrev s_LiveRow_conditions : Stmt := inClass (top 40) 9
abbrev s_LiveRow_push : Stmt := inClass (top 40) 10
abbrev s_LiveRow_lift : Stmt := inClass (top 40) 11
abbrev s_LiveRow_take : Stmt := inClass (top 40) 12
abbrev s_LiveRow_undo : Stmt := inClass (top 40) 13
abbrev s_LiveRow_redo : Stmt := inClass (top 40) 14
abbrev s_LiveRow_apply : Stmt := inClass (top 40) 15
abbrev s_law_dice : Stmt := top 42
abbrev s_law_next : Stmt := top 43
abbrev s_law_like : Stmt := top 44
abbrev s_law_pick : Stmt := top 45
abbrev s_law_told : Stmt := top 46
abbrev s_law_stones : Stmt := top 47
abbrev s_law_made : Stmt := top 48
abbrev s_law_ticks : Stmt := top 49
abbrev s_law_is_stone : Stmt := top 50
abbrev s_law_after : Stmt := top 51
abbrev s_law_deed : Stmt := top 52
abbrev s_law_act : Stmt := top 53
abbrev s_law_is_error : Stmt := top 54
abbrev s_law_stands : Stmt := top 55
abbrev s_law : Stmt := top 56
abbrev n_is_number : List Str := ["value", "least", "greatest"]
theorem sc_is_number : FnScope ["value", "least", "greatest"] ["value", "least", "greatest"] (defScope s_is_number) := ⟨rfl, rfl, rfl, by decide +kernel, rfl, by decide +kernel, by decide +kernel⟩
abbrev n_check_number : List Str := ["value", "least", "greatest"]
theorem sc_check_number : FnScope ["value", "least", "greatest"] ["value", "least", "greatest"] (defScope s_check_number) := ⟨rfl, rfl, rfl, by decide +kernel, rfl, by decide +kernel, by decide +kernel⟩
abbrev n_check_stone : List Str := ["stone", "count"]
theorem sc_check_stone : FnScope ["stone", "count"] ["stone", "count"] (defScope s_check_stone) := ⟨rfl, rfl, rfl, by decide +kernel, rfl, by decide +kernel, by decide +kernel⟩
abbrev n_check_side : List Str := ["side"]
theorem sc_check_side : FnScope ["side"] ["side"] (defScope s_check_side) := ⟨rfl, rfl, rfl, by decide +kernel, rfl, by decide +kernel, by decide +kernel⟩
abbrev n_stones_beside : List Str := ["stone", "side", "count"]
theorem sc_stones_beside : FnScope ["stone", "side", "count"] ["stone", "side", "count"] (defScope s_stones_beside) := ⟨rfl, rfl, rfl, by decide +kernel, rfl, by decide +kernel, by decide +kernel⟩
abbrev n_felled_by : List Str := ["stones", "standing", "stone", "side", "start", "reach", "felled", "other", "place", "height", "distance"]
theorem sc_felled_by : FnScope ["stones", "standing", "stone", "side", "start", "reach", "felled", "other", "place", "height", "distance"] ["stones", "standing", "stone", "side"] (defScope s_felled_by) := ⟨rfl, rfl, rfl, by decide +kernel, rfl, by decide +kernel, by decide +kernel⟩
abbrev n_is_stone : List Str := ["stone", "least_place", "place", "height"]
theorem sc_is_stone : FnScope ["stone", "least_place", "place", "height"] ["stone", "least_place"] (defScope s_is_stone) := ⟨rfl, rfl, rfl, by decide +kernel, rfl, by decide +kernel, by decide +kernel⟩
abbrev n_Row_init : List Str := ["self", "stones", "least_place", "index", "stone"]
theorem sc_Row_init : FnScope ["self", "stones", "least_place", "index", "stone"] ["self", "stones"] (defScope s_Row_init) := ⟨rfl, rfl, rfl, by decide +kernel, rfl, by decide +kernel, by decide +kernel⟩
abbrev n_Row_stones : List Str := ["self"]
theorem sc_Row_stones : FnScope ["self"] ["self"] (defScope s_Row_stones) := ⟨rfl, rfl, rfl, by decide +kernel, rfl, by decide +kernel, by decide +kernel⟩
abbrev n_Row_places : List Str := ["self", "place", "_"]
theorem sc_Row_places : FnScope ["self", "place", "_"] ["self"] (defScope s_Row_places) := ⟨rfl, rfl, rfl, by decide +kernel, rfl, by decide +kernel, by decide +kernel⟩
abbrev n_Row_len : List Str := ["self"]
theorem sc_Row_len : FnScope ["self"] ["self"] (defScope s_Row_len) := ⟨rfl, rfl, rfl, by decide +kernel, rfl, by decide +kernel, by decide +kernel⟩
abbrev n_Row_getitem : List Str := ["self", "stone"]
theorem sc_Row_getitem : FnScope ["self", "stone"] ["self", "stone"] (defScope s_Row_getitem) := ⟨rfl, rfl, rfl, by decide +kernel, rfl, by decide +kernel, by decide +kernel⟩
abbrev n_Row_iter : List Str := ["self"]
theorem sc_Row_iter : FnScope ["self"] ["self"] (defScope s_Row_iter) := ⟨rfl, rfl, rfl, by decide +kernel, rfl, by decide +kernel, by decide +kernel⟩
abbrev n_Row_contains : List Str := ["self", "place"]
theorem sc_Row_contains : FnScope ["self", "place"] ["self", "place"] (defScope s_Row_contains) := ⟨rfl, rfl, rfl, by decide +kernel, rfl, by decide +kernel, by decide +kernel⟩
abbrev n_Row_add : List Str := ["self", "other", "stones"]
theorem sc_Row_add : FnScope ["self", "other", "stones"] ["self", "other"] (defScope s_Row_add) := ⟨rfl, rfl, rfl, by decide +kernel, rfl, by decide +kernel, by decide +kernel⟩
abbrev n_Row_rshift : List Str := ["self", "distance", "stones", "place", "height"]
theorem sc_Row_rshift : FnScope ["self", "distance", "stones", "place", "height"] ["self", "distance"] (defScope s_Row_rshift) := ⟨rfl, rfl, rfl, by decide +kernel, rfl, by decide +kernel, by decide +kernel⟩
abbrev n_Row_invert : List Str := ["self", "places", "stones", "place", "height"]
theorem sc_Row_invert : FnScope ["self", "places", "stones", "place", "height"] ["self"] (defScope s_Row_invert) := ⟨rfl, rfl, rfl, by decide +kernel, rfl, by decide +kernel, by decide +kernel⟩
abbrev n_Row_eq : List Str := ["self", "other"]
theorem sc_Row_eq : FnScope ["self", "other"] ["self", "other"] (defScope s_Row_eq) := ⟨rfl, rfl, rfl, by decide +kernel, rfl, by decide +kernel, by decide +kernel⟩
abbrev n_Row_call : List Str := ["self", "stone", "side", "standing", "felled"]
theorem sc_Row_call : FnScope ["self", "stone", "side", "standing", "felled"] ["self", "stone", "side"] (defScope s_Row_call) := ⟨rfl, rfl, rfl, by decide +kernel, rfl, by decide +kernel, by decide +kernel⟩
abbrev n_is_operation : List Str := ["value"]
theorem sc_is_operation : FnScope ["value"] ["value"] (defScope s_is_operation) := ⟨rfl, rfl, rfl, by decide +kernel, rfl, by decide +kernel, by decide +kernel⟩
abbrev n_stones_with : List Str := ["conditions", "condition", "stone", "found"]
theorem sc_stones_with : FnScope ["conditions", "condition", "stone", "found"] ["conditions", "condition"] (defScope s_stones_with) := ⟨rfl, rfl, rfl, by decide +kernel, rfl, by decide +kernel, by decide +kernel⟩
abbrev n_with_condition : List Str := ["conditions", "stones", "condition", "stone", "kept"]
theorem sc_with_condition : FnScope ["conditions", "stones", "condition", "stone", "kept"] ["conditions", "stones", "condition"] (defScope s_with_condition) := ⟨rfl, rfl, rfl, by decide +kernel, rfl, by decide +kernel, by decide +kernel⟩
abbrev n_executed : List Str := ["stones", "conditions", "operation", "name", "stone"]
theorem sc_executed : FnScope ["stones", "conditions", "operation", "name", "stone"] ["stones", "conditions", "operation"] (defScope s_executed) := ⟨rfl, rfl, rfl, by decide +kernel, rfl, by decide +kernel, by decide +kernel⟩
abbrev n_pushed : List Str := ["stones", "conditions", "stone", "side", "standing", "condition", "felled"]
theorem sc_pushed : FnScope ["stones", "conditions", "stone", "side", "standing", "condition", "felled"] ["stones", "conditions", "stone", "side"] (defScope s_pushed) := ⟨rfl, rfl, rfl, by decide +kernel, rfl, by decide +kernel, by decide +kernel⟩
abbrev n_lifted : List Str := ["conditions", "stone", "later"]
theorem sc_lifted : FnScope ["conditions", "stone", "later"] ["conditions", "stone"] (defScope s_lifted) := ⟨rfl, rfl, rfl, by decide +kernel, rfl, by decide +kernel, by decide +kernel⟩
abbrev n_taken : List Str := ["conditions", "stone"]
theorem sc_taken : FnScope ["conditions", "stone"] ["conditions", "stone"] (defScope s_taken) := ⟨rfl, rfl, rfl, by decide +kernel, rfl, by decide +kernel, by decide +kernel⟩
abbrev n_LiveRow_init : List Str := ["self", "row"]
theorem sc_LiveRow_init : FnScope ["self", "row"] ["self", "row"] (defScope s_LiveRow_init) := ⟨rfl, rfl, rfl, by decide +kernel, rfl, by decide +kernel, by decide +kernel⟩
abbrev n_LiveRow_replay : List Str := ["cls", "row", "operations", "live"]
theorem sc_LiveRow_replay : FnScope ["cls", "row", "operations", "live"] ["cls", "row", "operations"] (defScope s_LiveRow_replay) := ⟨rfl, rfl, rfl, by decide +kernel, rfl, by decide +kernel, by decide +kernel⟩
abbrev n_LiveRow_enter : List Str := ["self"]
theorem sc_LiveRow_enter : FnScope ["self"] ["self"] (defScope s_LiveRow_enter) := ⟨rfl, rfl, rfl, by decide +kernel, rfl, by decide +kernel, by decide +kernel⟩
abbrev n_LiveRow_exit : List Str := ["self", "kind", "value", "trace"]
theorem sc_LiveRow_exit : FnScope ["self", "kind", "value", "trace"] ["self", "kind", "value", "trace"] (defScope s_LiveRow_exit) := ⟨rfl, rfl, rfl, by decide +kernel, rfl, by decide +kernel, by decide +kernel⟩
abbrev n_LiveRow_contains : List Str := ["self", "stone", "conditions"]
theorem sc_LiveRow_contains : FnScope ["self", "stone", "conditions"] ["self", "stone"] (defScope s_LiveRow_contains) := ⟨rfl, rfl, rfl, by decide +kernel, rfl, by decide +kernel, by decide +kernel⟩
abbrev n_LiveRow_len : List Str := ["self"]
theorem sc_LiveRow_len : FnScope ["self"] ["self"] (defScope s_LiveRow_len) := ⟨rfl, rfl, rfl, by decide +kernel, rfl, by decide +kernel, by decide +kernel⟩
abbrev n_LiveRow_standing : List Str := ["self"]
theorem sc_LiveRow_standing : FnScope ["self"] ["self"] (defScope s_LiveRow_standing) := ⟨rfl, rfl, rfl, by decide +kernel, rfl, by decide +kernel, by decide +kernel⟩
abbrev n_LiveRow_lying : List Str := ["self"]
theorem sc_LiveRow_lying : FnScope ["self"] ["self"] (defScope s_LiveRow_lying) := ⟨rfl, rfl, rfl, by decide +kernel, rfl, by decide +kernel, by decide +kernel⟩
abbrev n_LiveRow_history : List Str := ["self", "operation", "_"]
theorem sc_LiveRow_history : FnScope ["self", "operation", "_"] ["self"] (defScope s_LiveRow_history) := ⟨rfl, rfl, rfl, by decide +kernel, rfl, by decide +kernel, by decide +kernel⟩
abbrev n_LiveRow_conditions : List Str := ["self"]
theorem sc_LiveRow_conditions : FnScope ["self"] ["self"] (defScope s_LiveRow_conditions) := ⟨rfl, rfl, rfl, by decide +kernel, rfl, by decide +kernel, by decide +kernel⟩
abbrev n_LiveRow_push : List Str := ["self", "stone", "side"]
theorem sc_LiveRow_push : FnScope ["self", "stone", "side"] ["self", "stone", "side"] (defScope s_LiveRow_push) := ⟨rfl, rfl, rfl, by decide +kernel, rfl, by decide +kernel, by decide +kernel⟩
abbrev n_LiveRow_lift : List Str := ["self", "stone"]
theorem sc_LiveRow_lift : FnScope ["self", "stone"] ["self", "stone"] (defScope s_LiveRow_lift) := ⟨rfl, rfl, rfl, by decide +kernel, rfl, by decide +kernel, by decide +kernel⟩
abbrev n_LiveRow_take : List Str := ["self", "stone"]
theorem sc_LiveRow_take : FnScope ["self", "stone"] ["self", "stone"] (defScope s_LiveRow_take) := ⟨rfl, rfl, rfl, by decide +kernel, rfl, by decide +kernel, by decide +kernel⟩
abbrev n_LiveRow_undo : List Str := ["self"]
theorem sc_LiveRow_undo : FnScope ["self"] ["self"] (defScope s_LiveRow_undo) := ⟨rfl, rfl, rfl, by decide +kernel, rfl, by decide +kernel, by decide +kernel⟩
abbrev n_LiveRow_redo : List Str := ["self"]
theorem sc_LiveRow_redo : FnScope ["self"] ["self"] (defScope s_LiveRow_redo) := ⟨rfl, rfl, rfl, by decide +kernel, rfl, by decide +kernel, by decide +kernel⟩
abbrev n_LiveRow_apply : List Str := ["self", "operations", "index", "operation", "results", "steps", "result", "conditions"]
theorem sc_LiveRow_apply : FnScope ["self", "operations", "index", "operation", "results", "steps", "result", "conditions"] ["self", "operations"] (defScope s_LiveRow_apply) := ⟨rfl, rfl, rfl, by decide +kernel, rfl, by decide +kernel, by decide +kernel⟩
abbrev n_law_dice : List Str := ["_law_script", "_law_mixed", "_law_cell"]
theorem sc_law_dice : FnScope ["_law_script", "_law_mixed", "_law_cell"] ["_law_script"] (defScope s_law_dice) := ⟨rfl, rfl, rfl, by decide +kernel, rfl, by decide +kernel, by decide +kernel⟩
abbrev n_law_next : List Str := ["_law_dice_here", "_law_many", "_law_found", "_law_cell"]
theorem sc_law_next : FnScope ["_law_dice_here", "_law_many", "_law_found", "_law_cell"] ["_law_dice_here", "_law_many"] (defScope s_law_next) := ⟨rfl, rfl, rfl, by decide +kernel, rfl, by decide +kernel, by decide +kernel⟩
abbrev n_law_like : List Str := ["_law_found", "_law_due", "_law_k"]
theorem sc_law_like : FnScope ["_law_found", "_law_due", "_law_k"] ["_law_found", "_law_due"] (defScope s_law_like) := ⟨rfl, rfl, rfl, by decide +kernel, rfl, by decide +kernel, by decide +kernel⟩
abbrev n_law_pick : List Str := ["_law_d", "_law_some"]
theorem sc_law_pick : FnScope ["_law_d", "_law_some"] ["_law_d", "_law_some"] (defScope s_law_pick) := ⟨rfl, rfl, rfl, by decide +kernel, rfl, by decide +kernel, by decide +kernel⟩
abbrev n_law_told : List Str := ["_law_work", "e", "_law_some", "_law_terms", "_law_k"]
theorem sc_law_told : FnScope ["_law_work", "e", "_law_some", "_law_terms", "_law_k"] ["_law_work"] (defScope s_law_told) := ⟨rfl, rfl, rfl, by decide +kernel, rfl, by decide +kernel, by decide +kernel⟩
abbrev n_law_stones : List Str := ["_law_d", "_law_most", "_law_found", "_law_place", "_law_k"]
theorem sc_law_stones : FnScope ["_law_d", "_law_most", "_law_found", "_law_place", "_law_k"] ["_law_d", "_law_most"] (defScope s_law_stones) := ⟨rfl, rfl, rfl, by decide +kernel, rfl, by decide +kernel, by decide +kernel⟩
abbrev n_law_made : List Str := ["_law_stones_here", "_law_row", "_law_stone"]
theorem sc_law_made : FnScope ["_law_stones_here", "_law_row", "_law_stone"] ["_law_stones_here"] (defScope s_law_made) := ⟨rfl, rfl, rfl, by decide +kernel, rfl, by decide +kernel, by decide +kernel⟩
abbrev n_law_ticks : List Str := ["_law_stones_here", "_law_up", "_law_stone", "_law_side", "_law_ticks_here", "_law_tick", "_law_more", "_law_one", "_law_k", "_law_other", "_law_away"]
theorem sc_law_ticks : FnScope ["_law_stones_here", "_law_up", "_law_stone", "_law_side", "_law_ticks_here", "_law_tick", "_law_more", "_law_one", "_law_k", "_law_other", "_law_away"] ["_law_stones_here", "_law_up", "_law_stone", "_law_side"] (defScope s_law_ticks) := ⟨rfl, rfl, rfl, by decide +kernel, rfl, by decide +kernel, by decide +kernel⟩
abbrev n_law_is_stone : List Str := ["_law_value", "_law_size"]
theorem sc_law_is_stone : FnScope ["_law_value", "_law_size"] ["_law_value", "_law_size"] (defScope s_law_is_stone) := ⟨rfl, rfl, rfl, by decide +kernel, rfl, by decide +kernel, by decide +kernel⟩
abbrev n_law_after : List Str := ["_law_stones_here", "_law_states", "_law_operation", "_law_word", "_law_first", "_law_size", "_law_up", "_law_k", "_law_falling", "_law_later"]
theorem sc_law_after : FnScope ["_law_stones_here", "_law_states", "_law_operation", "_law_word", "_law_first", "_law_size", "_law_up", "_law_k", "_law_falling", "_law_later"] ["_law_stones_here", "_law_states", "_law_operation"] (defScope s_law_after) := ⟨rfl, rfl, rfl, by decide +kernel, rfl, by decide +kernel, by decide +kernel⟩
abbrev n_law_deed : List Str := ["_law_d", "_law_size", "_law_odd", "_law_stone", "_law_pick_here"]
theorem sc_law_deed : FnScope ["_law_d", "_law_size", "_law_odd", "_law_stone", "_law_pick_here"] ["_law_d", "_law_size", "_law_odd"] (defScope s_law_deed) := ⟨rfl, rfl, rfl, by decide +kernel, rfl, by decide +kernel, by decide +kernel⟩
abbrev n_law_act : List Str := ["_law_live", "_law_operation"]
theorem sc_law_act : FnScope ["_law_live", "_law_operation"] ["_law_live", "_law_operation"] (defScope s_law_act) := ⟨rfl, rfl, rfl, by decide +kernel, rfl, by decide +kernel, by decide +kernel⟩
abbrev n_law_is_error : List Str := ["_law_due"]
theorem sc_law_is_error : FnScope ["_law_due"] ["_law_due"] (defScope s_law_is_error) := ⟨rfl, rfl, rfl, by decide +kernel, rfl, by decide +kernel, by decide +kernel⟩
abbrev n_law_stands : List Str := ["_law_live", "_law_states", "_law_due", "_law_k", "_law_word"]
theorem sc_law_stands : FnScope ["_law_live", "_law_states", "_law_due", "_law_k", "_law_word"] ["_law_live", "_law_states"] (defScope s_law_stands) := ⟨rfl, rfl, rfl, by decide +kernel, rfl, by decide +kernel, by decide +kernel⟩
abbrev n_law : List Str := ["_law_script", "_law_d", "_law_stones_here", "_law_live", "_law_past", "_law_k", "_law_done", "_law_turn", "_law_pick_here", "_law_operation", "_law_due", "_law_later", "_law_back", "_law_step", "_law_again"]
theorem sc_law : FnScope ["_law_script", "_law_d", "_law_stones_here", "_law_live", "_law_past", "_law_k", "_law_done", "_law_turn", "_law_pick_here", "_law_operation", "_law_due", "_law_later", "_law_back", "_law_step", "_law_again"] ["_law_script"] (defScope s_law) := ⟨rfl, rfl, rfl, by decide +kernel, rfl, by decide +kernel, by decide +kernel⟩
/-! ### the built-in names that the program leaves as they are -/
structure Blt (mg : Str → Option Value) : Prop where
  isinstance : mg "isinstance" = none
  int : mg "int" = none
  bool : mg "bool" = none
  len : mg "len" = none
  tuple : mg "tuple" = none
  list : mg "list" = none
  range : mg "range" = none
  enumerate : mg "enumerate" = none
  abs : mg "abs" = none
  max : mg "max" = none
  min : mg "min" = none
  sorted : mg "sorted" = none
/-! ### numbers and checks -/
/-- values whose kind is known -/
def Known (K : PySem.W.Frag) (H : Hp) : V → Prop
  | .int _ => True
  | .bl _ => True
  | .non => True
  | .str _ => True
  | .ref a => TyX K H (.ref a) (.type "tuple") ∨ TyX K H (.ref a) (.type "list")
  | _ => False
def numB : V → Int → Int → Bool
  | .int i, lo, hi => decide (lo ≤ i) && decide (i ≤ hi)
  | _, _, _ => false
def spNum (K : PySem.W.Frag) : Sp := fun vs H Q _ => ∃ v lo hi, vs = [v, .int lo, .int hi] ∧ Known K H v ∧ Q (.bl (numB v lo hi)) H
theorem known_ty {K : PySem.W.Frag} {H : Hp} {v : V} (h : Known K H v) : ∃ (t : String) (b c : Bool), TyX K H v (.type t) ∧ PySem.W.kitOne K (.type t) (.type "int") = some b ∧ PySem.W.kitOne K (.type t) (.type "bool") = some c ∧
    ((b = true ∧ c = false ∧ ∃ i, v = .int i) ∨ ((b = false ∨ c = true) ∧ ∀ i, v ≠ .int i)) := by
  cases v with
  | int i => exact ⟨"int", true, false, .base (.int i), kit_ty (by decide +kernel), kit_ty (by decide +kernel), .inl ⟨rfl, rfl, i, rfl⟩⟩
  | bl i => exact ⟨"bool", true, true, .base (.bl i), kit_ty (by decide +kernel), kit_ty (by decide +kernel), .inr ⟨.inr rfl, fun i z => nomatch z⟩⟩
  | non => exact ⟨"NoneType", false, false, .base .non, kit_ty (by decide +kernel), kit_ty (by decide +kernel), .inr ⟨.inl rfl, fun i z => nomatch z⟩⟩
  | str i => exact ⟨"str", false, false, .base (.str i), kit_ty (by decide +kernel), kit_ty (by decide +kernel), .inr ⟨.inl rfl, fun i z => nomatch z⟩⟩
  | ref a =>
    rcases h with h | h
    · exact ⟨"tuple", false, false, h, kit_ty (by decide +kernel), kit_ty (by decide +kernel), .inr ⟨.inl rfl, fun i z => nomatch z⟩⟩
    · exact ⟨"list", false, false, h, kit_ty (by decide +kernel), kit_ty (by decide +kernel), .inr ⟨.inl rfl, fun i z => nomatch z⟩⟩
  | byt _ => exact h.elim
  | flt _ => exact h.elim
  | ty _ => exact h.elim
theorem numB_no {v : V} {lo hi : Int} (h : ∀ i, v ≠ .int i) : numB v lo hi = false := by
  cases v with
  | int i => exact absurd rfl (h i)
  | _ => rfl
section
variable {P : Program} {w : World} {K : PySem.W.Frag} {mg : Str → Option Value} {base : Heap}
theorem ok_num {f : Addr} {fd : FuncData} (F : Fun K "is_number" "is_number" s_is_number f fd) (B : Blt mg) : FnOk P w K mg base CX0 1 f fd ["value", "least", "greatest"] (spNum K) := by
  refine F.ok sc_is_number (fun vs H Q E h => ?_) (fun cdv A outer s H vs Q E hr h => ?_)
  · obtain ⟨v, lo, hi, rfl, _⟩ := h
    rfl
  · obtain ⟨v, lo, hi, rfl, kn, h⟩ := h
    refine ⟨_, pss_one (ps_ret (pe_and (pe_callB call_isi (by rfl) B.isinstance boot_isinstance (pa_cons (pv 0) (pa_cons (pe_bltn (v := .ty "int") (by rfl) B.int boot_int rfl) pa_nil)))
      (pe_and (pe_not (pe_callB call_isi (by rfl) B.isinstance boot_isinstance (pa_cons (pv 0) (pa_cons (pe_bltn (v := .ty "bool") (by rfl) B.bool boot_bool rfl) pa_nil))))
      (pe_one (pe_chain op_le op_le (pv 1) (pv 0) (pv 2)))))), ?_⟩
    obtain ⟨t, b, c, ty, k1, k2, alt⟩ := known_ty kn
    refine ⟨_, rfl, _, _, _, _, b, rfl, .ty "int", ty, k1, b, rfl, ?_⟩
    rcases alt with ⟨rfl, rfl, i, rfl⟩ | ⟨alt, no⟩
    · refine iteT ⟨_, rfl, _, _, _, _, false, rfl, .ty "bool", ty, k2, false, rfl, true, rfl, ?_⟩
      refine iteT ⟨_, rfl, _, rfl, lo, i, rfl, rfl, _, rfl, ?_⟩
      refine ite2 (fun q => ?_) (fun q => ?_)
      · refine ⟨_, rfl, i, hi, rfl, rfl, ?_⟩
        have e : numB (.int i) lo hi = decide (i ≤ hi) := by
          show (decide (lo ≤ i) && decide (i ≤ hi)) = _
          rw [q, Bool.true_and]
        rw [e] at h
        exact h
      · have e : numB (.int i) lo hi = false := by
          show (decide (lo ≤ i) && decide (i ≤ hi)) = _
          rw [Bool.eq_false_iff.mpr q, Bool.false_and]
        rw [e] at h
        exact h
    · rw [numB_no no] at h
      cases b with
      | false => exact iteF h
      | true =>
        rcases alt with z | rfl
        · cases z
        · refine iteT ⟨_, rfl, _, _, _, _, true, rfl, .ty "bool", ty, k2, true, rfl, false, rfl, ?_⟩
          exact iteF h
end
/-! ### defs as they stand, and how they are called -/
structure DefAt (K : PySem.W.Frag) (mg : Str → Option Value) (x : Str) (st : Stmt) (ps : List Str) (f : Addr) (fd : FuncData) : Prop where
  fn : Fun K x x st f fd
  m : mg x = some (.ref f)
  b : Binds K fd ps []
structure At (P : Program) (w : World) (K : PySem.W.Frag) (mg : Str → Option Value) (base : Heap) (CX : CXT) (k : Nat) (x : Str) (ps : List Str) (sp : Sp) (f : Addr) (fd : FuncData) : Prop where
  ok : FnOk P w K mg base CX k f fd ps sp
  m : mg x = some (.ref f)
  kp : PySem.W.keepIn K (.ref f) = true
  b : Binds K fd ps []
theorem DefAt.at {P : Program} {w : World} {K : PySem.W.Frag} {mg : Str → Option Value} {base : Heap} {CX : CXT} {k : Nat} {x : Str} {st : Stmt} {ps : List Str} {sp : Sp} {f : Addr} {fd : FuncData} (D : DefAt K mg x st ps f fd)
    (ok : FnOk P w K mg base CX k f fd ps sp) : At P w K mg base CX k x ps sp f fd := ⟨ok, D.m, D.fn.kp, D.b⟩
section
variable {X : Cx} {k : Nat} {x : Str} {ps : List Str} {sp : Sp} {f : Addr} {fd : FuncData} {p pos : Pos} {e : Expr} {es : List Expr} {t : TA}
theorem pe_at (G : At X.prog X.w X.K X.mg X.base CX0 k x ps sp f fd) (hr : Room k X.A) (ha : PA X (e :: es) t) (hg : Gl X x := by rfl) (hdb : (x == ("__debug__" : Str)) = false := by decide)
    (he : starEach (e :: es) X.env = (false, eval e X.env) :: starEach es X.env := by rfl) (hpl : (backTo pos (starEach es X.env)).any (·.1) = false := by rfl) :
    PE X (.Call (.Name x p) (e :: es) [] pos) (tCall sp [] E0 t) := pe_call G.ok hr hg G.m G.kp G.b .nil pass0 ha hdb he hpl
end
/-! ### heaps that only grow -/
theorem sqT_same {K : PySem.W.Frag} {H H' : Hp} {a : Addr} {xs : List V} (h : SqT K H a xs) (e : Same H H') : SqT K H' a xs := SqT.ext h e
theorem same_new {H : Hp} {p : Addr} {o : HO} (h : H p = none) : Same H (upd H p o) := fun b u e => by rw [upd_ne (ne_of_none e h)]; exact e
/-- all but what stands at l is as it was -/
def But (l : Addr) (H H' : Hp) : Prop := ∀ b o, b ≠ l → H b = some o → H' b = some o
theorem Same.but {H H' : Hp} (e : Same H H') (l : Addr) : But l H H' := fun b o _ h => e b o h
theorem But.trans {l : Addr} {H H1 H2 : Hp} (a : But l H H1) (b : But l H1 H2) : But l H H2 := fun c o n h => b c o n (a c o n h)
theorem but_upd {H : Hp} {l : Addr} {o : HO} : But l H (upd H l o) := fun b u n e => by rw [upd_ne n]; exact e
theorem But.new {H H1 : Hp} {l p : Addr} {o : HO} (a : But l H H1) (h : H1 p = none) : But l H (upd H1 p o) := a.trans (Same.but (same_new h) l)
/-- laid ahead of which the heap was as H -/
theorem But.same {H H1 : Hp} {l : Addr} (a : But l H H1) (h : H l = none) : Same H H1 := fun b o e => a b o (ne_of_none e h) e

/-! ### stones: pairs of a place and a height -/
def StonesAt (K : PySem.W.Frag) (H : Hp) (vs : List V) (xs : List (Int × Int)) : Prop :=
  vs.length = xs.length ∧ ∀ (k : Nat) (x : Int × Int), xs[k]? = some x → ∃ a : Addr, vs[k]? = some (V.ref a) ∧ SqT K H a [.int x.1, .int x.2]
theorem StonesAt.same {K : PySem.W.Frag} {H H' : Hp} {vs : List V} {xs : List (Int × Int)} (h : StonesAt K H vs xs) (e : Same H H') : StonesAt K H' vs xs :=
  ⟨h.1, fun k x q => let ⟨a, q1, q2⟩ := h.2 k x q; ⟨a, q1, sqT_same q2 e⟩⟩
theorem StonesAt.nil {K : PySem.W.Frag} {H : Hp} : StonesAt K H [] [] := ⟨rfl, fun k x q => by simp at q⟩
theorem StonesAt.append {K : PySem.W.Frag} {H : Hp} {vs us : List V} {xs ys : List (Int × Int)} (h : StonesAt K H vs xs) (g : StonesAt K H us ys) : StonesAt K H (vs ++ us) (xs ++ ys) := by
  refine ⟨by rw [List.length_append, List.length_append, h.1, g.1], fun k x q => ?_⟩
  by_cases hk : k < xs.length
  · rw [List.getElem?_append_left hk] at q
    rw [List.getElem?_append_left (by rw [h.1]; exact hk)]
    exact h.2 k x q
  · rw [List.getElem?_append_right (by omega)] at q
    rw [List.getElem?_append_right (by rw [h.1]; omega), h.1]
    exact g.2 _ x q
theorem StonesAt.one {K : PySem.W.Frag} {H : Hp} {a : Addr} {x : Int × Int} (h : SqT K H a [.int x.1, .int x.2]) : StonesAt K H [.ref a] [x] := by
  refine ⟨rfl, fun k y q => ?_⟩
  cases k with
  | zero => simp at q; subst q; exact ⟨a, rfl, h⟩
  | succ k => simp at q
/-! ### sides -/
def sideS : Bool → Str
  | true => "right"
  | false => "left"
/-- the numbers beside a stone, the nearest one first -/
def beside (r : Bool) (i n : Nat) : List Nat := if r then (List.range (n - (i + 1))).map (fun k => i + 1 + k) else (List.range i).map (fun k => i - 1 - k)
def ivs (ns : List Nat) : List V := ns.map fun (k : Nat) => V.int (k : Int)
def spBeside : Sp := fun vs H Q _ => ∃ (i n : Nat) (r : Bool), vs = [.int i, .str (sideS r), .int n] ∧ i < n ∧ n ≤ 100 ∧ ∀ q, H q = none → Q (.ref q) (upd H q (.lst (ivs (beside r i n))))
def spCheckStone : Sp := fun vs H Q _ => ∃ (i n : Nat), vs = [.int i, .int n] ∧ i < n ∧ Q .non H
def spCheckSide : Sp := fun vs H Q _ => ∃ r : Bool, vs = [.str (sideS r)] ∧ Q .non H
section
variable {P : Program} {w : World} {K : PySem.W.Frag} {mg : Str → Option Value} {base : Heap}
theorem ok_checkStone {f g : Addr} {fd gd : FuncData} (F : Fun K "check_stone" "check_stone" s_check_stone f fd) (N : At P w K mg base CX0 1 "is_number" ["value", "least", "greatest"] (spNum K) g gd) :
    FnOk P w K mg base CX0 2 f fd ["stone", "count"] spCheckStone := by
  refine F.ok sc_check_stone (fun vs H Q E h => ?_) (fun cdv A outer s H vs Q E hr h => ?_)
  · obtain ⟨i, n, rfl, _⟩ := h
    rfl
  · obtain ⟨i, n, rfl, hi, h⟩ := h
    refine ⟨_, pss_one (ps_if (pt_not (pt_val (pe_at N hr (pa_cons (pv 0) (pa_cons (pe_int) (pa_cons (pe_op op_sub (pv 1) (pe_int)) pa_nil)))))) (pss_one ps_never) pss_nil), ?_⟩
    refine ⟨_, rfl, _, rfl, _, _, rfl, rfl, _, _, _, rfl, True.intro, _, rfl, ?_⟩
    have e : numB (.int (i : Int)) 0 ((n : Int) - 1) = true := by
      show (decide (0 ≤ (i : Int)) && decide ((i : Int) ≤ (n : Int) - 1)) = true
      simp; omega
    rw [e]
    exact iteF h
theorem sides_in {r : Bool} {ys : List V} (h : ys = [V.str "left", V.str "right"]) : inV (.str (sideS r)) ys = true := by
  subst h
  cases r <;> decide +kernel
theorem ok_checkSide {f S : Addr} {fd : FuncData} (F : Fun K "check_side" "check_side" s_check_side f fd) (mS : mg "SIDES" = some (.ref S)) (hS : ∀ H, SqT K H S [.str "left", .str "right"]) : FnOk P w K mg base CX0 1 f fd ["side"] spCheckSide := by
  refine F.ok sc_check_side (fun vs H Q E h => ?_) (fun cdv A outer s H vs Q E hr h => ?_)
  · obtain ⟨r, rfl, _⟩ := h
    rfl
  · obtain ⟨r, rfl, h⟩ := h
    refine ⟨_, pss_one (ps_if (pt_cmpR (op_notIn_seq) (pv 0) (pe_glob (v := .ref S) (by rfl) mS rfl) (by rfl)) (pss_one ps_never) pss_nil), ?_⟩
    refine ⟨_, rfl, S, _, rfl, .inr (hS H), rfl, rfl, _, rfl, ?_⟩
    rw [if_pos rfl, sides_in rfl]
    exact iteF h
theorem right_eq {r : Bool} : decide (V.str (sideS r) = V.str "right") = r := by cases r <;> decide +kernel
theorem beside_right {i n : Nat} (h : i < n) : Own.dnV 0 0 = [] ∧ rgV ((i : Int) + 1) (n : Int) = ivs (beside true i n) := by
  refine ⟨rfl, ?_⟩
  unfold rgV ivs beside
  rw [if_pos rfl, List.map_map]
  have e : ((n : Int) - ((i : Int) + 1)).toNat = n - (i + 1) := by omega
  rw [e]
  exact List.map_congr_left fun k _ => congrArg V.int (show (i : Int) + 1 + (k : Int) = ((i + 1 + k : Nat) : Int) by omega)
theorem beside_left {i n : Nat} : Own.dnV ((i : Int) - 1) (-1) = ivs (beside false i n) := by
  unfold Own.dnV ivs beside
  rw [if_neg (by decide), List.map_map]
  have e : ((i : Int) - 1 - (-1)).toNat = i := by omega
  rw [e]
  exact List.map_congr_left fun k hk => by have := List.mem_range.mp hk; exact congrArg V.int (show (i : Int) - 1 - (k : Int) = ((i - 1 - k : Nat) : Int) by omega)
theorem ok_beside {f : Addr} {fd : FuncData} (F : Fun K "stones_beside" "stones_beside" s_stones_beside f fd) (B : Blt mg) : FnOk P w K mg base CX0 1 f fd ["stone", "side", "count"] spBeside := by
  refine F.ok sc_stones_beside (fun vs H Q E h => ?_) (fun cdv A outer s H vs Q E hr h => ?_)
  · obtain ⟨i, n, r, rfl, _⟩ := h
    rfl
  · obtain ⟨i, n, r, rfl, hi, hn, h⟩ := h
    refine ⟨_, pss_cons (ps_if (pt_cmpR (op_eq) (pv 1) (pe_str) (nomark _)) (pss_one (ps_ret (pe_listRg rfl (by rfl) B.list (prg_2 (by rfl) B.range (pe_op op_add (pv 0) (pe_int)) (pv 2))))) pss_nil)
      (pss_one (ps_ret (Own.pe_listDown rfl (by rfl) B.list (by rfl) B.range (pa_cons (pe_op op_sub (pv 0) (pe_int)) (pa_cons (pe_un un_neg pe_int) (pa_cons (pe_un un_neg pe_int) pa_nil)))))), ?_⟩
    refine ⟨_, rfl, rfl, _, rfl, ?_⟩
    rw [right_eq]
    cases r with
    | true =>
      refine iteT ⟨_, rfl, _, _, rfl, rfl, _, rfl, _, _, rfl, rfl, ⟨by omega, by omega, by omega, by omega, by omega⟩, fun q hq => ?_⟩
      rw [(beside_right hi).2]
      exact h q hq
    | false =>
      refine iteF ⟨_, rfl, _, _, rfl, rfl, _, rfl, _, rfl, (i : Int) - 1, -1, rfl, by omega, by omega, by omega, by omega, fun q hq => ?_⟩
      rw [beside_left (n := n)]
      exact h q hq
end
/-! ### which stones a push fells -/
def ab (z : Int) : Int := if z < 0 then -z else z
def mx (i j : Int) : Int := if j > i then j else i
/-- one stone after another, as far as the reach goes -/
def scan (xs : List (Int × Int)) (sd : List Bool) (p0 : Int) : Int → List Nat → List Nat
  | _, [] => []
  | r, o :: os => match xs[o]? with
    | none => []
    | some x => if ab (x.1 - p0) > r then [] else if sd[o]? = some true then o :: scan xs sd p0 (mx r (ab (x.1 - p0) + x.2)) os else scan xs sd p0 r os
def felled (xs : List (Int × Int)) (sd : List Bool) (i : Nat) (r : Bool) : List Nat := match xs[i]? with
  | none => []
  | some x => i :: scan xs sd x.1 x.2 (beside r i xs.length)
theorem beside_lt {r : Bool} {i n : Nat} (hi : i < n) : ∀ k ∈ beside r i n, k < n := by
  intro k hk
  cases r with
  | true =>
    simp [beside] at hk
    obtain ⟨j, h1, h2⟩ := hk
    omega
  | false =>
    simp [beside] at hk
    obtain ⟨j, h1, h2⟩ := hk
    omega
theorem beside_len {r : Bool} {i n : Nat} (hi : i < n) : (beside r i n).length ≤ n := by
  cases r <;> simp [beside] <;> omega
theorem scan_len (xs : List (Int × Int)) (sd : List Bool) (p0 : Int) : ∀ (os : List Nat) (r : Int), (scan xs sd p0 r os).length ≤ os.length
  | [], r => by simp [scan]
  | o :: os, r => by
    unfold scan
    split
    · simp
    · rename_i x hx
      split
      · simp
      · split
        · have := scan_len xs sd p0 os (mx r (ab (x.1 - p0) + x.2)); simp; exact this
        · have := scan_len xs sd p0 os r; simp; omega
def spFelled (K : PySem.W.Frag) : Sp := fun vs H Q _ => ∃ (t b : Addr) (us : List V) (xs : List (Int × Int)) (sd : List Bool) (i : Nat) (r : Bool), vs = [.ref t, .ref b, .int i, .str (sideS r)] ∧ SqT K H t us ∧ StonesAt K H us xs ∧ SqL K H b (sd.map V.bl) ∧ sd.length = xs.length ∧ i < xs.length ∧ xs.length ≤ 40 ∧
  ∀ (ns : List Int) (p : Addr) (H' : Hp), ns.Perm ((felled xs sd i r).map fun (k : Nat) => (k : Int)) → ns.Pairwise (· ≤ ·) → Same H H' → H p = none → H' p = some (.lst (ns.map V.int)) → Q (.ref p) H'
theorem sqL_same {K : PySem.W.Frag} {H H' : Hp} {a : Addr} {xs : List V} (e : Same H H') (h : SqL K H a xs) : SqL K H' a xs := e.seq h
theorem ivs_get {ns : List Nat} {k : Nat} {v : V} (h : (ivs ns)[k]? = some v) : ∃ o, ns[k]? = some o ∧ v = V.int (o : Int) := by
  unfold ivs at h
  rw [List.getElem?_map] at h
  cases e : ns[k]? with
  | none => rw [e] at h; cases h
  | some o => rw [e] at h; exact ⟨o, rfl, (Option.some.inj h).symm⟩
theorem drop_get {α : Type} {l : List α} {k : Nat} {o : α} (h : l[k]? = some o) : l.drop k = o :: l.drop (k + 1) := by
  obtain ⟨h1, h2⟩ := List.getElem?_eq_some_iff.mp h
  rw [List.drop_eq_getElem_cons h1, h2]
section
variable {P : Program} {w : World} {K : PySem.W.Frag} {mg : Str → Option Value} {base : Heap}
theorem ok_felled {f g : Addr} {fd gd : FuncData} (F : Fun K "felled_by" "felled_by" s_felled_by f fd) (B : Blt mg) (N : At P w K mg base CX0 1 "stones_beside" ["stone", "side", "count"] spBeside g gd) :
    FnOk P w K mg base CX0 2 f fd ["stones", "standing", "stone", "side"] (spFelled K) := by
  refine F.ok sc_felled_by (fun vs H Q E h => ?_) (fun cdv A outer s H vs Q E hr h => ?_)
  · obtain ⟨t, b, us, xs, sd, i, r, rfl, _⟩ := h
    rfl
  · obtain ⟨t, b, us, xs, sd, i, r, rfl, hT, hS, hB, hl, hi, hn, k⟩ := h
    refine ⟨_, pss_cons (ps_asg (pe_ix ix_tup (pv 0) (pv 2) (fun _ _ => rfl)) (pg_tup rfl (pgs_cons (pg_name (i := 4) sc_felled_by.nd rfl (Or.inl rfl)) (pgs_cons (pg_name (i := 5) sc_felled_by.nd rfl (Or.inl rfl)) pgs_nil))))
      (pss_cons (ps_set (i := 6) sc_felled_by.nd rfl (Or.inl rfl) (pe_lst (pa_cons (pv 2) pa_nil)))
      (pss_cons (ps_for PassesOwn.never rfl (pi_list (pe_at N hr (pa_cons (pv 2) (pa_cons (pv 3) (pa_cons (pe_callB call_len_seq (by rfl) B.len PySem.boot_len (pa_cons (pv 0) pa_nil)) pa_nil))))) (pg_name (i := 7) sc_felled_by.nd rfl (Or.inl rfl))
        (pss_cons (ps_asg (pe_ix ix_tup (pv 0) (pv 7) (fun _ _ => rfl)) (pg_tup rfl (pgs_cons (pg_name (i := 8) sc_felled_by.nd rfl (Or.inl rfl)) (pgs_cons (pg_name (i := 9) sc_felled_by.nd rfl (Or.inl rfl)) pgs_nil))))
        (pss_cons (ps_set (i := 10) sc_felled_by.nd rfl (Or.inl rfl) (pe_callB (call_abs) (by rfl) B.abs boot_abs (pa_cons (pe_op op_sub (pv 8) (pv 4)) pa_nil)))
        (pss_cons (ps_if (pt_cmpR (op_gt) (pv 10) (pv 5) (nomark _)) (pss_one ps_break) pss_nil)
        (pss_one (ps_if (pt_val (pe_ix ix_list (pv 1) (pv 7) (fun _ _ => rfl))) (pss_cons (ps_expr (pe_bm PySem.F.plainAttrs_list PySem.F.slot_list_append PySem.F.type_list_append mt_append (pv 6) (pa_cons (pv 7) pa_nil))) (pss_one (ps_set (i := 5) sc_felled_by.nd rfl (Or.inl rfl) (pe_callB ((call_max2 rfl)) (by rfl) B.max boot_max (pa_cons (pv 5) (pa_cons (pe_op op_add (pv 10) (pv 9)) pa_nil)))))) pss_nil))))))
      (pss_one (ps_ret (pe_callB (cr_sortedI) (by rfl) B.sorted boot_sorted (pa_cons (pv 6) pa_nil)))))), ?_⟩
    obtain ⟨x, hx⟩ : ∃ x, xs[i]? = some x := ⟨xs[i], by simp [hi]⟩
    obtain ⟨a, ha, hsa⟩ := hS.2 i x hx
    -- start, reach = stones[stone]
    refine ⟨_, rfl, _, rfl, t, us, _, _, rfl, rfl, hT, atI_nat ha, a, _, rfl, hsa, rfl, _, _, rfl, _, _, rfl, rfl, ?_⟩
    -- felled = [stone]
    refine ⟨_, rfl, (by show 1 ≤ sizeLine; decide), fun pf nf => ?_⟩
    have s1 := same_new (o := .lst [V.int (i : Int)]) nf
    -- the stones beside
    refine ⟨_, rfl, _, rfl, _, rfl, t, us, rfl, .inr (sqT_same hT s1), ?_⟩
    refine ⟨i, xs.length, r, by rw [hS.1]; rfl, hi, by omega, fun q nq => ?_⟩
    have s2 := same_new (o := .lst (ivs (beside r i xs.length))) nq
    have hpq : pf ≠ q := ne_of_none upd_same nq
    have nf2 : H q = none := Same.free s1 nq
    have fin : ∀ (acc : List Nat) (H3 : Hp), felled xs sd i r = i :: acc → But pf H H3 → H3 pf = some (.lst (ivs (i :: acc))) → ∀ (s7 s8 s9 s10 : Option V) (rr : V),
        tRet (tCB (rSortedI K) (tCons (tVar 6) tNil)) { nx := fun _ H' => Q .non H', rt := Q } [some (.ref t), some (.ref b), some (.int i), some (.str (sideS r)), some (.int x.1), some rr, some (.ref pf), s7, s8, s9, s10] H3 := by
      intro acc H3 e1 e2 e3 s7 s8 s9 s10 rr
      refine ⟨_, rfl, pf, (i :: acc).map fun (k : Nat) => (k : Int), rfl, SqL.of (by rw [e3]; unfold ivs; rw [List.map_map]; rfl), fun ns' p pm rs np => ?_⟩
      have sm : Same H H3 := But.same e2 nf
      exact k ns' p _ (by rw [e1]; exact pm) rs (sm.trans (same_new np)) (Same.free sm np) upd_same
    refine ⟨q, rfl, ⟨_, SqL.of upd_same⟩, for_list (K := K) (a := q) (xs := ivs (beside r i xs.length)) (fun j σ H3 => ∃ (acc : List Nat) (rr : Int) (s7 s8 s9 s10 : Option V),
        σ = [some (.ref t), some (.ref b), some (.int i), some (.str (sideS r)), some (.int x.1), some (.int rr), some (.ref pf), s7, s8, s9, s10] ∧
        felled xs sd i r = i :: acc ++ scan xs sd x.1 rr ((beside r i xs.length).drop j) ∧ But pf H H3 ∧ H3 pf = some (.lst (ivs (i :: acc))) ∧ H3 q = some (.lst (ivs (beside r i xs.length))) ∧ acc.length ≤ j) ?_ ?_ ?_ ?_⟩
    · refine ⟨[], x.2, none, none, none, none, rfl, ?_, (Same.but s1 pf).trans (Same.but s2 pf), ?_, upd_same, Nat.le_refl _⟩
      · unfold felled
        rw [hx]
        rfl
      · rw [upd_ne hpq]
        exact upd_same
    · rintro j σ H3 _ ⟨_, _, _, _, _, _, _, _, _, _, e, _⟩
      exact SqL.of e
    · rintro j y σ H3 hy ⟨acc, rr, s7, s8, s9, s10, rfl, ef, bt, e1, e2, hacc⟩
      obtain ⟨o, ho, rfl⟩ := ivs_get hy
      have hj : j < (beside r i xs.length).length := (List.getElem?_eq_some_iff.mp ho).1
      have holt : o < xs.length := beside_lt hi o (List.mem_of_getElem? ho)
      obtain ⟨z, hz⟩ : ∃ z, xs[o]? = some z := ⟨xs[o], by simp [holt]⟩
      obtain ⟨c, hc, hsc⟩ := hS.2 o z hz
      have sm : Same H H3 := But.same bt nf
      -- place, height = stones[other]
      refine ⟨_, rfl, _, rfl, t, us, _, _, rfl, rfl, sqT_same hT sm, atI_nat hc, c, _, rfl, sqT_same hsc sm, rfl, _, _, rfl, _, _, rfl, rfl, ?_⟩
      -- distance = abs(place - start)
      refine ⟨_, rfl, _, rfl, _, _, rfl, rfl, _, rfl, ?_⟩
      -- if distance > reach: break
      refine ⟨_, rfl, _, rfl, _, _, rfl, rfl, _, rfl, ?_⟩
      rw [drop_get ho] at ef
      refine ite2 (fun hgt => ?_) (fun hgt => ?_)
      · have hgt' : ab (z.1 - x.1) > rr := of_decide_eq_true hgt
        have e0 : felled xs sd i r = i :: acc := by
          rw [ef]
          unfold scan
          rw [hz]
          simp only [hgt', if_true, List.append_nil]
        exact fin acc H3 e0 bt e1 _ _ _ _ _
      · have hgt' : ¬ ab (z.1 - x.1) > rr := fun z => hgt (decide_eq_true z)
        obtain ⟨d, hd⟩ : ∃ d, sd[o]? = some d := ⟨sd[o]'(by omega), by simp⟩
        have hd2 : (sd.map V.bl)[o]? = some (.bl d) := by rw [List.getElem?_map, hd]; rfl
        refine ⟨_, rfl, _, rfl, b, _, _, _, rfl, rfl, sqL_same sm hB, atI_nat hd2, d, rfl, ?_⟩
        cases d with
        | true =>
          refine iteT ⟨_, rfl, .inl ⟨rfl, _, SqL.of e1⟩, _, rfl, pf, _, _, rfl, rfl, e1, ?_, ?_⟩
          · unfold ivs
            rw [List.length_map, List.length_cons, sizeLine_eq]
            have := beside_len (r := r) hi
            omega
          refine ⟨_, rfl, _, rfl, _, rfl, _, _, rfl, rfl, _, _, rfl, ?_⟩
          refine ⟨acc ++ [o], mx rr (ab (z.1 - x.1) + z.2), _, _, _, _, rfl, ?_, bt.trans but_upd, ?_, ?_, ?_⟩
          · rw [ef]
            conv => lhs; unfold scan
            rw [hz]
            simp only [hgt', if_false, hd, if_true, List.cons_append, List.append_assoc, List.nil_append]
          · rw [upd_same]
            unfold ivs
            simp
          · rw [upd_ne hpq.symm]
            exact e2
          · simp; omega
        | false =>
          refine iteF ⟨acc, rr, _, _, _, _, rfl, ?_, bt, e1, e2, by omega⟩
          rw [ef]
          conv => lhs; unfold scan
          rw [hz]
          simp only [hgt', if_false, hd, Option.some.injEq, Bool.false_eq_true]
    · rintro σ H3 ⟨acc, rr, s7, s8, s9, s10, rfl, ef, bt, e1, e2, hacc⟩
      have e0 : felled xs sd i r = i :: acc := by
        rw [ef, List.drop_of_length_le (by unfold ivs; simp)]
        simp [scan]
      exact fin acc H3 e0 bt e1 _ _ _ _ _
end
/-! ### a stone of a row -/
theorem tyT {K : PySem.W.Frag} {H : Hp} {a : Addr} {xs : List V} (h : SqT K H a xs) : TyX K H (.ref a) (.type "tuple") := by
  rcases h with (h | ⟨o, h⟩) | ⟨o, its, n, h, c, _⟩
  · exact .base (.tup h)
  · exact .fTuple h
  · exact .kTuple h c
theorem tyL {K : PySem.W.Frag} {H : Hp} {a : Addr} {xs : List V} (h : SqL K H a xs) : TyX K H (.ref a) (.type "list") := by
  rcases h with (h | ⟨o, h⟩) | ⟨o, its, n, h, c, _⟩
  · exact .base (.lst h)
  · exact .base (.frz h)
  · exact .kList h c
/-- what a value is as a stone of a place from lo on -/
inductive StoneV (K : PySem.W.Frag) (H : Hp) (lo : Int) : V → Bool → Prop where
  | no {v : V} (k : Known K H v) (n : ∀ a, v = .ref a → TyX K H (.ref a) (.type "list")) : StoneV K H lo v false
  | len {a : Addr} {xs : List V} (h : SqT K H a xs) (n : xs.length ≠ 2) : StoneV K H lo (.ref a) false
  | two {a : Addr} {p h : V} (q : SqT K H a [p, h]) (kp : Known K H p) (kh : Known K H h) : StoneV K H lo (.ref a) (numB p lo 1000000000 && numB h 1 1000000000)
def spIsStone (K : PySem.W.Frag) : Sp := fun vs H Q _ => ∃ v lo b, vs = [v, .int lo] ∧ StoneV K H lo v b ∧ Q (.bl b) H
structure Lims (mg : Str → Option Value) : Prop where
  place : ∃ t, mg "GREATEST_PLACE" = some (.int 1000000000 t)
  height : ∃ t, mg "GREATEST_HEIGHT" = some (.int 1000000000 t)
/-- the class Row as the top has made it -/
structure RowC (K : PySem.W.Frag) (mg : Str → Option Value) (C : Addr) : Prop where
  cl : Cls K C
  nS : NoAttr K C "_stones"
  max : ∃ u, Con K C "MAX_STONES" (.int 40) u
  mgC : mg "Row" = some (.ref C)
  first : PySem.W.selfFirst K C = true
  ca : PySem.W.findIn K (.ref C) "__class__" = some (some (.builtin "object.__class__"))
  cn : PySem.W.specialIn K (.builtin "object.__class__") "__get__" = some (some (.builtin "getset_descriptor.__get__"))
  ct : PySem.W.takesIn K (.builtin "object.__class__") = some true
  cm : PySem.W.mroIn K C (.type "object") = some true
theorem RowC.ty {K : PySem.W.Frag} {mg : Str → Option Value} {C : Addr} (R : RowC K mg C) {H : Hp} {a dx : Addr} {fs : List (Str × V)} (h : H a = some (.ins C dx fs)) : TyX K H (.ref a) (.ref C) := .base (.ins h R.cl R.ca R.cn R.ct R.cm)
theorem kit_self {K : PySem.W.Frag} {C : Addr} : PySem.W.kitOne K (.ref C) (.ref C) = some true := by
  unfold PySem.W.kitOne
  rw [if_pos (by simp)]
/-- places that rise from lo on, heights that stones can have -/
def Wf : Int → List (Int × Int) → Prop
  | _, [] => True
  | lo, x :: xs => lo ≤ x.1 ∧ x.1 ≤ 1000000000 ∧ 1 ≤ x.2 ∧ x.2 ≤ 1000000000 ∧ Wf (x.1 + 1) xs
theorem Wf.get : ∀ {xs : List (Int × Int)} {lo : Int} {k : Nat} {x : Int × Int}, Wf lo xs → xs[k]? = some x → (k = 0 → lo ≤ x.1) ∧ (∀ y, 0 < k → xs[k - 1]? = some y → y.1 + 1 ≤ x.1) ∧ x.1 ≤ 1000000000 ∧ 1 ≤ x.2 ∧ x.2 ≤ 1000000000
  | [], _, _, _, _, e => by simp at e
  | z :: xs, lo, 0, x, w, e => by
    simp at e
    subst e
    exact ⟨fun _ => w.1, fun y h => absurd h (by decide), w.2.1, w.2.2.1, w.2.2.2.1⟩
  | z :: xs, lo, k + 1, x, w, e => by
    simp at e
    have ih := Wf.get w.2.2.2.2 e
    refine ⟨fun h => by omega, fun y _ hy => ?_, ih.2.2⟩
    cases k with
    | zero => simp at hy; subst hy; exact ih.1 rfl
    | succ k => simp at hy; exact ih.2.1 y (Nat.succ_pos _) (by simpa using hy)
def rowF (t : Addr) : List (Str × V) := [("_stones", .ref t)]
def RowAt (K : PySem.W.Frag) (C : Addr) (H : Hp) (p : Addr) (xs : List (Int × Int)) : Prop := ∃ dx t us, H p = some (.ins C dx (rowF t)) ∧ SqT K H t us ∧ StonesAt K H us xs
theorem RowAt.same {K : PySem.W.Frag} {C : Addr} {H H' : Hp} {p : Addr} {xs : List (Int × Int)} (h : RowAt K C H p xs) (e : Same H H') : RowAt K C H' p xs :=
  let ⟨dx, t, us, h1, h2, h3⟩ := h; ⟨dx, t, us, e _ _ h1, sqT_same h2 e, h3.same e⟩
def spInitB (K : PySem.W.Frag) (C : Addr) : Sp := fun vs H Q _ => ∃ (p dx t : Addr) (us : List V) (xs : List (Int × Int)), vs = [.ref p, .ref t] ∧ H p = some (.ins C dx []) ∧ SqT K H t us ∧ StonesAt K H us xs ∧ Wf 0 xs ∧ xs.length ≤ 40 ∧
  ∀ H', But p H H' → H' p = some (.ins C dx (rowF t)) → Q .non H'
section
variable {P : Program} {w : World} {K : PySem.W.Frag} {mg : Str → Option Value} {base : Heap}
/-- a def with one parameter and a star -/
theorem star1 {x qual p1 pv' : Str} {st : Stmt} {f : Addr} {fd : FuncData} {N : List Str} {k : Nat} {sp : Sp} (F : Fun K x qual st f fd) (S : FnScope N ([p1] ++ [pv']) (defScope st))
    (h0 : ∀ (kV doc pm : Value) (an : Option Addr) (cdv ct a : Value), bindArgs (PySem.W.fnOf x qual (defArgs st) (defBody st) (defScope st) .none kV doc pm an cdv ct) ⟨[a], []⟩ = (newTuple [] >>= fun t => pure [(p1, a), (pv', t)]))
    (h1 : ∀ (kV doc pm : Value) (an : Option Addr) (cdv ct a r : Value) (rs : List Value), bindArgs (PySem.W.fnOf x qual (defArgs st) (defBody st) (defScope st) .none kV doc pm an cdv ct) ⟨a :: r :: rs, []⟩ = (newTuple (r :: rs) >>= fun t => pure [(p1, a), (pv', t)]))
    (hbody : ∀ (cdv : Value) (A : Around) (outer : List Env) (s : Shared) (H : Hp) (vs : List V) (Q : VK) (E : XK), Room k (A.deeper (envOfC qual (defScope st) s.heap.objs.size f cdv)) → sp vs H Q E →
      ∃ t, PSs (cxOf CX0 P w K mg base N qual (defScope st) f cdv A outer s H E).nox (defBody st) t ∧ t { nx := fun _ H' => Q .non H', rt := Q } (start N vs) H) :
    FnR P w K mg base CX0 (k + 1) f (fun vs H Q E => ∃ w0 rest, vs = w0 :: rest ∧ rest.length ≤ 1000 ∧ ∀ p, H p = none → sp [w0, V.ref p] (upd H p (.tup rest)) Q E) := by
  obtain ⟨oc, od, kV, doc, pm, an, cdv, ct, osl, rfl, lk, hcd⟩ := F.ex
  have base := StX.fn_star (CX := CX0) (P := P) (w := w) (mg := mg) (base := base) (k := k) (ps := [p1]) (sp := sp) lk hcd S (fun _ _ _ _ _ _ _ _ _ _ _ z => z)
    (StX.bind_star1 (B := fun us => bindArgs (PySem.W.fnOf x qual (defArgs st) (defBody st) (defScope st) .none kV doc pm an cdv ct) ⟨us, []⟩) (fun a => h0 kV doc pm an cdv ct a) (fun a r rs => h1 kV doc pm an cdv ct a r rs))
    (fun A outer s H vs Q E hr hsp => by
      obtain ⟨t, h, q⟩ := hbody cdv A outer s H vs Q E hr hsp
      exact ⟨t, h.nox, q⟩)
  refine base.imp fun vs H Q E h => ?_
  obtain ⟨w0, rest, rfl, hz, h⟩ := h
  exact ⟨[w0], rest, rfl, rfl, by rw [sizeLine_eq]; omega, fun p hp => h p hp⟩
theorem ok_isStone {f g : Addr} {fd gd : FuncData} (F : Fun K "_is_stone" "_is_stone" s_is_stone f fd) (B : Blt mg) (L : Lims mg) (N : At P w K mg base CX0 1 "is_number" ["value", "least", "greatest"] (spNum K) g gd) :
    FnOk P w K mg base CX0 2 f fd ["stone", "least_place"] (spIsStone K) := by
  obtain ⟨⟨tp, mp⟩, ⟨th, mh⟩⟩ := id L
  refine F.ok sc_is_stone (fun vs H Q E h => ?_) (fun cdv A outer s H vs Q E hr h => ?_)
  · obtain ⟨v, lo, b, rfl, _⟩ := h
    rfl
  · obtain ⟨v, lo, b, rfl, sv, k⟩ := h
    refine ⟨_, pss_cons (ps_if (PW.pt (pw_or (pt_not (pt_val (pe_callB (call_isi) (by rfl) B.isinstance boot_isinstance (pa_cons (pv 0) (pa_cons (pe_bltn (v := .ty "tuple") (by rfl) B.tuple boot_tuple rfl) pa_nil))))) (pw_or1 (pt_cmpR (op_ne) (pe_callB call_len_seq (by rfl) B.len PySem.boot_len (pa_cons (pv 0) pa_nil)) (pe_int) (nomark _))))) (pss_one (ps_ret pe_bl)) pss_nil)
      (pss_cons (ps_asg (pv 0) (pg_tup rfl (pgs_cons (pg_name (i := 2) sc_is_stone.nd rfl (Or.inl rfl)) (pgs_cons (pg_name (i := 3) sc_is_stone.nd rfl (Or.inl rfl)) pgs_nil))))
      (pss_one (ps_ret (pe_and (pe_at N hr (pa_cons (pv 2) (pa_cons (pv 1) (pa_cons (pe_glob (v := .int 1000000000) (by rfl) mp ⟨_, rfl⟩) pa_nil)))) (pe_one (pe_at N hr (pa_cons (pv 3) (pa_cons (pe_int) (pa_cons (pe_glob (v := .int 1000000000) (by rfl) mh ⟨_, rfl⟩) pa_nil))))))))), ?_⟩
    cases sv with
    | no kn n =>
      have ty : ∃ t : String, TyX K H v (.type t) ∧ PySem.W.kitOne K (.type t) (.type "tuple") = some false := by
        cases v with
        | int i => exact ⟨_, .base (.int i), kit_ty (by decide +kernel)⟩
        | bl i => exact ⟨_, .base (.bl i), kit_ty (by decide +kernel)⟩
        | non => exact ⟨_, .base .non, kit_ty (by decide +kernel)⟩
        | str i => exact ⟨_, .base (.str i), kit_ty (by decide +kernel)⟩
        | ref a => exact ⟨_, n a rfl, kit_ty (by decide +kernel)⟩
        | byt _ => exact kn.elim
        | flt _ => exact kn.elim
        | ty _ => exact kn.elim
      obtain ⟨t, ty, kt⟩ := ty
      refine ⟨_, rfl, v, .ty "tuple", _, _, false, rfl, .ty _, ty, kt, false, rfl, ?_⟩
      refine iteT ?_
      exact iteT k
    | @len a xs hx n =>
      refine ⟨_, rfl, _, .ty "tuple", _, _, true, rfl, .ty _, tyT hx, kit_ty (by decide +kernel), true, rfl, ?_⟩
      refine iteF ?_
      refine ⟨_, rfl, a, xs, rfl, .inr hx, rfl, _, rfl, ?_⟩
      have e : (!decide (V.int (xs.length : Int) = V.int 2)) = true := by
        rw [dec_int]; simp; omega
      rw [e]
      exact iteT k
    | @two a p h q kp kh =>
      refine ⟨_, rfl, _, .ty "tuple", _, _, true, rfl, .ty _, tyT q, kit_ty (by decide +kernel), true, rfl, ?_⟩
      refine iteF ?_
      refine ⟨_, rfl, a, [p, h], rfl, .inr q, rfl, _, rfl, ?_⟩
      refine iteF ?_
      refine ⟨_, rfl, a, [p, h], rfl, q, rfl, _, _, rfl, _, _, rfl, rfl, ?_⟩
      refine ⟨_, rfl, _, rfl, _, _, _, rfl, kp, _, rfl, ?_⟩
      cases e : numB p lo 1000000000 with
      | true =>
        refine iteT ⟨_, rfl, _, _, _, rfl, kh, ?_⟩
        rw [e, Bool.true_and] at k
        exact k
      | false =>
        rw [e, Bool.false_and] at k
        exact iteF k
theorem numB_int {i lo hi : Int} (h1 : lo ≤ i) (h2 : i ≤ hi) : numB (.int i) lo hi = true := by
  show (decide (lo ≤ i) && decide (i ≤ hi)) = true
  rw [decide_eq_true h1, decide_eq_true h2]; rfl
theorem ok_init {f g C : Addr} {fd gd : FuncData} (F : Fun K "__init__" "Row.__init__" s_Row_init f fd) (B : Blt mg) (R : RowC K mg C) (N : At P w K mg base CX0 2 "_is_stone" ["stone", "least_place"] (spIsStone K) g gd) :
    FnR P w K mg base CX0 3 f (fun vs H Q E => ∃ w0 rest, vs = w0 :: rest ∧ rest.length ≤ 1000 ∧ ∀ p, H p = none → spInitB K C [w0, V.ref p] (upd H p (.tup rest)) Q E) := by
  refine star1 F sc_Row_init (fun _ _ _ _ _ _ _ => rfl) (fun _ _ _ _ _ _ _ _ _ => rfl) (fun cdv A outer s H vs Q E hr h => ?_)
  obtain ⟨p, dx, t, us, xs, rfl, hp, hT, hS, hw, hz, k⟩ := h
  obtain ⟨um, cm⟩ := R.max
  refine ⟨_, pss_cons (ps_set (i := 2) sc_Row_init.nd rfl (Or.inl rfl) (pe_int)) (pss_cons (ps_for PassesOwn.never rfl (Own.pi_enumT (by rfl) B.enumerate (pa_cons (pv 1) pa_nil)) (pg_tup rfl (pgs_cons (pg_name (i := 3) sc_Row_init.nd rfl (Or.inl rfl)) (pgs_cons (pg_name (i := 4) sc_Row_init.nd rfl (Or.inl rfl)) pgs_nil)))
      (pss_cons (ps_if (PW.pt (pw_or (pt_cmpR (op_eq) (pv 3) (pe_con (pv 0) rfl) (nomark _)) (pw_or1 (pt_not (pt_val (pe_at N hr (pa_cons (pv 4) (pa_cons (pv 2) pa_nil)))))))) (pss_one ps_never) pss_nil)
      (pss_one (ps_set (i := 2) sc_Row_init.nd rfl (Or.inl rfl) (pe_op op_add (pe_ix ix_tup (pv 4) (pe_int) (fun _ _ => rfl)) (pe_int))))))
    (pss_one (ps_fld (pv 0) (pv 1) rfl))), ?_⟩
  refine ⟨_, rfl, t, us, rfl, hT, for_it (Own.walk_item (K := K) (a := t) (xs := us)) (fun j σ H1 => ∃ (lo : Int) (s3 s4 : Option V), σ = [some (.ref p), some (.ref t), some (.int lo), s3, s4] ∧ Same H H1 ∧ (∀ x, xs[j]? = some x → lo ≤ x.1) ∧ 0 ≤ lo) ?_ ?_ ?_ ?_⟩
  · exact ⟨0, none, none, rfl, Same.refl _, fun x hx => (hw.get hx).1 rfl, Int.le_refl _⟩
  · rintro j σ H1 _ ⟨_, _, _, _, sm, _⟩
    exact sqT_same hT sm
  · rintro j v σ H1 H2 hj ⟨lo, s3, s4, rfl, sm, hlo, h0⟩ ⟨T, y, z, rfl, nT, rfl, e1, e2⟩
    obtain rfl : y = V.int (j : Int) := (Option.some.inj e1).symm
    have hjx : j < xs.length := by rw [← hS.1]; exact hj
    obtain ⟨x, hx⟩ : ∃ x, xs[j]? = some x := ⟨xs[j], by simp [hjx]⟩
    obtain ⟨c, hc, hsc⟩ := hS.2 j x hx
    obtain rfl : z = V.ref c := Option.some.inj (e2.symm.trans hc)
    have sm2 : Same H (upd H1 T (.tup [.int (j : Int), .ref c])) := sm.trans (same_new nT)
    obtain ⟨_, g2, g3, g4, g5⟩ := hw.get hx
    -- index, stone = the pair
    refine ⟨T, _, rfl, SqT.of upd_same, rfl, _, _, rfl, _, _, rfl, rfl, ?_⟩
    -- index == self.MAX_STONES
    refine ⟨_, rfl, _, rfl, p, C, dx, [], _, _, rfl, sm2 _ _ hp, R.cl, cm, rfl, rfl, _, rfl, ?_⟩
    have e40 : decide (V.int (j : Int) = V.int 40) = false := by rw [dec_int]; simp; omega
    rw [e40]
    refine iteF ?_
    -- not _is_stone(stone, least_place)
    refine ⟨_, rfl, _, rfl, _, _, _, rfl, StoneV.two (sqT_same hsc sm2) True.intro True.intro, _, rfl, ?_⟩
    rw [numB_int (hlo x hx) g3, numB_int g4 g5]
    refine iteF ?_
    -- least_place = stone[0] + 1
    refine ⟨_, rfl, c, _, (0 : Nat), _, rfl, rfl, sqT_same hsc sm2, atI_nat (j := 0) rfl, _, _, rfl, rfl, ?_⟩
    refine ⟨x.1 + 1, _, _, rfl, sm2, fun y hy => (hw.get hy).2.1 x (Nat.succ_pos _) (by simpa using hx), ?_⟩
    have := hlo x hx
    omega
  · rintro σ H1 ⟨lo, s3, s4, rfl, sm, _, _⟩
    refine ⟨_, rfl, _, rfl, p, C, dx, [], rfl, sm _ _ hp, R.cl, R.nS, (by show 0 < 1000; decide), ?_⟩
    exact k _ ((Same.but sm p).trans but_upd) upd_same
end
/-! ### a run: what a push fells while all stand -/
def allUp (n : Nat) : List Bool := List.replicate n true
def reachN (xs : List (Int × Int)) (i : Nat) (r : Bool) : Nat := (felled xs (allUp xs.length) i r).length - 1
def run (xs : List (Int × Int)) (i : Nat) (r : Bool) : Nat × Nat := if r then (i, i + reachN xs i r) else (i - reachN xs i r, i)
theorem scan_take {xs : List (Int × Int)} {sd : List Bool} {p0 : Int} (up : ∀ o, o < xs.length → sd[o]? = some true) : ∀ (os : List Nat) (r : Int), (∀ o ∈ os, o < xs.length) → scan xs sd p0 r os = os.take (scan xs sd p0 r os).length
  | [], r, _ => by simp [scan]
  | o :: os, r, h => by
    have ho := h o (by simp)
    unfold scan
    split
    · simp
    · rename_i x hx
      split
      · simp
      · rw [if_pos (up o ho)]
        rw [List.length_cons, List.take_succ_cons, ← scan_take up os _ fun z hz => h z (by simp [hz])]
theorem allUp_get {n o : Nat} (h : o < n) : (allUp n)[o]? = some true := by
  unfold allUp
  rw [List.getElem?_replicate, if_pos h]
theorem felled_take {xs : List (Int × Int)} {i : Nat} {r : Bool} (hi : i < xs.length) : felled xs (allUp xs.length) i r = i :: (beside r i xs.length).take (reachN xs i r) := by
  have hx : xs[i]? = some xs[i] := by simp [hi]
  have e : felled xs (allUp xs.length) i r = i :: scan xs (allUp xs.length) (xs[i]).1 (xs[i]).2 (beside r i xs.length) := by
    unfold felled
    rw [hx]
  have st := scan_take (xs := xs) (sd := allUp xs.length) (p0 := (xs[i]).1) (fun o ho => allUp_get ho) (beside r i xs.length) (xs[i]).2 (beside_lt hi)
  unfold reachN
  rw [e, List.length_cons, Nat.add_sub_cancel]
  exact congrArg (List.cons i) st
theorem reach_le {xs : List (Int × Int)} {i : Nat} {r : Bool} (hi : i < xs.length) : reachN xs i r ≤ (beside r i xs.length).length := by
  have hx : xs[i]? = some xs[i] := by simp [hi]
  unfold reachN felled
  rw [hx, List.length_cons, Nat.add_sub_cancel]
  exact scan_len _ _ _ _ _
theorem besideR_len {i n : Nat} : (beside true i n).length = n - (i + 1) := by simp [beside]
theorem besideL_len {i n : Nat} : (beside false i n).length = i := by simp [beside]
/-- first, first + 1, .. (c + 1 of them) -/
def rise (a c : Nat) : List Int := (List.range (c + 1)).map fun k => ((a + k : Nat) : Int)
theorem rise_le (a c : Nat) : (rise a c).Pairwise (· ≤ ·) := by
  unfold rise
  refine List.Pairwise.map _ (fun x y h => ?_) (List.pairwise_lt_range (n := c + 1))
  show ((a + x : Nat) : Int) ≤ ((a + y : Nat) : Int)
  have : x < y := h
  omega
theorem felled_perm {xs : List (Int × Int)} {i : Nat} {r : Bool} (hi : i < xs.length) : ((felled xs (allUp xs.length) i r).map fun (k : Nat) => (k : Int)).Perm (rise (run xs i r).1 (reachN xs i r)) := by
  rw [felled_take hi]
  have hle := reach_le (r := r) hi
  cases r with
  | true =>
    rw [besideR_len] at hle
    show (List.map _ _).Perm (rise i (reachN xs i true))
    generalize reachN xs i true = c at hle
    refine .of_eq ?_
    unfold rise beside
    rw [if_pos rfl, List.range_succ_eq_map, List.map_cons, List.map_cons, List.map_map, ← List.map_take, List.map_map, List.take_range]
    have e : min c (xs.length - (i + 1)) = c := by omega
    rw [e]
    refine congr (congrArg _ (by simp)) (List.map_congr_left fun k _ => ?_)
    show ((i + 1 + k : Nat) : Int) = ((i + (k + 1) : Nat) : Int)
    omega
  | false =>
    rw [besideL_len] at hle
    show (List.map _ _).Perm (rise (i - reachN xs i false) (reachN xs i false))
    generalize reachN xs i false = c at hle
    have e : List.map (fun (k : Nat) => (k : Int)) (i :: (beside false i xs.length).take c) = (rise (i - c) c).reverse := by
      unfold rise beside
      rw [if_neg (by decide), ← List.map_take, List.take_range]
      have e : min c i = c := by omega
      rw [e]
      apply List.ext_getElem
      · simp
      · intro j h1 h2
        have hj : j < c + 1 := by simpa using h1
        rw [List.getElem_reverse]
        cases j with
        | zero => simp; omega
        | succ j => simp; omega
    rw [e]
    exact List.reverse_perm _
theorem felled_sorted {xs : List (Int × Int)} {i : Nat} {r : Bool} {ns : List Int} (hi : i < xs.length) (p : ns.Perm ((felled xs (allUp xs.length) i r).map fun (k : Nat) => (k : Int))) (s : ns.Pairwise (· ≤ ·)) :
    ns = rise (run xs i r).1 (reachN xs i r) :=
  (p.trans (felled_perm hi)).eq_of_pairwise (fun x y _ _ h1 h2 => Int.le_antisymm h1 h2) s (rise_le _ _)
theorem run_last {xs : List (Int × Int)} {i : Nat} {r : Bool} (hi : i < xs.length) : (run xs i r).1 + reachN xs i r = (run xs i r).2 := by
  have hle := reach_le (r := r) hi
  unfold run
  cases r with
  | true => rfl
  | false =>
    rw [besideL_len] at hle
    show i - reachN xs i false + reachN xs i false = i
    omega
/-! ### Row's methods -/
def spLen (K : PySem.W.Frag) (C : Addr) : Sp := fun vs H Q _ => ∃ p xs, vs = [.ref p] ∧ RowAt K C H p xs ∧ Q (.int (xs.length : Int)) H
def spAdd (K : PySem.W.Frag) (C : Addr) : Sp := fun vs H Q _ => ∃ p q xs ys, vs = [.ref p, .ref q] ∧ RowAt K C H p xs ∧ RowAt K C H q ys ∧ Wf 0 (xs ++ ys) ∧ (xs ++ ys).length ≤ 40 ∧
  ∀ z H', Same H H' → H z = none → RowAt K C H' z (xs ++ ys) → Q (.ref z) H'
def spCall (K : PySem.W.Frag) (C : Addr) : Sp := fun vs H Q _ => ∃ p xs i r, vs = [.ref p, .int (i : Nat), .str (sideS r)] ∧ RowAt K C H p xs ∧ i < xs.length ∧ xs.length ≤ 40 ∧
  ∀ z H', Same H H' → H z = none → H' z = some (.tup [.int ((run xs i r).1 : Nat), .int ((run xs i r).2 : Nat)]) → Q (.ref z) H'
def spMake (K : PySem.W.Frag) (C : Addr) : Sp := fun vs H Q E => ∃ w0 rest, vs = w0 :: rest ∧ rest.length ≤ 1000 ∧ ∀ p, H p = none → spInitB K C [w0, V.ref p] (upd H p (.tup rest)) Q E
section
variable {P : Program} {w : World} {K : PySem.W.Frag} {mg : Str → Option Value} {base : Heap}
/-- what a new row's reading asks, once and for all -/
theorem make_row {C : Addr} {H : Hp} {us : List V} {xs : List (Int × Int)} {Q : VK} {E : XK} (hS : StonesAt K H us xs) (hw : Wf 0 xs) (hz : xs.length ≤ 40) (k : ∀ z H', Same H H' → H z = none → RowAt K C H' z xs → Q (.ref z) H') :
    ∀ z dz, H z = Option.none → H dz = Option.none → dz ≠ z → spMake K C (V.ref z :: us) (upd (upd H dz (.own z)) z (.ins C dz [])) (fun v H2 => v = .non ∧ Q (.ref z) H2) E := by
  intro z dz nz ndz ne
  have s0 : Same H (upd (upd H dz (.own z)) z (.ins C dz [])) := (same_new ndz).trans (same_new (by rw [upd_ne (Ne.symm ne)]; exact nz))
  refine ⟨_, us, rfl, by rw [hS.1]; omega, fun t nt => ?_⟩
  have s1 : Same H (upd (upd (upd H dz (.own z)) z (.ins C dz [])) t (.tup us)) := s0.trans (same_new nt)
  have ntz : z ≠ t := ne_of_none upd_same nt
  refine ⟨z, dz, t, us, xs, rfl, by rw [upd_ne ntz]; exact upd_same, SqT.of upd_same, hS.same s1, hw, hz, fun H' b e => ⟨rfl, ?_⟩⟩
  have sm : Same H H' := But.same ((Same.but s1 z).trans b) nz
  exact k z H' sm nz ⟨dz, t, us, e, SqT.of (b t _ (Ne.symm ntz) upd_same), hS.same sm⟩
theorem ok_len {f C : Addr} {fd : FuncData} (F : Fun K "__len__" "Row.__len__" s_Row_len f fd) (B : Blt mg) (R : RowC K mg C) : FnOk P w K mg base CX0 1 f fd ["self"] (spLen K C) := by
  refine F.ok sc_Row_len (fun vs H Q E h => ?_) (fun cdv A outer s H vs Q E hr h => ?_)
  · obtain ⟨p, xs, rfl, _⟩ := h
    rfl
  · obtain ⟨p, xs, rfl, ⟨dx, t, us, hp, hT, hS⟩, k⟩ := h
    refine ⟨_, pss_one (ps_ret (pe_callB call_len_seq (by rfl) B.len PySem.boot_len (pa_cons (pe_fld (pv 0) rfl) pa_nil))), ?_⟩
    refine ⟨_, rfl, p, C, dx, _, _, rfl, hp, R.cl, R.nS, rfl, t, us, rfl, .inr hT, ?_⟩
    rw [hS.1]
    exact k
theorem ok_add {f g C : Addr} {fd : FuncData} (F : Fun K "__add__" "Row.__add__" s_Row_add f fd) (B : Blt mg) (R : RowC K mg C) (M : Mk K C g)
    (G : FnR P w K mg base CX0 3 g (spMake K C)) : FnOk P w K mg base CX0 5 f fd ["self", "other"] (spAdd K C) := by
  refine F.ok sc_Row_add (fun vs H Q E h => ?_) (fun cdv A outer s H vs Q E hr h => ?_)
  · obtain ⟨p, q, xs, ys, rfl, _⟩ := h
    rfl
  · obtain ⟨p, q, xs, ys, rfl, hp, hq, hw, hz, k⟩ := h
    obtain ⟨dx, t, us, ep, hT, hS⟩ := id hp
    obtain ⟨dy, t', us', eq', hT', hS'⟩ := id hq
    refine ⟨_, pss_cons (ps_if (pt_not (pt_val (pe_callB (call_isi) (by rfl) B.isinstance boot_isinstance (pa_cons (pv 1) (pa_cons (pe_glob (v := .ref C) (by rfl) R.mgC rfl) pa_nil))))) (pss_one ps_never) pss_nil)
      (pss_cons (ps_set (i := 2) sc_Row_add.nd rfl (Or.inl rfl) (pe_op op_catA (pe_fld (pv 0) rfl) (pe_fld (pv 1) rfl)))
      (pss_one (ps_ret (Own.pe_makeS M G hr (by rfl) R.mgC pass0 (pv 2))))), ?_⟩
    refine ⟨_, rfl, _, .ref C, _, _, true, rfl, .own C, R.ty eq', kit_self, true, rfl, ?_⟩
    refine iteF ?_
    refine ⟨_, rfl, p, C, dx, _, _, rfl, ep, R.cl, R.nS, rfl, _, rfl, q, C, dy, _, _, rfl, eq', R.cl, R.nS, rfl, t, t', us, us', rfl, rfl, hT, hT', ?_, fun e => ?_, fun n e => ?_, fun n n' y ny => ?_⟩
    · rw [hS.1, hS'.1, ← List.length_append, sizeLine_eq]; omega
    · refine ⟨_, rfl, t', us', rfl, .inl hT', make_row (xs := xs ++ ys) ?_ hw hz k⟩
      have := hS.append hS'
      rw [e] at this
      exact this
    · refine ⟨_, rfl, t, us, rfl, .inl hT, make_row (xs := xs ++ ys) ?_ hw hz k⟩
      have := hS.append hS'
      rw [e, List.append_nil] at this
      exact this
    · have s1 := same_new (o := .tup (us ++ us')) ny
      refine ⟨_, rfl, y, _, rfl, .inl (SqT.of upd_same), make_row ((hS.append hS').same s1) hw hz fun z H' sm nz ra => k z H' (s1.trans sm) (Same.free s1 nz) ra⟩
theorem ok_call {f C g1 g2 g3 : Addr} {fd d1 d2 d3 : FuncData} (F : Fun K "__call__" "Row.__call__" s_Row_call f fd) (B : Blt mg) (R : RowC K mg C) (N1 : At P w K mg base CX0 2 "check_stone" ["stone", "count"] spCheckStone g1 d1)
    (N2 : At P w K mg base CX0 1 "check_side" ["side"] spCheckSide g2 d2) (N3 : At P w K mg base CX0 2 "felled_by" ["stones", "standing", "stone", "side"] (spFelled K) g3 d3) :
    FnOk P w K mg base CX0 3 f fd ["self", "stone", "side"] (spCall K C) := by
  refine F.ok sc_Row_call (fun vs H Q E h => ?_) (fun cdv A outer s H vs Q E hr h => ?_)
  · obtain ⟨p, xs, i, r, rfl, _⟩ := h
    rfl
  · obtain ⟨p, xs, i, r, rfl, ⟨dx, t, us, ep, hT, hS⟩, hi, hz, k⟩ := h
    refine ⟨_, pss_cons (ps_expr (pe_at N1 hr (pa_cons (pv 1) (pa_cons (pe_callB call_len_seq (by rfl) B.len PySem.boot_len (pa_cons (pe_fld (pv 0) rfl) pa_nil)) pa_nil))))
      (pss_cons (ps_expr (pe_at N2 (hr.mono (by decide)) (pa_cons (pv 2) pa_nil)))
      (pss_cons (ps_set (i := 3) sc_Row_call.nd rfl (Or.inl rfl) (pe_op op_rep (pe_lst (pa_cons (pe_bl) pa_nil)) (pe_callB call_len_seq (by rfl) B.len PySem.boot_len (pa_cons (pe_fld (pv 0) rfl) pa_nil))))
      (pss_cons (ps_set (i := 4) sc_Row_call.nd rfl (Or.inl rfl) (pe_at N3 hr (pa_cons (pe_fld (pv 0) rfl) (pa_cons (pv 3) (pa_cons (pv 1) (pa_cons (pv 2) pa_nil))))))
      (pss_one (ps_ret (pe_tup (pa_cons (pe_ix ix_list (pv 4) (pe_int) (fun _ _ => rfl)) (pa_cons (pe_ix ix_list (pv 4) (pe_un un_neg pe_int) (fun _ _ => rfl)) pa_nil)))))))), ?_⟩
    refine ⟨_, rfl, _, rfl, p, C, dx, _, _, rfl, ep, R.cl, R.nS, rfl, t, us, rfl, .inr hT, ?_⟩
    refine ⟨i, xs.length, by rw [hS.1]; rfl, hi, ?_⟩
    refine ⟨_, rfl, r, rfl, ?_⟩
    -- standing
    refine ⟨by show 1 ≤ sizeLine; decide, fun a na => ?_⟩
    have s1 := same_new (o := .lst [V.bl true]) na
    refine ⟨_, rfl, p, C, dx, _, _, rfl, s1 _ _ ep, R.cl, R.nS, rfl, t, us, rfl, .inr (sqT_same hT s1), ?_⟩
    refine ⟨a, _, _, rfl, rfl, upd_same, by omega, by rw [hS.1]; omega, by rw [hS.1, sizeLine_eq]; simp; omega, fun b nb => ?_⟩
    have s2 : Same H _ := s1.trans (same_new (o := .lst (List.replicate ((us.length : Int)).toNat [V.bl true]).flatten) nb)
    -- felled
    refine ⟨_, rfl, p, C, dx, _, _, rfl, s2 _ _ ep, R.cl, R.nS, rfl, _, rfl, _, rfl, _, rfl, ?_⟩
    have eb : (List.replicate ((us.length : Int)).toNat [V.bl true]).flatten = (allUp xs.length).map V.bl := by
      rw [hS.1]
      unfold allUp
      simp
    refine ⟨t, b, us, xs, allUp xs.length, i, r, rfl, sqT_same hT s2, hS.same s2, SqL.of (by rw [upd_same, eb]), by unfold allUp; simp, hi, hz, fun ns q H3 pm so sm nq e3 => ?_⟩
    rw [felled_sorted hi pm so] at e3
    have s3 := s2.trans sm
    have g0 : atI ((rise (run xs i r).1 (reachN xs i r)).map V.int) ((0 : Nat) : Int) = some (.int ((run xs i r).1 : Nat)) := by
      refine atI_nat ?_
      unfold rise
      simp
    have g1 : atI ((rise (run xs i r).1 (reachN xs i r)).map V.int) (-1) = some (.int ((run xs i r).2 : Nat)) := by
      unfold rise
      rw [List.range_succ, List.map_append, List.map_append]
      refine Eq.trans (atI_last _ (V.int (((run xs i r).1 + reachN xs i r : Nat) : Int))) ?_
      rw [run_last hi]
    refine ⟨_, rfl, q, _, _, _, rfl, rfl, SqL.of e3, g0, _, rfl, 1, rfl, q, _, (-1), _, rfl, rfl, SqL.of e3, g1, by show 2 ≤ sizeLine; decide, fun z nz => ?_⟩
    exact k z _ (s3.trans (same_new nz)) (Same.free s3 nz) upd_same
end
/-! ### checks that raise -/
/-- an own class of exceptions, below ValueError, without an own __init__ -/
structure RaiseC (K : PySem.W.Frag) (mg : Str → Option Value) (x : Str) (C : Addr) : Prop where
  ex : PySem.W.excIn K C [.type "ValueError", .type "Exception", .type "BaseException", .type "object"] "ValueError.__new__" = true
  m : mg x = some (.ref C)
  kp : PySem.W.keepIn K (.ref C) = true
  sub : PySem.W.subIn K (.ref C) (.type "BaseException") = some true
  ty : PySem.W.typeIn K (.ref C) = some (.type "type")
/-- numbers whose texts are short -/
def shortI (i : Int) : Prop := i.natAbs.log2 < 1920
theorem short_nat {n : Nat} (h : n ≤ 1000) : shortI (n : Int) := by
  unfold shortI
  rw [Int.natAbs_natCast]
  exact Nat.lt_of_le_of_lt (Nat.log2_le_self n) (by omega)
theorem lenJ {a b : Str} {n m : Nat} (ha : a.length ≤ n) (hb : b.length ≤ m) : (a ++ b).length ≤ n + m := by
  rw [Str.length_append]
  omega
theorem lenI {i : Int} (h : shortI i) : (Str.ofString (toString i)).length ≤ 1921 := PyProof.Rows.int_text_len_1921 h
theorem lenS {a : Str} {n : Nat} (h : a.length ≤ n) (hn : n ≤ 10000) : a.length ≤ sizeLine := Nat.le_trans h (Nat.le_trans hn (by decide))
def spCheckNumX (K : PySem.W.Frag) (C : Addr) : Sp := fun vs H Q E => ∃ (v : V) (lo hi : Int), vs = [v, .int lo, .int hi] ∧ Known K H v ∧ shortI lo ∧ shortI hi ∧ (numB v lo hi = true → Q .non H) ∧ (numB v lo hi = false → E (.ref C) none H)
def spCheckStoneX (K : PySem.W.Frag) (C : Addr) : Sp := fun vs H Q E => ∃ (v : V) (n : Nat), vs = [v, .int n] ∧ Known K H v ∧ n ≤ 1000 ∧ (numB v 0 ((n : Int) - 1) = true → Q .non H) ∧ (numB v 0 ((n : Int) - 1) = false → E (.ref C) none H)
section
variable {P : Program} {w : World} {K : PySem.W.Frag} {mg : Str → Option Value} {base : Heap}
theorem ok_checkNumX {f g C : Addr} {fd gd : FuncData} (F : Fun K "check_number" "check_number" s_check_number f fd) (R : RaiseC K mg "InvalidNumber" C) (N : At P w K mg base CX0 1 "is_number" ["value", "least", "greatest"] (spNum K) g gd) :
    FnOk P w K mg base (L2.CX P w) 2 f fd ["value", "least", "greatest"] (spCheckNumX K C) := by
  refine F.okX sc_check_number (fun vs H Q E h => ?_) (fun cdv A outer s H vs Q E hr h => ?_)
  · obtain ⟨v, lo, hi, rfl, _⟩ := h
    rfl
  · obtain ⟨v, lo, hi, rfl, kn, sl, sh, h1, h2⟩ := h
    refine ⟨_, pss_one (ps_if (pt_not (pt_val (pe_at N hr (pa_cons (pv 0) (pa_cons (pv 1) (pa_cons (pv 2) pa_nil)))))) (pss_one (ps_raise rfl (takes_of rfl rfl rfl rfl)
      (SkE.pmk_own1 PySem.F.excBase_ValueError R.ex R.m R.kp (raises_own R.sub R.ty) (by rfl) (pe_joined (.cons pe_str (.cons (pe_fmt (pv 1)) (.cons pe_str (.cons (pe_fmt (pv 2)) .nil)))))))) pss_nil), ?_⟩
    refine ⟨_, rfl, _, rfl, _, rfl, _, _, _, rfl, kn, _, rfl, ?_⟩
    cases e : numB v lo hi with
    | true => exact iteF (h1 e)
    | false =>
      refine iteT ?_
      have l1 : (Str.empty ++ ("no number from " : Str)).length ≤ 15 := by decide
      have l2 := lenJ l1 (lenI sl)
      have l3 := lenJ (b := " to ") (m := 4) l2 (by decide)
      have l4 := lenJ l3 (lenI sh)
      exact ⟨_, rfl, lenS l1 (by decide), _, rfl, .inr ⟨lo, rfl, sl, _, rfl, lenS l2 (by decide), _, rfl, lenS l3 (by decide), _, rfl, .inr ⟨hi, rfl, sh, _, rfl, lenS l4 (by decide), h2 e⟩⟩⟩
theorem ok_checkStoneX {f g C : Addr} {fd gd : FuncData} (F : Fun K "check_stone" "check_stone" s_check_stone f fd) (R : RaiseC K mg "UnknownStone" C) (N : At P w K mg base CX0 1 "is_number" ["value", "least", "greatest"] (spNum K) g gd) :
    FnOk P w K mg base (L2.CX P w) 2 f fd ["stone", "count"] (spCheckStoneX K C) := by
  refine F.okX sc_check_stone (fun vs H Q E h => ?_) (fun cdv A outer s H vs Q E hr h => ?_)
  · obtain ⟨v, n, rfl, _⟩ := h
    rfl
  · obtain ⟨v, n, rfl, kn, hn, h1, h2⟩ := h
    refine ⟨_, pss_one (ps_if (pt_not (pt_val (pe_at N hr (pa_cons (pv 0) (pa_cons (pe_int) (pa_cons (pe_op op_sub (pv 1) (pe_int)) pa_nil)))))) (pss_one (ps_raise rfl (takes_of rfl rfl rfl rfl)
      (SkE.pmk_own1 PySem.F.excBase_ValueError R.ex R.m R.kp (raises_own R.sub R.ty) (by rfl) (pe_joined (.cons pe_str (.cons (pe_fmt (pv 1)) (.cons pe_str .nil))))))) pss_nil), ?_⟩
    refine ⟨_, rfl, _, rfl, _, _, rfl, rfl, _, _, _, rfl, kn, _, rfl, ?_⟩
    cases e : numB v 0 ((n : Int) - 1) with
    | true => exact iteF (h1 e)
    | false =>
      refine iteT ?_
      have sn := short_nat hn
      have l1 : (Str.empty ++ ("no number of one of " : Str)).length ≤ 20 := by decide
      have l2 := lenJ l1 (lenI sn)
      have l3 := lenJ (b := " stones") (m := 7) l2 (by decide)
      exact ⟨_, rfl, lenS l1 (by decide), _, rfl, .inr ⟨n, rfl, sn, _, rfl, lenS l2 (by decide), _, rfl, lenS l3 (by decide), h2 e⟩⟩
end
/-! ### own exceptions that say super().__init__ -/
def spExI (K : PySem.W.Frag) (D : Addr) (fld : Str) : Sp := fun vs H Q _ => ∃ (a : Addr) (i : Int), vs = [.ref a, .int i] ∧ shortI i ∧ H a = some (exo a D none) ∧ OexC K D ∧ ∀ dx, H dx = none → dx ≠ a → Q .non (upd (upd H dx (exd dx [(fld, .int i)])) a (exo a D (some dx)))
section
variable {P : Program} {w : World} {K : PySem.W.Frag} {mg : Str → Option Value} {base : Heap}
theorem ok_nsInit {f cc D cd : Addr} {kV doc pm ct oc : Value} {an od : Option Addr} {osl : Array (Option Value)} {lf : Obj} {vs0 : Array Value} {file : Str} {tf : Tok}
    (lk : K.lookup f = some ⟨oc, od, .func (PySem.W.fnX "__init__" "NotStanding.__init__" (defArgs s_NotStanding_init) (defBody s_NotStanding_init) (defScope s_NotStanding_init) [("__class__", cc)] .none kV doc pm an (.ref cd) ct), osl⟩) (hcd : PySem.W.codeIn K (.ref cd) "NotStanding.__init__" = true)
    (Z : SupX.SupD P K cc D) (lc : K.lookup cd = some lf) (hlf : lf.data = .fields vs0) (hv2 : vs0[2]? = some (.str file tf)) (hfile : ((P.main.file : Str) == file) = true) (hm : mg ("super" : Str) = none) (nF : PySem.W.findIn K (.ref D) "stone" = some none) :
    FnOk P w K mg base CX0 1 f (PySem.W.fnX "__init__" "NotStanding.__init__" (defArgs s_NotStanding_init) (defBody s_NotStanding_init) (defScope s_NotStanding_init) [("__class__", cc)] .none kV doc pm an (.ref cd) ct) ["self", "stone"] (spExI K D "stone") := by
  refine SupX.fn_sup (P := P) (w := w) (mg := mg) (base := base) (k := 0) (D := D) (N := ["self", "stone", "__class__"]) lk hcd Z (NdefX.nscope_by (by decide +kernel)) rfl lc hlf hv2 hfile rfl hm rfl rfl (fun vs H Q E h => ?_) (fun _ => rfl) (fun _ => rfl) (fun A outer s H vs Q E hr h => ?_)
  · obtain ⟨a, i, rfl, _⟩ := h
    rfl
  · obtain ⟨a, i, rfl, si, ha, T, k⟩ := h
    refine ⟨_, _, (pa_cons (pe_joined (.cons pe_str (.cons (pe_fmt (pv 1)) .nil))) pa_nil), pss_one (ps_ost (pv 0) (pv 1)), ?_⟩
    have l1 : (Str.empty ++ ("the stone does not stand: " : Str)).length ≤ 26 := by decide
    have l2 := lenJ l1 (lenI si)
    refine ⟨a, rfl, ha, ?_⟩
    exact ⟨_, rfl, lenS l1 (by decide), _, rfl, .inr ⟨i, rfl, si, _, rfl, lenS l2 (by decide), by show 1 ≤ 1000; decide, ha, T, _, rfl, _, rfl, a, D, rfl, T, nF, .inl ⟨ha, fun dx n ne => k dx n ne⟩⟩⟩
end
/-! ### own exceptions made -/
structure ExI (P : Program) (w : World) (K : PySem.W.Frag) (mg : Str → Option Value) (base : Heap) (x fld : Str) (D : Addr) : Prop where
  T : OexC K D
  m : mg x = some (.ref D)
  ini : ∃ (f : Addr) (fd : FuncData), PySem.W.findIn K (.ref D) "__init__" = some (some (.ref f)) ∧ PySem.W.typeIn K (.ref f) = some (.type "function") ∧ FnOk P w K mg base CX0 1 f fd ["self", fld] (spExI K D fld) ∧ L2.Binds K fd ["self", fld] []
section
variable {X : Cx} {x fld : Str} {D : Addr} {e : Expr} {es : List Expr} {ta : TA} {p pos : Pos}
theorem pmk_exI (Z : ExI X.prog X.w X.K X.mg X.base x fld D) (hr : Room 2 X.A) (ha : PA X (e :: es) ta) (hg : Gl X x := by rfl)
    (hdb : (x == ("__debug__" : Str)) = false := by decide) (he : starEach (e :: es) X.env = (false, eval e X.env) :: starEach es X.env := by rfl) (hpl : (backTo pos (starEach es X.env)).any (·.1) = false := by rfl) :
    PMk X (.Call (.Name x p) (e :: es) [] pos) (tMkO D (spExI X.K D fld) [] ta) := by
  obtain ⟨f, fd, h1, h2, h3, h4⟩ := Z.ini
  exact pmk_oex Z.T h1 h2 h3 hr h4 .nil pass0 hg Z.m ha hdb he hpl
end
theorem mko_of {K : PySem.W.Frag} {D : Addr} {fld : Str} {j : Nat} {i : Int} {σ : L2.St} {H : Hp} {Q : XK} (T : OexC K D) (h : σ[j]? = some (some (.int i))) (si : shortI i)
    (k : ∀ dx H', Same H H' → H dx = none → H' dx = some (.xd [(fld, .int i)]) → Q (.ref D) (some dx) H') : tMkO D (spExI K D fld) [] (tCons (tVar j) tNil) σ H Q := by
  refine ⟨_, h, by show 1 ≤ 1000; decide, fun a na => ⟨a, i, rfl, si, upd_same, T, fun dx n ne => ⟨rfl, dx, _, upd_same, by rw [upd_ne ne]; exact upd_same, ?_, ?_⟩⟩⟩
  · rw [upd_ne ne] at n
    exact n
  · rw [upd_ne ne] at n
    refine k dx _ (fun b o e => ?_) n upd_same
    have hba : b ≠ a := ne_of_none e na
    have hbd : b ≠ dx := ne_of_none e n
    rw [upd_ne hbd, del_ne hba, upd_ne hba, upd_ne hbd, upd_ne hba]
    exact e
section
variable {X : Cx} {k : Nat} {x : Str} {ps : List Str} {sp : Sp} {f : Addr} {fd : FuncData} {p pos : Pos} {e : Expr} {es : List Expr} {t : TA} {W : WX}
theorem pe_atE (G : At X.prog X.w X.K X.mg X.base (L2.CX X.prog X.w) k x ps sp f fd) (hr : Room k X.A) (tk : Takes X W) (ha : PA X (e :: es) t) (hg : Gl X x := by rfl) (hdb : (x == ("__debug__" : Str)) = false := by decide)
    (he : starEach (e :: es) X.env = (false, eval e X.env) :: starEach es X.env := by rfl) (hpl : (backTo pos (starEach es X.env)).any (·.1) = false := by rfl) :
    PE X (.Call (.Name x p) (e :: es) [] pos) (tCallS sp (WE W) t) := pe_callS G.ok hr hg G.m G.kp G.b (fun s => passAt tk s) ha hdb he hpl
end
/-! ### check_side, and a call of a row, that raise -/
def sideD (d : PyData) : Bool := PyData.eqv (.str "left") d || PyData.eqv (.str "right") d
theorem side_some {K : PySem.W.Frag} {H : Hp} {v : V} {d : PyData} (h : Dp K H v d) (e : sideD d = true) : ∃ r, v = .str (sideS r) := by
  cases h with
  | str x =>
    unfold sideD at e
    simp only [PyData.eqv, Bool.or_eq_true, beq_iff_eq] at e
    rcases e with rfl | rfl
    · exact ⟨false, rfl⟩
    · exact ⟨true, rfl⟩
  | non => cases e
  | bl b => cases e
  | int i => cases e
  | lst _ _ => cases e
  | tup _ _ => cases e
theorem side_ok (r : Bool) : sideD (.str (sideS r)) = true := by cases r <;> decide +kernel
theorem side_shaped (r : Bool) : SeqAt.shaped (.str (sideS r)) = true := by cases r <;> decide +kernel
def spCheckSideX (K : PySem.W.Frag) (C : Addr) : Sp := fun vs H Q E => ∃ (v : V) (d : PyData), vs = [v] ∧ Dp K H v d ∧ SeqAt.shaped d = true ∧ (sideD d = true → Q .non H) ∧ (sideD d = false → E (.ref C) none H)
/-- what a push's check finds: an unknown stone, no side, or a push -/
def spCallX (K : PySem.W.Frag) (C C2 C3 : Addr) : Sp := fun vs H Q E => ∃ (p : Addr) (xs : List (Int × Int)) (v sv : V) (d : PyData), vs = [.ref p, v, sv] ∧ RowAt K C H p xs ∧ xs.length ≤ 40 ∧ Known K H v ∧ Dp K H sv d ∧ SeqAt.shaped d = true ∧
  (numB v 0 ((xs.length : Int) - 1) = false → E (.ref C2) none H) ∧ (numB v 0 ((xs.length : Int) - 1) = true → sideD d = false → E (.ref C3) none H) ∧
  ∀ (i : Nat) (r : Bool), v = .int (i : Int) → sv = .str (sideS r) → i < xs.length → ∀ z H', Same H H' → H z = none → H' z = some (.tup [.int ((run xs i r).1 : Nat), .int ((run xs i r).2 : Nat)]) → Q (.ref z) H'
section
variable {P : Program} {w : World} {K : PySem.W.Frag} {mg : Str → Option Value} {base : Heap}
theorem ok_checkSideX {f S C : Addr} {fd : FuncData} (F : Fun K "check_side" "check_side" s_check_side f fd) (R : RaiseC K mg "InvalidSide" C) (mS : mg "SIDES" = some (.ref S)) (hS : ∀ H, SqT K H S [.str "left", .str "right"]) :
    FnOk P w K mg base (L2.CX P w) 1 f fd ["side"] (spCheckSideX K C) := by
  refine F.okX sc_check_side (fun vs H Q E h => ?_) (fun cdv A outer s H vs Q E hr h => ?_)
  · obtain ⟨v, d, rfl, _⟩ := h
    rfl
  · obtain ⟨v, d, rfl, hv, sd, h1, h2⟩ := h
    have hu65 : (A.deeper (envOfC "check_side" (defScope s_check_side) s.heap.objs.size f cdv)).units + 65 < cLine := by have := hr.un; omega
    refine ⟨_, pss_one (ps_if (pt_cmpR (DictI.op_notInT hu65) (pv 0) (pe_glob (v := .ref S) (by rfl) mS rfl) (by rfl)) (pss_one (ps_raise rfl (takes_of rfl rfl rfl rfl)
      (pmk_own PySem.F.excBase_ValueError R.ex R.m R.kp (raises_own R.sub R.ty) (by exact rfl)))) pss_nil), ?_⟩
    refine ⟨_, rfl, d, [.str "left", .str "right"], hv, .tup (hS H) (.cons (.str _) (.cons (.str _) .nil)), sd, by decide +kernel, _, rfl, ?_⟩
    have e : ([PyData.str "left", .str "right"].any fun z => PyData.eqv z d) = sideD d := by simp [sideD]
    rw [e]
    cases q : sideD d with
    | true => exact iteF (h1 q)
    | false => exact iteT (h2 q)
end
/-! ### objects that stay while a list changes -/
theorem sqT_but {K : PySem.W.Frag} {H H' : Hp} {a l : Addr} {xs ys : List V} (h : SqT K H a xs) (hl : H l = some (.lst ys)) (b : But l H H') : SqT K H' a xs := by
  rcases h with (h | ⟨o, h⟩) | h
  · exact .inl (.inl (b _ _ (ne_of h hl (by intro z; cases z)) h))
  · exact .inl (.inr ⟨o, b _ _ (ne_of h hl (by intro z; cases z)) h⟩)
  · exact .inr h
theorem StonesAt.but {K : PySem.W.Frag} {H H' : Hp} {l : Addr} {ys vs : List V} {xs : List (Int × Int)} (h : StonesAt K H vs xs) (hl : H l = some (.lst ys)) (b : But l H H') : StonesAt K H' vs xs :=
  ⟨h.1, fun k x q => let ⟨a, q1, q2⟩ := h.2 k x q; ⟨a, q1, sqT_but q2 hl b⟩⟩
theorem RowAt.but {K : PySem.W.Frag} {C : Addr} {H H' : Hp} {p l : Addr} {ys : List V} {xs : List (Int × Int)} (h : RowAt K C H p xs) (hl : H l = some (.lst ys)) (b : But l H H') : RowAt K C H' p xs :=
  let ⟨dx, t, us, h1, h2, h3⟩ := h; ⟨dx, t, us, b _ _ (ne_of h1 hl (by intro z; cases z)) h1, sqT_but h2 hl b, h3.but hl b⟩
/-- the law's own list: the script, a place in it, a seed, a rest -/
theorem But.two {H H1 H2 : Hp} {p L : Addr} (a : But L H H1) (hp : H p = none) (b : But p H1 H2) : But L H H2 := fun c o n e => b c o (ne_of_none e hp) (a c o n e)
/-! ### the law's row, put together one by one -/
theorem toR {P : Program} {w : World} {K : PySem.W.Frag} {mg : Str → Option Value} {base : Heap} {CX : CXT} {k : Nat} {f : Addr} {fd : FuncData} {ps : List Str} {sp : Sp} (F : FnOk P w K mg base CX k f fd ps sp) (b : Binds K fd ps []) : FnR P w K mg base CX k f sp :=
  (F.raw b .nil).imp fun vs H Q E h => by rw [List.append_nil]; exact h
theorem Wf.take : ∀ {xs : List (Int × Int)} {lo : Int} (n : Nat), Wf lo xs → Wf lo (xs.take n)
  | [], _, n, _ => by cases n <;> exact True.intro
  | _ :: _, _, 0, _ => True.intro
  | x :: xs, _, n + 1, w => ⟨w.1, w.2.1, w.2.2.1, w.2.2.2.1, Wf.take n w.2.2.2.2⟩
theorem Wf.low : ∀ {xs : List (Int × Int)} {lo : Int} {k : Nat} {x : Int × Int}, Wf lo xs → xs[k]? = some x → lo ≤ x.1
  | [], _, _, _, _, e => by simp at e
  | z :: xs, lo, 0, x, w, e => by simp at e; subst e; exact w.1
  | z :: xs, lo, k + 1, x, w, e => by
    simp at e
    have h1 := w.1
    have h2 := Wf.low w.2.2.2.2 e
    omega
theorem Wf.sub {xs : List (Int × Int)} {lo : Int} {k : Nat} {x : Int × Int} (h0 : 0 ≤ lo) (w : Wf lo xs) (e : xs[k]? = some x) : Wf 0 [x] := by
  obtain ⟨_, _, h3, h4, h5⟩ := w.get e
  exact ⟨Int.le_trans h0 (w.low e), h3, h4, h5, True.intro⟩
def spRow (K : PySem.W.Frag) (C : Addr) : Sp := fun vs H Q _ => ∃ (q : Addr) (us : List V) (xs : List (Int × Int)), vs = [.ref q] ∧ SqL K H q us ∧ StonesAt K H us xs ∧ Wf 0 xs ∧ xs.length ≤ 40 ∧
  ∀ z H', Same H H' → H z = none → RowAt K C H' z xs → Q (.ref z) H'
theorem seq_of {t u : TS} {D : Ends} {σ : L2.St} {H : Hp} (h : t { D with nx := u D } σ H) : tSeq t u D σ H := h
theorem asg_of {te : TE} {g : TG} {D : Ends} {σ : L2.St} {H : Hp} (h : te σ H fun x H1 => g x σ H1 D.nx) : tAsg te g D σ H := h
theorem mk0 {K : PySem.W.Frag} {C : Addr} {E : XK} {σ : L2.St} {H : Hp} {Q : VK} (h : ∀ z H', Same H H' → H z = none → RowAt K C H' z [] → Q (.ref z) H') : StX.tMakeR C (spMake K C) E tNil σ H Q :=
  fun n1 n2 n3 n4 n5 => make_row (Q := Q) (xs := []) StonesAt.nil True.intro (by decide) h n1 n2 n3 n4 n5
theorem mk1 {K : PySem.W.Frag} {C : Addr} {E : XK} {σ : L2.St} {H : Hp} {Q : VK} {i : Nat} {c : Addr} {x : Int × Int} (e : σ[i]? = some (some (.ref c))) (hx : SqT K H c [.int x.1, .int x.2]) (w : Wf 0 [x]) (h : ∀ z H', Same H H' → H z = none → RowAt K C H' z [x] → Q (.ref z) H') :
    StX.tMakeR C (spMake K C) E (tCons (tVar i) tNil) σ H Q :=
  ⟨_, e, fun n1 n2 n3 n4 n5 => make_row (Q := Q) (xs := [x]) (StonesAt.one hx) w (by simp) h n1 n2 n3 n4 n5⟩
/-- how a sign's def stands in the class -/
structure Sign (K : PySem.W.Frag) (C : Addr) (x : Str) (f : Addr) : Prop where
  at_ : PySem.W.findIn K (.ref C) x = some (some (.ref f))
  fn : PySem.W.isFn K (.ref f) = true
/-! ### the stones of a row, and rows that are equal -/
def stD (x : Int × Int) : PyData := .tuple [.int x.1, .int x.2]
def stonesD (xs : List (Int × Int)) : PyData := .tuple (xs.map stD)
theorem canLay_stones : ∀ xs : List (Int × Int), PyData.canLayAll0 (xs.map stD) = true
  | [] => rfl
  | x :: xs => by
    show PyData.canLayAll0 (stD x :: xs.map stD) = true
    rw [PyData.canLayAll0, canLay_stones xs]
    simp [stD, PyData.canLay0, PyData.canLayAll0]
theorem depth_stones : ∀ xs : List (Int × Int), PyData.depthAll (xs.map stD) ≤ 2
  | [] => by simp [PyData.depthAll]
  | x :: xs => by
    have := depth_stones xs
    rw [List.map_cons]
    simp only [stD, PyData.depthAll, PyData.depth]
    omega
theorem stones_shaped (xs : List (Int × Int)) : SeqAt.shaped (stonesD xs) = true := by
  unfold SeqAt.shaped stonesD
  rw [Bool.and_eq_true]
  refine ⟨by rw [PyData.canLay0, canLay_stones xs], decide_eq_true ?_⟩
  have := depth_stones xs
  rw [PyData.depth]
  omega
theorem eqv_stones (xs : List (Int × Int)) : PyData.eqv (stonesD xs) (stonesD xs) = true := SeqAt.eqv_refl _ (SeqAt.canLay_of_shaped (stones_shaped xs))
theorem stones_all {K : PySem.W.Frag} {H : Hp} : ∀ {us : List V} {xs : List (Int × Int)}, StonesAt K H us xs → DpAll K H us (xs.map stD)
  | [], [], _ => .nil
  | [], _ :: _, h => by have := h.1; simp at this
  | _ :: _, [], h => by have := h.1; simp at this
  | u :: us, x :: xs, h => by
    obtain ⟨a, ha, sa⟩ := h.2 0 x rfl
    have e : u = .ref a := by simpa using ha
    subst e
    refine .cons (.tup sa (.cons (.int _) (.cons (.int _) .nil))) (stones_all ⟨by have := h.1; simpa using this, fun k y q => ?_⟩)
    obtain ⟨b, hb, sb⟩ := h.2 (k + 1) y (by simpa using q)
    exact ⟨b, by simpa using hb, sb⟩
theorem stones_dp {K : PySem.W.Frag} {H : Hp} {t : Addr} {us : List V} {xs : List (Int × Int)} (hT : SqT K H t us) (hS : StonesAt K H us xs) : Dp K H (.ref t) (stonesD xs) := .tup hT (stones_all hS)
def spGet (K : PySem.W.Frag) (C : Addr) : Sp := fun vs H Q _ => ∃ p xs, vs = [.ref p] ∧ RowAt K C H p xs ∧ ∀ t us, SqT K H t us → StonesAt K H us xs → Q (.ref t) H
/-- of two rows of the same stones -/
def spSame (K : PySem.W.Frag) (C : Addr) : Sp := fun vs H Q _ => ∃ p q xs, vs = [.ref p, .ref q] ∧ RowAt K C H p xs ∧ RowAt K C H q xs ∧ Q (.bl true) H
section
variable {P : Program} {w : World} {K : PySem.W.Frag} {mg : Str → Option Value} {base : Heap}
theorem ok_get {f C : Addr} {fd : FuncData} (F : Fun K "stones" "Row.stones" s_Row_stones f fd) (R : RowC K mg C) : FnOk P w K mg base CX0 1 f fd ["self"] (spGet K C) := by
  refine F.ok sc_Row_stones (fun vs H Q E h => ?_) (fun cdv A outer s H vs Q E hr h => ?_)
  · obtain ⟨p, xs, rfl, _⟩ := h
    rfl
  · obtain ⟨p, xs, rfl, ⟨dx, t, us, hp, hT, hS⟩, k⟩ := h
    refine ⟨_, pss_one (ps_ret (pe_fld (pv 0) rfl)), ?_⟩
    exact ⟨_, rfl, p, C, dx, _, _, rfl, hp, R.cl, R.nS, rfl, k t us hT hS⟩
theorem ok_same {f C : Addr} {fd : FuncData} (F : Fun K "__eq__" "Row.__eq__" s_Row_eq f fd) (B : Blt mg) (R : RowC K mg C) : FnOk P w K mg base CX0 1 f fd ["self", "other"] (spSame K C) := by
  refine F.ok sc_Row_eq (fun vs H Q E h => ?_) (fun cdv A outer s H vs Q E hr h => ?_)
  · obtain ⟨p, q, xs, rfl, _⟩ := h
    rfl
  · obtain ⟨p, q, xs, rfl, ⟨dx, t, us, hp, hT, hS⟩, ⟨dy, t', us', hq, hT', hS'⟩, k⟩ := h
    refine ⟨_, pss_one (ps_ret (pe_and (pe_callB (call_isi) (by rfl) B.isinstance boot_isinstance (pa_cons (pv 1) (pa_cons (pe_glob (v := .ref C) (by rfl) R.mgC rfl) pa_nil))) (pe_one (pe_cmpR (op_eqD hr.units) (pe_fld (pv 0) rfl) (pe_fld (pv 1) rfl) (nomark _))))), ?_⟩
    refine ⟨_, rfl, _, .ref C, _, _, true, rfl, .own C, R.ty hq, kit_self, true, rfl, ?_⟩
    refine iteT ⟨_, rfl, p, C, dx, _, _, rfl, hp, R.cl, R.nS, rfl, _, rfl, q, C, dy, _, _, rfl, hq, R.cl, R.nS, rfl, stonesD xs, stonesD xs, stones_dp hT hS, stones_dp hT' hS', stones_shaped xs, stones_shaped xs, ?_⟩
    rw [eqv_stones]
    exact k
end
/-! ### comprehensions that filter and map -/
theorem paired_snoc {α β : Type} {F : α → β → Prop} : ∀ {xs : List α} {ys : List β} {x : α} {y : β}, Paired F xs ys → F x y → Paired F (xs ++ [x]) (ys ++ [y])
  | _, _, _, _, .nil, h => .cons h .nil
  | _, _, _, _, .cons a t, h => .cons a (paired_snoc t h)
theorem paired_imp {α β : Type} {F G : α → β → Prop} (i : ∀ x y, F x y → G x y) : ∀ {xs : List α} {ys : List β}, Paired F xs ys → Paired G xs ys
  | _, _, .nil => .nil
  | _, _, .cons a t => .cons (i _ _ a) (paired_imp i t)
theorem paired_at {α β : Type} {F : α → β → Prop} : ∀ {xs : List α} {ys : List β} {i : Nat} {y : β}, Paired F xs ys → ys[i]? = some y → ∃ x, xs[i]? = some x ∧ F x y
  | _, _, _, _, .nil, h => by simp at h
  | _, _, 0, _, .cons a _, h => by simp at h; subst h; exact ⟨_, rfl, a⟩
  | _, _, i + 1, _, .cons _ t, h => by
    obtain ⟨x, h1, h2⟩ := paired_at (i := i) t (by simpa using h)
    exact ⟨x, by simpa using h1, h2⟩
theorem paired_len {α β : Type} {F : α → β → Prop} : ∀ {xs : List α} {ys : List β}, Paired F xs ys → xs.length = ys.length
  | _, _, .nil => rfl
  | _, _, .cons _ t => congrArg (· + 1) (paired_len t)
theorem paired_eq {α β : Type} (f : β → α) : ∀ {xs : List α} {ys : List β}, Paired (fun x y => x = f y) xs ys → xs = ys.map f
  | _, _, .nil => rfl
  | _, _, .cons a t => by rw [List.map_cons, ← paired_eq f t, a]
theorem lc_fm {J : It} {n : Nat} {Gd : Hp → Prop} {Y : Nat → Hp → V → Hp → Prop} (w : Walk J n Gd Y) {g : TG} {tt : TT} {te : TE} {vs : List Nat} {σ : L2.St} {H1 : Hp} {D : Addr} {Qd : Hp → Prop} {α β : Type} (as : List α) (p : α → Bool) (f : α → β) (Rel : Hp → V → β → Prop)
    (hn : as.length = n) (hz : n < 1000000) (nD : H1 D = none) (stab : ∀ H H' v b acc, H D = some (.lst acc) → But D H H' → Rel H v b → Rel H' v b) (hG : ∀ G, Same H1 G → Gd G)
    (step : ∀ (i : Nat) (a : α) (x : V) (G G' : Hp) (N : Hp → Prop) (M : V → Hp → Prop), as[i]? = some a → Same H1 G → G D ≠ none → Y i G x G' → (∀ H3, p a = false → Same G H3 → N H3) → (∀ y H4, p a = true → Same G H4 → Rel H4 y (f a) → M y H4) →
      g x (wipe σ vs) G' fun σ2 H2 => wipe σ2 vs = wipe σ vs ∧ tt σ2 H2 fun b H3 => if b = true then te σ2 H3 M else N H3)
    (hd : ∀ G ys, Same H1 G → G D = some (.lst ys) → Paired (Rel G) ys ((as.filter p).map f) → Qd G) :
    ∃ W : Nat → Nat → Hp → Prop, (∃ m, W 0 m (upd H1 D (.lst []))) ∧ ∀ i m H, W i m H →
      (J.stop i H ∧ Qd H) ∨ (J.go i H ∧ ∃ Nx : Hp → Prop, (∀ H', Nx H' → ∃ m', m' < m ∧ W (i + 1) m' H') ∧ ∀ x H', J.yld i H x H' → g x (wipe σ vs) H' fun σ2 H2 => wipe σ2 vs = wipe σ vs ∧ tt σ2 H2 fun b H3 =>
        if b = true then te σ2 H3 fun y H4 => ∃ acc, H4 D = some (.lst acc) ∧ acc.length < sizeLine ∧ Nx (upd H4 D (.lst (acc ++ [y]))) else Nx H3) := by
  refine lc_it w (fun i G => But D H1 G ∧ ∃ ys, G D = some (.lst ys) ∧ ys.length ≤ i ∧ Paired (Rel G) ys (((as.take i).filter p).map f)) ⟨but_upd, [], upd_same, Nat.le_refl _, .nil⟩ (fun i G _ h => hG G (But.same h.1 nD)) (fun i x G G' hi h y => ?_) fun G h => ?_
  · obtain ⟨b, ys, e, hl, rel⟩ := h
    obtain ⟨a, ha⟩ : ∃ a, as[i]? = some a := ⟨as[i]'(by omega), by simp⟩
    refine step i a x G G' _ _ ha (But.same b nD) (by rw [e]; exact fun z => nomatch z) y (fun H3 hp s => ?_) fun y H4 hp s r => ?_
    · have e3 := s _ _ e
      refine ⟨b.trans (Same.but s D), ys, e3, by omega, ?_⟩
      rw [List.take_add_one, ha, List.filter_append, List.map_append, show (some a).toList = [a] from rfl, List.filter_cons, hp]
      simp only [Bool.false_eq_true, if_false, List.filter_nil, List.map_nil, List.append_nil]
      exact paired_imp (fun v c => stab G H3 v c ys e (Same.but s D)) rel
    · have e4 := s _ _ e
      refine ⟨ys, e4, by rw [sizeLine_eq]; omega, (b.trans (Same.but s D)).trans but_upd, ys ++ [y], upd_same, by rw [List.length_append]; show ys.length + 1 ≤ i + 1; omega, ?_⟩
      rw [List.take_add_one, ha, List.filter_append, List.map_append, show (some a).toList = [a] from rfl, List.filter_cons, hp]
      simp only [if_true, List.filter_nil, List.map_cons, List.map_nil]
      exact paired_snoc (paired_imp (fun v c q => stab H4 _ v c ys e4 but_upd (stab G H4 v c ys e (Same.but s D) q)) rel) (stab H4 _ y (f a) ys e4 but_upd r)
  · obtain ⟨b, ys, e, _, rel⟩ := h
    rw [← hn, List.take_length] at rel
    exact hd G ys (But.same b nD) e rel
/-! pairs of numbers, as tuples in a list -/
def PairV (K : PySem.W.Frag) (H : Hp) (v : V) (p : Nat × Nat) : Prop := ∃ a : Addr, v = .ref a ∧ SqT K H a [.int (p.1 : Nat), .int (p.2 : Nat)]
def PairsAt (K : PySem.W.Frag) (H : Hp) (vs : List V) (ps : List (Nat × Nat)) : Prop := Paired (PairV K H) vs ps
theorem PairV.same {K : PySem.W.Frag} {H H' : Hp} {v : V} {p : Nat × Nat} (e : Same H H') (h : PairV K H v p) : PairV K H' v p := let ⟨a, h1, h2⟩ := h; ⟨a, h1, sqT_same h2 e⟩
theorem PairV.but {K : PySem.W.Frag} {H H' : Hp} {v : V} {p : Nat × Nat} {D : Addr} {acc : List V} (hD : H D = some (.lst acc)) (b : But D H H') (h : PairV K H v p) : PairV K H' v p := let ⟨a, h1, h2⟩ := h; ⟨a, h1, sqT_but h2 hD b⟩
theorem PairsAt.same {K : PySem.W.Frag} {H H' : Hp} {vs : List V} {ps : List (Nat × Nat)} (h : PairsAt K H vs ps) (e : Same H H') : PairsAt K H' vs ps := paired_imp (fun _ _ q => q.same e) h
def prD (p : Nat × Nat) : PyData := .tuple [.int (p.1 : Nat), .int (p.2 : Nat)]
theorem prD_dp {K : PySem.W.Frag} {H : Hp} {v : V} {p : Nat × Nat} (h : PairV K H v p) : Dp K H v (prD p) := by
  obtain ⟨a, rfl, h⟩ := h
  exact .tup h (.cons (.int _) (.cons (.int _) .nil))
theorem prD_shaped (p : Nat × Nat) : SeqAt.shaped (prD p) = true := by simp [prD, SeqAt.shaped, PyData.canLay0, PyData.canLayAll0, PyData.depth, PyData.depthAll]
theorem prD_eqv (p o : Nat × Nat) : PyData.eqv (prD p) (prD o) = decide (p = o) := by
  obtain ⟨a, b⟩ := p
  obtain ⟨c, d⟩ := o
  show ((a : Int) == (c : Int) && ((b : Int) == (d : Int) && true)) = decide ((a, b) = (c, d))
  rw [Bool.and_true]
  by_cases h1 : a = c
  · by_cases h2 : b = d
    · subst h1 h2
      simp
    · have : ¬ (b : Int) = (d : Int) := by omega
      simp [h1, h2, this]
  · have : ¬ (a : Int) = (c : Int) := by omega
    simp [h1, this]
theorem pairs_all {K : PySem.W.Frag} {H : Hp} : ∀ {vs : List V} {ps : List (Nat × Nat)}, PairsAt K H vs ps → DpAll K H vs (ps.map prD)
  | _, _, .nil => .nil
  | _, _, .cons h t => .cons (prD_dp h) (pairs_all t)
theorem nm_of {i : Nat} {v : V} {σ : L2.St} {H : Hp} {Q : L2.St → Hp → Prop} (h : Q (σ.set i (some v)) H) : gName i v σ H Q := h
theorem Wf.mono : ∀ {xs : List (Int × Int)} {lo lo' : Int}, lo ≤ lo' → Wf lo' xs → Wf lo xs
  | [], _, _, _, _ => True.intro
  | _ :: _, _, _, h, w => ⟨Int.le_trans h w.1, w.2⟩
theorem Wf.sublist {l xs : List (Int × Int)} (s : l.Sublist xs) : ∀ {lo : Int}, Wf lo xs → Wf lo l := by
  induction s with
  | slnil => exact fun _ => True.intro
  | cons a _ ih => exact fun w => ih (Wf.mono (by have := w.1; omega) w.2.2.2.2)
  | cons_cons a _ ih => exact fun w => ⟨w.1, w.2.1, w.2.2.1, w.2.2.2.1, ih w.2.2.2.2⟩
/-! ### live rows: stones that stand, lie or are taken -/
abbrev Cnd := Option Bool
def cndS : Cnd → Str
  | some true => "standing"
  | some false => "lying"
  | none => "taken"
def cnV (cs : List Cnd) : List V := cs.map fun c => V.str (cndS c)
theorem cnV_len (cs : List Cnd) : (cnV cs).length = cs.length := by unfold cnV; rw [List.length_map]
theorem cnV_at {cs : List Cnd} {i : Nat} {c : Cnd} (h : cs[i]? = some c) : (cnV cs)[i]? = some (V.str (cndS c)) := by unfold cnV; rw [List.getElem?_map, h]; rfl
theorem cnd_dec (c d : Cnd) : decide (V.str (cndS c) = V.str (cndS d)) = decide (c = d) := by
  rcases c with _ | _ | _ <;> rcases d with _ | _ | _ <;> decide +kernel
def idxs (cs : List Cnd) (c : Cnd) : List Nat := (List.range cs.length).filter fun k => decide (cs[k]? = some c)
def mark (cs : List Cnd) (l : List Nat) (c : Cnd) : List Cnd := (List.range cs.length).map fun k => if k ∈ l then c else cs.getD k none
theorem mark_len (cs : List Cnd) (l : List Nat) (c : Cnd) : (mark cs l c).length = cs.length := by unfold mark; rw [List.length_map, List.length_range]
theorem mark_at {cs : List Cnd} {l : List Nat} {c : Cnd} {k : Nat} (hk : k < cs.length) : (mark cs l c)[k]? = some (if k ∈ l then c else cs.getD k none) := by
  unfold mark
  rw [List.getElem?_map, List.getElem?_range hk]
  rfl
def ups (cs : List Cnd) : List Bool := cs.map fun c => decide (c = some true)
theorem ups_len (cs : List Cnd) : (ups cs).length = cs.length := by unfold ups; rw [List.length_map]
theorem ups_at {cs : List Cnd} {o : Nat} : (ups cs)[o]? = some true ↔ o ∈ idxs cs (some true) := by
  unfold ups idxs
  rw [List.getElem?_map, List.mem_filter, List.mem_range, decide_eq_true_eq]
  constructor
  · intro h
    cases e : cs[o]? with
    | none => rw [e] at h; cases h
    | some c =>
      rw [e] at h
      have h : decide (c = some true) = true := by injection h
      have h := of_decide_eq_true h
      exact ⟨(List.getElem?_eq_some_iff.mp e).1, by rw [h]⟩
  · rintro ⟨_, h⟩
    rw [h]
    rfl
def fellL (xs : List (Int × Int)) (cs : List Cnd) (i : Nat) (r : Bool) : List Nat := (List.range xs.length).filter fun j => decide (j ∈ felled xs (ups cs) i r)
theorem idxs_mem {cs : List Cnd} {c : Cnd} {k : Nat} : k ∈ idxs cs c ↔ cs[k]? = some c := by
  unfold idxs
  rw [List.mem_filter, List.mem_range, decide_eq_true_eq]
  exact ⟨fun h => h.2, fun h => ⟨(List.getElem?_eq_some_iff.mp h).1, h⟩⟩
theorem idxs_len (cs : List Cnd) (c : Cnd) : (idxs cs c).length ≤ cs.length := by
  unfold idxs
  have := List.length_filter_le (fun k => decide (cs[k]? = some c)) (List.range cs.length)
  rwa [List.length_range] at this
theorem scan_sl (xs : List (Int × Int)) (sd : List Bool) (p0 : Int) : ∀ (os : List Nat) (r : Int), (scan xs sd p0 r os).Sublist os
  | [], r => by simp [scan]
  | o :: os, r => by
    unfold scan
    split
    · exact List.nil_sublist _
    · split
      · exact List.nil_sublist _
      · split
        · exact (scan_sl xs sd p0 os _).cons₂ o
        · exact (scan_sl xs sd p0 os r).cons o
theorem beside_nodup {r : Bool} {i n : Nat} (hi : i < n) : (i :: beside r i n).Nodup := by
  unfold beside
  cases r with
  | true =>
    rw [if_pos rfl, List.nodup_cons]
    refine ⟨fun h => ?_, List.Pairwise.map _ (fun x y h => ?_) List.nodup_range⟩
    · obtain ⟨k, _, e⟩ := List.mem_map.mp h
      omega
    · have h : x ≠ y := h
      show i + 1 + x ≠ i + 1 + y
      omega
  | false =>
    rw [if_neg (by decide), List.nodup_cons]
    refine ⟨fun h => ?_, ?_⟩
    · obtain ⟨k, hk, e⟩ := List.mem_map.mp h
      have := List.mem_range.mp hk
      omega
    · have : ((List.range i).map fun k => i - 1 - k).Pairwise (· ≠ ·) := by
        rw [List.pairwise_map]
        refine List.Pairwise.imp_of_mem ?_ (List.pairwise_lt_range (n := i))
        intro a b ha hb h
        have := List.mem_range.mp ha
        have := List.mem_range.mp hb
        have h : a < b := h
        omega
      exact this
theorem felled_nodup {xs : List (Int × Int)} {sd : List Bool} {i : Nat} {r : Bool} (hi : i < xs.length) : (felled xs sd i r).Nodup := by
  unfold felled
  have e : xs[i]? = some xs[i] := by simp [hi]
  rw [e]
  exact ((scan_sl xs sd _ _ _).cons₂ i).nodup (beside_nodup hi)
theorem felled_lt {xs : List (Int × Int)} {sd : List Bool} {i : Nat} {r : Bool} (hi : i < xs.length) : ∀ j ∈ felled xs sd i r, j < xs.length := by
  unfold felled
  have e : xs[i]? = some xs[i] := by simp [hi]
  rw [e]
  intro j hj
  rcases List.mem_cons.mp hj with rfl | hj
  · exact hi
  · exact beside_lt hi j ((scan_sl xs sd _ _ _).subset hj)
theorem up_le (ns : List Nat) (h : ns.Pairwise (· < ·)) : (ns.map fun (k : Nat) => (k : Int)).Pairwise (· ≤ ·) := by
  rw [List.pairwise_map]
  exact h.imp fun {a b} q => by omega
theorem srt_one {ms : List Int} {ns : List Nat} (s : ms.Pairwise (· ≤ ·)) (h : ns.Pairwise (· < ·)) (p : ms.Perm (ns.map fun (k : Nat) => (k : Int))) : ms = ns.map fun (k : Nat) => (k : Int) :=
  p.eq_of_pairwise (fun _ _ _ _ => Int.le_antisymm) s (up_le ns h)
theorem filter_lt (n : Nat) (p : Nat → Bool) : ((List.range n).filter p).Pairwise (· < ·) := List.Pairwise.filter _ (List.pairwise_lt_range (n := n))
theorem felled_is {xs : List (Int × Int)} {cs : List Cnd} {i : Nat} {r : Bool} {ms : List Int} (hi : i < xs.length) (p : ms.Perm ((felled xs (ups cs) i r).map fun (k : Nat) => (k : Int))) (s : ms.Pairwise (· ≤ ·)) : ms.map V.int = ivs (fellL xs cs i r) := by
  have q : (felled xs (ups cs) i r).Perm (fellL xs cs i r) := (List.perm_ext_iff_of_nodup (felled_nodup hi) (List.Pairwise.filter _ List.nodup_range)).mpr fun j => by
    rw [List.mem_filter, List.mem_range, decide_eq_true_eq]
    exact ⟨fun h => ⟨felled_lt hi j h, h⟩, fun h => h.2⟩
  rw [srt_one s (filter_lt _ _) (p.trans (q.map _))]
  unfold ivs
  rw [List.map_map]
  rfl
theorem fellL_lt {xs : List (Int × Int)} {cs : List Cnd} {i : Nat} {r : Bool} : ∀ j ∈ fellL xs cs i r, j < xs.length := fun j h => List.mem_range.mp (List.mem_filter.mp h).1
theorem fellL_len (xs : List (Int × Int)) (cs : List Cnd) (i : Nat) (r : Bool) : (fellL xs cs i r).length ≤ xs.length := by
  unfold fellL
  have := List.length_filter_le (fun j => decide (j ∈ felled xs (ups cs) i r)) (List.range xs.length)
  rwa [List.length_range] at this
theorem flat_iv (T : List Nat) : (ivs T).all flatV = true := by
  unfold ivs
  rw [List.all_eq_true]
  intro v hv
  obtain ⟨k, _, rfl⟩ := List.mem_map.mp hv
  rfl
theorem inV_iv {j : Nat} {ns : List Nat} : inV (.int (j : Int)) (ivs ns) = decide (j ∈ ns) := by
  unfold inV ivs
  rw [List.any_map, Bool.eq_iff_iff, List.any_eq_true, decide_eq_true_eq]
  constructor
  · rintro ⟨y, hy, e⟩
    have : (y : Int) = j := by simpa [eqV] using e
    have : y = j := by omega
    exact this ▸ hy
  · intro h
    exact ⟨j, h, by simp [eqV]⟩
theorem at_lst {α : Type} {l : List α} {v : α} (h : l[l.length - 1]? = some v) (hl : 0 < l.length) : atI l (-1) = some v := by
  have e : ixN l.length (-1) = some (l.length - 1) := by
    unfold ixN
    rw [if_neg (by decide)]
    have : ((-1 : Int) + (l.length : Int)).toNat = l.length - 1 := by omega
    simp
    omega
  unfold atI
  rw [e]
  exact h
/-! ### what an operation does -/
inductive Opn where
  | push (i : Nat) (r : Bool)
  | lift (i : Nat)
  | take (i : Nat)
def opV : Opn → List V
  | .push i r => [.str "push", .int (i : Nat), .str (sideS r)]
  | .lift i => [.str "lift", .int (i : Nat)]
  | .take i => [.str "take", .int (i : Nat)]
def okOp (cs : List Cnd) : Opn → Prop
  | .push i _ => cs[i]? = some (some true)
  | .lift i => cs[i]? = some (some false)
  | .take i => ∃ b : Bool, cs[i]? = some (some b)
def afterOp (xs : List (Int × Int)) (cs : List Cnd) : Opn → List Cnd
  | .push i r => mark cs (fellL xs cs i r) (some false)
  | .lift i => mark cs [i] (some true)
  | .take i => mark cs [i] none
/-- what an operation returns -/
def ResAt (xs : List (Int × Int)) (cs : List Cnd) (H : Hp) (v : V) : Opn → Prop
  | .push i r => ∃ p : Addr, v = .ref p ∧ H p = some (.lst (ivs (fellL xs cs i r)))
  | .lift i => v = .int ((idxs (mark cs [i] (some true)) (some true)).length : Nat)
  | .take i => v = .bl (decide (cs[i]? = some (some true)))
theorem afterOp_len (xs : List (Int × Int)) (cs : List Cnd) (o : Opn) : (afterOp xs cs o).length = cs.length := by cases o <;> exact mark_len _ _ _
def spWith (K : PySem.W.Frag) : Sp := fun vs H Q _ => ∃ (t : Addr) (cs : List Cnd) (c : Cnd), vs = [.ref t, .str (cndS c)] ∧ SqT K H t (cnV cs) ∧ cs.length ≤ 40 ∧ ∀ D H', Same H H' → H D = none → H' D = some (.lst (ivs (idxs cs c))) → Q (.ref D) H'
def spMark (K : PySem.W.Frag) : Sp := fun vs H Q _ => ∃ (t l : Addr) (cs : List Cnd) (ns : List Nat) (c : Cnd), vs = [.ref t, .ref l, .str (cndS c)] ∧ SqT K H t (cnV cs) ∧ cs.length ≤ 40 ∧ SqL K H l (ivs ns) ∧ ∀ D H', Same H H' → H D = none → H' D = some (.tup (cnV (mark cs ns c))) → Q (.ref D) H'
theorem get_range {n j k : Nat} (h : (List.range n)[k]? = some j) : k < n ∧ j = k := by
  obtain ⟨h1, h2⟩ := List.getElem?_eq_some_iff.mp h
  rw [List.length_range] at h1
  exact ⟨h1, by rw [← h2, List.getElem_range]⟩
section
variable {P : Program} {w : World} {K : PySem.W.Frag} {mg : Str → Option Value} {base : Heap}
theorem ok_stonesWith {f : Addr} {fd : FuncData} (F : Fun K "_stones_with" "_stones_with" s_stones_with f fd) (B : Blt mg) : FnOk P w K mg base CX0 1 f fd ["conditions", "condition"] (spWith K) := by
  refine F.ok sc_stones_with (fun vs H Q E h => ?_) (fun cdv A outer s H vs Q E hr h => ?_)
  · obtain ⟨t, cs, c, rfl, _⟩ := h
    rfl
  · obtain ⟨t, cs, c, rfl, hT, hz, k⟩ := h
    refine ⟨_, pss_one (ps_ret (pe_lc (own := [("stone", 2), ("found", 3)]) (g := gTup K 2 (gCons (gName 2) (gCons (gName 3) gNil))) rfl sc_stones_with.nd (Own.pi_enumT (by rfl) B.enumerate (pa_cons (pv 0) pa_nil)) (blkOk_by (N := n_stones_with) (sc := defScope s_stones_with) (by decide +kernel))
      (fun _ _ _ _ _ => (show PG _ _ (gTup K 2 (gCons (gName 2) (gCons (gName 3) gNil))) from pg_tup rfl (pgs_cons (pg_name (i := 2) sc_stones_with.nd rfl (Or.inl rfl)) (pgs_cons (pg_name (i := 3) sc_stones_with.nd rfl (Or.inl rfl)) pgs_nil))))
      (fun _ _ _ _ _ => pts_one (pt_cmpR (op_eq) (pv 3) (pv 1) (nomark _))) (fun _ _ _ _ _ => pv 2))), ?_⟩
    refine ⟨_, rfl, t, cnV cs, rfl, hT, fun D nD => lc_fm (Own.walk_item (K := K) (a := t) (xs := cnV cs)) (List.range cs.length) (fun j => decide (cs[j]? = some c)) (fun j => j) (fun _ v (m : Nat) => v = V.int (m : Int)) (by rw [List.length_range, cnV_len]) (by rw [cnV_len]; omega) nD (fun _ _ _ _ _ _ _ q => q) (fun G s => sqT_same hT s) ?_ ?_⟩
    · rintro i j x G G' N' M' hj sm _ ⟨T, y, z, rfl, nT, rfl, e1, e2⟩ no go
      obtain rfl : y = V.int (i : Int) := (Option.some.inj e1).symm
      obtain ⟨hi, rfl⟩ := get_range hj
      obtain ⟨d, hd⟩ : ∃ d, cs[j]? = some d := ⟨cs[j], by simp [hi]⟩
      obtain rfl : z = V.str (cndS d) := Option.some.inj (e2.symm.trans (cnV_at hd))
      refine ⟨T, _, rfl, SqT.of upd_same, rfl, _, _, rfl, _, _, rfl, rfl, rfl, _, rfl, _, rfl, rfl, _, rfl, ?_⟩
      rw [cnd_dec]
      have ep : decide (cs[j]? = some c) = decide (d = c) := by rw [hd]; simp
      by_cases q : d = c
      · rw [decide_eq_true q]
        exact iteT ⟨_, rfl, go _ _ (by rw [ep, decide_eq_true q]) (same_new nT) rfl⟩
      · rw [decide_eq_false q]
        exact iteF (no _ (by rw [ep, decide_eq_false q]) (same_new nT))
    · intro G ys sm eD rel
      have e := paired_eq (fun m : Nat => V.int (m : Int)) rel
      exact k D G sm nD (by rw [eD, e, List.map_id']; rfl)
theorem ok_mark {f : Addr} {fd : FuncData} (F : Fun K "_with_condition" "_with_condition" s_with_condition f fd) (B : Blt mg) : FnOk P w K mg base CX0 1 f fd ["conditions", "stones", "condition"] (spMark K) := by
  refine F.ok sc_with_condition (fun vs H Q E h => ?_) (fun cdv A outer s H vs Q E hr h => ?_)
  · obtain ⟨t, l, cs, ns, c, rfl, _⟩ := h
    rfl
  · obtain ⟨t, l, cs, ns, c, rfl, hT, hz, hL, k⟩ := h
    refine ⟨_, pss_one (ps_ret (pe_tupleOf (by rfl) B.tuple (pe_lc (own := [("stone", 3), ("kept", 4)]) (g := gTup K 2 (gCons (gName 3) (gCons (gName 4) gNil))) rfl sc_with_condition.nd (Own.pi_enumT (by rfl) B.enumerate (pa_cons (pv 0) pa_nil)) (blkOk_by (N := n_with_condition) (sc := defScope s_with_condition) (by decide +kernel))
      (fun _ _ _ _ _ => (show PG _ _ (gTup K 2 (gCons (gName 3) (gCons (gName 4) gNil))) from pg_tup rfl (pgs_cons (pg_name (i := 3) sc_with_condition.nd rfl (Or.inl rfl)) (pgs_cons (pg_name (i := 4) sc_with_condition.nd rfl (Or.inl rfl)) pgs_nil))))
      (fun _ _ _ _ _ => pts_nil) (fun _ _ _ _ _ => (show PE _ _ (tIf (tTest (tOp (rIn K false) (tVar 3) (tVar 1))) (tVar 2) (tVar 4)) from pe_ifExp (pt_cmpR (op_in_seq) (pv 3) (pv 1) (by rfl)) (pv 2) (pv 4)))))), ?_⟩
    refine ⟨_, rfl, t, cnV cs, rfl, hT, fun D nD => lc_fm (Own.walk_item (K := K) (a := t) (xs := cnV cs)) (List.range cs.length) (fun _ => true) (fun j => if j ∈ ns then c else cs.getD j none) (fun _ v (m : Cnd) => v = V.str (cndS m)) (by rw [List.length_range, cnV_len]) (by rw [cnV_len]; omega) nD (fun _ _ _ _ _ _ _ q => q) (fun G s => sqT_same hT s) ?_ ?_⟩
    · rintro i j x G G' N' M' hj sm _ ⟨T, y, z, rfl, nT, rfl, e1, e2⟩ no go
      obtain rfl : y = V.int (i : Int) := (Option.some.inj e1).symm
      obtain ⟨hi, rfl⟩ := get_range hj
      obtain ⟨d, hd⟩ : ∃ d, cs[j]? = some d := ⟨cs[j], by simp [hi]⟩
      obtain rfl : z = V.str (cndS d) := Option.some.inj (e2.symm.trans (cnV_at hd))
      have sT := sm.trans (same_new (o := .tup [V.int (j : Int), V.str (cndS d)]) nT)
      refine ⟨T, _, rfl, SqT.of upd_same, rfl, _, _, rfl, _, _, rfl, rfl, rfl, _, rfl, _, rfl, l, _, rfl, .inl (sT.seq hL), rfl, flat_iv _, _, rfl, ?_⟩
      rw [if_neg Bool.false_ne_true, inV_iv]
      by_cases q : j ∈ ns
      · rw [decide_eq_true q]
        exact iteT ⟨_, rfl, go _ _ rfl (same_new nT) (by rw [if_pos q])⟩
      · rw [decide_eq_false q]
        exact iteF ⟨_, rfl, go _ _ rfl (same_new nT) (by rw [if_neg q, List.getD_eq_getElem?_getD, hd]; rfl)⟩
    · intro G ys sm eD rel
      have e := paired_eq (fun m : Cnd => V.str (cndS m)) rel
      refine .inl ⟨D, _, rfl, SqL.of eD, fun q nq => ?_⟩
      refine k q _ (sm.trans (same_new nq)) (Same.free sm nq) ?_
      rw [upd_same, e, List.filter_eq_self.mpr (fun _ _ => rfl)]
      rfl
end
/-! ### operations executed -/
def opN : Opn → Str
  | .push _ _ => "push"
  | .lift _ => "lift"
  | .take _ => "take"
def opC : Opn → Nat
  | .push _ _ => 2
  | .lift _ => 1
  | .take _ => 1
def opI : Opn → Nat
  | .push i _ => i
  | .lift i => i
  | .take i => i
theorem opV_at0 (o : Opn) : (opV o)[0]? = some (.str (opN o)) := by cases o <;> rfl
theorem opV_at1 (o : Opn) : (opV o)[1]? = some (.int ((opI o : Nat) : Int)) := by cases o <;> rfl
theorem opV_len (o : Opn) : (opV o).length = opC o + 1 := by cases o <;> rfl
theorem ok_lt {cs : List Cnd} {o : Opn} (h : okOp cs o) : opI o < cs.length := by
  cases o with
  | push i r => exact (List.getElem?_eq_some_iff.mp h).1
  | lift i => exact (List.getElem?_eq_some_iff.mp h).1
  | take i => obtain ⟨b, h⟩ := h; exact (List.getElem?_eq_some_iff.mp h).1
/-- the global names of the module -/
structure LiveM (K : PySem.W.Frag) (w : World) (mg : Str → Option Value) : Prop where
  st : ∃ t, mg "STANDING" = some (.str "standing" t)
  ly : ∃ t, mg "LYING" = some (.str "lying" t)
  ta : ∃ t, mg "TAKEN" = some (.str "taken" t)
  str : mg "str" = none
  ac : ∃ d es n, mg "ARGUMENT_COUNTS" = some (.ref d) ∧ KDict K w d es n ∧ ∀ o : Opn, ∃ t, PySem.W.nsIn K d (opN o) = some (some (.int (opC o : Nat) t))
def Done (K : PySem.W.Frag) (xs : List (Int × Int)) (cs : List Cnd) (op : Opn) (H : Hp) (Q : VK) : Prop :=
  ∀ T v c' H', Same H H' → H' T = some (.tup [v, .ref c']) → ResAt xs cs H' v op → (∀ p, v = .ref p → H p = none) → SqT K H' c' (cnV (afterOp xs cs op)) → Q (.ref T) H'
def spIsOp (K : PySem.W.Frag) : Sp := fun vs H Q _ => ∃ (a : Addr) (o : Opn), vs = [.ref a] ∧ SqT K H a (opV o) ∧ Q (.bl true) H
def spPushed (K : PySem.W.Frag) : Sp := fun vs H Q _ => ∃ (t c : Addr) (us : List V) (xs : List (Int × Int)) (cs : List Cnd) (i : Nat) (r : Bool), vs = [.ref t, .ref c, .int (i : Nat), .str (sideS r)] ∧ SqT K H t us ∧ StonesAt K H us xs ∧ SqT K H c (cnV cs) ∧ cs.length = xs.length ∧ xs.length ≤ 40 ∧ cs[i]? = some (some true) ∧ Done K xs cs (.push i r) H Q
def spLifted (K : PySem.W.Frag) : Sp := fun vs H Q _ => ∃ (c : Addr) (xs : List (Int × Int)) (cs : List Cnd) (i : Nat), vs = [.ref c, .int (i : Nat)] ∧ SqT K H c (cnV cs) ∧ cs.length ≤ 40 ∧ cs[i]? = some (some false) ∧ Done K xs cs (.lift i) H Q
def spTakenL (K : PySem.W.Frag) : Sp := fun vs H Q _ => ∃ (c : Addr) (xs : List (Int × Int)) (cs : List Cnd) (i : Nat) (b : Bool), vs = [.ref c, .int (i : Nat)] ∧ SqT K H c (cnV cs) ∧ cs.length ≤ 40 ∧ cs[i]? = some (some b) ∧ Done K xs cs (.take i) H Q
def spExec (K : PySem.W.Frag) : Sp := fun vs H Q _ => ∃ (t c o : Addr) (us : List V) (xs : List (Int × Int)) (cs : List Cnd) (op : Opn), vs = [.ref t, .ref c, .ref o] ∧ SqT K H t us ∧ StonesAt K H us xs ∧ SqT K H c (cnV cs) ∧ cs.length = xs.length ∧ xs.length ≤ 40 ∧ SqT K H o (opV op) ∧ okOp cs op ∧ Done K xs cs op H Q
section
variable {P : Program} {w : World} {K : PySem.W.Frag} {mg : Str → Option Value} {base : Heap}
theorem ok_isOp {f : Addr} {fd : FuncData} (F : Fun K "_is_operation" "_is_operation" s_is_operation f fd) (B : Blt mg) (LM : LiveM K w mg) : FnOk P w K mg base CX0 1 f fd ["value"] (spIsOp K) := by
  obtain ⟨_, _, _, zS, d, es, n, mD, KD, ND⟩ := id LM
  refine F.ok sc_is_operation (fun vs H Q E h => ?_) (fun cdv A outer s H vs Q E hr h => ?_)
  · obtain ⟨a, o, rfl, _⟩ := h
    rfl
  · obtain ⟨a, o, rfl, hT, k⟩ := h
    refine ⟨_, pss_cons (ps_if (PW.pt (pw_or (pt_not (pt_val (pe_callB (call_isi) (by rfl) B.isinstance boot_isinstance (pa_cons (pv 0) (pa_cons (pe_bltn (v := .ty "tuple") (by rfl) B.tuple boot_tuple rfl) pa_nil))))) (pw_or (pt_cmpR (op_eq) (pe_callB call_len_seq (by rfl) B.len PySem.boot_len (pa_cons (pv 0) pa_nil)) (pe_int) (nomark _)) (pw_or1 (pt_not (pt_val (pe_callB (call_isi) (by rfl) B.isinstance boot_isinstance (pa_cons (pe_ix ix_tup (pv 0) (pe_int) (fun _ _ => rfl)) (pa_cons (pe_bltn (v := .ty "str") (by rfl) zS boot_str rfl) pa_nil))))))))) (pss_one (ps_ret pe_bl)) pss_nil)
      (pss_one (ps_ret (pe_and (pe_cmpR (op_in_kd KD) (pe_ix ix_tup (pv 0) (pe_int) (fun _ _ => rfl)) (pe_glob (v := .ref d) (by rfl) mD rfl) (by rfl)) (pe_one (pe_cmpR (op_eq) (pe_op op_sub (pe_callB call_len_seq (by rfl) B.len PySem.boot_len (pa_cons (pv 0) pa_nil)) (pe_int)) (pe_ix ix_kdict (pe_glob (v := .ref d) (by rfl) mD rfl) (pe_ix ix_tup (pv 0) (pe_int) (fun _ _ => rfl)) (fun _ _ => rfl)) (nomark _)))))), ?_⟩
    obtain ⟨tk, eN⟩ := ND o
    refine ⟨_, rfl, _, .ty "tuple", _, _, true, rfl, .ty _, tyT hT, kit_ty (by decide +kernel), true, rfl, ?_⟩
    refine iteF ⟨_, rfl, a, _, rfl, .inr hT, rfl, _, rfl, ?_⟩
    have e0 : decide (V.int ((opV o).length : Int) = V.int 0) = false := by rw [dec_int, opV_len]; simp; omega
    rw [e0]
    refine iteF ⟨_, rfl, a, _, ((0 : Nat) : Int), _, rfl, rfl, hT, atI_nat (opV_at0 o), _, _, _, _, true, rfl, .ty "str", .base (.str _), kit_ty (by decide +kernel), true, rfl, ?_⟩
    refine iteF ?_
    refine ⟨_, rfl, a, _, ((0 : Nat) : Int), _, rfl, rfl, hT, atI_nat (opV_at0 o), _, _, rfl, rfl, eN, _, rfl, iteT ?_⟩
    refine ⟨_, rfl, a, _, rfl, .inr hT, _, _, rfl, rfl, _, rfl, a, _, ((0 : Nat) : Int), _, rfl, rfl, hT, atI_nat (opV_at0 o), d, _, .int ((opC o : Nat) : Int), rfl, rfl, ⟨es, n, _, KD.at_, KD.lit, eN, ⟨tk, rfl⟩⟩, rfl, ?_⟩
    have e1 : decide (V.int (((opV o).length : Int) - 1) = V.int ((opC o : Nat) : Int)) = true := by rw [dec_int, opV_len]; simp
    rw [e1]
    exact k
theorem ok_pushed {f g1 g2 g3 : Addr} {fd d1 d2 d3 : FuncData} (F : Fun K "_pushed" "_pushed" s_pushed f fd) (LM : LiveM K w mg) (N1 : At P w K mg base CX0 1 "check_side" ["side"] spCheckSide g1 d1)
    (N2 : At P w K mg base CX0 2 "felled_by" ["stones", "standing", "stone", "side"] (spFelled K) g2 d2) (N3 : At P w K mg base CX0 1 "_with_condition" ["conditions", "stones", "condition"] (spMark K) g3 d3) :
    FnOk P w K mg base CX0 3 f fd ["stones", "conditions", "stone", "side"] (spPushed K) := by
  obtain ⟨⟨t1, mS⟩, ⟨t2, mL⟩, _, _, _⟩ := id LM
  refine F.ok sc_pushed (fun vs H Q E h => ?_) (fun cdv A outer s H vs Q E hr h => ?_)
  · obtain ⟨t, c, us, xs, cs, i, r, rfl, _⟩ := h
    rfl
  · obtain ⟨t, c, us, xs, cs, i, r, rfl, hT, hS, hC, hl, hz, hi, k⟩ := h
    have r1 : Room 1 _ := hr.mono (by decide)
    refine ⟨_, pss_cons (ps_expr (pe_at N1 r1 (pa_cons (pv 3) pa_nil)))
      (pss_cons (ps_if (pt_cmpR (op_ne) (pe_ix ix_tup (pv 1) (pv 2) (fun _ _ => rfl)) (pe_glob (v := .str "standing") (by rfl) mS ⟨_, rfl⟩) (nomark _)) (pss_one ps_never) pss_nil)
      (pss_cons (ps_setLc (i := 4) (own := [("condition", 5)]) (g := gName 5) (tt := tYes) rfl sc_pushed.nd rfl rfl (sw_true rfl rfl rfl (by decide +kernel)) (pi_tup (pv 1)) (blkOk_by (N := n_pushed) (sc := defScope s_pushed) (by decide +kernel))
          (fun _ _ _ _ _ => pg_name (i := 5) sc_pushed.nd rfl (Or.inl rfl)) (fun _ _ _ _ _ => pts_nil) (fun _ _ _ _ _ => (show PE _ _ (tOp rEq (tVar 5) (tC (.str "standing"))) from pe_cmpR (op_eq) (pv 5) (pe_glob (v := .str "standing") (by rfl) mS ⟨_, rfl⟩) (nomark _))))
      (pss_cons (ps_set (i := 6) sc_pushed.nd rfl (Or.inl rfl) (pe_at N2 hr (pa_cons (pv 0) (pa_cons (pv 4) (pa_cons (pv 2) (pa_cons (pv 3) pa_nil))))))
      (pss_one (ps_ret (pe_tup (pa_cons (pv 6) (pa_cons (pe_at N3 r1 (pa_cons (pv 1) (pa_cons (pv 6) (pa_cons (pe_glob (v := .str "lying") (by rfl) mL ⟨_, rfl⟩) pa_nil)))) pa_nil)))))))), ?_⟩
    have hin : i < xs.length := by rw [← hl]; exact (List.getElem?_eq_some_iff.mp hi).1
    refine ⟨_, rfl, r, rfl, ?_⟩
    refine ⟨_, rfl, _, rfl, c, _, ((i : Nat) : Int), _, rfl, rfl, hC, atI_nat (cnV_at hi), rfl, _, rfl, ?_⟩
    have e0 : (!decide (V.str (cndS (some true)) = V.str "standing")) = false := by decide +kernel
    rw [e0]
    refine iteF ?_
    refine ⟨_, rfl, c, rfl, ⟨_, hC⟩, fun D nD => lc_fm (walk_tup (K := K) (a := c) (xs := cnV cs)) cs (fun _ => true) (fun d => decide (d = some true)) (fun _ v (b : Bool) => v = V.bl b) (by rw [cnV_len]) (by rw [cnV_len]; omega) nD (fun _ _ _ _ _ _ _ q => q) (fun G s => sqT_same hC s) ?_ ?_⟩
    · rintro n d x G G' N' M' hj sm _ ⟨rfl, hx⟩ _ go
      obtain rfl : x = V.str (cndS d) := Option.some.inj (hx.symm.trans (cnV_at hj))
      exact ⟨rfl, _, rfl, rfl, go _ _ rfl (Same.refl _) (congrArg V.bl (cnd_dec d (some true)))⟩
    · intro G ys sm eD rel
      have e := paired_eq (fun b : Bool => V.bl b) rel
      rw [List.filter_eq_self.mpr (fun _ _ => rfl)] at e
      have eD : G D = some (.lst ((ups cs).map V.bl)) := by rw [eD, e]; rfl
      refine nm_of ?_
      refine ⟨_, rfl, _, rfl, _, rfl, _, rfl, t, D, us, xs, ups cs, i, r, rfl, sqT_same hT sm, hS.same sm, SqL.of eD, by rw [ups_len, hl], hin, hz, fun ns p G2 pm ps s2 np ep => ?_⟩
      refine nm_of ?_
      have ep : G2 p = some (.lst (ivs (fellL xs cs i r))) := by rw [ep, felled_is hin pm ps]
      have s12 := sm.trans s2
      refine ⟨_, rfl, _, rfl, _, rfl, c, p, cs, fellL xs cs i r, some false, rfl, sqT_same hC s12, by omega, SqL.of ep, fun c' G3 s3 nc' ec' => ?_⟩
      refine ⟨by show 2 ≤ sizeLine; decide, fun T nT => ?_⟩
      have s4 := s3.trans (same_new (o := .tup [V.ref p, V.ref c']) nT)
      exact k T _ c' _ (s12.trans s4) upd_same ⟨p, rfl, s4 _ _ ep⟩ (fun q e => by cases e; exact Same.free sm np) (SqT.of (same_new nT _ _ ec'))
end
section
variable {P : Program} {w : World} {K : PySem.W.Frag} {mg : Str → Option Value} {base : Heap}
theorem ok_lifted {f g1 g3 : Addr} {fd d1 d3 : FuncData} (F : Fun K "_lifted" "_lifted" s_lifted f fd) (B : Blt mg) (LM : LiveM K w mg) (N1 : At P w K mg base CX0 1 "_stones_with" ["conditions", "condition"] (spWith K) g1 d1)
    (N3 : At P w K mg base CX0 1 "_with_condition" ["conditions", "stones", "condition"] (spMark K) g3 d3) : FnOk P w K mg base CX0 2 f fd ["conditions", "stone"] (spLifted K) := by
  obtain ⟨⟨t1, mS⟩, ⟨t2, mL⟩, _, _, _⟩ := id LM
  refine F.ok sc_lifted (fun vs H Q E h => ?_) (fun cdv A outer s H vs Q E hr h => ?_)
  · obtain ⟨c, xs, cs, i, rfl, _⟩ := h
    rfl
  · obtain ⟨c, xs, cs, i, rfl, hC, hz, hi, k⟩ := h
    refine ⟨_, pss_cons (ps_if (pt_cmpR (op_ne) (pe_ix ix_tup (pv 0) (pv 1) (fun _ _ => rfl)) (pe_glob (v := .str "lying") (by rfl) mL ⟨_, rfl⟩) (nomark _)) (pss_one ps_never) pss_nil)
      (pss_cons (ps_set (i := 2) sc_lifted.nd rfl (Or.inl rfl) (pe_at N3 hr (pa_cons (pv 0) (pa_cons (pe_lst (pa_cons (pv 1) pa_nil)) (pa_cons (pe_glob (v := .str "standing") (by rfl) mS ⟨_, rfl⟩) pa_nil)))))
      (pss_one (ps_ret (pe_tup (pa_cons (pe_callB call_len_seq (by rfl) B.len PySem.boot_len (pa_cons (pe_at N1 hr (pa_cons (pv 2) (pa_cons (pe_glob (v := .str "standing") (by rfl) mS ⟨_, rfl⟩) pa_nil))) pa_nil)) (pa_cons (pv 2) pa_nil)))))), ?_⟩
    refine ⟨_, rfl, _, rfl, c, _, ((i : Nat) : Int), _, rfl, rfl, hC, atI_nat (cnV_at hi), rfl, _, rfl, ?_⟩
    have e0 : (!decide (V.str (cndS (some false)) = V.str "lying")) = false := by decide +kernel
    rw [e0]
    refine iteF ?_
    refine ⟨_, rfl, _, rfl, by show 1 ≤ sizeLine; decide, fun l nl => ?_⟩
    have s1 := same_new (o := .lst [V.int (i : Int)]) nl
    refine ⟨c, l, cs, [i], some true, rfl, sqT_same hC s1, by omega, SqL.of upd_same, fun c' H2 s2 nc' ec' => ?_⟩
    refine nm_of ?_
    have s12 := s1.trans s2
    refine ⟨_, rfl, c', mark cs [i] (some true), some true, rfl, SqT.of ec', by rw [mark_len]; omega, fun D H3 s3 nD eD => ?_⟩
    refine ⟨D, _, rfl, .inl (SqL.of eD), _, rfl, by show 2 ≤ sizeLine; decide, fun T nT => ?_⟩
    have s4 := s3.trans (same_new (o := .tup [V.int ((ivs (idxs (mark cs [i] (some true)) (some true))).length : Nat), V.ref c']) nT)
    exact k T _ c' _ (s12.trans s4) upd_same (by show V.int _ = V.int _; unfold ivs; rw [List.length_map]) (fun q e => by cases e) (SqT.of (s4 _ _ ec'))
theorem ok_takenL {f g3 : Addr} {fd d3 : FuncData} (F : Fun K "_taken" "_taken" s_taken f fd) (LM : LiveM K w mg)
    (N3 : At P w K mg base CX0 1 "_with_condition" ["conditions", "stones", "condition"] (spMark K) g3 d3) : FnOk P w K mg base CX0 2 f fd ["conditions", "stone"] (spTakenL K) := by
  obtain ⟨⟨t1, mS⟩, _, ⟨t3, mT⟩, _, _⟩ := id LM
  refine F.ok sc_taken (fun vs H Q E h => ?_) (fun cdv A outer s H vs Q E hr h => ?_)
  · obtain ⟨c, xs, cs, i, b, rfl, _⟩ := h
    rfl
  · obtain ⟨c, xs, cs, i, b, rfl, hC, hz, hi, k⟩ := h
    refine ⟨_, pss_cons (ps_if (pt_cmpR (op_eq) (pe_ix ix_tup (pv 0) (pv 1) (fun _ _ => rfl)) (pe_glob (v := .str "taken") (by rfl) mT ⟨_, rfl⟩) (nomark _)) (pss_one ps_never) pss_nil)
      (pss_one (ps_ret (pe_tup (pa_cons (pe_cmpR (op_eq) (pe_ix ix_tup (pv 0) (pv 1) (fun _ _ => rfl)) (pe_glob (v := .str "standing") (by rfl) mS ⟨_, rfl⟩) (nomark _)) (pa_cons (pe_at N3 hr (pa_cons (pv 0) (pa_cons (pe_lst (pa_cons (pv 1) pa_nil)) (pa_cons (pe_glob (v := .str "taken") (by rfl) mT ⟨_, rfl⟩) pa_nil)))) pa_nil))))), ?_⟩
    refine ⟨_, rfl, _, rfl, c, _, ((i : Nat) : Int), _, rfl, rfl, hC, atI_nat (cnV_at hi), rfl, _, rfl, ?_⟩
    rw [show decide (V.str (cndS (some b)) = V.str "taken") = false by cases b <;> decide +kernel]
    refine iteF ?_
    refine ⟨_, rfl, _, rfl, c, _, ((i : Nat) : Int), _, rfl, rfl, hC, atI_nat (cnV_at hi), rfl, _, rfl, _, rfl, by show 1 ≤ sizeLine; decide, fun l nl => ?_⟩
    have s1 := same_new (o := .lst [V.int (i : Int)]) nl
    refine ⟨c, l, cs, [i], none, rfl, sqT_same hC s1, by omega, SqL.of upd_same, fun c' H2 s2 nc' ec' => ?_⟩
    have s12 := s1.trans s2
    refine ⟨by show 2 ≤ sizeLine; decide, fun T nT => ?_⟩
    have s3 := same_new (o := .tup [V.bl (decide (V.str (cndS (some b)) = V.str "standing")), V.ref c']) nT
    exact k T _ c' _ (s12.trans s3) upd_same (by show V.bl _ = V.bl _; rw [show ("standing" : Str) = cndS (some true) from rfl, cnd_dec, hi]; simp) (fun q e => by cases e) (SqT.of (s3 _ _ ec'))
theorem ok_executed {f g1 g2 g3 g4 : Addr} {fd d1 d2 d3 d4 : FuncData} (F : Fun K "_executed" "_executed" s_executed f fd) (B : Blt mg) (N1 : At P w K mg base CX0 2 "check_stone" ["stone", "count"] spCheckStone g1 d1)
    (N2 : At P w K mg base CX0 3 "_pushed" ["stones", "conditions", "stone", "side"] (spPushed K) g2 d2) (N3 : At P w K mg base CX0 2 "_lifted" ["conditions", "stone"] (spLifted K) g3 d3) (N4 : At P w K mg base CX0 2 "_taken" ["conditions", "stone"] (spTakenL K) g4 d4) :
    FnOk P w K mg base CX0 4 f fd ["stones", "conditions", "operation"] (spExec K) := by
  refine F.ok sc_executed (fun vs H Q E h => ?_) (fun cdv A outer s H vs Q E hr h => ?_)
  · obtain ⟨t, c, o, us, xs, cs, op, rfl, _⟩ := h
    rfl
  · obtain ⟨t, c, o, us, xs, cs, op, rfl, hT, hS, hC, hl, hz, hO, ok, k⟩ := h
    have r2 : Room 2 _ := hr.mono (by decide)
    refine ⟨_, pss_cons (ps_asg (pe_slice sl_tupA (pv 2) po_none (po_some pe_int)) (pg_tup rfl (pgs_cons (pg_name (i := 3) sc_executed.nd rfl (Or.inl rfl)) (pgs_cons (pg_name (i := 4) sc_executed.nd rfl (Or.inl rfl)) pgs_nil))))
      (pss_cons (ps_expr (pe_at N1 r2 (pa_cons (pv 4) (pa_cons (pe_callB call_len_seq (by rfl) B.len PySem.boot_len (pa_cons (pv 0) pa_nil)) pa_nil))))
      (pss_cons (ps_if (pt_cmpR (op_eq) (pv 3) (pe_str) (nomark _)) (pss_one (ps_ret (pe_at N2 hr (pa_cons (pv 0) (pa_cons (pv 1) (pa_cons (pv 4) (pa_cons (pe_ix ix_tup (pv 2) (pe_int) (fun _ _ => rfl)) pa_nil))))))) pss_nil)
      (pss_cons (ps_if (pt_cmpR (op_eq) (pv 3) (pe_str) (nomark _)) (pss_one (ps_ret (pe_at N3 r2 (pa_cons (pv 1) (pa_cons (pv 4) pa_nil))))) pss_nil)
      (pss_one (ps_ret (pe_at N4 r2 (pa_cons (pv 1) (pa_cons (pv 4) pa_nil)))))))), ?_⟩
    have hlt := ok_lt ok
    have ol := opV_len op
    -- name, stone = operation[:2]
    have cut : ∀ {G : VK}, (∀ z H', Same H H' → SqT K H' z [.str (opN op), .int ((opI op : Nat) : Int)] → G (.ref z) H') → rSlA K (.ref o) none (some 2) H G := fun {G} go => by
      refine ⟨o, opV op, rfl, hO, fun h => ?_, fun h p np => go p _ (same_new np) (SqT.of (by rw [upd_same]; cases op <;> rfl))⟩
      refine go o H (Same.refl _) ?_
      cases op with
      | push i r => exact absurd h.2 (by show ¬ (2 : Nat) = 3; decide)
      | lift i => exact hO
      | take i => exact hO
    refine ⟨_, rfl, 2, rfl, cut fun z H1 s1 hz1 => ?_⟩
    refine ⟨z, _, rfl, hz1, rfl, _, _, rfl, _, _, rfl, rfl, ?_⟩
    have hT1 := sqT_same hT s1
    have hC1 := sqT_same hC s1
    have hO1 := sqT_same hO s1
    refine ⟨_, rfl, _, rfl, t, us, rfl, .inr hT1, opI op, xs.length, by rw [hS.1]; rfl, by omega, ?_⟩
    refine ⟨_, rfl, rfl, _, rfl, ?_⟩
    have fin : ∀ {Q2 : VK}, (∀ v H', Q2 v H' = Q v H') → Done K xs cs op H1 Q2 := fun {Q2} e T v c' H' s' a1 a2 a3 a4 => (e _ _).symm ▸ k T v c' H' (s1.trans s') a1 a2 (fun p hp => Same.free s1 (a3 p hp)) a4
    cases op with
    | push i r =>
      refine iteT ⟨_, rfl, _, rfl, _, rfl, _, rfl, o, _, ((2 : Nat) : Int), _, rfl, rfl, hO1, atI_nat (j := 2) rfl, t, c, us, xs, cs, i, r, rfl, hT1, hS.same s1, hC1, hl, hz, ok, fin fun _ _ => rfl⟩
    | lift i =>
      refine iteF ⟨_, rfl, rfl, _, rfl, iteT ⟨_, rfl, _, rfl, c, xs, cs, i, rfl, hC1, by omega, ok, fin fun _ _ => rfl⟩⟩
    | take i =>
      obtain ⟨b, ok⟩ := ok
      refine iteF ⟨_, rfl, rfl, _, rfl, iteF ⟨_, rfl, _, rfl, c, xs, cs, i, b, rfl, hC1, by omega, ok, fin fun _ _ => rfl⟩⟩
end
/-! ### LiveRow -/
structure ClsL (K : PySem.W.Frag) (D : Addr) : Prop where
  cl : Cls K D
  n1 : NoAttr K D "_stones"
  n2 : NoAttr K D "_steps"
  n3 : NoAttr K D "_last_step"
  n4 : NoAttr K D "_is_open"
  n5 : NoAttr K D "_kept_steps"
  n6 : NoAttr K D "_kept_last_step"
abbrev Step := Option Opn × List Cnd
def liveF (t st : Addr) (n : Nat) (o : Bool) (k1 k2 : V) : List (Str × V) := [("_stones", .ref t), ("_steps", .ref st), ("_last_step", .int (n : Nat)), ("_is_open", .bl o), ("_kept_steps", k1), ("_kept_last_step", k2)]
def OpAt (K : PySem.W.Frag) (H : Hp) (v : V) : Option Opn → Prop
  | none => v = .non
  | some op => ∃ o : Addr, v = .ref o ∧ SqT K H o (opV op)
def StepAt (K : PySem.W.Frag) (H : Hp) (v : V) (s : Step) : Prop := ∃ (a : Addr) (ov : V) (c : Addr), v = .ref a ∧ SqT K H a [ov, .ref c] ∧ OpAt K H ov s.1 ∧ SqT K H c (cnV s.2)
theorem OpAt.same {K : PySem.W.Frag} {H H' : Hp} {v : V} {o : Option Opn} (h : OpAt K H v o) (e : Same H H') : OpAt K H' v o := by
  cases o with
  | none => exact h
  | some op => obtain ⟨a, h1, h2⟩ := h; exact ⟨a, h1, sqT_same h2 e⟩
theorem StepAt.same {K : PySem.W.Frag} {H H' : Hp} {v : V} {s : Step} (h : StepAt K H v s) (e : Same H H') : StepAt K H' v s := by
  obtain ⟨a, ov, c, h1, h2, h3, h4⟩ := h
  exact ⟨a, ov, c, h1, sqT_same h2 e, h3.same e, sqT_same h4 e⟩
/-- what is no instance stands -/
theorem sqT_ins {K : PySem.W.Frag} {H H' : Hp} {q D : Addr} {dx : Addr} {fs : List (Str × V)} {a : Addr} {xs : List V} (h : SqT K H a xs) (eq : H q = some (.ins D dx fs)) (b : But q H H') : SqT K H' a xs := by
  rcases h with (h | ⟨o, h⟩) | h
  · exact .inl (.inl (b _ _ (fun e => by rw [e, eq] at h; cases h) h))
  · exact .inl (.inr ⟨o, b _ _ (fun e => by rw [e, eq] at h; cases h) h⟩)
  · exact .inr h
theorem StonesAt.ins {K : PySem.W.Frag} {H H' : Hp} {q D : Addr} {dx : Addr} {fs : List (Str × V)} {us : List V} {xs : List (Int × Int)} (h : StonesAt K H us xs) (eq : H q = some (.ins D dx fs)) (b : But q H H') : StonesAt K H' us xs :=
  ⟨h.1, fun k x e => by obtain ⟨a, h1, h2⟩ := h.2 k x e; exact ⟨a, h1, sqT_ins h2 eq b⟩⟩
theorem OpAt.ins {K : PySem.W.Frag} {H H' : Hp} {q D : Addr} {dx : Addr} {fs : List (Str × V)} {v : V} {o : Option Opn} (h : OpAt K H v o) (eq : H q = some (.ins D dx fs)) (b : But q H H') : OpAt K H' v o := by
  cases o with
  | none => exact h
  | some op => obtain ⟨a, h1, h2⟩ := h; exact ⟨a, h1, sqT_ins h2 eq b⟩
theorem StepAt.ins {K : PySem.W.Frag} {H H' : Hp} {q D : Addr} {dx : Addr} {fs : List (Str × V)} {v : V} {s : Step} (h : StepAt K H v s) (eq : H q = some (.ins D dx fs)) (b : But q H H') : StepAt K H' v s := by
  obtain ⟨a, ov, c, h1, h2, h3, h4⟩ := h
  exact ⟨a, ov, c, h1, sqT_ins h2 eq b, h3.ins eq b, sqT_ins h4 eq b⟩
def StepsAt (K : PySem.W.Frag) (H : Hp) (ws : List V) (ss : List Step) : Prop := Paired (StepAt K H) ws ss
/-- a live row as it stands, its fields told -/
structure LiveX (K : PySem.W.Frag) (H : Hp) (q D dx t st : Addr) (n : Nat) (o : Bool) (k1 k2 : V) (us ws : List V) (xs : List (Int × Int)) (ss : List Step) : Prop where
  at_ : H q = some (.ins D dx (liveF t st n o k1 k2))
  hT : SqT K H t us
  hS : StonesAt K H us xs
  hW : SqT K H st ws
  hP : StepsAt K H ws ss
def LiveAt (K : PySem.W.Frag) (H : Hp) (q D : Addr) (xs : List (Int × Int)) (ss : List Step) (n : Nat) : Prop := ∃ dx t st o k1 k2 us ws, LiveX K H q D dx t st n o k1 k2 us ws xs ss
theorem LiveX.same {K : PySem.W.Frag} {H H' : Hp} {q D dx t st : Addr} {n : Nat} {o : Bool} {k1 k2 : V} {us ws : List V} {xs : List (Int × Int)} {ss : List Step} (h : LiveX K H q D dx t st n o k1 k2 us ws xs ss) (e : Same H H') : LiveX K H' q D dx t st n o k1 k2 us ws xs ss :=
  ⟨e _ _ h.at_, sqT_same h.hT e, h.hS.same e, sqT_same h.hW e, paired_imp (fun _ _ q => q.same e) h.hP⟩
theorem LiveAt.same {K : PySem.W.Frag} {H H' : Hp} {q D : Addr} {xs : List (Int × Int)} {ss : List Step} {n : Nat} (h : LiveAt K H q D xs ss n) (e : Same H H') : LiveAt K H' q D xs ss n := by
  obtain ⟨dx, t, st, o, k1, k2, us, ws, h⟩ := h
  exact ⟨dx, t, st, o, k1, k2, us, ws, h.same e⟩
theorem LiveAt.ref {K : PySem.W.Frag} {H : Hp} {q D : Addr} {xs : List (Int × Int)} {ss : List Step} {n : Nat} (h : LiveAt K H q D xs ss n) : ∃ dx fs, H q = some (.ins D dx fs) := by
  obtain ⟨dx, t, st, o, k1, k2, us, ws, h⟩ := h
  exact ⟨dx, _, h.at_⟩
def curr (ss : List Step) (n : Nat) : List Cnd := (ss.getD n (none, [])).2
/-- what is kept of a live row -/
structure LiveP (xs : List (Int × Int)) (ss : List Step) (n : Nat) : Prop where
  lt : n < ss.length
  le : ss.length ≤ 1000
  z : xs.length ≤ 40
  eq : ∀ s ∈ ss, s.2.length = xs.length
theorem LiveP.curr {xs : List (Int × Int)} {ss : List Step} {n : Nat} (p : LiveP xs ss n) : ∃ s, ss[n]? = some s ∧ s.2 = RD.curr ss n ∧ (RD.curr ss n).length = xs.length := by
  have e : ss[n]? = some (ss[n]'p.lt) := by simp [p.lt]
  have e2 : RD.curr ss n = (ss[n]'p.lt).2 := by unfold RD.curr; rw [List.getD_eq_getElem?_getD, e]; rfl
  exact ⟨_, e, e2.symm, by rw [e2]; exact p.eq _ (List.getElem_mem p.lt)⟩
def start1 (n : Nat) : Step := (none, List.replicate n (some true))
def spLInit (K : PySem.W.Frag) (C D : Addr) : Sp := fun vs H Q _ => ∃ (q dx x : Addr) (xs : List (Int × Int)), vs = [.ref q, .ref x] ∧ H q = some (.ins D dx []) ∧ RowAt K C H x xs ∧ xs.length ≤ 40 ∧ ∀ H', But q H H' → LiveAt K H' q D xs [start1 xs.length] 0 → Q .non H'
abbrev Lv (K : PySem.W.Frag) (D : Addr) (go : Addr → List (Int × Int) → List Step → Nat → List V → Hp → VK → Prop) : Sp := fun vs H Q _ => ∃ (q : Addr) (xs : List (Int × Int)) (ss : List Step) (n : Nat) (rest : List V), vs = .ref q :: rest ∧ LiveAt K H q D xs ss n ∧ LiveP xs ss n ∧ go q xs ss n rest H Q
def spConds (K : PySem.W.Frag) (D : Addr) : Sp := Lv K D fun _ _ ss n rest H Q => rest = [] ∧ ∀ c, SqT K H c (cnV (curr ss n)) → Q (.ref c) H
def inCur (cs : List Cnd) : V → Bool
  | .int i => decide (0 ≤ i) && decide (cs[i.toNat]? = some (some true))
  | _ => false
def spHas (K : PySem.W.Frag) (D : Addr) : Sp := Lv K D fun _ _ ss n rest H Q => ∃ v, rest = [v] ∧ Known K H v ∧ Q (.bl (inCur (curr ss n) v)) H
def spLLen (K : PySem.W.Frag) (D : Addr) : Sp := Lv K D fun _ _ ss n rest H Q => rest = [] ∧ ∀ H', Same H H' → Q (.int ((idxs (curr ss n) (some true)).length : Nat)) H'
def spStand (K : PySem.W.Frag) (D : Addr) (c : Cnd) : Sp := Lv K D fun _ _ ss n rest H Q => rest = [] ∧ ∀ p H', Same H H' → H p = none → H' p = some (.lst (ivs (idxs (curr ss n) c))) → Q (.ref p) H'
section
variable {P : Program} {w : World} {K : PySem.W.Frag} {mg : Str → Option Value} {base : Heap}
theorem ok_lInit {f C D gL pS gS : Addr} {fd dS : FuncData} (F : Fun K "__init__" "LiveRow.__init__" s_LiveRow_init f fd) (B : Blt mg) (R : RowC K mg C) (cL : ClsL K D) (LM : LiveM K w mg)
    (SL : Sign K C "__len__" gL) (GL : FnR P w K mg base CX0 1 gL (spLen K C)) (pr : PropOf K C "stones" pS gS) (P1 : FnOk P w K mg base CX0 1 gS dS ["self"] (spGet K C)) (bS : Binds K dS ["self"] []) :
    FnOk P w K mg base CX0 3 f fd ["self", "row"] (spLInit K C D) := by
  obtain ⟨⟨t1, mS⟩, _, _, _, _⟩ := id LM
  refine F.ok sc_LiveRow_init (fun vs H Q E h => ?_) (fun cdv A outer s H vs Q E hr h => ?_)
  · obtain ⟨q, dx, x, xs, rfl, _⟩ := h
    rfl
  · obtain ⟨q, dx, x, xs, rfl, eq, hR, hz, k⟩ := h
    obtain ⟨dr, _, _, ep, hT0, hS0⟩ := id hR
    refine ⟨_, pss_cons (ps_fld (pv 0) (pe_prop (pv 1) R.cl pr P1 hr bS .nil pass0 rfl) rfl)
      (pss_cons (ps_fld (pv 0) (pe_tup (pa_cons (pe_tup (pa_cons (pe_non) (pa_cons (pe_op TOne.op_rep1 (pe_tup (pa_cons (pe_glob (v := .str "standing") (by rfl) mS ⟨_, rfl⟩) pa_nil)) (pe_callB (Own.call_len SL.at_ SL.fn GL hr pass0) (by rfl) B.len PySem.boot_len (pa_cons (pv 1) pa_nil))) pa_nil))) pa_nil)) rfl)
      (pss_cons (ps_fld (pv 0) pe_int rfl)
      (pss_cons (ps_fld (pv 0) pe_bl rfl)
      (pss_cons (ps_fld (pv 0) (pe_fld (pv 0) rfl) rfl)
      (pss_one (ps_fld (pv 0) (pe_fld (pv 0) rfl) rfl)))))), ?_⟩
    refine ⟨_, rfl, x, dr, _, rfl, ep, x, xs, rfl, hR, fun t us hT hS => ?_⟩
    refine ⟨_, rfl, q, D, dx, [], rfl, eq, cL.cl, cL.n1, (by show 0 < 1000; decide), ?_⟩
    have a1 : (upd H q (.ins D dx (putF "_stones" (V.ref t) []))) q = some (.ins D dx [("_stones", V.ref t)]) := upd_same
    have b1 : But q H (upd H q (.ins D dx (putF "_stones" (V.ref t) []))) := but_upd
    generalize upd H q (.ins D dx (putF "_stones" (V.ref t) [])) = H1 at a1 b1 ⊢
    have nqx : x ≠ q := fun e => by rw [e, eq] at ep; cases ep
    have ep1 := b1 _ _ nqx ep
    have hR1 : RowAt K C H1 x xs := ⟨dr, _, _, ep1, sqT_ins hT0 eq b1, hS0.ins eq b1⟩
    refine ⟨by show 1 ≤ sizeLine; decide, fun z1 nz1 => ?_⟩
    have s1 := same_new (o := .tup [V.str "standing"]) nz1
    have e1 : (upd H1 z1 (.tup [V.str "standing"])) z1 = some (.tup [V.str "standing"]) := upd_same
    generalize upd H1 z1 (.tup [V.str "standing"]) = H2 at s1 e1 ⊢
    refine ⟨_, rfl, x, dr, _, rfl, s1 _ _ ep1, x, xs, rfl, hR1.same s1, _, rfl, by omega, by omega, z1, xs.length, _, rfl, rfl, SqT.of e1, by omega, fun c H3 s3 hc => ?_⟩
    refine ⟨by show 2 ≤ sizeLine; decide, fun z2 nz2 => ⟨by show 1 ≤ sizeLine; decide, fun z3 nz3 => ?_⟩⟩
    have s4 := same_new (o := .tup [V.non, V.ref c]) nz2
    have s5 := same_new (o := .tup [V.ref z2]) nz3
    have e2 : SqT K (upd (upd H3 z2 (.tup [V.non, V.ref c])) z3 (.tup [V.ref z2])) z2 [V.non, V.ref c] := SqT.of (s5 _ _ upd_same)
    have e3 : SqT K (upd (upd H3 z2 (.tup [V.non, V.ref c])) z3 (.tup [V.ref z2])) z3 [V.ref z2] := SqT.of upd_same
    have hc3 := sqT_same hc (s4.trans s5)
    have sm : Same H1 _ := ((s1.trans s3).trans s4).trans s5
    have aq := sm _ _ a1
    have b5 : But q H _ := b1.trans (Same.but sm q)
    have hT5 := sqT_same (sqT_ins hT eq b1) sm
    have hS5 := (hS.ins eq b1).same sm
    generalize upd (upd H3 z2 (.tup [V.non, V.ref c])) z3 (.tup [V.ref z2]) = H5 at e2 e3 hc3 aq b5 hT5 hS5 ⊢
    refine ⟨_, rfl, q, D, dx, _, rfl, aq, cL.cl, cL.n2, (by show 1 < 1000; decide), ?_⟩
    refine ⟨_, rfl, q, D, dx, _, rfl, upd_same, cL.cl, cL.n3, (by show 2 < 1000; decide), ?_⟩
    refine ⟨_, rfl, q, D, dx, _, rfl, upd_same, cL.cl, cL.n4, (by show 3 < 1000; decide), ?_⟩
    refine ⟨_, rfl, q, D, dx, _, _, rfl, upd_same, cL.cl, cL.n2, rfl, _, rfl, q, D, dx, _, rfl, upd_same, cL.cl, cL.n5, (by show 4 < 1000; decide), ?_⟩
    refine ⟨_, rfl, q, D, dx, _, _, rfl, upd_same, cL.cl, cL.n3, rfl, _, rfl, q, D, dx, _, rfl, upd_same, cL.cl, cL.n6, (by show 5 < 1000; decide), ?_⟩
    have bb : ∀ o1 o2 o3 o4 o5 : HO, But q H5 (upd (upd (upd (upd (upd H5 q o1) q o2) q o3) q o4) q o5) := fun _ _ _ _ _ => (((but_upd.trans but_upd).trans but_upd).trans but_upd).trans but_upd
    refine k _ (b5.trans (bb _ _ _ _ _)) ⟨dx, t, z3, false, .ref z3, .int 0, us, [.ref z2], upd_same, sqT_ins hT5 aq (bb _ _ _ _ _), hS5.ins aq (bb _ _ _ _ _), sqT_ins e3 aq (bb _ _ _ _ _), .cons ⟨z2, .non, c, rfl, sqT_ins e2 aq (bb _ _ _ _ _), rfl, ?_⟩ .nil⟩
    have ec : cnV (start1 xs.length).2 = List.replicate xs.length (V.str "standing") := by unfold cnV start1; rw [List.map_replicate]; rfl
    rw [ec]
    exact sqT_ins hc3 aq (bb _ _ _ _ _)
end
section
variable {P : Program} {w : World} {K : PySem.W.Frag} {mg : Str → Option Value} {base : Heap}
theorem ok_conds {f D : Addr} {fd : FuncData} (F : Fun K "_conditions" "LiveRow._conditions" s_LiveRow_conditions f fd) (cL : ClsL K D) : FnOk P w K mg base CX0 1 f fd ["self"] (spConds K D) := by
  refine F.ok sc_LiveRow_conditions (fun vs H Q E h => ?_) (fun cdv A outer s H vs Q E hr h => ?_)
  · obtain ⟨q, xs, ss, n, rest, rfl, _, _, rfl, _⟩ := h
    rfl
  · obtain ⟨q, xs, ss, n, rest, rfl, ⟨dx, t, st, o, k1, k2, us, ws, h⟩, p, rfl, k⟩ := h
    refine ⟨_, pss_one (ps_ret (pe_ix ix_tup (pe_ix ix_tup (pe_fld (pv 0) rfl) (pe_fld (pv 0) rfl) (fun _ _ => rfl)) (pe_int) (fun _ _ => rfl))), ?_⟩
    obtain ⟨s, hs, es, _⟩ := p.curr
    obtain ⟨v, hv, a, ov, c, rfl, ha, _, hc⟩ := paired_at h.hP hs
    refine ⟨_, rfl, q, D, dx, _, _, rfl, h.at_, cL.cl, cL.n2, rfl, _, rfl, q, D, dx, _, _, rfl, h.at_, cL.cl, cL.n3, rfl, st, _, ((n : Nat) : Int), _, rfl, rfl, h.hW, atI_nat hv, a, _, ((1 : Nat) : Int), _, rfl, rfl, ha, atI_nat (j := 1) rfl, ?_⟩
    exact k c (by rw [← es]; exact hc)
theorem ok_has {f g g1 D : Addr} {fd gd d1 : FuncData} (F : Fun K "__contains__" "LiveRow.__contains__" s_LiveRow_contains f fd) (B : Blt mg) (LM : LiveM K w mg) (cL : ClsL K D) (N1 : At P w K mg base CX0 1 "is_number" ["value", "least", "greatest"] (spNum K) g1 d1)
    (Hm : Meth K D "_conditions" g) (G : FnOk P w K mg base CX0 1 g gd ["self"] (spConds K D)) (bG : Binds K gd ["self"] []) : FnOk P w K mg base CX0 2 f fd ["self", "stone"] (spHas K D) := by
  obtain ⟨⟨t1, mS⟩, _, _, _, _⟩ := id LM
  refine F.ok sc_LiveRow_contains (fun vs H Q E h => ?_) (fun cdv A outer s H vs Q E hr h => ?_)
  · obtain ⟨q, xs, ss, n, rest, rfl, _, _, v, rfl, _⟩ := h
    rfl
  · obtain ⟨q, xs, ss, n, rest, rfl, hL, p, v, rfl, kn, k⟩ := h
    obtain ⟨dx, fs, eq⟩ := hL.ref
    obtain ⟨dx, t, st, o, k1, k2, us, ws, hX⟩ := id hL
    have eq := hX.at_
    refine ⟨_, pss_cons (ps_set (i := 2) sc_LiveRow_contains.nd rfl (Or.inl rfl) (pe_meth0 (pv 0) cL.cl Hm G hr bG .nil pass0))
      (pss_one (ps_ret (pe_and (pe_at N1 hr (pa_cons (pv 1) (pa_cons (pe_int) (pa_cons (pe_op op_sub (pe_callB call_len_seq (by rfl) B.len PySem.boot_len (pa_cons (pv 2) pa_nil)) (pe_int)) pa_nil)))) (pe_one (pe_cmpR (op_eq) (pe_ix ix_tup (pv 2) (pv 1) (fun _ _ => rfl)) (pe_glob (v := .str "standing") (by rfl) mS ⟨_, rfl⟩) (nomark _)))))), ?_⟩
    refine ⟨_, rfl, q, dx, _, rfl, eq, rfl, q, xs, ss, n, _, rfl, hL, p, rfl, fun c hc => ?_⟩
    refine nm_of ?_
    obtain ⟨s', hs, es, el⟩ := p.curr
    have pz := p.z
    refine ⟨_, rfl, _, rfl, c, _, rfl, .inr hc, _, _, rfl, rfl, v, 0, _, rfl, kn, _, rfl, ?_⟩
    rw [cnV_len]
    match v, kn, k with
    | .int i, _, k =>
      have e : numB (.int i) 0 (((curr ss n).length : Int) - 1) = (decide (0 ≤ i) && decide (i ≤ ((curr ss n).length : Int) - 1)) := rfl
      rw [e]
      have ek : inCur (curr ss n) (.int i) = (decide (0 ≤ i) && decide ((curr ss n)[i.toNat]? = some (some true))) := rfl
      rw [ek] at k
      by_cases h0 : 0 ≤ i
      · by_cases h1 : i ≤ ((curr ss n).length : Int) - 1
        · rw [decide_eq_true h0, decide_eq_true h1]
          obtain ⟨d, hd⟩ : ∃ d, (curr ss n)[i.toNat]? = some d := ⟨(curr ss n)[i.toNat]'(by omega), by simp⟩
          refine iteT ⟨_, rfl, _, rfl, c, _, ((i.toNat : Nat) : Int), _, rfl, congrArg V.int (by omega), hc, atI_nat (cnV_at hd), rfl, ?_⟩
          rw [decide_eq_true h0, hd, Bool.true_and] at k
          rw [show ("standing" : Str) = cndS (some true) from rfl, cnd_dec]
          simpa using k
        · rw [decide_eq_true h0, decide_eq_false h1]
          refine iteF ?_
          have en : (curr ss n)[i.toNat]? = none := List.getElem?_eq_none (by omega)
          rw [en] at k
          simpa using k
      · rw [decide_eq_false h0]
        rw [decide_eq_false h0] at k
        exact iteF k
    | .bl b, _, k => exact iteF k
    | .non, _, k => exact iteF k
    | .str z, _, k => exact iteF k
    | .ref a, _, k => exact iteF k
theorem ok_lLen {f g g1 D : Addr} {fd gd d1 : FuncData} (F : Fun K "__len__" "LiveRow.__len__" s_LiveRow_len f fd) (B : Blt mg) (LM : LiveM K w mg) (cL : ClsL K D) (N1 : At P w K mg base CX0 1 "_stones_with" ["conditions", "condition"] (spWith K) g1 d1)
    (Hm : Meth K D "_conditions" g) (G : FnOk P w K mg base CX0 1 g gd ["self"] (spConds K D)) (bG : Binds K gd ["self"] []) : FnOk P w K mg base CX0 2 f fd ["self"] (spLLen K D) := by
  obtain ⟨⟨t1, mS⟩, _, _, _, _⟩ := id LM
  refine F.ok sc_LiveRow_len (fun vs H Q E h => ?_) (fun cdv A outer s H vs Q E hr h => ?_)
  · obtain ⟨q, xs, ss, n, rest, rfl, _, _, rfl, _⟩ := h
    rfl
  · obtain ⟨q, xs, ss, n, rest, rfl, hL, p, rfl, k⟩ := h
    obtain ⟨dx, t, st, o, k1, k2, us, ws, hX⟩ := id hL
    have eq := hX.at_
    refine ⟨_, pss_one (ps_ret (pe_callB call_len_seq (by rfl) B.len PySem.boot_len (pa_cons (pe_at N1 hr (pa_cons (pe_meth0 (pv 0) cL.cl Hm G hr bG .nil pass0) (pa_cons (pe_glob (v := .str "standing") (by rfl) mS ⟨_, rfl⟩) pa_nil))) pa_nil))), ?_⟩
    obtain ⟨s', hs, es, el⟩ := p.curr
    have pz := p.z
    refine ⟨_, rfl, q, dx, _, rfl, eq, rfl, q, xs, ss, n, _, rfl, hL, p, rfl, fun c hc => ?_⟩
    refine ⟨c, curr ss n, some true, rfl, hc, by omega, fun L H2 s2 nL eL => ⟨L, _, rfl, .inl (SqL.of eL), ?_⟩⟩
    have e : (ivs (idxs (curr ss n) (some true))).length = (idxs (curr ss n) (some true)).length := by unfold ivs; rw [List.length_map]
    rw [e]
    exact k H2 s2
theorem ok_standing {f g g1 D : Addr} {fd gd d1 : FuncData} (F : Fun K "standing" "LiveRow.standing" s_LiveRow_standing f fd) (LM : LiveM K w mg) (cL : ClsL K D) (N1 : At P w K mg base CX0 1 "_stones_with" ["conditions", "condition"] (spWith K) g1 d1)
    (Hm : Meth K D "_conditions" g) (G : FnOk P w K mg base CX0 1 g gd ["self"] (spConds K D)) (bG : Binds K gd ["self"] []) : FnOk P w K mg base CX0 2 f fd ["self"] (spStand K D (some true)) := by
  obtain ⟨⟨t1, mS⟩, _, _, _, _⟩ := id LM
  refine F.ok sc_LiveRow_standing (fun vs H Q E h => ?_) (fun cdv A outer s H vs Q E hr h => ?_)
  · obtain ⟨q, xs, ss, n, rest, rfl, _, _, rfl, _⟩ := h
    rfl
  · obtain ⟨q, xs, ss, n, rest, rfl, hL, p, rfl, k⟩ := h
    obtain ⟨dx, t, st, o, k1, k2, us, ws, hX⟩ := id hL
    have eq := hX.at_
    refine ⟨_, pss_one (ps_ret (pe_at N1 hr (pa_cons (pe_meth0 (pv 0) cL.cl Hm G hr bG .nil pass0) (pa_cons (pe_glob (v := .str "standing") (by rfl) mS ⟨_, rfl⟩) pa_nil)))), ?_⟩
    obtain ⟨s', hs, es, el⟩ := p.curr
    have pz := p.z
    refine ⟨_, rfl, q, dx, _, rfl, eq, rfl, q, xs, ss, n, _, rfl, hL, p, rfl, fun c hc => ?_⟩
    exact ⟨c, curr ss n, some true, rfl, hc, by omega, fun L H2 s2 nL eL => k L H2 s2 nL eL⟩
theorem ok_lying {f g g1 D : Addr} {fd gd d1 : FuncData} (F : Fun K "lying" "LiveRow.lying" s_LiveRow_lying f fd) (LM : LiveM K w mg) (cL : ClsL K D) (N1 : At P w K mg base CX0 1 "_stones_with" ["conditions", "condition"] (spWith K) g1 d1)
    (Hm : Meth K D "_conditions" g) (G : FnOk P w K mg base CX0 1 g gd ["self"] (spConds K D)) (bG : Binds K gd ["self"] []) : FnOk P w K mg base CX0 2 f fd ["self"] (spStand K D (some false)) := by
  obtain ⟨_, ⟨t1, mS⟩, _, _, _⟩ := id LM
  refine F.ok sc_LiveRow_lying (fun vs H Q E h => ?_) (fun cdv A outer s H vs Q E hr h => ?_)
  · obtain ⟨q, xs, ss, n, rest, rfl, _, _, rfl, _⟩ := h
    rfl
  · obtain ⟨q, xs, ss, n, rest, rfl, hL, p, rfl, k⟩ := h
    obtain ⟨dx, t, st, o, k1, k2, us, ws, hX⟩ := id hL
    have eq := hX.at_
    refine ⟨_, pss_one (ps_ret (pe_at N1 hr (pa_cons (pe_meth0 (pv 0) cL.cl Hm G hr bG .nil pass0) (pa_cons (pe_glob (v := .str "lying") (by rfl) mS ⟨_, rfl⟩) pa_nil)))), ?_⟩
    obtain ⟨s', hs, es, el⟩ := p.curr
    have pz := p.z
    refine ⟨_, rfl, q, dx, _, rfl, eq, rfl, q, xs, ss, n, _, rfl, hL, p, rfl, fun c hc => ?_⟩
    exact ⟨c, curr ss n, some false, rfl, hc, by omega, fun L H2 s2 nL eL => k L H2 s2 nL eL⟩
end
/-! ### operations of any values, with their exceptions -/
inductive OpW where
  | push (v s : V)
  | lift (v : V)
  | take (v : V)
def owV : OpW → List V
  | .push v s => [.str "push", v, s]
  | .lift v => [.str "lift", v]
  | .take v => [.str "take", v]
def owN : OpW → Str
  | .push _ _ => "push"
  | .lift _ => "lift"
  | .take _ => "take"
def owC : OpW → Nat
  | .push _ _ => 2
  | _ => 1
def owA : OpW → V
  | .push v _ => v
  | .lift v => v
  | .take v => v
theorem owV_at0 (o : OpW) : (owV o)[0]? = some (.str (owN o)) := by cases o <;> rfl
theorem owV_at1 (o : OpW) : (owV o)[1]? = some (owA o) := by cases o <;> rfl
theorem owV_len (o : OpW) : (owV o).length = owC o + 1 := by cases o <;> rfl
/-- numbers, bools, None, texts -/
def plainV : V → Prop
  | .int _ => True
  | .bl _ => True
  | .non => True
  | .str x => PyData.strOk x = true
  | _ => False
def plainD : V → PyData
  | .int i => .int i
  | .bl b => .bool b
  | .str x => .str x
  | _ => .none
theorem plain_known {K : PySem.W.Frag} {H : Hp} {v : V} (h : plainV v) : Known K H v := by
  cases v <;> first | exact True.intro | exact h.elim
theorem plain_dp {K : PySem.W.Frag} {H : Hp} {v : V} (h : plainV v) : Dp K H v (plainD v) := by
  cases v with
  | int i => exact .int i
  | bl b => exact .bl b
  | non => exact .non
  | str x => exact .str x
  | _ => exact h.elim
theorem plain_shaped {v : V} (h : plainV v) : SeqAt.shaped (plainD v) = true := by
  cases v with
  | int i => simp [SeqAt.shaped, plainD, PyData.canLay0, PyData.depth]
  | bl b => simp [SeqAt.shaped, plainD, PyData.canLay0, PyData.depth]
  | non => simp [SeqAt.shaped, plainD, PyData.canLay0, PyData.depth]
  | str x =>
    have h : PyData.strOk x = true := h
    simp [SeqAt.shaped, plainD, PyData.canLay0, PyData.depth, h]
  | _ => exact h.elim
def plainW : OpW → Prop
  | .push v s => plainV v ∧ plainV s
  | .lift v => plainV v
  | .take v => plainV v
theorem plainW_arg {o : OpW} (h : plainW o) : plainV (owA o) := by
  cases o with
  | push v s => exact h.1
  | lift v => exact h
  | take v => exact h
/-- the number of a stone -/
def numO (n : Nat) : V → Option Nat
  | .int i => if 0 ≤ i ∧ i < n then some i.toNat else none
  | _ => none
def sideO (s : V) : Option Bool := if s = .str (sideS false) then some false else if s = .str (sideS true) then some true else none
inductive ErW where
  | stone
  | side
  | stand (i : Nat)
  | lie (i : Nat)
/-- what an operation comes to -/
def owE (cs : List Cnd) : OpW → Opn ⊕ ErW
  | .push v s => match numO cs.length v with
    | none => .inr .stone
    | some i => match sideO s with
      | none => .inr .side
      | some r => if cs[i]? = some (some true) then .inl (.push i r) else .inr (.stand i)
  | .lift v => match numO cs.length v with
    | none => .inr .stone
    | some i => if cs[i]? = some (some false) then .inl (.lift i) else .inr (.lie i)
  | .take v => match numO cs.length v with
    | none => .inr .stone
    | some i => if cs[i]? = some none then .inr (.stand i) else .inl (.take i)
theorem numO_none {n : Nat} {v : V} (h : plainV v) (e : numB v 0 ((n : Int) - 1) = false) : numO n v = none := by
  cases v with
  | int i =>
    have e : (decide (0 ≤ i) && decide (i ≤ (n : Int) - 1)) = false := e
    show (if 0 ≤ i ∧ i < (n : Int) then some i.toNat else none) = none
    rw [if_neg]
    rintro ⟨h1, h2⟩
    rw [decide_eq_true h1, decide_eq_true (by omega)] at e
    cases e
  | bl b => rfl
  | non => rfl
  | str x => rfl
  | _ => exact h.elim
theorem numB_is {v : V} {lo hi : Int} (e : numB v lo hi = true) : ∃ i, v = .int i ∧ lo ≤ i ∧ i ≤ hi := by
  cases v with
  | int i =>
    have e : (decide (lo ≤ i) && decide (i ≤ hi)) = true := e
    rw [Bool.and_eq_true] at e
    exact ⟨i, rfl, of_decide_eq_true e.1, of_decide_eq_true e.2⟩
  | _ => cases e
theorem numO_some {n : Nat} {v : V} (e : numB v 0 ((n : Int) - 1) = true) : ∃ i : Nat, v = .int (i : Int) ∧ i < n ∧ numO n v = some i := by
  obtain ⟨i0, rfl, i1, i2⟩ := numB_is e
  refine ⟨i0.toNat, congrArg V.int (by omega), by omega, ?_⟩
  show (if 0 ≤ i0 ∧ i0 < (n : Int) then some i0.toNat else none) = _
  rw [if_pos ⟨i1, by omega⟩]
theorem sideO_some (r : Bool) : sideO (.str (sideS r)) = some r := by cases r <;> decide +kernel
theorem sideO_none {s : V} (e : sideD (plainD s) = false) (h : plainV s) : sideO s = none := by
  unfold sideO
  have q : ∀ r : Bool, s ≠ .str (sideS r) := fun r z => by
    rw [z] at e
    have := side_ok r
    rw [show plainD (.str (sideS r)) = .str (sideS r) from rfl, this] at e
    cases e
  rw [if_neg (q false), if_neg (q true)]
/-- the classes of the exceptions -/
structure ClsE where
  st : Addr
  si : Addr
  ns : Addr
  nl : Addr
def ErrAt (Z : ClsE) (E : XK) (H : Hp) : ErW → Prop
  | .stone => ∀ H', Same H H' → E (.ref Z.st) none H'
  | .side => ∀ H', Same H H' → E (.ref Z.si) none H'
  | .stand i => ∀ dx H', Same H H' → H dx = none → H' dx = some (.xd [("stone", .int (i : Int))]) → E (.ref Z.ns) (some dx) H'
  | .lie i => ∀ dx H', Same H H' → H dx = none → H' dx = some (.xd [("stone", .int (i : Int))]) → E (.ref Z.nl) (some dx) H'
theorem ErrAt.same {Z : ClsE} {E : XK} {H H1 : Hp} {e : ErW} (h : ErrAt Z E H e) (s : Same H H1) : ErrAt Z E H1 e := by
  cases e with
  | stone => exact fun H' s' => h H' (s.trans s')
  | side => exact fun H' s' => h H' (s.trans s')
  | stand i => exact fun dx H' s' n e => h dx H' (s.trans s') (Same.free s n) e
  | lie i => exact fun dx H' s' n e => h dx H' (s.trans s') (Same.free s n) e
def spIsOpW (K : PySem.W.Frag) : Sp := fun vs H Q _ => ∃ (a : Addr) (o : OpW), vs = [.ref a] ∧ SqT K H a (owV o) ∧ Q (.bl true) H
/-- an operation that is one, or its exception -/
def Goes (K : PySem.W.Frag) (Z : ClsE) (xs : List (Int × Int)) (cs : List Cnd) (o : OpW) (H : Hp) (Q : VK) (E : XK) : Prop :=
  (∀ op, owE cs o = .inl op → Done K xs cs op H Q) ∧ ∀ e, owE cs o = .inr e → ErrAt Z E H e
def spPushedX (K : PySem.W.Frag) (Z : ClsE) : Sp := fun vs H Q E => ∃ (t c : Addr) (us : List V) (xs : List (Int × Int)) (cs : List Cnd) (i : Nat) (s : V), vs = [.ref t, .ref c, .int (i : Nat), s] ∧ SqT K H t us ∧ StonesAt K H us xs ∧ SqT K H c (cnV cs) ∧ cs.length = xs.length ∧ xs.length ≤ 40 ∧ i < xs.length ∧ plainV s ∧ Goes K Z xs cs (.push (.int (i : Nat)) s) H Q E
def spLiftedX (K : PySem.W.Frag) (Z : ClsE) : Sp := fun vs H Q E => ∃ (c : Addr) (xs : List (Int × Int)) (cs : List Cnd) (i : Nat), vs = [.ref c, .int (i : Nat)] ∧ SqT K H c (cnV cs) ∧ cs.length ≤ 40 ∧ i < cs.length ∧ Goes K Z xs cs (.lift (.int (i : Nat))) H Q E
def spTakenX (K : PySem.W.Frag) (Z : ClsE) : Sp := fun vs H Q E => ∃ (c : Addr) (xs : List (Int × Int)) (cs : List Cnd) (i : Nat), vs = [.ref c, .int (i : Nat)] ∧ SqT K H c (cnV cs) ∧ cs.length ≤ 40 ∧ i < cs.length ∧ Goes K Z xs cs (.take (.int (i : Nat))) H Q E
def spExecX (K : PySem.W.Frag) (Z : ClsE) : Sp := fun vs H Q E => ∃ (t c o : Addr) (us : List V) (xs : List (Int × Int)) (cs : List Cnd) (op : OpW), vs = [.ref t, .ref c, .ref o] ∧ SqT K H t us ∧ StonesAt K H us xs ∧ SqT K H c (cnV cs) ∧ cs.length = xs.length ∧ xs.length ≤ 40 ∧ SqT K H o (owV op) ∧ plainW op ∧ Goes K Z xs cs op H Q E
theorem numO_lt {n i : Nat} (h : i < n) : numO n (.int ((i : Nat) : Int)) = some i := by
  show (if 0 ≤ ((i : Nat) : Int) ∧ ((i : Nat) : Int) < (n : Int) then some ((i : Nat) : Int).toNat else none) = _
  rw [if_pos ⟨by omega, by omega⟩, Int.toNat_natCast]
/-! ### the functions of live rows that raise -/
structure ExcL (P : Program) (w : World) (K : PySem.W.Frag) (mg : Str → Option Value) (base : Heap) (Z : ClsE) : Prop where
  ns : ExI P w K mg base "NotStanding" "stone" Z.ns
  nl : ExI P w K mg base "NotLying" "stone" Z.nl
section
variable {P : Program} {w : World} {K : PySem.W.Frag} {mg : Str → Option Value} {base : Heap}
theorem ok_isOpW {f : Addr} {fd : FuncData} (F : Fun K "_is_operation" "_is_operation" s_is_operation f fd) (B : Blt mg) (LM : LiveM K w mg) : FnOk P w K mg base CX0 1 f fd ["value"] (spIsOpW K) := by
  obtain ⟨_, _, _, zS, d, es, n, mD, KD, ND⟩ := id LM
  refine F.ok sc_is_operation (fun vs H Q E h => ?_) (fun cdv A outer s H vs Q E hr h => ?_)
  · obtain ⟨a, o, rfl, _⟩ := h
    rfl
  · obtain ⟨a, o, rfl, hT, k⟩ := h
    refine ⟨_, pss_cons (ps_if (PW.pt (pw_or (pt_not (pt_val (pe_callB (call_isi) (by rfl) B.isinstance boot_isinstance (pa_cons (pv 0) (pa_cons (pe_bltn (v := .ty "tuple") (by rfl) B.tuple boot_tuple rfl) pa_nil))))) (pw_or (pt_cmpR (op_eq) (pe_callB call_len_seq (by rfl) B.len PySem.boot_len (pa_cons (pv 0) pa_nil)) (pe_int) (nomark _)) (pw_or1 (pt_not (pt_val (pe_callB (call_isi) (by rfl) B.isinstance boot_isinstance (pa_cons (pe_ix ix_tup (pv 0) (pe_int) (fun _ _ => rfl)) (pa_cons (pe_bltn (v := .ty "str") (by rfl) zS boot_str rfl) pa_nil))))))))) (pss_one (ps_ret pe_bl)) pss_nil)
      (pss_one (ps_ret (pe_and (pe_cmpR (op_in_kd KD) (pe_ix ix_tup (pv 0) (pe_int) (fun _ _ => rfl)) (pe_glob (v := .ref d) (by rfl) mD rfl) (by rfl)) (pe_one (pe_cmpR (op_eq) (pe_op op_sub (pe_callB call_len_seq (by rfl) B.len PySem.boot_len (pa_cons (pv 0) pa_nil)) (pe_int)) (pe_ix ix_kdict (pe_glob (v := .ref d) (by rfl) mD rfl) (pe_ix ix_tup (pv 0) (pe_int) (fun _ _ => rfl)) (fun _ _ => rfl)) (nomark _)))))), ?_⟩
    obtain ⟨tk, eN⟩ : ∃ t, PySem.W.nsIn K d (owN o) = some (some (.int (owC o : Nat) t)) := by
      cases o with
      | push v s => exact ND (.push 0 false)
      | lift v => exact ND (.lift 0)
      | take v => exact ND (.take 0)
    refine ⟨_, rfl, _, .ty "tuple", _, _, true, rfl, .ty _, tyT hT, kit_ty (by decide +kernel), true, rfl, ?_⟩
    refine iteF ⟨_, rfl, a, _, rfl, .inr hT, rfl, _, rfl, ?_⟩
    have e0 : decide (V.int ((owV o).length : Int) = V.int 0) = false := by rw [dec_int, owV_len]; simp; omega
    rw [e0]
    refine iteF ⟨_, rfl, a, _, ((0 : Nat) : Int), _, rfl, rfl, hT, atI_nat (owV_at0 o), _, _, _, _, true, rfl, .ty "str", .base (.str _), kit_ty (by decide +kernel), true, rfl, ?_⟩
    refine iteF ?_
    refine ⟨_, rfl, a, _, ((0 : Nat) : Int), _, rfl, rfl, hT, atI_nat (owV_at0 o), _, _, rfl, rfl, eN, _, rfl, iteT ?_⟩
    refine ⟨_, rfl, a, _, rfl, .inr hT, _, _, rfl, rfl, _, rfl, a, _, ((0 : Nat) : Int), _, rfl, rfl, hT, atI_nat (owV_at0 o), d, _, .int ((owC o : Nat) : Int), rfl, rfl, ⟨es, n, _, KD.at_, KD.lit, eN, ⟨tk, rfl⟩⟩, rfl, ?_⟩
    have e1 : decide (V.int (((owV o).length : Int) - 1) = V.int ((owC o : Nat) : Int)) = true := by rw [dec_int, owV_len]; simp
    rw [e1]
    exact k
theorem ok_pushedX {f g1 g2 g3 : Addr} {fd d1 d2 d3 : FuncData} {Z : ClsE} (F : Fun K "_pushed" "_pushed" s_pushed f fd) (LM : LiveM K w mg) (EL : ExcL P w K mg base Z) (N1 : At P w K mg base (L2.CX P w) 1 "check_side" ["side"] (spCheckSideX K Z.si) g1 d1)
    (N2 : At P w K mg base CX0 2 "felled_by" ["stones", "standing", "stone", "side"] (spFelled K) g2 d2) (N3 : At P w K mg base CX0 1 "_with_condition" ["conditions", "stones", "condition"] (spMark K) g3 d3) :
    FnOk P w K mg base (L2.CX P w) 3 f fd ["stones", "conditions", "stone", "side"] (spPushedX K Z) := by
  obtain ⟨⟨t1, mS⟩, ⟨t2, mL⟩, _, _, _⟩ := id LM
  refine F.okX sc_pushed (fun vs H Q E h => ?_) (fun cdv A outer s H vs Q E hr h => ?_)
  · obtain ⟨t, c, us, xs, cs, i, sv, rfl, _⟩ := h
    rfl
  · obtain ⟨t, c, us, xs, cs, i, sv, rfl, hT, hS, hC, hl, hz, hin, hp, go, er⟩ := h
    have r1 : Room 1 _ := hr.mono (by decide)
    refine ⟨_, pss_cons (ps_expr (pe_atE N1 r1 (takes_of rfl rfl rfl rfl) (pa_cons (pv 3) pa_nil)))
      (pss_cons (ps_if (pt_cmpR (op_ne) (pe_ix ix_tup (pv 1) (pv 2) (fun _ _ => rfl)) (pe_glob (v := .str "standing") (by rfl) mS ⟨_, rfl⟩) (nomark _)) (pss_one (ps_raise rfl (takes_of rfl rfl rfl rfl) (pmk_exI EL.ns hr (pa_cons (pv 2) pa_nil)))) pss_nil)
      (pss_cons (ps_setLc (i := 4) (own := [("condition", 5)]) (g := gName 5) (tt := tYes) rfl sc_pushed.nd rfl rfl (sw_true rfl rfl rfl (by decide +kernel)) (pi_tup (pv 1)) (blkOk_by (N := n_pushed) (sc := defScope s_pushed) (by decide +kernel))
          (fun _ _ _ _ _ => pg_name (i := 5) sc_pushed.nd rfl (Or.inl rfl)) (fun _ _ _ _ _ => pts_nil) (fun _ _ _ _ _ => (show PE _ _ (tOp rEq (tVar 5) (tC (.str "standing"))) from pe_cmpR (op_eq) (pv 5) (pe_glob (v := .str "standing") (by rfl) mS ⟨_, rfl⟩) (nomark _))))
      (pss_cons (ps_set (i := 6) sc_pushed.nd rfl (Or.inl rfl) (pe_at N2 hr (pa_cons (pv 0) (pa_cons (pv 4) (pa_cons (pv 2) (pa_cons (pv 3) pa_nil))))))
      (pss_one (ps_ret (pe_tup (pa_cons (pv 6) (pa_cons (pe_at N3 r1 (pa_cons (pv 1) (pa_cons (pv 6) (pa_cons (pe_glob (v := .str "lying") (by rfl) mL ⟨_, rfl⟩) pa_nil)))) pa_nil)))))))), ?_⟩
    have eN : numO cs.length (.int ((i : Nat) : Int)) = some i := numO_lt (by omega)
    refine ⟨_, rfl, sv, plainD sv, rfl, plain_dp hp, plain_shaped hp, fun e => ?_, fun e => er .side (by show (match numO cs.length (.int ((i : Nat) : Int)) with | none => _ | some i => _) = _; rw [eN]; show (match sideO sv with | none => _ | some r => _) = _; rw [sideO_none e hp]) H (Same.refl _)⟩
    obtain ⟨r, rfl⟩ := side_some (plain_dp (K := K) (H := H) hp) e
    have eE : owE cs (.push (.int ((i : Nat) : Int)) (.str (sideS r))) = if cs[i]? = some (some true) then .inl (.push i r) else .inr (.stand i) := by
      show (match numO cs.length (.int ((i : Nat) : Int)) with | none => _ | some i => _) = _
      rw [eN]
      show (match sideO (.str (sideS r)) with | none => _ | some r => _) = _
      rw [sideO_some]
    obtain ⟨dc, hd⟩ : ∃ d, cs[i]? = some d := ⟨cs[i]'(by omega), by simp⟩
    refine ⟨_, rfl, _, rfl, c, _, ((i : Nat) : Int), _, rfl, rfl, hC, atI_nat (cnV_at hd), rfl, _, rfl, ?_⟩
    rw [show ("standing" : Str) = cndS (some true) from rfl, cnd_dec]
    by_cases hi : dc = some true
    · subst hi
      rw [if_pos hd] at eE
      have k := go _ eE
      rw [decide_eq_true rfl]
      refine iteF ?_
      refine ⟨_, rfl, c, rfl, ⟨_, hC⟩, fun D nD => lc_fm (walk_tup (K := K) (a := c) (xs := cnV cs)) cs (fun _ => true) (fun d => decide (d = some true)) (fun _ v (b : Bool) => v = V.bl b) (by rw [cnV_len]) (by rw [cnV_len]; omega) nD (fun _ _ _ _ _ _ _ q => q) (fun G s => sqT_same hC s) ?_ ?_⟩
      · rintro n d x G G' N' M' hj sm _ ⟨rfl, hx⟩ _ go
        obtain rfl : x = V.str (cndS d) := Option.some.inj (hx.symm.trans (cnV_at hj))
        exact ⟨rfl, _, rfl, rfl, go _ _ rfl (Same.refl _) (congrArg V.bl (cnd_dec d (some true)))⟩
      · intro G ys sm eD rel
        have e := paired_eq (fun b : Bool => V.bl b) rel
        rw [List.filter_eq_self.mpr (fun _ _ => rfl)] at e
        have eD : G D = some (.lst ((ups cs).map V.bl)) := by rw [eD, e]; rfl
        refine nm_of ?_
        refine ⟨_, rfl, _, rfl, _, rfl, _, rfl, t, D, us, xs, ups cs, i, r, rfl, sqT_same hT sm, hS.same sm, SqL.of eD, by rw [ups_len, hl], hin, hz, fun ns p G2 pm ps s2 np ep => ?_⟩
        refine nm_of ?_
        have ep : G2 p = some (.lst (ivs (fellL xs cs i r))) := by rw [ep, felled_is hin pm ps]
        have s12 := sm.trans s2
        refine ⟨_, rfl, _, rfl, _, rfl, c, p, cs, fellL xs cs i r, some false, rfl, sqT_same hC s12, by omega, SqL.of ep, fun c' G3 s3 nc' ec' => ?_⟩
        refine ⟨by show 2 ≤ sizeLine; decide, fun T nT => ?_⟩
        have s4 := s3.trans (same_new (o := .tup [V.ref p, V.ref c']) nT)
        exact k T _ c' _ (s12.trans s4) upd_same ⟨p, rfl, s4 _ _ ep⟩ (fun q e => by cases e; exact Same.free sm np) (SqT.of (same_new nT _ _ ec'))
    · rw [if_neg (by rw [hd]; exact fun z => hi (Option.some.inj z))] at eE
      rw [decide_eq_false hi]
      exact iteT (mko_of EL.ns.T rfl (short_nat (by omega)) fun dx H' s' n e => er _ eE dx H' s' n e)
theorem ok_liftedX {f g1 g3 : Addr} {fd d1 d3 : FuncData} {Z : ClsE} (F : Fun K "_lifted" "_lifted" s_lifted f fd) (B : Blt mg) (LM : LiveM K w mg) (EL : ExcL P w K mg base Z) (N1 : At P w K mg base CX0 1 "_stones_with" ["conditions", "condition"] (spWith K) g1 d1)
    (N3 : At P w K mg base CX0 1 "_with_condition" ["conditions", "stones", "condition"] (spMark K) g3 d3) : FnOk P w K mg base (L2.CX P w) 3 f fd ["conditions", "stone"] (spLiftedX K Z) := by
  obtain ⟨⟨t1, mS⟩, ⟨t2, mL⟩, _, _, _⟩ := id LM
  refine F.okX sc_lifted (fun vs H Q E h => ?_) (fun cdv A outer s H vs Q E hr h => ?_)
  · obtain ⟨c, xs, cs, i, rfl, _⟩ := h
    rfl
  · obtain ⟨c, xs, cs, i, rfl, hC, hz, hin, go, er⟩ := h
    have r1 : Room 1 _ := hr.mono (by decide)
    refine ⟨_, pss_cons (ps_if (pt_cmpR (op_ne) (pe_ix ix_tup (pv 0) (pv 1) (fun _ _ => rfl)) (pe_glob (v := .str "lying") (by rfl) mL ⟨_, rfl⟩) (nomark _)) (pss_one (ps_raise rfl (takes_of rfl rfl rfl rfl) (pmk_exI EL.nl hr (pa_cons (pv 1) pa_nil)))) pss_nil)
      (pss_cons (ps_set (i := 2) sc_lifted.nd rfl (Or.inl rfl) (pe_at N3 r1 (pa_cons (pv 0) (pa_cons (pe_lst (pa_cons (pv 1) pa_nil)) (pa_cons (pe_glob (v := .str "standing") (by rfl) mS ⟨_, rfl⟩) pa_nil)))))
      (pss_one (ps_ret (pe_tup (pa_cons (pe_callB call_len_seq (by rfl) B.len PySem.boot_len (pa_cons (pe_at N1 r1 (pa_cons (pv 2) (pa_cons (pe_glob (v := .str "standing") (by rfl) mS ⟨_, rfl⟩) pa_nil))) pa_nil)) (pa_cons (pv 2) pa_nil)))))), ?_⟩
    have eE : owE cs (.lift (.int ((i : Nat) : Int))) = if cs[i]? = some (some false) then .inl (.lift i) else .inr (.lie i) := by
      show (match numO cs.length (.int ((i : Nat) : Int)) with | none => _ | some i => _) = _
      rw [numO_lt hin]
    obtain ⟨dc, hd⟩ : ∃ d, cs[i]? = some d := ⟨cs[i]'(by omega), by simp⟩
    refine ⟨_, rfl, _, rfl, c, _, ((i : Nat) : Int), _, rfl, rfl, hC, atI_nat (cnV_at hd), rfl, _, rfl, ?_⟩
    rw [show ("lying" : Str) = cndS (some false) from rfl, cnd_dec]
    by_cases hi : dc = some false
    · subst hi
      rw [if_pos hd] at eE
      have k := go _ eE
      rw [decide_eq_true rfl]
      refine iteF ?_
      refine ⟨_, rfl, _, rfl, by show 1 ≤ sizeLine; decide, fun l nl => ?_⟩
      have s1 := same_new (o := .lst [V.int (i : Int)]) nl
      refine ⟨c, l, cs, [i], some true, rfl, sqT_same hC s1, by omega, SqL.of upd_same, fun c' H2 s2 nc' ec' => ?_⟩
      refine nm_of ?_
      have s12 := s1.trans s2
      refine ⟨_, rfl, c', mark cs [i] (some true), some true, rfl, SqT.of ec', by rw [mark_len]; omega, fun D H3 s3 nD eD => ?_⟩
      refine ⟨D, _, rfl, .inl (SqL.of eD), _, rfl, by show 2 ≤ sizeLine; decide, fun T nT => ?_⟩
      have s4 := s3.trans (same_new (o := .tup [V.int ((ivs (idxs (mark cs [i] (some true)) (some true))).length : Nat), V.ref c']) nT)
      exact k T _ c' _ (s12.trans s4) upd_same (by show V.int _ = V.int _; unfold ivs; rw [List.length_map]) (fun q e => by cases e) (SqT.of (s4 _ _ ec'))
    · rw [if_neg (by rw [hd]; exact fun z => hi (Option.some.inj z))] at eE
      rw [decide_eq_false hi]
      exact iteT (mko_of EL.nl.T rfl (short_nat (by omega)) fun dx H' s' n e => er _ eE dx H' s' n e)
theorem ok_takenX {f g3 : Addr} {fd d3 : FuncData} {Z : ClsE} (F : Fun K "_taken" "_taken" s_taken f fd) (LM : LiveM K w mg) (EL : ExcL P w K mg base Z)
    (N3 : At P w K mg base CX0 1 "_with_condition" ["conditions", "stones", "condition"] (spMark K) g3 d3) : FnOk P w K mg base (L2.CX P w) 3 f fd ["conditions", "stone"] (spTakenX K Z) := by
  obtain ⟨⟨t1, mS⟩, _, ⟨t3, mT⟩, _, _⟩ := id LM
  refine F.okX sc_taken (fun vs H Q E h => ?_) (fun cdv A outer s H vs Q E hr h => ?_)
  · obtain ⟨c, xs, cs, i, rfl, _⟩ := h
    rfl
  · obtain ⟨c, xs, cs, i, rfl, hC, hz, hin, go, er⟩ := h
    have r1 : Room 1 _ := hr.mono (by decide)
    refine ⟨_, pss_cons (ps_if (pt_cmpR (op_eq) (pe_ix ix_tup (pv 0) (pv 1) (fun _ _ => rfl)) (pe_glob (v := .str "taken") (by rfl) mT ⟨_, rfl⟩) (nomark _)) (pss_one (ps_raise rfl (takes_of rfl rfl rfl rfl) (pmk_exI EL.ns hr (pa_cons (pv 1) pa_nil)))) pss_nil)
      (pss_one (ps_ret (pe_tup (pa_cons (pe_cmpR (op_eq) (pe_ix ix_tup (pv 0) (pv 1) (fun _ _ => rfl)) (pe_glob (v := .str "standing") (by rfl) mS ⟨_, rfl⟩) (nomark _)) (pa_cons (pe_at N3 r1 (pa_cons (pv 0) (pa_cons (pe_lst (pa_cons (pv 1) pa_nil)) (pa_cons (pe_glob (v := .str "taken") (by rfl) mT ⟨_, rfl⟩) pa_nil)))) pa_nil))))), ?_⟩
    have eE : owE cs (.take (.int ((i : Nat) : Int))) = if cs[i]? = some none then .inr (.stand i) else .inl (.take i) := by
      show (match numO cs.length (.int ((i : Nat) : Int)) with | none => _ | some i => _) = _
      rw [numO_lt hin]
    obtain ⟨dc, hd⟩ : ∃ d, cs[i]? = some d := ⟨cs[i]'(by omega), by simp⟩
    refine ⟨_, rfl, _, rfl, c, _, ((i : Nat) : Int), _, rfl, rfl, hC, atI_nat (cnV_at hd), rfl, _, rfl, ?_⟩
    rw [show ("taken" : Str) = cndS none from rfl, cnd_dec]
    cases dc with
    | none =>
      rw [if_pos hd] at eE
      rw [decide_eq_true rfl]
      exact iteT (mko_of EL.ns.T rfl (short_nat (by omega)) fun dx H' s' n e => er _ eE dx H' s' n e)
    | some b =>
      rw [if_neg (by rw [hd]; exact fun z => by cases z)] at eE
      have k := go _ eE
      rw [decide_eq_false (by exact fun z => by cases z)]
      refine iteF ?_
      refine ⟨_, rfl, _, rfl, c, _, ((i : Nat) : Int), _, rfl, rfl, hC, atI_nat (cnV_at hd), rfl, _, rfl, _, rfl, by show 1 ≤ sizeLine; decide, fun l nl => ?_⟩
      have s1 := same_new (o := .lst [V.int (i : Int)]) nl
      refine ⟨c, l, cs, [i], none, rfl, sqT_same hC s1, by omega, SqL.of upd_same, fun c' H2 s2 nc' ec' => ?_⟩
      have s12 := s1.trans s2
      refine ⟨by show 2 ≤ sizeLine; decide, fun T nT => ?_⟩
      have s3 := same_new (o := .tup [V.bl (decide (V.str (cndS (some b)) = V.str "standing")), V.ref c']) nT
      exact k T _ c' _ (s12.trans s3) upd_same (by show V.bl _ = V.bl _; rw [show ("standing" : Str) = cndS (some true) from rfl, cnd_dec, hd]; simp) (fun q e => by cases e) (SqT.of (s3 _ _ ec'))
end
/-! ### several operations -/
section
variable (xs : List (Int × Int))
def condAt (cs : List Cnd) (ops : List Opn) : List Cnd := ops.foldl (afterOp xs) cs
def stepsOf : List Cnd → List Opn → List Step
  | _, [] => []
  | cs, o :: ops => (some o, afterOp xs cs o) :: stepsOf (afterOp xs cs o) ops
def okOps : List Cnd → List Opn → Prop
  | _, [] => True
  | cs, o :: ops => okOp cs o ∧ okOps (afterOp xs cs o) ops
def ResAll (H : Hp) : List Cnd → List V → List Opn → Prop
  | _, vs, [] => vs = []
  | cs, vs, o :: ops => ∃ v us, vs = v :: us ∧ ResAt xs cs H v o ∧ ResAll H (afterOp xs cs o) us ops
end
section
variable {xs : List (Int × Int)}
theorem condAt_len (cs : List Cnd) (ops : List Opn) : (condAt xs cs ops).length = cs.length := by
  unfold condAt
  induction ops generalizing cs with
  | nil => rfl
  | cons o ops ih => rw [List.foldl_cons, ih, afterOp_len]
theorem condAt_snoc (cs : List Cnd) (ops : List Opn) (o : Opn) : condAt xs cs (ops ++ [o]) = afterOp xs (condAt xs cs ops) o := by unfold condAt; rw [List.foldl_append]; rfl
theorem stepsOf_snoc : ∀ (cs : List Cnd) (ops : List Opn) (o : Opn), stepsOf xs cs (ops ++ [o]) = stepsOf xs cs ops ++ [(some o, afterOp xs (condAt xs cs ops) o)]
  | cs, [], o => rfl
  | cs, p :: ops, o => by
    show (some p, afterOp xs cs p) :: stepsOf xs (afterOp xs cs p) (ops ++ [o]) = _
    rw [stepsOf_snoc]
    rfl
theorem stepsOf_len : ∀ (cs : List Cnd) (ops : List Opn), (stepsOf xs cs ops).length = ops.length
  | _, [] => rfl
  | cs, o :: ops => congrArg (· + 1) (stepsOf_len (afterOp xs cs o) ops)
theorem okOps_at : ∀ {cs : List Cnd} {ops : List Opn} {j : Nat} {o : Opn}, okOps xs cs ops → ops[j]? = some o → okOp (condAt xs cs (ops.take j)) o
  | cs, p :: ops, 0, o, h, e => by simp at e; subst e; exact h.1
  | cs, p :: ops, j + 1, o, h, e => by
    have := okOps_at (cs := afterOp xs cs p) (j := j) h.2 (by simpa using e)
    exact this
theorem ResAt.mono {cs : List Cnd} {H H' : Hp} {v : V} {o : Opn} (h : ResAt xs cs H v o) (b : ∀ p ws, H p = some (.lst ws) → v = .ref p → H' p = some (.lst ws)) : ResAt xs cs H' v o := by
  cases o with
  | push i r => obtain ⟨p, rfl, h⟩ := h; exact ⟨p, rfl, b _ _ h rfl⟩
  | lift i => exact h
  | take i => exact h
theorem ResAll.mono {H H' : Hp} : ∀ {cs : List Cnd} {vs : List V} {ops : List Opn}, ResAll xs H cs vs ops → (∀ p ws, H p = some (.lst ws) → V.ref p ∈ vs → H' p = some (.lst ws)) → ResAll xs H' cs vs ops
  | _, _, [], h, _ => h
  | _, _, o :: ops, ⟨v, us, e, h1, h2⟩, b => by
    subst e
    exact ⟨v, us, rfl, h1.mono fun p ws e ev => b p ws e (ev ▸ List.mem_cons_self), h2.mono fun p ws e hm => b p ws e (List.mem_cons_of_mem _ hm)⟩
theorem ResAll.snoc {H : Hp} : ∀ {cs : List Cnd} {vs : List V} {ops : List Opn} {v : V} {o : Opn}, ResAll xs H cs vs ops → ResAt xs (condAt xs cs ops) H v o → ResAll xs H cs (vs ++ [v]) (ops ++ [o])
  | cs, vs, [], v, o, h, g => by obtain rfl : vs = [] := h; exact ⟨v, [], rfl, g, rfl⟩
  | cs, vs, p :: ops, v, o, ⟨u, us, e, h1, h2⟩, g => by
    subst e
    exact ⟨u, us ++ [v], rfl, h1, ResAll.snoc h2 g⟩
end
def OpsAt (K : PySem.W.Frag) (H : Hp) (os : List V) (ops : List Opn) : Prop := Paired (fun v o => ∃ a : Addr, v = .ref a ∧ SqT K H a (opV o)) os ops
def newSteps (xs : List (Int × Int)) (ss : List Step) (n : Nat) (ops : List Opn) : List Step := if ops = [] then ss else ss.take (n + 1) ++ stepsOf xs (curr ss n) ops
def spApply (K : PySem.W.Frag) (D : Addr) : Sp := Lv K D fun q xs ss n rest H Q => ∃ (t : Addr) (os : List V) (ops : List Opn), rest = [.ref t] ∧ SqT K H t os ∧ OpsAt K H os ops ∧ okOps xs (curr ss n) ops ∧ n + ops.length < 900 ∧
  ∀ p rs H', But q H H' → H p = none → H' p = some (.lst rs) → ResAll xs H' (curr ss n) rs ops → (∀ z, V.ref z ∈ rs → H z = none) → LiveAt K H' q D xs (newSteps xs ss n ops) (n + ops.length) → Q (.ref p) H'
theorem sqT_lst {K : PySem.W.Frag} {H : Hp} {a l : Addr} {xs ys : List V} {o : HO} (h : SqT K H a xs) (hl : H l = some (.lst ys)) : SqT K (upd H l o) a xs := by
  rcases h with (h | ⟨ob, h⟩) | h
  · exact .inl (.inl (by rw [upd_ne (fun e => by rw [e, hl] at h; cases h)]; exact h))
  · exact .inl (.inr ⟨ob, by rw [upd_ne (fun e => by rw [e, hl] at h; cases h)]; exact h⟩)
  · exact .inr h
theorem OpAt.to {K : PySem.W.Frag} {H H' : Hp} {v : V} {o : Option Opn} (f : ∀ a xs, SqT K H a xs → SqT K H' a xs) (h : OpAt K H v o) : OpAt K H' v o := by
  cases o with
  | none => exact h
  | some op => obtain ⟨a, h1, h2⟩ := h; exact ⟨a, h1, f _ _ h2⟩
theorem StepAt.to {K : PySem.W.Frag} {H H' : Hp} {v : V} {s : Step} (f : ∀ a xs, SqT K H a xs → SqT K H' a xs) (h : StepAt K H v s) : StepAt K H' v s := by
  obtain ⟨a, ov, c, h1, h2, h3, h4⟩ := h
  exact ⟨a, ov, c, h1, f _ _ h2, h3.to f, f _ _ h4⟩
theorem last_step {xs : List (Int × Int)} {ss : List Step} {n : Nat} (hn : n < ss.length) (ops : List Opn) : ∃ s, (ss.take (n + 1) ++ stepsOf xs (curr ss n) ops)[n + ops.length]? = some s ∧ s.2 = condAt xs (curr ss n) ops := by
  have lt : (ss.take (n + 1)).length = n + 1 := by rw [List.length_take]; omega
  rcases List.eq_nil_or_concat ops with rfl | ⟨as, a, rfl⟩
  · refine ⟨ss[n], ?_, ?_⟩
    · show (ss.take (n + 1) ++ [])[n + 0]? = _
      rw [List.append_nil, List.getElem?_take]
      simp [hn]
    · show _ = curr ss n
      unfold curr
      rw [List.getD_eq_getElem?_getD]
      simp [hn]
  · rw [List.concat_eq_append, stepsOf_snoc, condAt_snoc, List.length_append]
    refine ⟨(some a, afterOp xs (condAt xs (curr ss n) as) a), ?_, rfl⟩
    rw [← List.append_assoc, List.getElem?_append_right (by rw [List.length_append, lt, stepsOf_len]; simp; omega), List.length_append, lt, stepsOf_len]
    have e : n + (as.length + [a].length) - (n + 1 + as.length) = 0 := by simp; omega
    rw [e]
    rfl
theorem paired_take {α β : Type} {F : α → β → Prop} : ∀ {xs : List α} {ys : List β} (k : Nat), Paired F xs ys → Paired F (xs.take k) (ys.take k)
  | _, _, 0, _ => by rw [List.take_zero, List.take_zero]; exact .nil
  | _, _, k + 1, .nil => .nil
  | _, _, k + 1, .cons a t => .cons a (paired_take k t)
section
variable {P : Program} {w : World} {K : PySem.W.Frag} {mg : Str → Option Value} {base : Heap}
theorem ok_apply {f g1 g2 D : Addr} {fd d1 d2 : FuncData} (F : Fun K "apply" "LiveRow.apply" s_LiveRow_apply f fd) (B : Blt mg) (cL : ClsL K D) (N1 : At P w K mg base CX0 1 "_is_operation" ["value"] (spIsOp K) g1 d1)
    (N2 : At P w K mg base CX0 4 "_executed" ["stones", "conditions", "operation"] (spExec K) g2 d2) :
    FnR P w K mg base CX0 5 f (fun vs H Q E => ∃ w0 rest, vs = w0 :: rest ∧ rest.length ≤ 1000 ∧ ∀ p, H p = none → spApply K D [w0, V.ref p] (upd H p (.tup rest)) Q E) := by
  refine star1 F sc_LiveRow_apply (fun _ _ _ _ _ _ _ => rfl) (fun _ _ _ _ _ _ _ _ _ => rfl) (fun cdv A outer s H vs Q E hr h => ?_)
  obtain ⟨q, xs, ss, n, rest, rfl, ⟨dx, t, st, o, k1, k2, us, ws, hX⟩, p, tO, os, ops, rfl, hO, hP, ok, hn, k⟩ := h
  have r1 : Room 1 _ := hr.mono (by decide)
  refine ⟨_, pss_cons (ps_for PassesOwn.never rfl (Own.pi_enumT (by rfl) B.enumerate (pa_cons (pv 1) pa_nil)) (pg_tup rfl (pgs_cons (pg_name (i := 2) sc_LiveRow_apply.nd rfl (Or.inl rfl)) (pgs_cons (pg_name (i := 3) sc_LiveRow_apply.nd rfl (Or.inl rfl)) pgs_nil)))
      (pss_one (ps_if (pt_not (pt_val (pe_at N1 r1 (pa_cons (pv 3) pa_nil)))) (pss_one ps_never) pss_nil)))
    (pss_cons (ps_if (pt_not (pt_truth (pv 1) (by intro _; rfl))) (pss_one (ps_ret (pe_lst pa_nil))) pss_nil)
    (pss_cons (ps_set (i := 4) sc_LiveRow_apply.nd rfl (Or.inl rfl) (pe_lst pa_nil))
    (pss_cons (ps_set (i := 5) sc_LiveRow_apply.nd rfl (Or.inl rfl) (pe_callTy (call_list_of) (by rfl) B.list boot_list (pa_cons (pe_slice sl_tupA (pe_fld (pv 0) rfl) po_none (po_some (pe_op op_add (pe_fld (pv 0) rfl) (pe_int)))) pa_nil)))
    (pss_cons (ps_for PassesOwn.never rfl (pi_tup (pv 1)) (pg_name (i := 3) sc_LiveRow_apply.nd rfl (Or.inl rfl))
      (pss_cons (ps_asg (pe_at N2 hr (pa_cons (pe_fld (pv 0) rfl) (pa_cons (pe_ix ix_tup (pe_ix ix_list (pv 5) (pe_un un_neg pe_int) (fun _ _ => rfl)) (pe_int) (fun _ _ => rfl)) (pa_cons (pv 3) pa_nil)))) (pg_tup rfl (pgs_cons (pg_name (i := 6) sc_LiveRow_apply.nd rfl (Or.inl rfl)) (pgs_cons (pg_name (i := 7) sc_LiveRow_apply.nd rfl (Or.inl rfl)) pgs_nil))))
      (pss_cons (ps_expr (pe_bm PySem.F.plainAttrs_list PySem.F.slot_list_append PySem.F.type_list_append mt_append (pv 4) (pa_cons (pv 6) pa_nil)))
      (pss_one (ps_expr (pe_bm PySem.F.plainAttrs_list PySem.F.slot_list_append PySem.F.type_list_append mt_append (pv 5) (pa_cons (pe_tup (pa_cons (pv 3) (pa_cons (pv 7) pa_nil))) pa_nil)))))))
    (pss_cons (ps_fld (pv 0) (pe_tupleOf (by rfl) B.tuple (pv 5)) rfl)
    (pss_cons (ps_fld (pv 0) (pe_op op_sub (pe_callB call_len_seq (by rfl) B.len PySem.boot_len (pa_cons (pv 5) pa_nil)) (pe_int)) rfl)
    (pss_one (ps_ret (pv 4))))))))), ?_⟩
  have hz := p.z
  have hnl := p.lt
  have hle := p.le
  obtain ⟨s0, hs0, es0, el0⟩ := p.curr
  have hwl : ws.length = ss.length := paired_len hX.hP
  have hol : os.length = ops.length := paired_len hP
  refine ⟨_, rfl, tO, os, rfl, hO, for_it (Own.walk_item (K := K) (a := tO) (xs := os)) (fun j σ H1 => ∃ (s2 s3 : Option V), σ = [some (.ref q), some (.ref tO), s2, s3, none, none, none, none] ∧ Same H H1) ?_ ?_ ?_ ?_⟩
  · exact ⟨none, none, rfl, Same.refl _⟩
  · rintro j σ H1 _ ⟨_, _, _, sm⟩
    exact sqT_same hO sm
  · rintro j v σ H1 H2 hj ⟨s2, s3, rfl, sm⟩ ⟨T, y, z, rfl, nT, rfl, e1, e2⟩
    obtain rfl : y = V.int (j : Int) := (Option.some.inj e1).symm
    obtain ⟨op, hop⟩ : ∃ op, ops[j]? = some op := ⟨ops[j]'(by omega), by simp⟩
    obtain ⟨v, hv, a, rfl, ha⟩ := paired_at hP hop
    obtain rfl : z = V.ref a := Option.some.inj (e2.symm.trans hv)
    have sT := sm.trans (same_new (o := .tup [V.int (j : Int), V.ref a]) nT)
    refine ⟨T, _, rfl, SqT.of upd_same, rfl, _, _, rfl, _, _, rfl, rfl, ?_⟩
    exact ⟨_, rfl, a, op, rfl, sqT_same ha sT, _, rfl, iteF ⟨_, _, rfl, sT⟩⟩
  · rintro σ H1 ⟨s2, s3, rfl, sm⟩
    by_cases h0 : ops = []
    · subst h0
      obtain rfl : os = [] := List.eq_nil_of_length_eq_zero hol
      refine ⟨_, rfl, false, .inr (.inl ⟨[], sqT_same hO sm, rfl⟩), iteT ⟨by show 0 ≤ sizeLine; decide, fun l nl => ?_⟩⟩
      have s1 := sm.trans (same_new (o := .lst []) nl)
      exact k l [] _ (Same.but s1 q) (Same.free sm nl) upd_same rfl (fun z h => nomatch h) ⟨dx, t, st, o, k1, k2, us, ws, hX.same s1⟩
    · have hne : os ≠ [] := fun e => h0 (List.eq_nil_of_length_eq_zero (by rw [← hol, e]; rfl))
      have ee : true = !os.isEmpty := by cases os with | nil => exact absurd rfl hne | cons a b => rfl
      refine ⟨_, rfl, true, .inr (.inl ⟨os, sqT_same hO sm, ee⟩), iteF ?_⟩
      refine ⟨by show 0 ≤ sizeLine; decide, fun pR nR => ?_⟩
      have s1 := sm.trans (same_new (o := .lst []) nR)
      have eR : (upd H1 pR (.lst [])) pR = some (.lst []) := upd_same
      have fR := Same.free sm nR
      generalize upd H1 pR (.lst []) = H2 at s1 eR ⊢
      refine nm_of ?_
      -- steps
      have cut : ∀ {G : VK}, (∀ z H', Same H2 H' → SqT K H' z (ws.take (n + 1)) → G (.ref z) H') → rSlA K (.ref st) none (some ((n : Int) + 1)) H2 G := fun {G} go => by
        have e1 : HT.sIx ws.length ws.length (some ((n : Int) + 1)) = n + 1 := by
          rw [show (n : Int) + 1 = ((n + 1 : Nat) : Int) by omega, HT.sIx_nat]
          omega
        have hW := sqT_same hX.hW s1
        refine ⟨st, ws, rfl, hW, fun h => ?_, fun h z nz => go z _ (same_new nz) (SqT.of ?_)⟩
        · rw [e1] at h
          refine go st H2 (Same.refl _) ?_
          rw [List.take_of_length_le (by omega)]
          exact hW
        · rw [upd_same]
          unfold cutV
          rw [e1, HT.sIx_none, List.drop_zero, Nat.sub_zero]
      refine ⟨_, rfl, q, D, dx, _, _, rfl, s1 _ _ hX.at_, cL.cl, cL.n2, rfl, _, rfl, q, D, dx, _, _, rfl, s1 _ _ hX.at_, cL.cl, cL.n3, rfl, _, _, rfl, rfl, _, rfl, cut fun z H3 s3 hz3 => ?_⟩
      refine ⟨z, _, rfl, .inr hz3, fun pS nS => ?_⟩
      have s13 := s1.trans s3
      have s4 := s13.trans (same_new (o := .lst (ws.take (n + 1))) nS)
      have eR4 : (upd H3 pS (.lst (ws.take (n + 1)))) pR = some (.lst []) := (s3.trans (same_new nS)) _ _ eR
      have eS4 : (upd H3 pS (.lst (ws.take (n + 1)))) pS = some (.lst (ws.take (n + 1))) := upd_same
      have fS := Same.free s13 nS
      have nRS : pR ≠ pS := fun e => by rw [← e, s3 _ _ eR] at nS; cases nS
      generalize upd H3 pS (.lst (ws.take (n + 1))) = H4 at s4 eR4 eS4 ⊢
      refine nm_of ?_
      refine ⟨_, rfl, tO, rfl, ⟨os, sqT_same hO s4⟩, for_it (walk_tup (K := K) (a := tO) (xs := os)) (fun j σ G => ∃ (s2 s3 s6 s7 : Option V) (rs wl : List V), σ = [some (.ref q), some (.ref tO), s2, s3, some (.ref pR), some (.ref pS), s6, s7] ∧ Same H G ∧
        G pR = some (.lst rs) ∧ rs.length = j ∧ ResAll xs G (curr ss n) rs (ops.take j) ∧ (∀ z, V.ref z ∈ rs → H z = none ∧ z ≠ pR ∧ z ≠ pS) ∧ G pS = some (.lst wl) ∧ StepsAt K G wl (ss.take (n + 1) ++ stepsOf xs (curr ss n) (ops.take j))) ?_ ?_ ?_ ?_⟩
      · refine ⟨_, _, _, _, [], ws.take (n + 1), rfl, s4, eR4, rfl, by rw [List.take_zero]; exact rfl, (fun z h => nomatch h), eS4, ?_⟩
        rw [List.take_zero]
        show StepsAt K H4 _ (_ ++ [])
        rw [List.append_nil]
        exact paired_imp (fun _ _ q => q.same s4) (paired_take (n + 1) hX.hP)
      · rintro j σ G _ ⟨_, _, _, _, _, _, _, sm, _⟩
        exact sqT_same hO sm
      · rintro j x σ G G' hj ⟨s2, s3, s6, s7, rs, wl, rfl, sG, gR, lR, RA, fr, gS, SA⟩ ⟨rfl, hx⟩
        obtain ⟨op, hop⟩ : ∃ op, ops[j]? = some op := ⟨ops[j]'(by omega), by simp⟩
        obtain ⟨v, hv, a, rfl, ha⟩ := paired_at hP hop
        obtain rfl : x = V.ref a := Option.some.inj (hx.symm.trans hv)
        have hlj : (ops.take j).length = j := by rw [List.length_take]; omega
        have etk : ops.take (j + 1) = ops.take j ++ [op] := by rw [List.take_add_one, hop]; rfl
        have okj := okOps_at ok hop
        obtain ⟨sl, hsl, esl⟩ := last_step (xs := xs) hnl (ops.take j)
        rw [hlj] at hsl
        have lw : wl.length = n + 1 + j := by rw [paired_len SA, List.length_append, stepsOf_len, hlj, List.length_take]; omega
        obtain ⟨lv, hlv, la, lo, lc, rfl, hla, _, hlc⟩ := paired_at SA hsl
        rw [esl] at hlc
        have cl : (condAt xs (curr ss n) (ops.take j)).length = xs.length := by rw [condAt_len, el0]
        have hat := at_lst (l := wl) (v := V.ref la) (by rw [lw, show n + 1 + j - 1 = n + j by omega]; exact hlv) (by omega)
        have hXG := hX.same sG
        -- result, conditions = _executed(..)
        refine ⟨_, rfl, q, D, dx, _, _, rfl, hXG.at_, cL.cl, cL.n1, rfl, _, rfl, 1, rfl, pS, wl, (-1), _, rfl, rfl, SqL.of gS, hat, la, _, ((1 : Nat) : Int), _, rfl, rfl, hla, atI_nat (j := 1) rfl, _, rfl, t, lc, a, us, xs, _, op, rfl, hXG.hT, hXG.hS, hlc, cl, hz, sqT_same ha sG, okj, fun T v c' H5 s5 eT res fresh hc' => ?_⟩
        refine ⟨T, _, rfl, SqT.of eT, rfl, _, _, rfl, _, _, rfl, rfl, ?_⟩
        have gR5 := s5 _ _ gR
        have gS5 := s5 _ _ gS
        -- results.append(result)
        refine ⟨_, rfl, .inl ⟨rfl, _, SqL.of gR5⟩, _, rfl, pR, _, _, rfl, rfl, gR5, by rw [sizeLine_eq]; omega, ?_⟩
        have up6 : ∀ b ys, SqT K H5 b ys → SqT K (upd H5 pR (.lst (rs ++ [v]))) b ys := fun b ys h => sqT_lst h gR5
        have gR6 : (upd H5 pR (.lst (rs ++ [v]))) pR = some (.lst (rs ++ [v])) := upd_same
        have gS6 : (upd H5 pR (.lst (rs ++ [v]))) pS = some (.lst wl) := by rw [upd_ne (Ne.symm nRS)]; exact gS5
        have s6 : Same H (upd H5 pR (.lst (rs ++ [v]))) := fun b u e => by rw [upd_ne (ne_of_none e fR)]; exact (sG.trans s5) _ _ e
        have ot6 : ∀ z ys, z ≠ pR → H5 z = some (.lst ys) → (upd H5 pR (.lst (rs ++ [v]))) z = some (.lst ys) := fun z ys ne e => by rw [upd_ne ne]; exact e
        generalize upd H5 pR (.lst (rs ++ [v])) = H6 at up6 gR6 gS6 s6 ot6 ⊢
        -- steps.append((operation, conditions))
        refine ⟨_, rfl, .inl ⟨rfl, _, SqL.of gS6⟩, _, rfl, _, rfl, by show 2 ≤ sizeLine; decide, fun T2 nT2 => ?_⟩
        have s7 := same_new (o := .tup [V.ref a, V.ref c']) nT2
        have gS7 := s7 _ _ gS6
        refine ⟨pS, _, _, rfl, rfl, gS7, by rw [sizeLine_eq]; omega, ?_⟩
        have up8 : ∀ b ys, SqT K (upd H6 T2 (.tup [V.ref a, V.ref c'])) b ys → SqT K (upd (upd H6 T2 (.tup [V.ref a, V.ref c'])) pS (.lst (wl ++ [V.ref T2]))) b ys := fun b ys h => sqT_lst h gS7
        have up : ∀ b ys, SqT K H5 b ys → SqT K (upd (upd H6 T2 (.tup [V.ref a, V.ref c'])) pS (.lst (wl ++ [V.ref T2]))) b ys := fun b ys h => up8 _ _ (sqT_same (up6 _ _ h) s7)
        have ot : ∀ z ys, z ≠ pR → z ≠ pS → H5 z = some (.lst ys) → (upd (upd H6 T2 (.tup [V.ref a, V.ref c'])) pS (.lst (wl ++ [V.ref T2]))) z = some (.lst ys) := fun z ys ne ne2 e => by rw [upd_ne ne2]; exact s7 _ _ (ot6 _ _ ne e)
        have sm : Same H (upd (upd H6 T2 (.tup [V.ref a, V.ref c'])) pS (.lst (wl ++ [V.ref T2]))) := fun b u e => by rw [upd_ne (ne_of_none e fS)]; exact s7 _ _ (s6 _ _ e)
        have frv : ∀ z, v = V.ref z → H z = none ∧ z ≠ pR ∧ z ≠ pS := fun z e => ⟨Same.free sG (fresh z e), (fun e2 => by have := fresh z e; rw [e2, gR] at this; cases this), (fun e2 => by have := fresh z e; rw [e2, gS] at this; cases this)⟩
        refine ⟨_, _, _, _, rs ++ [v], wl ++ [V.ref T2], rfl, sm, by rw [upd_ne nRS]; exact s7 _ _ gR6, by rw [List.length_append, lR]; rfl, ?_, fun z h => ?_, upd_same, ?_⟩
        · rw [etk]
          refine (RA.mono fun z ys e hm => ?_).snoc (res.mono fun z ys e ev => ?_)
          · obtain ⟨_, n1, n2⟩ := fr z hm
            exact ot z ys n1 n2 (s5 _ _ e)
          · obtain ⟨_, n1, n2⟩ := frv z ev
            exact ot z ys n1 n2 e
        · rcases List.mem_append.mp h with h | h
          · exact fr z h
          · exact frv z (List.mem_singleton.mp h).symm
        · rw [etk, stepsOf_snoc, ← List.append_assoc]
          refine paired_snoc (paired_imp (fun _ _ r => r.to fun b ys h => up _ _ (sqT_same h s5)) SA) ⟨T2, .ref a, c', rfl, up8 _ _ (SqT.of upd_same), ⟨a, rfl, up _ _ (sqT_same ha (sG.trans s5))⟩, up _ _ hc'⟩
      · rintro σ G ⟨s2, s3, s6, s7, rs, wl, rfl, sG, gR, lR, RA, fr, gS, SA⟩
        have et : ops.take os.length = ops := by rw [hol, List.take_length]
        rw [et] at RA SA
        have hXG := hX.same sG
        have lw : wl.length = n + 1 + ops.length := by rw [paired_len SA, List.length_append, stepsOf_len, List.length_take]; omega
        refine ⟨_, rfl, .inl ⟨pS, _, rfl, SqL.of gS, fun z nz => ?_⟩⟩
        have sz := same_new (o := .tup wl) nz
        have ez : (upd G z (.tup wl)) z = some (.tup wl) := upd_same
        have gRz := sz _ _ gR
        have gSz := sz _ _ gS
        have hXz := hXG.same sz
        have SAz : StepsAt K (upd G z (.tup wl)) wl _ := paired_imp (fun _ _ r => r.same sz) SA
        have RAz := RA.mono (H' := upd G z (.tup wl)) fun y ys e _ => sz _ _ e
        have sGz := sG.trans sz
        generalize upd G z (.tup wl) = G1 at ez gRz gSz hXz SAz RAz sGz ⊢
        refine ⟨_, rfl, q, D, dx, _, rfl, hXz.at_, cL.cl, cL.n2, (by show 6 < 1000; decide), ?_⟩
        have q1 : (upd G1 q (.ins D dx (putF "_steps" (V.ref z) (liveF t st n o k1 k2)))) q = some (.ins D dx (liveF t z n o k1 k2)) := upd_same
        have b1 : But q G1 (upd G1 q (.ins D dx (putF "_steps" (V.ref z) (liveF t st n o k1 k2)))) := but_upd
        generalize upd G1 q (.ins D dx (putF "_steps" (V.ref z) (liveF t st n o k1 k2))) = G2 at q1 b1 ⊢
        have neS : pS ≠ q := fun e => by rw [e, hXz.at_] at gSz; cases gSz
        have neR : pR ≠ q := fun e => by rw [e, hXz.at_] at gRz; cases gRz
        refine ⟨_, rfl, pS, _, rfl, .inl (SqL.of (b1 _ _ neS gSz)), _, _, rfl, rfl, _, rfl, q, D, dx, _, rfl, q1, cL.cl, cL.n3, (by show 6 < 1000; decide), ?_⟩
        have en : ((wl.length : Nat) : Int) - 1 = ((n + ops.length : Nat) : Int) := by rw [lw]; omega
        have q2 : (upd G2 q (.ins D dx (putF "_last_step" (V.int (((wl.length : Nat) : Int) - 1)) (liveF t z n o k1 k2)))) q = some (.ins D dx (liveF t z (n + ops.length) o k1 k2)) := by rw [upd_same, en]; rfl
        have b2 : But q G2 (upd G2 q (.ins D dx (putF "_last_step" (V.int (((wl.length : Nat) : Int) - 1)) (liveF t z n o k1 k2)))) := but_upd
        generalize upd G2 q (.ins D dx (putF "_last_step" (V.int (((wl.length : Nat) : Int) - 1)) (liveF t z n o k1 k2))) = G3 at q2 b2 ⊢
        have b12 := b1.trans b2
        refine ⟨_, rfl, k pR rs G3 ((Same.but sGz q).trans b12) fR (b12 _ _ neR gRz) (RAz.mono fun y ys e _ => b12 _ _ (fun e2 => by rw [e2, hXz.at_] at e; cases e) e) (fun y h => (fr y h).1) ⟨dx, t, z, o, k1, k2, us, wl, q2, sqT_ins hXz.hT hXz.at_ b12, hXz.hS.ins hXz.at_ b12, sqT_ins (SqT.of ez) hXz.at_ b12, ?_⟩⟩
        unfold newSteps
        rw [if_neg h0]
        exact paired_imp (fun _ _ r => r.ins hXz.at_ b12) SAz
end
/-! ### one operation -/
theorem curr_at {ss : List Step} {n : Nat} {s : Step} (h : ss[n]? = some s) : curr ss n = s.2 := by
  unfold curr
  rw [List.getD_eq_getElem?_getD, h]
  rfl
theorem curr_new {xs : List (Int × Int)} {ss : List Step} {n : Nat} (hn : n < ss.length) (ops : List Opn) : curr (newSteps xs ss n ops) (n + ops.length) = condAt xs (curr ss n) ops := by
  unfold newSteps
  by_cases h : ops = []
  · subst h
    rw [if_pos rfl]
    rfl
  · rw [if_neg h]
    obtain ⟨s, h1, h2⟩ := last_step (xs := xs) hn ops
    rw [← h2]
    exact curr_at h1
theorem stepsOf_eq {xs : List (Int × Int)} {m : Nat} : ∀ {cs : List Cnd} {ops : List Opn}, cs.length = m → ∀ s ∈ stepsOf xs cs ops, s.2.length = m
  | _, [], _, s, h => nomatch h
  | cs, o :: ops, hl, s, h => by
    rcases List.mem_cons.mp h with rfl | h
    · show (afterOp xs cs o).length = m
      rw [afterOp_len, hl]
    · exact stepsOf_eq (cs := afterOp xs cs o) (by rw [afterOp_len, hl]) s h
theorem LiveP.new {xs : List (Int × Int)} {ss : List Step} {n : Nat} (p : LiveP xs ss n) {ops : List Opn} (h : n + ops.length < 900) : LiveP xs (newSteps xs ss n ops) (n + ops.length) := by
  have hn := p.lt
  have hl := p.le
  unfold newSteps
  by_cases h0 : ops = []
  · subst h0
    rw [if_pos rfl]
    exact p
  · rw [if_neg h0]
    have e : (ss.take (n + 1) ++ stepsOf xs (RD.curr ss n) ops).length = n + 1 + ops.length := by rw [List.length_append, stepsOf_len, List.length_take]; omega
    refine ⟨by omega, by omega, p.z, fun s hs => ?_⟩
    rcases List.mem_append.mp hs with hs | hs
    · exact p.eq s (List.mem_of_mem_take hs)
    · exact stepsOf_eq p.curr.choose_spec.2.2 s hs
def spOp (K : PySem.W.Frag) (D : Addr) (is : Opn → Prop) : Sp := Lv K D fun q xs ss n rest H Q => ∃ op, is op ∧ rest = (opV op).tail ∧ okOp (curr ss n) op ∧ n + 1 < 900 ∧
  ∀ v H', But q H H' → ResAt xs (curr ss n) H' v op → (∀ z, v = .ref z → H z = none) → LiveAt K H' q D xs (newSteps xs ss n [op]) (n + 1) → Q v H'
abbrev isPush (o : Opn) : Prop := ∃ i r, o = .push i r
abbrev isLift (o : Opn) : Prop := ∃ i, o = .lift i
abbrev isTake (o : Opn) : Prop := ∃ i, o = .take i
theorem one_of {K : PySem.W.Frag} {D q a t : Addr} {xs : List (Int × Int)} {ss : List Step} {n : Nat} {H : Hp} {Q Q2 : VK} {E : XK} {op : Opn} (hL : LiveAt K H q D xs ss n) (p : LiveP xs ss n) (ok : okOp (curr ss n) op) (hn : n + 1 < 900) (na : H a = none) (nt : (upd H a (.tup (opV op))) t = none)
    (k : ∀ v H', But q H H' → ResAt xs (curr ss n) H' v op → (∀ z, v = .ref z → H z = none) → LiveAt K H' q D xs (newSteps xs ss n [op]) (n + 1) → Q v H')
    (go : ∀ v H' l, H' l = some (.lst [v]) → Q v H' → Q2 (.ref l) H') : spApply K D [.ref q, .ref t] (upd (upd H a (.tup (opV op))) t (.tup [.ref a])) Q2 E := by
  have s1 := same_new (o := .tup (opV op)) na
  have s2 := s1.trans (same_new (o := .tup [V.ref a]) nt)
  have ea : SqT K (upd (upd H a (.tup (opV op))) t (.tup [.ref a])) a (opV op) := SqT.of (same_new nt _ _ upd_same)
  have et : SqT K (upd (upd H a (.tup (opV op))) t (.tup [.ref a])) t [.ref a] := SqT.of upd_same
  refine ⟨q, xs, ss, n, _, rfl, hL.same s2, p, t, [.ref a], [op], rfl, et, .cons ⟨a, rfl, ea⟩ .nil, ⟨ok, True.intro⟩, hn, fun l rs H' b nl el RA fr hL' => ?_⟩
  obtain ⟨v, us, rfl, h1, rfl⟩ := RA
  exact go v H' l el (k v H' (fun c o n e => b c o n (s2 _ _ e)) h1 (fun z e => Same.free s2 (fr z (by rw [e]; exact List.mem_cons_self))) hL')
section
variable {P : Program} {w : World} {K : PySem.W.Frag} {mg : Str → Option Value} {base : Heap}
theorem ok_lPush {f g D : Addr} {fd : FuncData} (F : Fun K "push" "LiveRow.push" s_LiveRow_push f fd) (cL : ClsL K D) (Hm : Meth K D "apply" g)
    (G : FnR P w K mg base CX0 5 g (fun vs H Q E => ∃ w0 rest, vs = w0 :: rest ∧ rest.length ≤ 1000 ∧ ∀ p, H p = none → spApply K D [w0, V.ref p] (upd H p (.tup rest)) Q E)) : FnOk P w K mg base CX0 6 f fd ["self", "stone", "side"] (spOp K D isPush) := by
  refine F.ok sc_LiveRow_push (fun vs H Q E h => ?_) (fun cdv A outer s H vs Q E hr h => ?_)
  · obtain ⟨q, xs, ss, n, rest, rfl, _, _, op, ⟨i, r, rfl⟩, rfl, _⟩ := h
    rfl
  · obtain ⟨q, xs, ss, n, rest, rfl, hL, p, op, ⟨i, r, rfl⟩, rfl, ok, hn, k⟩ := h
    obtain ⟨dx, t, st, o, k1, k2, us, ws, hX⟩ := id hL
    refine ⟨_, pss_one (ps_ret (pe_ix ix_list (pe_methR (pv 0) cL.cl Hm G hr pass0 (pa_cons (pe_tup (pa_cons (pe_str) (pa_cons (pv 1) (pa_cons (pv 2) pa_nil)))) pa_nil)) (pe_int) (fun _ _ => rfl))), ?_⟩
    refine ⟨_, rfl, q, dx, _, rfl, hX.at_, rfl, _, rfl, _, rfl, by show 3 ≤ sizeLine; decide, fun a na => ⟨_, _, rfl, by show 1 ≤ 1000; decide, fun t nt => ?_⟩⟩
    exact one_of hL p ok hn na nt k fun v H' l el qv => ⟨l, _, ((0 : Nat) : Int), v, rfl, rfl, SqL.of el, atI_nat (j := 0) rfl, qv⟩
theorem ok_lLift {f g D : Addr} {fd : FuncData} (F : Fun K "lift" "LiveRow.lift" s_LiveRow_lift f fd) (cL : ClsL K D) (Hm : Meth K D "apply" g)
    (G : FnR P w K mg base CX0 5 g (fun vs H Q E => ∃ w0 rest, vs = w0 :: rest ∧ rest.length ≤ 1000 ∧ ∀ p, H p = none → spApply K D [w0, V.ref p] (upd H p (.tup rest)) Q E)) : FnOk P w K mg base CX0 6 f fd ["self", "stone"] (spOp K D isLift) := by
  refine F.ok sc_LiveRow_lift (fun vs H Q E h => ?_) (fun cdv A outer s H vs Q E hr h => ?_)
  · obtain ⟨q, xs, ss, n, rest, rfl, _, _, op, ⟨i, rfl⟩, rfl, _⟩ := h
    rfl
  · obtain ⟨q, xs, ss, n, rest, rfl, hL, p, op, ⟨i, rfl⟩, rfl, ok, hn, k⟩ := h
    obtain ⟨dx, t, st, o, k1, k2, us, ws, hX⟩ := id hL
    refine ⟨_, pss_one (ps_ret (pe_ix ix_list (pe_methR (pv 0) cL.cl Hm G hr pass0 (pa_cons (pe_tup (pa_cons (pe_str) (pa_cons (pv 1) pa_nil))) pa_nil)) (pe_int) (fun _ _ => rfl))), ?_⟩
    refine ⟨_, rfl, q, dx, _, rfl, hX.at_, rfl, _, rfl, by show 2 ≤ sizeLine; decide, fun a na => ⟨_, _, rfl, by show 1 ≤ 1000; decide, fun t nt => ?_⟩⟩
    exact one_of hL p ok hn na nt k fun v H' l el qv => ⟨l, _, ((0 : Nat) : Int), v, rfl, rfl, SqL.of el, atI_nat (j := 0) rfl, qv⟩
theorem ok_lTake {f g D : Addr} {fd : FuncData} (F : Fun K "take" "LiveRow.take" s_LiveRow_take f fd) (cL : ClsL K D) (Hm : Meth K D "apply" g)
    (G : FnR P w K mg base CX0 5 g (fun vs H Q E => ∃ w0 rest, vs = w0 :: rest ∧ rest.length ≤ 1000 ∧ ∀ p, H p = none → spApply K D [w0, V.ref p] (upd H p (.tup rest)) Q E)) : FnOk P w K mg base CX0 6 f fd ["self", "stone"] (spOp K D isTake) := by
  refine F.ok sc_LiveRow_take (fun vs H Q E h => ?_) (fun cdv A outer s H vs Q E hr h => ?_)
  · obtain ⟨q, xs, ss, n, rest, rfl, _, _, op, ⟨i, rfl⟩, rfl, _⟩ := h
    rfl
  · obtain ⟨q, xs, ss, n, rest, rfl, hL, p, op, ⟨i, rfl⟩, rfl, ok, hn, k⟩ := h
    obtain ⟨dx, t, st, o, k1, k2, us, ws, hX⟩ := id hL
    refine ⟨_, pss_one (ps_ret (pe_ix ix_list (pe_methR (pv 0) cL.cl Hm G hr pass0 (pa_cons (pe_tup (pa_cons (pe_str) (pa_cons (pv 1) pa_nil))) pa_nil)) (pe_int) (fun _ _ => rfl))), ?_⟩
    refine ⟨_, rfl, q, dx, _, rfl, hX.at_, rfl, _, rfl, by show 2 ≤ sizeLine; decide, fun a na => ⟨_, _, rfl, by show 1 ≤ 1000; decide, fun t nt => ?_⟩⟩
    exact one_of hL p ok hn na nt k fun v H' l el qv => ⟨l, _, ((0 : Nat) : Int), v, rfl, rfl, SqL.of el, atI_nat (j := 0) rfl, qv⟩
end
section
variable {P : Program} {w : World} {K : PySem.W.Frag} {mg : Str → Option Value} {base : Heap}
theorem star1X {x qual p1 pv' : Str} {st : Stmt} {f : Addr} {fd : FuncData} {N : List Str} {k : Nat} {sp : Sp} (F : Fun K x qual st f fd) (S : FnScope N ([p1] ++ [pv']) (defScope st))
    (h0 : ∀ (kV doc pm : Value) (an : Option Addr) (cdv ct a : Value), bindArgs (PySem.W.fnOf x qual (defArgs st) (defBody st) (defScope st) .none kV doc pm an cdv ct) ⟨[a], []⟩ = (newTuple [] >>= fun t => pure [(p1, a), (pv', t)]))
    (h1 : ∀ (kV doc pm : Value) (an : Option Addr) (cdv ct a r : Value) (rs : List Value), bindArgs (PySem.W.fnOf x qual (defArgs st) (defBody st) (defScope st) .none kV doc pm an cdv ct) ⟨a :: r :: rs, []⟩ = (newTuple (r :: rs) >>= fun t => pure [(p1, a), (pv', t)]))
    (hbody : ∀ (cdv : Value) (A : Around) (outer : List Env) (s : Shared) (H : Hp) (vs : List V) (Q : VK) (E : XK), Room k (A.deeper (envOfC qual (defScope st) s.heap.objs.size f cdv)) → sp vs H Q E →
      ∃ t, PSs (cxOf (L2.CX P w) P w K mg base N qual (defScope st) f cdv A outer s H E) (defBody st) t ∧ t { nx := fun _ H' => Q .non H', rt := Q } (start N vs) H) :
    FnR P w K mg base (L2.CX P w) (k + 1) f (fun vs H Q E => ∃ w0 rest, vs = w0 :: rest ∧ rest.length ≤ 1000 ∧ ∀ p, H p = none → sp [w0, V.ref p] (upd H p (.tup rest)) Q E) := by
  obtain ⟨oc, od, kV, doc, pm, an, cdv, ct, osl, rfl, lk, hcd⟩ := F.ex
  have go := StX.fn_star (CX := L2.CX P w) (P := P) (w := w) (mg := mg) (base := base) (k := k) (ps := [p1]) (sp := sp) lk hcd S StX.cxUp
    (StX.bind_star1 (B := fun us => bindArgs (PySem.W.fnOf x qual (defArgs st) (defBody st) (defScope st) .none kV doc pm an cdv ct) ⟨us, []⟩) (fun a => h0 kV doc pm an cdv ct a) (fun a r rs => h1 kV doc pm an cdv ct a r rs))
    (fun A outer s H vs Q E hr hsp => hbody cdv A outer s H vs Q E hr hsp)
  exact go.imp fun vs H Q E ⟨w0, rest, e, hz, h⟩ => ⟨[w0], rest, e, rfl, by rw [sizeLine_eq]; omega, fun p hp => h p hp⟩
end
/-! ### operations at once, or an exception -/
def runW (xs : List (Int × Int)) : List Cnd → List OpW → List Opn ⊕ ErW
  | _, [] => .inl []
  | cs, o :: os => match owE cs o with
    | .inr e => .inr e
    | .inl op => match runW xs (afterOp xs cs op) os with
      | .inr e => .inr e
      | .inl ops => .inl (op :: ops)
theorem runW_len {xs : List (Int × Int)} : ∀ {os : List OpW} {cs : List Cnd} {ops : List Opn}, runW xs cs os = .inl ops → ops.length = os.length
  | [], _, _, h => by cases h; rfl
  | o :: os, cs, ops, h => by
    unfold runW at h
    split at h
    · cases h
    · rename_i op _
      split at h
      · cases h
      · rename_i ops' h2
        cases h
        rw [List.length_cons, List.length_cons, runW_len h2]
theorem runW_ok {xs : List (Int × Int)} : ∀ {os : List OpW} {cs : List Cnd} {ops : List Opn} {j : Nat} {o : OpW} {op : Opn}, runW xs cs (os.take j) = .inl ops → os[j]? = some o → owE (condAt xs cs ops) o = .inl op → runW xs cs (os.take (j + 1)) = .inl (ops ++ [op])
  | [], _, _, _, _, _, _, e, _ => by simp at e
  | x :: os, cs, ops, 0, o, op, h, e, g => by
    simp at e
    subst e
    rw [List.take_zero] at h
    cases h
    have g : owE cs x = .inl op := g
    show (match owE cs x with | .inr e => _ | .inl op => _) = _
    rw [g]
    rfl
  | x :: os, cs, ops, j + 1, o, op, h, e, g => by
    rw [List.take_succ_cons] at h
    unfold runW at h
    rw [List.take_succ_cons]
    unfold runW
    split at h
    · cases h
    · rename_i op1 h1
      split at h
      · cases h
      · rename_i ops1 h2
        cases h
        have ih := runW_ok (os := os) (cs := afterOp xs cs op1) (j := j) h2 (by simpa using e) g
        rw [ih]
        rfl
theorem runW_err {xs : List (Int × Int)} : ∀ {os : List OpW} {cs : List Cnd} {ops : List Opn} {j : Nat} {o : OpW} {er : ErW}, runW xs cs (os.take j) = .inl ops → os[j]? = some o → owE (condAt xs cs ops) o = .inr er → runW xs cs os = .inr er
  | [], _, _, _, _, _, _, e, _ => by simp at e
  | x :: os, cs, ops, 0, o, er, h, e, g => by
    simp at e
    subst e
    rw [List.take_zero] at h
    cases h
    have g : owE cs x = .inr er := g
    show (match owE cs x with | .inr e => _ | .inl op => _) = _
    rw [g]
  | x :: os, cs, ops, j + 1, o, er, h, e, g => by
    rw [List.take_succ_cons] at h
    unfold runW at h
    unfold runW
    split at h
    · cases h
    · rename_i op1 h1
      split at h
      · cases h
      · rename_i ops1 h2
        cases h
        have ih := runW_err (os := os) (cs := afterOp xs cs op1) (j := j) h2 (by simpa using e) g
        rw [ih]
theorem numO_eq {n i : Nat} {v : V} (h : numO n v = some i) : v = .int (i : Int) ∧ i < n := by
  cases v with
  | int k =>
    have h : (if 0 ≤ k ∧ k < (n : Int) then some k.toNat else none) = some i := h
    split at h
    · rename_i c
      cases h
      exact ⟨congrArg V.int (by omega), by omega⟩
    · cases h
  | _ => cases h
theorem sideO_eq {s : V} {r : Bool} (h : sideO s = some r) : s = .str (sideS r) := by
  unfold sideO at h
  split at h
  · rename_i c
    cases h
    exact c
  · split at h
    · rename_i c
      cases h
      exact c
    · cases h
theorem owE_eq {cs : List Cnd} {o : OpW} {op : Opn} (h : owE cs o = .inl op) : owV o = opV op ∧ okOp cs op := by
  cases o with
  | push v s =>
    simp only [owE] at h
    cases hi : numO cs.length v with
    | none => rw [hi] at h; cases h
    | some i =>
      rw [hi] at h
      dsimp only at h
      cases hr : sideO s with
      | none => rw [hr] at h; cases h
      | some r =>
        rw [hr] at h
        dsimp only at h
        by_cases c : cs[i]? = some (some true)
        · rw [if_pos c] at h
          cases h
          obtain ⟨rfl, _⟩ := numO_eq hi
          obtain rfl := sideO_eq hr
          exact ⟨rfl, c⟩
        · rw [if_neg c] at h
          cases h
  | lift v =>
    simp only [owE] at h
    cases hi : numO cs.length v with
    | none => rw [hi] at h; cases h
    | some i =>
      rw [hi] at h
      dsimp only at h
      by_cases c : cs[i]? = some (some false)
      · rw [if_pos c] at h
        cases h
        obtain ⟨rfl, _⟩ := numO_eq hi
        exact ⟨rfl, c⟩
      · rw [if_neg c] at h
        cases h
  | take v =>
    simp only [owE] at h
    cases hi : numO cs.length v with
    | none => rw [hi] at h; cases h
    | some i =>
      rw [hi] at h
      dsimp only at h
      by_cases c : cs[i]? = some none
      · rw [if_pos c] at h
        cases h
      · rw [if_neg c] at h
        cases h
        obtain ⟨rfl, hl⟩ := numO_eq hi
        refine ⟨rfl, ?_⟩
        obtain ⟨d, hd⟩ : ∃ d, cs[i]? = some d := ⟨cs[i]'hl, by simp⟩
        cases d with
        | none => exact absurd hd c
        | some b => exact ⟨b, hd⟩
def OpsWAt (K : PySem.W.Frag) (H : Hp) (os : List V) (ows : List OpW) : Prop := Paired (fun v o => ∃ a : Addr, v = .ref a ∧ SqT K H a (owV o) ∧ plainW o) os ows
abbrev LvX (K : PySem.W.Frag) (D : Addr) (go : Addr → List (Int × Int) → List Step → Nat → List V → Hp → VK → XK → Prop) : Sp := fun vs H Q E => ∃ (q : Addr) (xs : List (Int × Int)) (ss : List Step) (n : Nat) (rest : List V), vs = .ref q :: rest ∧ LiveAt K H q D xs ss n ∧ LiveP xs ss n ∧ go q xs ss n rest H Q E
def spApplyX (K : PySem.W.Frag) (Z : ClsE) (D : Addr) : Sp := LvX K D fun q xs ss n rest H Q E => ∃ (t : Addr) (os : List V) (ows : List OpW), rest = [.ref t] ∧ SqT K H t os ∧ OpsWAt K H os ows ∧ n + ows.length < 900 ∧
  (∀ ops, runW xs (curr ss n) ows = .inl ops → ∀ l rs H', But q H H' → H l = none → H' l = some (.lst rs) → ResAll xs H' (curr ss n) rs ops → (∀ z, V.ref z ∈ rs → H z = none) → LiveAt K H' q D xs (newSteps xs ss n ops) (n + ops.length) → Q (.ref l) H') ∧ ∀ e, runW xs (curr ss n) ows = .inr e → ErrAt Z E H e
section
variable {P : Program} {w : World} {K : PySem.W.Frag} {mg : Str → Option Value} {base : Heap}
theorem ok_applyX {f g1 g2 D : Addr} {fd d1 d2 : FuncData} {Z : ClsE} (F : Fun K "apply" "LiveRow.apply" s_LiveRow_apply f fd) (B : Blt mg) (cL : ClsL K D) (N1 : At P w K mg base CX0 1 "_is_operation" ["value"] (spIsOpW K) g1 d1)
    (N2 : At P w K mg base (L2.CX P w) 4 "_executed" ["stones", "conditions", "operation"] (spExecX K Z) g2 d2) :
    FnR P w K mg base (L2.CX P w) 5 f (fun vs H Q E => ∃ w0 rest, vs = w0 :: rest ∧ rest.length ≤ 1000 ∧ ∀ p, H p = none → spApplyX K Z D [w0, V.ref p] (upd H p (.tup rest)) Q E) := by
  refine star1X F sc_LiveRow_apply (fun _ _ _ _ _ _ _ => rfl) (fun _ _ _ _ _ _ _ _ _ => rfl) (fun cdv A outer s H vs Q E hr h => ?_)
  obtain ⟨q, xs, ss, n, rest, rfl, ⟨dx, t, st, o, k1, k2, us, ws, hX⟩, p, tO, os, ows, rfl, hO, hP, hn, k, er⟩ := h
  have r1 : Room 1 _ := hr.mono (by decide)
  refine ⟨_, pss_cons (ps_for (passes_of rfl) rfl (Own.pi_enumT (by rfl) B.enumerate (pa_cons (pv 1) pa_nil)) (pg_tup rfl (pgs_cons (pg_name (i := 2) sc_LiveRow_apply.nd rfl (Or.inl rfl)) (pgs_cons (pg_name (i := 3) sc_LiveRow_apply.nd rfl (Or.inl rfl)) pgs_nil)))
      (pss_one (ps_if (pt_not (pt_val (pe_at N1 r1 (pa_cons (pv 3) pa_nil)))) (pss_one ps_never) pss_nil)))
    (pss_cons (ps_if (pt_not (pt_truth (pv 1) (by intro _; rfl))) (pss_one (ps_ret (pe_lst pa_nil))) pss_nil)
    (pss_cons (ps_set (i := 4) sc_LiveRow_apply.nd rfl (Or.inl rfl) (pe_lst pa_nil))
    (pss_cons (ps_set (i := 5) sc_LiveRow_apply.nd rfl (Or.inl rfl) (pe_callTy (call_list_of) (by rfl) B.list boot_list (pa_cons (pe_slice sl_tupA (pe_fld (pv 0) rfl) po_none (po_some (pe_op op_add (pe_fld (pv 0) rfl) (pe_int)))) pa_nil)))
    (pss_cons (ps_for (passes_of rfl) rfl (pi_tup (pv 1)) (pg_name (i := 3) sc_LiveRow_apply.nd rfl (Or.inl rfl))
      (pss_cons (ps_asg (pe_atE N2 hr (takes_of rfl rfl rfl rfl) (pa_cons (pe_fld (pv 0) rfl) (pa_cons (pe_ix ix_tup (pe_ix ix_list (pv 5) (pe_un un_neg pe_int) (fun _ _ => rfl)) (pe_int) (fun _ _ => rfl)) (pa_cons (pv 3) pa_nil)))) (pg_tup rfl (pgs_cons (pg_name (i := 6) sc_LiveRow_apply.nd rfl (Or.inl rfl)) (pgs_cons (pg_name (i := 7) sc_LiveRow_apply.nd rfl (Or.inl rfl)) pgs_nil))))
      (pss_cons (ps_expr (pe_bm PySem.F.plainAttrs_list PySem.F.slot_list_append PySem.F.type_list_append mt_append (pv 4) (pa_cons (pv 6) pa_nil)))
      (pss_one (ps_expr (pe_bm PySem.F.plainAttrs_list PySem.F.slot_list_append PySem.F.type_list_append mt_append (pv 5) (pa_cons (pe_tup (pa_cons (pv 3) (pa_cons (pv 7) pa_nil))) pa_nil)))))))
    (pss_cons (ps_fld (pv 0) (pe_tupleOf (by rfl) B.tuple (pv 5)) rfl)
    (pss_cons (ps_fld (pv 0) (pe_op op_sub (pe_callB call_len_seq (by rfl) B.len PySem.boot_len (pa_cons (pv 5) pa_nil)) (pe_int)) rfl)
    (pss_one (ps_ret (pv 4))))))))), ?_⟩
  have hz := p.z
  have hnl := p.lt
  have hle := p.le
  obtain ⟨s0, hs0, es0, el0⟩ := p.curr
  have hwl : ws.length = ss.length := paired_len hX.hP
  have hol : os.length = ows.length := paired_len hP
  refine ⟨_, rfl, tO, os, rfl, hO, for_it (Own.walk_item (K := K) (a := tO) (xs := os)) (fun j σ H1 => ∃ (s2 s3 : Option V), σ = [some (.ref q), some (.ref tO), s2, s3, none, none, none, none] ∧ Same H H1) ?_ ?_ ?_ ?_⟩
  · exact ⟨none, none, rfl, Same.refl _⟩
  · rintro j σ H1 _ ⟨_, _, _, sm⟩
    exact sqT_same hO sm
  · rintro j v σ H1 H2 hj ⟨s2, s3, rfl, sm⟩ ⟨T, y, z, rfl, nT, rfl, e1, e2⟩
    obtain rfl : y = V.int (j : Int) := (Option.some.inj e1).symm
    obtain ⟨op, hop⟩ : ∃ op, ows[j]? = some op := ⟨ows[j]'(by omega), by simp⟩
    obtain ⟨v, hv, a, rfl, ha, _⟩ := paired_at hP hop
    obtain rfl : z = V.ref a := Option.some.inj (e2.symm.trans hv)
    have sT := sm.trans (same_new (o := .tup [V.int (j : Int), V.ref a]) nT)
    refine ⟨T, _, rfl, SqT.of upd_same, rfl, _, _, rfl, _, _, rfl, rfl, ?_⟩
    exact ⟨_, rfl, a, op, rfl, sqT_same ha sT, _, rfl, iteF ⟨_, _, rfl, sT⟩⟩
  · rintro σ H1 ⟨s2, s3, rfl, sm⟩
    by_cases h0 : ows = []
    · subst h0
      obtain rfl : os = [] := List.eq_nil_of_length_eq_zero hol
      refine ⟨_, rfl, false, .inr (.inl ⟨[], sqT_same hO sm, rfl⟩), iteT ⟨by show 0 ≤ sizeLine; decide, fun l nl => ?_⟩⟩
      have s1 := sm.trans (same_new (o := .lst []) nl)
      exact k [] rfl l [] _ (Same.but s1 q) (Same.free sm nl) upd_same rfl (fun z h => nomatch h) ⟨dx, t, st, o, k1, k2, us, ws, hX.same s1⟩
    · have hne : os ≠ [] := fun e => h0 (List.eq_nil_of_length_eq_zero (by rw [← hol, e]; rfl))
      have ee : true = !os.isEmpty := by cases os with | nil => exact absurd rfl hne | cons a b => rfl
      refine ⟨_, rfl, true, .inr (.inl ⟨os, sqT_same hO sm, ee⟩), iteF ?_⟩
      refine ⟨by show 0 ≤ sizeLine; decide, fun pR nR => ?_⟩
      have s1 := sm.trans (same_new (o := .lst []) nR)
      have eR : (upd H1 pR (.lst [])) pR = some (.lst []) := upd_same
      have fR := Same.free sm nR
      generalize upd H1 pR (.lst []) = H2 at s1 eR ⊢
      refine nm_of ?_
      -- steps
      have cut : ∀ {G : VK}, (∀ z H', Same H2 H' → SqT K H' z (ws.take (n + 1)) → G (.ref z) H') → rSlA K (.ref st) none (some ((n : Int) + 1)) H2 G := fun {G} go => by
        have e1 : HT.sIx ws.length ws.length (some ((n : Int) + 1)) = n + 1 := by
          rw [show (n : Int) + 1 = ((n + 1 : Nat) : Int) by omega, HT.sIx_nat]
          omega
        have hW := sqT_same hX.hW s1
        refine ⟨st, ws, rfl, hW, fun h => ?_, fun h z nz => go z _ (same_new nz) (SqT.of ?_)⟩
        · rw [e1] at h
          refine go st H2 (Same.refl _) ?_
          rw [List.take_of_length_le (by omega)]
          exact hW
        · rw [upd_same]
          unfold cutV
          rw [e1, HT.sIx_none, List.drop_zero, Nat.sub_zero]
      refine ⟨_, rfl, q, D, dx, _, _, rfl, s1 _ _ hX.at_, cL.cl, cL.n2, rfl, _, rfl, q, D, dx, _, _, rfl, s1 _ _ hX.at_, cL.cl, cL.n3, rfl, _, _, rfl, rfl, _, rfl, cut fun z H3 s3 hz3 => ?_⟩
      refine ⟨z, _, rfl, .inr hz3, fun pS nS => ?_⟩
      have s13 := s1.trans s3
      have s4 := s13.trans (same_new (o := .lst (ws.take (n + 1))) nS)
      have eR4 : (upd H3 pS (.lst (ws.take (n + 1)))) pR = some (.lst []) := (s3.trans (same_new nS)) _ _ eR
      have eS4 : (upd H3 pS (.lst (ws.take (n + 1)))) pS = some (.lst (ws.take (n + 1))) := upd_same
      have fS := Same.free s13 nS
      have nRS : pR ≠ pS := fun e => by rw [← e, s3 _ _ eR] at nS; cases nS
      generalize upd H3 pS (.lst (ws.take (n + 1))) = H4 at s4 eR4 eS4 ⊢
      refine nm_of ?_
      refine ⟨_, rfl, tO, rfl, ⟨os, sqT_same hO s4⟩, for_it (walk_tup (K := K) (a := tO) (xs := os)) (fun j σ G => ∃ (s2 s3 s6 s7 : Option V) (rs wl : List V) (ops : List Opn), σ = [some (.ref q), some (.ref tO), s2, s3, some (.ref pR), some (.ref pS), s6, s7] ∧ runW xs (curr ss n) (ows.take j) = .inl ops ∧ Same H G ∧
        G pR = some (.lst rs) ∧ rs.length = j ∧ ResAll xs G (curr ss n) rs ops ∧ (∀ z, V.ref z ∈ rs → H z = none ∧ z ≠ pR ∧ z ≠ pS) ∧ G pS = some (.lst wl) ∧ StepsAt K G wl (ss.take (n + 1) ++ stepsOf xs (curr ss n) ops)) ?_ ?_ ?_ ?_⟩
      · refine ⟨_, _, _, _, [], ws.take (n + 1), [], rfl, by rw [List.take_zero]; rfl, s4, eR4, rfl, rfl, (fun z h => nomatch h), eS4, ?_⟩
        show StepsAt K H4 _ (_ ++ [])
        rw [List.append_nil]
        exact paired_imp (fun _ _ q => q.same s4) (paired_take (n + 1) hX.hP)
      · rintro j σ G _ ⟨_, _, _, _, _, _, _, _, _, sm, _⟩
        exact sqT_same hO sm
      · rintro j x σ G G' hj ⟨s2, s3, s6, s7, rs, wl, ops, rfl, hrun, sG, gR, lR, RA, fr, gS, SA⟩ ⟨rfl, hx⟩
        obtain ⟨ow, how⟩ : ∃ op, ows[j]? = some op := ⟨ows[j]'(by omega), by simp⟩
        obtain ⟨v, hv, a, rfl, ha, hpl⟩ := paired_at hP how
        obtain rfl : x = V.ref a := Option.some.inj (hx.symm.trans hv)
        have hlj : ops.length = j := by rw [runW_len hrun, List.length_take]; omega
        obtain ⟨sl, hsl, esl⟩ := last_step (xs := xs) hnl ops
        rw [hlj] at hsl
        have lw : wl.length = n + 1 + j := by rw [paired_len SA, List.length_append, stepsOf_len, hlj, List.length_take]; omega
        obtain ⟨lv, hlv, la, lo, lc, rfl, hla, _, hlc⟩ := paired_at SA hsl
        rw [esl] at hlc
        have cl : (condAt xs (curr ss n) ops).length = xs.length := by rw [condAt_len, el0]
        have hat := at_lst (l := wl) (v := V.ref la) (by rw [lw, show n + 1 + j - 1 = n + j by omega]; exact hlv) (by omega)
        have hXG := hX.same sG
        -- result, conditions = _executed(..)
        refine ⟨_, rfl, q, D, dx, _, _, rfl, hXG.at_, cL.cl, cL.n1, rfl, _, rfl, 1, rfl, pS, wl, (-1), _, rfl, rfl, SqL.of gS, hat, la, _, ((1 : Nat) : Int), _, rfl, rfl, hla, atI_nat (j := 1) rfl, _, rfl, t, lc, a, us, xs, _, ow, rfl, hXG.hT, hXG.hS, hlc, cl, hz, sqT_same ha sG, hpl, fun op hop T v c' H5 s5 eT res fresh hc' => ?_, fun e he => (er e (runW_err hrun how he)).same sG⟩
        refine ⟨T, _, rfl, SqT.of eT, rfl, _, _, rfl, _, _, rfl, rfl, ?_⟩
        have gR5 := s5 _ _ gR
        have gS5 := s5 _ _ gS
        -- results.append(result)
        refine ⟨_, rfl, .inl ⟨rfl, _, SqL.of gR5⟩, _, rfl, pR, _, _, rfl, rfl, gR5, by rw [sizeLine_eq]; omega, ?_⟩
        have up6 : ∀ b ys, SqT K H5 b ys → SqT K (upd H5 pR (.lst (rs ++ [v]))) b ys := fun b ys h => sqT_lst h gR5
        have gR6 : (upd H5 pR (.lst (rs ++ [v]))) pR = some (.lst (rs ++ [v])) := upd_same
        have gS6 : (upd H5 pR (.lst (rs ++ [v]))) pS = some (.lst wl) := by rw [upd_ne (Ne.symm nRS)]; exact gS5
        have s6 : Same H (upd H5 pR (.lst (rs ++ [v]))) := fun b u e => by rw [upd_ne (ne_of_none e fR)]; exact (sG.trans s5) _ _ e
        have ot6 : ∀ z ys, z ≠ pR → H5 z = some (.lst ys) → (upd H5 pR (.lst (rs ++ [v]))) z = some (.lst ys) := fun z ys ne e => by rw [upd_ne ne]; exact e
        generalize upd H5 pR (.lst (rs ++ [v])) = H6 at up6 gR6 gS6 s6 ot6 ⊢
        -- steps.append((operation, conditions))
        refine ⟨_, rfl, .inl ⟨rfl, _, SqL.of gS6⟩, _, rfl, _, rfl, by show 2 ≤ sizeLine; decide, fun T2 nT2 => ?_⟩
        have s7 := same_new (o := .tup [V.ref a, V.ref c']) nT2
        have gS7 := s7 _ _ gS6
        refine ⟨pS, _, _, rfl, rfl, gS7, by rw [sizeLine_eq]; omega, ?_⟩
        have up8 : ∀ b ys, SqT K (upd H6 T2 (.tup [V.ref a, V.ref c'])) b ys → SqT K (upd (upd H6 T2 (.tup [V.ref a, V.ref c'])) pS (.lst (wl ++ [V.ref T2]))) b ys := fun b ys h => sqT_lst h gS7
        have up : ∀ b ys, SqT K H5 b ys → SqT K (upd (upd H6 T2 (.tup [V.ref a, V.ref c'])) pS (.lst (wl ++ [V.ref T2]))) b ys := fun b ys h => up8 _ _ (sqT_same (up6 _ _ h) s7)
        have ot : ∀ z ys, z ≠ pR → z ≠ pS → H5 z = some (.lst ys) → (upd (upd H6 T2 (.tup [V.ref a, V.ref c'])) pS (.lst (wl ++ [V.ref T2]))) z = some (.lst ys) := fun z ys ne ne2 e => by rw [upd_ne ne2]; exact s7 _ _ (ot6 _ _ ne e)
        have sm : Same H (upd (upd H6 T2 (.tup [V.ref a, V.ref c'])) pS (.lst (wl ++ [V.ref T2]))) := fun b u e => by rw [upd_ne (ne_of_none e fS)]; exact s7 _ _ (s6 _ _ e)
        have frv : ∀ z, v = V.ref z → H z = none ∧ z ≠ pR ∧ z ≠ pS := fun z e => ⟨Same.free sG (fresh z e), (fun e2 => by have := fresh z e; rw [e2, gR] at this; cases this), (fun e2 => by have := fresh z e; rw [e2, gS] at this; cases this)⟩
        refine ⟨_, _, _, _, rs ++ [v], wl ++ [V.ref T2], ops ++ [op], rfl, runW_ok hrun how hop, sm, by rw [upd_ne nRS]; exact s7 _ _ gR6, by rw [List.length_append, lR]; rfl, ?_, fun z h => ?_, upd_same, ?_⟩
        · refine (RA.mono fun z ys e hm => ?_).snoc (res.mono fun z ys e ev => ?_)
          · obtain ⟨_, n1, n2⟩ := fr z hm
            exact ot z ys n1 n2 (s5 _ _ e)
          · obtain ⟨_, n1, n2⟩ := frv z ev
            exact ot z ys n1 n2 e
        · rcases List.mem_append.mp h with h | h
          · exact fr z h
          · exact frv z (List.mem_singleton.mp h).symm
        · rw [stepsOf_snoc, ← List.append_assoc]
          refine paired_snoc (paired_imp (fun _ _ r => r.to fun b ys h => up _ _ (sqT_same h s5)) SA) ⟨T2, .ref a, c', rfl, up8 _ _ (SqT.of upd_same), ⟨a, rfl, up _ _ (by rw [← (owE_eq hop).1]; exact sqT_same ha (sG.trans s5))⟩, up _ _ hc'⟩
      · rintro σ G ⟨s2, s3, s6, s7, rs, wl, ops, rfl, hrun, sG, gR, lR, RA, fr, gS, SA⟩
        rw [hol, List.take_length] at hrun
        have hlo := runW_len hrun
        have hop0 : ops ≠ [] := fun e => h0 (List.eq_nil_of_length_eq_zero (by rw [← hlo, e]; rfl))
        have hXG := hX.same sG
        have lw : wl.length = n + 1 + ops.length := by rw [paired_len SA, List.length_append, stepsOf_len, List.length_take]; omega
        refine ⟨_, rfl, .inl ⟨pS, _, rfl, SqL.of gS, fun z nz => ?_⟩⟩
        have sz := same_new (o := .tup wl) nz
        have ez : (upd G z (.tup wl)) z = some (.tup wl) := upd_same
        have gRz := sz _ _ gR
        have gSz := sz _ _ gS
        have hXz := hXG.same sz
        have SAz : StepsAt K (upd G z (.tup wl)) wl _ := paired_imp (fun _ _ r => r.same sz) SA
        have RAz := RA.mono (H' := upd G z (.tup wl)) fun y ys e _ => sz _ _ e
        have sGz := sG.trans sz
        generalize upd G z (.tup wl) = G1 at ez gRz gSz hXz SAz RAz sGz ⊢
        refine ⟨_, rfl, q, D, dx, _, rfl, hXz.at_, cL.cl, cL.n2, (by show 6 < 1000; decide), ?_⟩
        have q1 : (upd G1 q (.ins D dx (putF "_steps" (V.ref z) (liveF t st n o k1 k2)))) q = some (.ins D dx (liveF t z n o k1 k2)) := upd_same
        have b1 : But q G1 (upd G1 q (.ins D dx (putF "_steps" (V.ref z) (liveF t st n o k1 k2)))) := but_upd
        generalize upd G1 q (.ins D dx (putF "_steps" (V.ref z) (liveF t st n o k1 k2))) = G2 at q1 b1 ⊢
        have neS : pS ≠ q := fun e => by rw [e, hXz.at_] at gSz; cases gSz
        have neR : pR ≠ q := fun e => by rw [e, hXz.at_] at gRz; cases gRz
        refine ⟨_, rfl, pS, _, rfl, .inl (SqL.of (b1 _ _ neS gSz)), _, _, rfl, rfl, _, rfl, q, D, dx, _, rfl, q1, cL.cl, cL.n3, (by show 6 < 1000; decide), ?_⟩
        have en : ((wl.length : Nat) : Int) - 1 = ((n + ops.length : Nat) : Int) := by rw [lw]; omega
        have q2 : (upd G2 q (.ins D dx (putF "_last_step" (V.int (((wl.length : Nat) : Int) - 1)) (liveF t z n o k1 k2)))) q = some (.ins D dx (liveF t z (n + ops.length) o k1 k2)) := by rw [upd_same, en]; rfl
        have b2 : But q G2 (upd G2 q (.ins D dx (putF "_last_step" (V.int (((wl.length : Nat) : Int) - 1)) (liveF t z n o k1 k2)))) := but_upd
        generalize upd G2 q (.ins D dx (putF "_last_step" (V.int (((wl.length : Nat) : Int) - 1)) (liveF t z n o k1 k2))) = G3 at q2 b2 ⊢
        have b12 := b1.trans b2
        refine ⟨_, rfl, k ops hrun pR rs G3 ((Same.but sGz q).trans b12) fR (b12 _ _ neR gRz) (RAz.mono fun y ys e _ => b12 _ _ (fun e2 => by rw [e2, hXz.at_] at e; cases e) e) (fun y h => (fr y h).1) ⟨dx, t, z, o, k1, k2, us, wl, q2, sqT_ins hXz.hT hXz.at_ b12, hXz.hS.ins hXz.at_ b12, sqT_ins (SqT.of ez) hXz.at_ b12, ?_⟩⟩
        unfold newSteps
        rw [if_neg hop0]
        exact paired_imp (fun _ _ r => r.ins hXz.at_ b12) SAz
end
section
variable {P : Program} {w : World} {K : PySem.W.Frag} {mg : Str → Option Value} {base : Heap}
theorem ok_executedX {f g1 g2 g3 g4 : Addr} {fd d1 d2 d3 d4 : FuncData} {Z : ClsE} (F : Fun K "_executed" "_executed" s_executed f fd) (B : Blt mg) (N1 : At P w K mg base (L2.CX P w) 2 "check_stone" ["stone", "count"] (spCheckStoneX K Z.st) g1 d1)
    (N2 : At P w K mg base (L2.CX P w) 3 "_pushed" ["stones", "conditions", "stone", "side"] (spPushedX K Z) g2 d2) (N3 : At P w K mg base (L2.CX P w) 3 "_lifted" ["conditions", "stone"] (spLiftedX K Z) g3 d3) (N4 : At P w K mg base (L2.CX P w) 3 "_taken" ["conditions", "stone"] (spTakenX K Z) g4 d4) :
    FnOk P w K mg base (L2.CX P w) 4 f fd ["stones", "conditions", "operation"] (spExecX K Z) := by
  refine F.okX sc_executed (fun vs H Q E h => ?_) (fun cdv A outer s H vs Q E hr h => ?_)
  · obtain ⟨t, c, o, us, xs, cs, op, rfl, _⟩ := h
    rfl
  · obtain ⟨t, c, o, us, xs, cs, ow, rfl, hT, hS, hC, hl, hz, hO, hp, go, er⟩ := h
    have r2 : Room 2 _ := hr.mono (by decide)
    refine ⟨_, pss_cons (ps_asg (pe_slice sl_tupA (pv 2) po_none (po_some pe_int)) (pg_tup rfl (pgs_cons (pg_name (i := 3) sc_executed.nd rfl (Or.inl rfl)) (pgs_cons (pg_name (i := 4) sc_executed.nd rfl (Or.inl rfl)) pgs_nil))))
      (pss_cons (ps_expr (pe_atE N1 r2 (takes_of rfl rfl rfl rfl) (pa_cons (pv 4) (pa_cons (pe_callB call_len_seq (by rfl) B.len PySem.boot_len (pa_cons (pv 0) pa_nil)) pa_nil))))
      (pss_cons (ps_if (pt_cmpR (op_eq) (pv 3) (pe_str) (nomark _)) (pss_one (ps_ret (pe_atE N2 hr (takes_of rfl rfl rfl rfl) (pa_cons (pv 0) (pa_cons (pv 1) (pa_cons (pv 4) (pa_cons (pe_ix ix_tup (pv 2) (pe_int) (fun _ _ => rfl)) pa_nil))))))) pss_nil)
      (pss_cons (ps_if (pt_cmpR (op_eq) (pv 3) (pe_str) (nomark _)) (pss_one (ps_ret (pe_atE N3 hr (takes_of rfl rfl rfl rfl) (pa_cons (pv 1) (pa_cons (pv 4) pa_nil))))) pss_nil)
      (pss_one (ps_ret (pe_atE N4 hr (takes_of rfl rfl rfl rfl) (pa_cons (pv 1) (pa_cons (pv 4) pa_nil)))))))), ?_⟩
    have ol := owV_len ow
    -- name, stone = operation[:2]
    have cut : ∀ {G : VK}, (∀ z H', Same H H' → SqT K H' z [.str (owN ow), owA ow] → G (.ref z) H') → rSlA K (.ref o) none (some 2) H G := fun {G} go => by
      refine ⟨o, owV ow, rfl, hO, fun h => ?_, fun h p np => go p _ (same_new np) (SqT.of (by rw [upd_same]; cases ow <;> rfl))⟩
      refine go o H (Same.refl _) ?_
      cases ow with
      | push i r => exact absurd h.2 (by show ¬ (2 : Nat) = 3; decide)
      | lift i => exact hO
      | take i => exact hO
    refine ⟨_, rfl, 2, rfl, cut fun z H1 s1 hz1 => ?_⟩
    refine ⟨z, _, rfl, hz1, rfl, _, _, rfl, _, _, rfl, rfl, ?_⟩
    have hT1 := sqT_same hT s1
    have hC1 := sqT_same hC s1
    have hO1 := sqT_same hO s1
    have hpa := plainW_arg hp
    refine ⟨_, rfl, _, rfl, t, us, rfl, .inr hT1, owA ow, xs.length, by rw [hS.1], plain_known hpa, by omega, fun e => ?_, fun e => er .stone ?_ H1 s1⟩
    · rw [← hl] at e
      obtain ⟨i, hi, hin, hno⟩ := numO_some e
      have fin : ∀ {Q2 : VK}, (∀ v H', Q2 v H' = Q v H') → ∀ op, owE cs ow = .inl op → Done K xs cs op H1 Q2 := fun {Q2} e op ho T v c' H' s' a1 a2 a3 a4 => (e _ _).symm ▸ go op ho T v c' H' (s1.trans s') a1 a2 (fun p hp => Same.free s1 (a3 p hp)) a4
      refine ⟨_, rfl, rfl, _, rfl, ?_⟩
      cases ow with
      | push v sv =>
        obtain rfl : v = .int (i : Int) := hi
        refine iteT ⟨_, rfl, _, rfl, _, rfl, _, rfl, o, _, ((2 : Nat) : Int), _, rfl, rfl, hO1, atI_nat (j := 2) rfl, t, c, us, xs, cs, i, sv, rfl, hT1, hS.same s1, hC1, hl, hz, by omega, hp.2, fin fun _ _ => rfl, fun e he => (er e he).same s1⟩
      | lift v =>
        obtain rfl : v = .int (i : Int) := hi
        refine iteF ⟨_, rfl, rfl, _, rfl, iteT ⟨_, rfl, _, rfl, c, xs, cs, i, rfl, hC1, by omega, hin, fin fun _ _ => rfl, fun e he => (er e he).same s1⟩⟩
      | take v =>
        obtain rfl : v = .int (i : Int) := hi
        refine iteF ⟨_, rfl, rfl, _, rfl, iteF ⟨_, rfl, _, rfl, c, xs, cs, i, rfl, hC1, by omega, hin, fin fun _ _ => rfl, fun e he => (er e he).same s1⟩⟩
    · rw [← hl] at e
      have hno := numO_none hpa e
      cases ow with
      | push v sv => simp only [owE]; rw [show numO cs.length v = none from hno]
      | lift v => simp only [owE]; rw [show numO cs.length v = none from hno]
      | take v => simp only [owE]; rw [show numO cs.length v = none from hno]
end
/-! ### one operation, or its exception -/
def spOpX (K : PySem.W.Frag) (Z : ClsE) (D : Addr) (is : OpW → Prop) : Sp := LvX K D fun q xs ss n rest H Q E => ∃ ow, is ow ∧ rest = (owV ow).tail ∧ plainW ow ∧ n + 1 < 900 ∧
  (∀ op, owE (curr ss n) ow = .inl op → ∀ v H', But q H H' → ResAt xs (curr ss n) H' v op → (∀ z, v = .ref z → H z = none) → LiveAt K H' q D xs (newSteps xs ss n [op]) (n + 1) → Q v H') ∧
  ∀ e, owE (curr ss n) ow = .inr e → ErrAt Z E H e
abbrev isPushW (o : OpW) : Prop := ∃ v s, o = .push v s
abbrev isLiftW (o : OpW) : Prop := ∃ v, o = .lift v
abbrev isTakeW (o : OpW) : Prop := ∃ v, o = .take v
theorem oneX_of {K : PySem.W.Frag} {Z : ClsE} {D q a t : Addr} {xs : List (Int × Int)} {ss : List Step} {n : Nat} {H : Hp} {Q Q2 : VK} {E : XK} {ow : OpW} (hL : LiveAt K H q D xs ss n) (p : LiveP xs ss n) (hp : plainW ow) (hn : n + 1 < 900) (na : H a = none) (nt : (upd H a (.tup (owV ow))) t = none)
    (k : ∀ op, owE (curr ss n) ow = .inl op → ∀ v H', But q H H' → ResAt xs (curr ss n) H' v op → (∀ z, v = .ref z → H z = none) → LiveAt K H' q D xs (newSteps xs ss n [op]) (n + 1) → Q v H') (er : ∀ e, owE (curr ss n) ow = .inr e → ErrAt Z E H e)
    (go : ∀ v H' l, H' l = some (.lst [v]) → Q v H' → Q2 (.ref l) H') : spApplyX K Z D [.ref q, .ref t] (upd (upd H a (.tup (owV ow))) t (.tup [.ref a])) Q2 E := by
  have s1 := same_new (o := .tup (owV ow)) na
  have s2 := s1.trans (same_new (o := .tup [V.ref a]) nt)
  have ea : SqT K (upd (upd H a (.tup (owV ow))) t (.tup [.ref a])) a (owV ow) := SqT.of (same_new nt _ _ upd_same)
  have et : SqT K (upd (upd H a (.tup (owV ow))) t (.tup [.ref a])) t [.ref a] := SqT.of upd_same
  refine ⟨q, xs, ss, n, _, rfl, hL.same s2, p, t, [.ref a], [ow], rfl, et, .cons ⟨a, rfl, ea, hp⟩ .nil, hn, fun ops hr l rs H' b nl el RA fr hL' => ?_, fun e he => (er e ?_).same s2⟩
  · simp only [runW] at hr
    cases ho : owE (curr ss n) ow with
    | inr e => rw [ho] at hr; cases hr
    | inl op =>
      rw [ho] at hr
      cases hr
      obtain ⟨v, us, rfl, h1, rfl⟩ := RA
      exact go v H' l el (k op ho v H' (fun c o n e => b c o n (s2 _ _ e)) h1 (fun z e => Same.free s2 (fr z (by rw [e]; exact List.mem_cons_self))) hL')
  · simp only [runW] at he
    cases ho : owE (curr ss n) ow with
    | inr e' => rw [ho] at he; cases he; first | rfl | exact ho | done
    | inl op => rw [ho] at he; cases he
theorem passE {X : Cx} {E : XK} (tk : Takes X (fun cls d _ H => E cls d H)) : Passes (L2.CX X.prog X.w) X E := fun pins σ H s e s' I h => passAt tk σ pins H s e s' I h
section
variable {P : Program} {w : World} {K : PySem.W.Frag} {mg : Str → Option Value} {base : Heap}
theorem ok_lPushX {f g D : Addr} {fd : FuncData} {Z : ClsE} (F : Fun K "push" "LiveRow.push" s_LiveRow_push f fd) (cL : ClsL K D) (Hm : Meth K D "apply" g)
    (G : FnR P w K mg base (L2.CX P w) 5 g (fun vs H Q E => ∃ w0 rest, vs = w0 :: rest ∧ rest.length ≤ 1000 ∧ ∀ p, H p = none → spApplyX K Z D [w0, V.ref p] (upd H p (.tup rest)) Q E)) : FnOk P w K mg base (L2.CX P w) 6 f fd ["self", "stone", "side"] (spOpX K Z D isPushW) := by
  refine F.okX sc_LiveRow_push (fun vs H Q E h => ?_) (fun cdv A outer s H vs Q E hr h => ?_)
  · obtain ⟨q, xs, ss, n, rest, rfl, _, _, op, ⟨i, r, rfl⟩, rfl, _⟩ := h
    rfl
  · obtain ⟨q, xs, ss, n, rest, rfl, hL, p, op, ⟨i, r, rfl⟩, rfl, hp, hn, k, er⟩ := h
    obtain ⟨dx, t, st, o, k1, k2, us, ws, hX⟩ := id hL
    refine ⟨_, pss_one (ps_ret (pe_ix ix_list (pe_methR (pv 0) cL.cl Hm G hr (passE (takes_of rfl rfl rfl rfl)) (pa_cons (pe_tup (pa_cons (pe_str) (pa_cons (pv 1) (pa_cons (pv 2) pa_nil)))) pa_nil)) (pe_int) (fun _ _ => rfl))), ?_⟩
    refine ⟨_, rfl, q, dx, _, rfl, hX.at_, rfl, _, rfl, _, rfl, by show 3 ≤ sizeLine; decide, fun a na => ⟨_, _, rfl, by show 1 ≤ 1000; decide, fun t nt => ?_⟩⟩
    exact oneX_of hL p hp hn na nt k er fun v H' l el qv => ⟨l, _, ((0 : Nat) : Int), v, rfl, rfl, SqL.of el, atI_nat (j := 0) rfl, qv⟩
theorem ok_lLiftX {f g D : Addr} {fd : FuncData} {Z : ClsE} (F : Fun K "lift" "LiveRow.lift" s_LiveRow_lift f fd) (cL : ClsL K D) (Hm : Meth K D "apply" g)
    (G : FnR P w K mg base (L2.CX P w) 5 g (fun vs H Q E => ∃ w0 rest, vs = w0 :: rest ∧ rest.length ≤ 1000 ∧ ∀ p, H p = none → spApplyX K Z D [w0, V.ref p] (upd H p (.tup rest)) Q E)) : FnOk P w K mg base (L2.CX P w) 6 f fd ["self", "stone"] (spOpX K Z D isLiftW) := by
  refine F.okX sc_LiveRow_lift (fun vs H Q E h => ?_) (fun cdv A outer s H vs Q E hr h => ?_)
  · obtain ⟨q, xs, ss, n, rest, rfl, _, _, op, ⟨i, rfl⟩, rfl, _⟩ := h
    rfl
  · obtain ⟨q, xs, ss, n, rest, rfl, hL, p, op, ⟨i, rfl⟩, rfl, hp, hn, k, er⟩ := h
    obtain ⟨dx, t, st, o, k1, k2, us, ws, hX⟩ := id hL
    refine ⟨_, pss_one (ps_ret (pe_ix ix_list (pe_methR (pv 0) cL.cl Hm G hr (passE (takes_of rfl rfl rfl rfl)) (pa_cons (pe_tup (pa_cons (pe_str) (pa_cons (pv 1) pa_nil))) pa_nil)) (pe_int) (fun _ _ => rfl))), ?_⟩
    refine ⟨_, rfl, q, dx, _, rfl, hX.at_, rfl, _, rfl, by show 2 ≤ sizeLine; decide, fun a na => ⟨_, _, rfl, by show 1 ≤ 1000; decide, fun t nt => ?_⟩⟩
    exact oneX_of hL p hp hn na nt k er fun v H' l el qv => ⟨l, _, ((0 : Nat) : Int), v, rfl, rfl, SqL.of el, atI_nat (j := 0) rfl, qv⟩
theorem ok_lTakeX {f g D : Addr} {fd : FuncData} {Z : ClsE} (F : Fun K "take" "LiveRow.take" s_LiveRow_take f fd) (cL : ClsL K D) (Hm : Meth K D "apply" g)
    (G : FnR P w K mg base (L2.CX P w) 5 g (fun vs H Q E => ∃ w0 rest, vs = w0 :: rest ∧ rest.length ≤ 1000 ∧ ∀ p, H p = none → spApplyX K Z D [w0, V.ref p] (upd H p (.tup rest)) Q E)) : FnOk P w K mg base (L2.CX P w) 6 f fd ["self", "stone"] (spOpX K Z D isTakeW) := by
  refine F.okX sc_LiveRow_take (fun vs H Q E h => ?_) (fun cdv A outer s H vs Q E hr h => ?_)
  · obtain ⟨q, xs, ss, n, rest, rfl, _, _, op, ⟨i, rfl⟩, rfl, _⟩ := h
    rfl
  · obtain ⟨q, xs, ss, n, rest, rfl, hL, p, op, ⟨i, rfl⟩, rfl, hp, hn, k, er⟩ := h
    obtain ⟨dx, t, st, o, k1, k2, us, ws, hX⟩ := id hL
    refine ⟨_, pss_one (ps_ret (pe_ix ix_list (pe_methR (pv 0) cL.cl Hm G hr (passE (takes_of rfl rfl rfl rfl)) (pa_cons (pe_tup (pa_cons (pe_str) (pa_cons (pv 1) pa_nil))) pa_nil)) (pe_int) (fun _ _ => rfl))), ?_⟩
    refine ⟨_, rfl, q, dx, _, rfl, hX.at_, rfl, _, rfl, by show 2 ≤ sizeLine; decide, fun a na => ⟨_, _, rfl, by show 1 ≤ 1000; decide, fun t nt => ?_⟩⟩
    exact oneX_of hL p hp hn na nt k er fun v H' l el qv => ⟨l, _, ((0 : Nat) : Int), v, rfl, rfl, SqL.of el, atI_nat (j := 0) rfl, qv⟩
end
/-! ### the law's draws -/
def Drw (K : PySem.W.Frag) (H : Hp) (L a : Addr) (ns : List Int) : Prop := ∃ i s r : Int, H L = some (.lst [.ref a, .int i, .int s, .int r]) ∧ 0 ≤ i ∧ 0 ≤ s ∧ s < 2147483647 ∧ SqL K H a (ns.map V.int)
theorem Drw.up {K : PySem.W.Frag} {H H' : Hp} {L a : Addr} {ns : List Int} (h : Drw K H L a ns) (e : Same H H') : Drw K H' L a ns :=
  let ⟨i, s, r, h1, h2, h3, h4, h5⟩ := h; ⟨i, s, r, e _ _ h1, h2, h3, h4, e.seq h5⟩
theorem script_stays {K : PySem.W.Frag} {H : Hp} {L a : Addr} {ns : List Int} {o : HO} {vs : List V} (h : H L = some (.lst (.ref a :: vs))) (hs : SqL K H a (ns.map V.int)) : SqL K (upd H L o) a (ns.map V.int) := by
  have ne : ∀ u, H a = some u → (u = .lst (ns.map V.int) ∨ ∃ ob, u = .frz ob (.lst (ns.map V.int))) → a ≠ L := by
    intro u hu hk z
    subst z
    rw [h] at hu
    rcases hk with rfl | ⟨ob, rfl⟩
    · injection hu with e
      injection e with e
      cases ns <;> cases e
    · cases hu
  rcases hs with (hs | ⟨ob, hs⟩) | hs
  · exact .inl (.inl (by rw [upd_ne (ne _ hs (.inl rfl))]; exact hs))
  · exact .inl (.inr ⟨ob, by rw [upd_ne (ne _ hs (.inr ⟨ob, rfl⟩))]; exact hs⟩)
  · exact .inr hs
/-- the law's own list: the script, a place in it, a seed, a rest -/
def Cell (H : Hp) (L a : Addr) : Prop := ∃ i s r : Int, H L = some (.lst [.ref a, .int i, .int s, .int r]) ∧ 0 ≤ i ∧ 0 ≤ s ∧ s < 2147483647
theorem Drw.cell {K : PySem.W.Frag} {H : Hp} {L a : Addr} {ns : List Int} (h : Drw K H L a ns) : Cell H L a := let ⟨i, s, r, h1, h2, h3, h4, _⟩ := h; ⟨i, s, r, h1, h2, h3, h4⟩
theorem Cell.list {H : Hp} {L a : Addr} (h : Cell H L a) : ∃ ys, H L = some (.lst ys) := let ⟨_, _, _, h, _⟩ := h; ⟨_, h⟩
theorem Cell.but {H H' : Hp} {L a p : Addr} (h : Cell H L a) (b : But p H H') (ne : L ≠ p) : Cell H' L a := let ⟨i, s, r, h1, h2⟩ := h; ⟨i, s, r, b _ _ ne h1, h2⟩
theorem Cell.same {H H' : Hp} {L a : Addr} (h : Cell H L a) (b : Same H H') : Cell H' L a := let ⟨i, s, r, h1, h2⟩ := h; ⟨i, s, r, b _ _ h1, h2⟩
theorem Drw.next {K : PySem.W.Frag} {H H' : Hp} {L a : Addr} {ns : List Int} (h : Drw K H L a ns) (b : But L H H') (c : Cell H' L a) : Drw K H' L a ns := by
  obtain ⟨i, s, r, h1, h2, h3, h4, hs⟩ := h
  obtain ⟨i', s', r', g1, g2, g3, g4⟩ := c
  refine ⟨i', s', r', g1, g2, g3, g4, ?_⟩
  have ne : ∀ u, H a = some u → (u = .lst (ns.map V.int) ∨ ∃ ob, u = .frz ob (.lst (ns.map V.int))) → a ≠ L := by
    intro u hu hk z
    subst z
    rw [h1] at hu
    rcases hk with rfl | ⟨ob, rfl⟩
    · injection hu with e
      injection e with e
      cases ns <;> cases e
    · cases hu
  rcases hs with (hs | ⟨ob, hs⟩) | hs
  · exact .inl (.inl (b _ _ (ne _ hs (.inl rfl)) hs))
  · exact .inl (.inr ⟨ob, b _ _ (ne _ hs (.inr ⟨ob, rfl⟩)) hs⟩)
  · exact .inr hs
theorem But.sub {H H' : Hp} {p L : Addr} (b : But p H H') (hp : H p = none) : But L H H' := fun c o _ e => b c o (ne_of_none e hp) e
/-! ### the second family's draws -/
def spNext (K : PySem.W.Frag) : Sp := fun vs H Q _ => ∃ (L a : Addr) (ns : List Int) (m : Int), vs = [.ref L, .int m] ∧ 0 < m ∧ m < 1073741824 ∧ Drw K H L a ns ∧
  ∀ (n : Int) (H' : Hp), 0 ≤ n → n < m → Drw K H' L a ns → But L H H' → Q (.int n) H'
def spDice (K : PySem.W.Frag) : Sp := fun vs H Q _ => ∃ (a : Addr) (ns : List Int), vs = [.ref a] ∧ SqL K H a (ns.map V.int) ∧ ns.length ≤ 63 ∧ ∀ L H', Same H H' → H L = none → Drw K H' L a ns → Q (.ref L) H'
section
variable {P : Program} {w : World} {K : PySem.W.Frag} {mg : Str → Option Value} {base : Heap}
theorem ok_next {f : Addr} {fd : FuncData} (F : Fun K "_law_next" "_law_next" s_law_next f fd) (B : Blt mg) : FnOk P w K mg base CX0 1 f fd ["_law_dice_here", "_law_many"] (spNext K) := by
  refine F.ok sc_law_next (fun vs H Q E h => ?_) (fun cdv A outer s H vs Q E hr h => ?_)
  · obtain ⟨L, a, ns, m, rfl, _⟩ := h
    rfl
  · obtain ⟨L, a, ns, m, rfl, m0, m1, ⟨i, sd, r, hL, i0, sd0, sd1, hs⟩, k⟩ := h
    refine ⟨_, pss_cons (ps_if (pt_cmpR (op_gt) (pe_ix ix_list (pv 0) (pe_int) (fun _ _ => rfl)) (pe_int) (nomark _))
        (pss_cons (ps_set (i := 2) sc_law_next.nd rfl (Or.inl rfl) (pe_op op_mod (pe_callTy (call_int1) (by rfl) B.int boot_int (pa_cons (pe_ix ix_list (pv 0) (pe_int) (fun _ _ => rfl)) pa_nil)) (pv 1)))
        (pss_cons (ps_asg (pe_op op_fdiv (pe_ix ix_list (pv 0) (pe_int) (fun _ _ => rfl)) (pv 1)) (pg_sub (pv 0) pe_int set_list))
        (pss_one (ps_ret (pv 2))))) pss_nil)
      (pss_cons (ps_asg (pe_op op_add (pe_ix ix_list (pv 0) (pe_int) (fun _ _ => rfl)) (pe_int)) (pg_sub (pv 0) pe_int set_list))
      (pss_cons (ps_if (pt_cmpR (op_le) (pe_ix ix_list (pv 0) (pe_int) (fun _ _ => rfl)) (pe_callB call_len_seq (by rfl) B.len PySem.boot_len (pa_cons (pe_ix ix_list (pv 0) (pe_int) (fun _ _ => rfl)) pa_nil)) (nomark _))
        (pss_cons (ps_set (i := 3) sc_law_next.nd rfl (Or.inl rfl) (pe_ix ix_list (pe_ix ix_list (pv 0) (pe_int) (fun _ _ => rfl)) (pe_op op_sub (pe_ix ix_list (pv 0) (pe_int) (fun _ _ => rfl)) (pe_int)) (fun _ _ => rfl)))
        (pss_cons (ps_asg (pe_ifExp (pt_cmpR (op_ge) (pv 3) (pe_op op_pow pe_int pe_int) (nomark _)) (pe_op op_fdiv (pv 3) (pv 1)) pe_int) (pg_sub (pv 0) pe_int set_list))
        (pss_one (ps_ret (pe_op op_mod (pe_callTy (call_int1) (by rfl) B.int boot_int (pa_cons (pv 3) pa_nil)) (pv 1)))))) pss_nil)
      (pss_cons (ps_asg (pe_op op_mod (pe_callTy (call_int1) (by rfl) B.int boot_int (pa_cons (pe_op op_mul (pe_ix ix_list (pv 0) (pe_int) (fun _ _ => rfl)) pe_int) pa_nil)) pe_int) (pg_sub (pv 0) pe_int set_list))
      (pss_one (ps_ret (pe_op op_mod (pe_callTy (call_int1) (by rfl) B.int boot_int (pa_cons (pe_op op_fdiv (pe_ix ix_list (pv 0) (pe_int) (fun _ _ => rfl)) pe_int) pa_nil)) (pv 1))))))), ?_⟩
    refine ⟨_, rfl, ⟨L, _, ((3 : Nat) : Int), _, rfl, rfl, SqL.of hL, atI_nat (j := 3) rfl, _, _, rfl, rfl, _, rfl, ?_⟩⟩
    refine ite2 (fun hr3 => ?_) (fun hr3 => ?_)
    · refine ⟨_, rfl, ⟨L, _, ((3 : Nat) : Int), _, rfl, rfl, SqL.of hL, atI_nat (j := 3) rfl, .inl ⟨_, rfl, _, rfl, _, _, rfl, rfl, m0, ?_⟩⟩⟩
      refine ⟨_, rfl, ⟨L, _, ((3 : Nat) : Int), _, rfl, rfl, SqL.of hL, atI_nat (j := 3) rfl, _, rfl, _, _, rfl, rfl, ⟨m0, m1⟩, _, rfl, L, _, _, 3, rfl, rfl, hL, rfl, _, rfl, ?_⟩⟩
      exact k _ _ (Int.emod_nonneg _ (by omega)) (Int.emod_lt_of_pos _ m0) ⟨i, sd, _, upd_same, i0, sd0, sd1, script_stays hL hs⟩ but_upd
    · refine ⟨_, rfl, ⟨L, _, ((1 : Nat) : Int), _, rfl, rfl, SqL.of hL, atI_nat (j := 1) rfl, _, _, rfl, rfl, _, rfl, L, _, _, 1, rfl, rfl, hL, rfl, ?_⟩⟩
      have hs1 : SqL K (upd H L (.lst [.ref a, .int (i + 1), .int sd, .int r])) a (ns.map V.int) := script_stays hL hs
      have b1 : But L H (upd H L (.lst [.ref a, .int (i + 1), .int sd, .int r])) := but_upd
      have h1 : (upd H L (.lst [.ref a, .int (i + 1), .int sd, .int r])) L = some (.lst [.ref a, .int (i + 1), .int sd, .int r]) := upd_same
      generalize hH1 : upd H L (.lst [.ref a, .int (i + 1), .int sd, .int r]) = H1 at hs1 b1 h1
      rw [show upd H L (.lst ([V.ref a, V.int i, V.int sd, V.int r].set 1 (V.int (i + 1)))) = H1 from hH1]
      have h2 : ∀ z : Int, (upd H1 L (.lst [.ref a, .int (i + 1), .int z, .int r])) L = some (.lst [.ref a, .int (i + 1), .int z, .int r]) := fun z => upd_same
      refine ⟨_, rfl, ⟨L, _, ((1 : Nat) : Int), _, rfl, rfl, SqL.of h1, atI_nat (j := 1) rfl, _, rfl, ⟨L, _, ((0 : Nat) : Int), _, rfl, rfl, SqL.of h1, atI_nat (j := 0) rfl, a, _, rfl, .inl hs1, _, _, rfl, rfl, _, rfl, ?_⟩⟩⟩
      refine ite2 (fun hle => ?_) (fun hgt => ?_)
      · have hle : i + 1 ≤ (ns.length : Int) := by
          have := of_decide_eq_true hle
          rw [List.length_map] at this
          exact this
        obtain ⟨c, hc⟩ : ∃ c, ns[i.toNat]? = some c := ⟨ns[i.toNat]'(by omega), by simp⟩
        have hc2 : atI (ns.map V.int) (i + 1 - 1) = some (.int c) := at_of (j := i.toNat) (by omega) (by rw [List.getElem?_map, hc]; rfl)
        refine ⟨_, rfl, ⟨L, _, ((0 : Nat) : Int), _, rfl, rfl, SqL.of h1, atI_nat (j := 0) rfl, _, rfl, ⟨L, _, ((1 : Nat) : Int), _, rfl, rfl, SqL.of h1, atI_nat (j := 1) rfl, _, _, rfl, rfl, a, _, _, _, rfl, rfl, hs1, hc2, ?_⟩⟩⟩
        refine ⟨_, rfl, 10, 18, rfl, rfl, ⟨by decide, by decide, by decide⟩, _, _, rfl, rfl, _, rfl, ?_⟩
        refine ite2 (fun hbig => ?_) (fun hbig => ?_)
        · refine ⟨_, rfl, _, rfl, _, _, rfl, rfl, ⟨m0, m1⟩, _, rfl, L, _, _, 3, rfl, rfl, h1, rfl, ?_⟩
          refine ⟨_, rfl, .inl ⟨_, rfl, _, rfl, _, _, rfl, rfl, m0, ?_⟩⟩
          exact k _ _ (Int.emod_nonneg _ (by omega)) (Int.emod_lt_of_pos _ m0) ⟨i + 1, sd, _, upd_same, by omega, sd0, sd1, script_stays h1 hs1⟩ (b1.trans but_upd)
        · refine ⟨_, rfl, L, _, _, 3, rfl, rfl, h1, rfl, ?_⟩
          refine ⟨_, rfl, .inl ⟨_, rfl, _, rfl, _, _, rfl, rfl, m0, ?_⟩⟩
          exact k _ _ (Int.emod_nonneg _ (by omega)) (Int.emod_lt_of_pos _ m0) ⟨i + 1, sd, _, upd_same, by omega, sd0, sd1, script_stays h1 hs1⟩ (b1.trans but_upd)
      · refine ⟨_, rfl, ⟨L, _, ((2 : Nat) : Int), _, rfl, rfl, SqL.of h1, atI_nat (j := 2) rfl, _, _, rfl, rfl, .inl ⟨by omega, by omega⟩, .inl ⟨_, rfl, _, _, rfl, rfl, (show (0 : Int) < 2147483647 by decide), _, rfl, L, _, _, 2, rfl, rfl, h1, rfl, ?_⟩⟩⟩
        refine ⟨_, rfl, ⟨L, _, ((2 : Nat) : Int), _, rfl, rfl, SqL.of (h2 _), atI_nat (j := 2) rfl, _, _, rfl, rfl, ⟨by decide, by decide⟩, .inl ⟨_, rfl, _, rfl, _, _, rfl, rfl, m0, ?_⟩⟩⟩
        exact k _ _ (Int.emod_nonneg _ (by omega)) (Int.emod_lt_of_pos _ m0) ⟨i + 1, _, r, upd_same, by omega, Int.emod_nonneg _ (by decide), Int.emod_lt_of_pos _ (by decide), script_stays h1 hs1⟩ (b1.trans but_upd)
theorem ok_dice {f : Addr} {fd : FuncData} (F : Fun K "_law_dice" "_law_dice" s_law_dice f fd) (B : Blt mg) : FnOk P w K mg base CX0 1 f fd ["_law_script"] (spDice K) := by
  refine F.ok sc_law_dice (fun vs H Q E h => ?_) (fun cdv A outer s H vs Q E hr h => ?_)
  · obtain ⟨a, ns, rfl, _⟩ := h
    rfl
  · obtain ⟨a, ns, rfl, hs, hl, k⟩ := h
    refine ⟨_, pss_cons (ps_set (i := 1) sc_law_dice.nd rfl (Or.inl rfl) (pe_int))
      (pss_cons (ps_for PassesOwn.never rfl (pi_list (pv 0)) (pg_name (i := 2) sc_law_dice.nd rfl (Or.inl rfl))
        (pss_one (ps_set (i := 1) sc_law_dice.nd rfl (Or.inl rfl) (pe_op op_mod (pe_callTy (call_int1) (by rfl) B.int boot_int (pa_cons (pe_op op_add (pe_op op_add (pe_op op_mul (pv 1) pe_int) (pe_op op_mul (pe_op op_mod (pe_callTy (call_int1) (by rfl) B.int boot_int (pa_cons (pv 2) pa_nil)) pe_int) pe_int)) (pe_int)) pa_nil)) pe_int))))
      (pss_one (ps_ret (pe_lst (pa_cons (pv 0) (pa_cons (pe_int) (pa_cons (pe_op op_mul (pv 1) (pe_callTy (call_int1) (by rfl) B.int boot_int (pa_cons (pe_cmpR (op_gt) (pe_callB call_len_seq (by rfl) B.len PySem.boot_len (pa_cons (pv 0) pa_nil)) (pe_int) (nomark _)) pa_nil))) (pa_cons (pe_int) pa_nil)))))))), ?_⟩
    refine ⟨_, rfl, a, rfl, ⟨_, hs⟩, for_it (walk_list (K := K) (a := a) (xs := ns.map V.int)) (fun (j : Nat) (σ : L2.St) (G : Hp) => ∃ (m : Int) (s2 : Option V), σ = [some (.ref a), some (.int m), s2] ∧ 0 ≤ m ∧ m < 2147483647 ∧ G = H) ?_ ?_ ?_ ?_⟩
    · exact ⟨0, none, rfl, by decide, by decide, rfl⟩
    · rintro j σ G _ ⟨_, _, _, _, _, rfl⟩
      exact hs
    · rintro j x σ G G' hj ⟨m, s2, rfl, m0, m1, rfl⟩ ⟨rfl, hx⟩
      obtain ⟨c, hc, rfl⟩ : ∃ c, ns[j]? = some c ∧ x = V.int c := by
        rw [List.getElem?_map] at hx
        cases e : ns[j]? with
        | none => rw [e] at hx; cases hx
        | some c => rw [e] at hx; exact ⟨c, rfl, (Option.some.inj hx).symm⟩
      have n1 := Int.emod_nonneg c (b := 2147483647) (by decide)
      have n2 := Int.emod_lt_of_pos c (b := 2147483647) (by decide)
      refine nm_of ?_
      refine ⟨_, rfl, _, _, rfl, rfl, .inl ⟨by omega, by omega⟩, _, rfl, .inl ⟨_, rfl, _, _, rfl, rfl, (show (0 : Int) < 2147483647 by decide), _, _, rfl, rfl, .inl ⟨by omega, by omega⟩, _, _, rfl, rfl, _, _, rfl, rfl, .inl ⟨_, rfl, _, _, rfl, rfl, (show (0 : Int) < 2147483647 by decide), ?_⟩⟩⟩
      exact ⟨_, _, rfl, Int.emod_nonneg _ (by decide), Int.emod_lt_of_pos _ (by decide), rfl⟩
    · rintro σ G ⟨m, s2, rfl, m0, m1, rfl⟩
      refine ⟨_, rfl, _, rfl, _, rfl, a, _, rfl, .inl hs, _, _, rfl, rfl, .inr ⟨_, rfl, _, _, rfl, rfl, .inl ⟨by omega, by omega⟩, by show 4 ≤ sizeLine; decide, fun L nL => k L _ (same_new nL) nL ⟨0, _, 0, upd_same, by decide, ?_, ?_, (same_new nL).seq hs⟩⟩⟩
      · split <;> omega
      · split <;> omega
end
/-! ### the law's stones -/
/-- stones as the law draws them -/
def Drawn (xs : List (Int × Int)) : Prop := ∀ x ∈ xs, 0 ≤ x.1 ∧ x.1 ≤ 3 + 6 * (xs.length : Int) ∧ 1 ≤ x.2 ∧ x.2 ≤ 40
theorem Wf.snoc : ∀ {xs : List (Int × Int)} {lo : Int} {y : Int × Int}, Wf lo xs → lo ≤ y.1 → (∀ x ∈ xs, x.1 + 1 ≤ y.1) → y.1 ≤ 1000000000 → 1 ≤ y.2 → y.2 ≤ 1000000000 → Wf lo (xs ++ [y])
  | [], lo, y, _, h1, _, h2, h3, h4 => ⟨h1, h2, h3, h4, True.intro⟩
  | x :: xs, lo, y, w, _, h, h2, h3, h4 => ⟨w.1, w.2.1, w.2.2.1, w.2.2.2.1, Wf.snoc w.2.2.2.2 (h x (by simp)) (fun z hz => h z (by simp [hz])) h2 h3 h4⟩
theorem pick {m k : Int} {vs : List Int} (hm : m = (vs.length : Int)) (h0 : 0 ≤ k) (h1 : k < m) : ∃ z ∈ vs, atI (vs.map V.int) k = some (.int z) := by
  have hk : k.toNat < vs.length := by omega
  exact ⟨vs[k.toNat], by simp, at_of (j := k.toNat) (by omega) (by simp [hk])⟩
def spStones (K : PySem.W.Frag) : Sp := fun vs H Q _ => ∃ (L a : Addr) (ns : List Int) (m : Int), vs = [.ref L, .int m] ∧ 0 ≤ m ∧ m ≤ 30 ∧ Drw K H L a ns ∧
  ∀ (p : Addr) (us : List V) (xs : List (Int × Int)) (H' : Hp), Drw K H' L a ns → But L H H' → H p = none → H' p = some (.lst us) → StonesAt K H' us xs → Wf 0 xs → Drawn xs → (xs.length : Int) ≤ m → Q (.ref p) H'
section
variable {P : Program} {w : World} {K : PySem.W.Frag} {mg : Str → Option Value} {base : Heap}
theorem ok_stones {f g : Addr} {fd gd : FuncData} (F : Fun K "_law_stones" "_law_stones" s_law_stones f fd) (B : Blt mg) (N : At P w K mg base CX0 1 "_law_next" ["_law_dice_here", "_law_many"] (spNext K) g gd) :
    FnOk P w K mg base CX0 2 f fd ["_law_d", "_law_most"] (spStones K) := by
  refine F.ok sc_law_stones (fun vs H Q E h => ?_) (fun cdv A outer s H vs Q E hr h => ?_)
  · obtain ⟨L, a, ns, m, rfl, _⟩ := h
    rfl
  · obtain ⟨L, a, ns, m, rfl, m0, m1, D, k⟩ := h
    refine ⟨_, pss_cons (ps_par rfl sc_law_stones.nd (i := 2) (j := 3) rfl rfl (by decide) rfl rfl (pa_cons (pe_lst pa_nil) (pa_cons (pe_at N hr (pa_cons (pv 0) (pa_cons (pe_int) pa_nil))) pa_nil)) (by rfl))
      (pss_cons (ps_for PassesOwn.never rfl (pi_range1 (by rfl) B.range (pa_cons (pe_at N hr (pa_cons (pv 0) (pa_cons (pe_op op_add (pv 1) (pe_int)) pa_nil))) pa_nil)) (pg_name (i := 4) sc_law_stones.nd rfl (Or.inl rfl))
        (pss_cons (ps_expr (pe_bm PySem.F.plainAttrs_list PySem.F.slot_list_append PySem.F.type_list_append mt_append (pv 2) (pa_cons (pe_tup (pa_cons (pv 3) (pa_cons (pe_op op_add (pe_int) (pe_at N hr (pa_cons (pv 0) (pa_cons (pe_ix ix_list (pe_lst (pa_cons (pe_int) (pa_cons (pe_int) pa_nil))) (pe_at N hr (pa_cons (pv 0) (pa_cons (pe_int) pa_nil))) (fun _ _ => rfl)) pa_nil)))) pa_nil))) pa_nil)))
        (pss_one (ps_set (i := 3) sc_law_stones.nd rfl (Or.inl rfl) (pe_op op_add (pe_op op_add (pv 3) (pe_int)) (pe_at N hr (pa_cons (pv 0) (pa_cons (pe_ix ix_list (pe_lst (pa_cons (pe_int) (pa_cons (pe_int) pa_nil))) (pe_at N hr (pa_cons (pv 0) (pa_cons (pe_int) pa_nil))) (fun _ _ => rfl)) pa_nil))))))))
      (pss_one (ps_ret (pv 2)))), ?_⟩
    refine ⟨by show 0 ≤ sizeLine; decide, fun p np => ?_⟩
    have c0 := D.cell
    have nLp : L ≠ p := let ⟨ys, e⟩ := c0.list; ne_of_none e np
    -- place
    refine ⟨_, rfl, L, a, ns, 4, rfl, by decide, by decide, D.up (same_new np), fun pl H1 p0 p1 D1 b1 => ?_⟩
    have e1 : H1 p = some (.lst []) := b1 _ _ (Ne.symm nLp) upd_same
    have b1' : But L H H1 := (Same.but (same_new np) L).trans b1
    refine ⟨_, _, rfl, ?_⟩
    -- how many
    refine ⟨_, rfl, _, rfl, _, _, rfl, rfl, L, a, ns, m + 1, rfl, by omega, by omega, D1, fun n H2 n0 n1 D2 b2 => ?_⟩
    refine ⟨n, rfl, by omega, by omega, for_range (lo := 0) (n := n.toNat) (fun j σ H3 => ∃ (us : List V) (xs : List (Int × Int)) (pl : Int) (s4 : Option V), σ = [some (.ref L), some (.int m), some (.ref p), some (.int pl), s4] ∧
      Cell H3 L a ∧ But L H H3 ∧ H3 p = some (.lst us) ∧ StonesAt K H3 us xs ∧ Wf 0 xs ∧ xs.length = j ∧ 0 ≤ pl ∧ pl ≤ 3 + 6 * (j : Int) ∧ Drawn xs ∧ (∀ x ∈ xs, x.1 + 1 ≤ pl)) ?_ ?_ ?_⟩
    · exact ⟨[], [], pl, none, rfl, D2.cell, b1'.trans b2, b2 _ _ (Ne.symm nLp) e1, StonesAt.nil, True.intro, rfl, p0, by omega, fun x h => (nomatch h), fun x h => (nomatch h)⟩
    · rintro j σ H3 hj ⟨us, xs, pl, s4, rfl, cl, b3, ep, hS, hw, hl, q0, q1, hd, hlt⟩
      have hj' : (j : Int) < 30 := by omega
      -- the tuple: place, 1 + ..
      refine ⟨_, rfl, .inl ⟨rfl, _, SqL.of ep⟩, ?_⟩
      refine ⟨_, rfl, _, rfl, ?_⟩
      refine ⟨by show 2 ≤ sizeLine; decide, fun l1 nl1 => ?_⟩
      have s4' := same_new (o := .lst [V.int 3, V.int 9]) nl1
      refine ⟨_, rfl, L, a, ns, 2, rfl, by decide, by decide, (D.next b3 cl).up s4', fun k1 H4 k10 k11 D4 b4 => ?_⟩
      obtain ⟨z1, hz1, ez1⟩ := pick (vs := [3, 9]) rfl k10 k11
      have nl1L : l1 ≠ L := fun e => by obtain ⟨ys, q⟩ := cl.list; rw [← e, nl1] at q; cases q
      refine ⟨l1, _, k1, _, rfl, rfl, SqL.of (b4 _ _ nl1L upd_same), ez1, ?_⟩
      have z1b : 1 ≤ z1 ∧ z1 ≤ 9 := by simp at hz1; omega
      refine ⟨L, a, ns, z1, rfl, by omega, by omega, D4, fun h1 H5 h10 h11 D5 b5 => ?_⟩
      refine ⟨_, _, rfl, rfl, by show 2 ≤ sizeLine; decide, fun T nT => ?_⟩
      have b35 : But L H3 H5 := ((Same.but s4' L).trans b4).trans b5
      have ep5 : H5 p = some (.lst us) := b35 _ _ (Ne.symm nLp) ep
      have epT : (upd H5 T (.tup [V.int pl, V.int (1 + h1)])) p = some (.lst us) := same_new nT _ _ ep5
      obtain ⟨ysL, eL⟩ := cl.list
      have hS5 : StonesAt K (upd H5 T (.tup [V.int pl, V.int (1 + h1)])) us xs := (hS.but eL b35).same (same_new nT)
      refine ⟨p, us, _, rfl, rfl, epT, ?_, ?_⟩
      · rw [hS.1, hl, sizeLine_eq]; omega
      have epN : (upd (upd H5 T (.tup [V.int pl, V.int (1 + h1)])) p (.lst (us ++ [.ref T]))) p = some (.lst (us ++ [.ref T])) := upd_same
      have hT : SqT K (upd (upd H5 T (.tup [V.int pl, V.int (1 + h1)])) p (.lst (us ++ [.ref T]))) T [V.int pl, V.int (1 + h1)] := sqT_but (SqT.of upd_same) epT but_upd
      have hSN : StonesAt K (upd (upd H5 T (.tup [V.int pl, V.int (1 + h1)])) p (.lst (us ++ [.ref T]))) (us ++ [.ref T]) (xs ++ [(pl, 1 + h1)]) := (hS5.but epT but_upd).append (StonesAt.one hT)
      have clN : Cell (upd (upd H5 T (.tup [V.int pl, V.int (1 + h1)])) p (.lst (us ++ [.ref T]))) L a := (D5.cell.same (same_new nT)).but but_upd nLp
      have bN : But L H (upd (upd H5 T (.tup [V.int pl, V.int (1 + h1)])) p (.lst (us ++ [.ref T]))) := ((b3.trans b35).new nT).two np but_upd
      generalize hHN : upd (upd H5 T (.tup [V.int pl, V.int (1 + h1)])) p (.lst (us ++ [.ref T])) = HN at epN hSN clN bN
      -- place = place + 1 + ..
      refine ⟨_, rfl, _, _, rfl, rfl, _, rfl, ?_⟩
      refine ⟨by show 2 ≤ sizeLine; decide, fun l2 nl2 => ?_⟩
      have s6 := same_new (o := .lst [V.int 2, V.int 5]) nl2
      refine ⟨_, rfl, L, a, ns, 2, rfl, by decide, by decide, (D.next bN clN).up s6, fun k2 H6 k20 k21 D6 b6 => ?_⟩
      obtain ⟨z2, hz2, ez2⟩ := pick (vs := [2, 5]) rfl k20 k21
      have nl2L : l2 ≠ L := fun e => by obtain ⟨ys, q⟩ := clN.list; rw [← e, nl2] at q; cases q
      refine ⟨l2, _, k2, _, rfl, rfl, SqL.of (b6 _ _ nl2L upd_same), ez2, ?_⟩
      have z2b : 1 ≤ z2 ∧ z2 ≤ 5 := by simp at hz2; omega
      refine ⟨L, a, ns, z2, rfl, by omega, by omega, D6, fun h2 H7 h20 h21 D7 b7 => ?_⟩
      have bN7 : But L HN H7 := ((Same.but s6 L).trans b6).trans b7
      obtain ⟨ysN, eN⟩ := clN.list
      refine ⟨_, _, rfl, rfl, us ++ [.ref T], xs ++ [(pl, 1 + h1)], pl + 1 + h2, _, rfl, D7.cell, bN.trans bN7, bN7 _ _ (Ne.symm nLp) epN, hSN.but eN bN7, ?_, by simp [hl], by omega, by omega, ?_, ?_⟩
      · exact hw.snoc q0 hlt (by show pl ≤ _; omega) (by show 1 ≤ 1 + h1; omega) (by show 1 + h1 ≤ _; omega)
      · intro x hx
        rcases List.mem_append.mp hx with hx | hx
        · obtain ⟨w1, w2, w3⟩ := hd x hx; exact ⟨w1, by rw [List.length_append]; simp; omega, w3⟩
        · simp at hx; subst hx; exact ⟨q0, by rw [List.length_append]; simp; omega, by show 1 ≤ 1 + h1; omega, by show 1 + h1 ≤ 40; omega⟩
      · intro x hx
        rcases List.mem_append.mp hx with hx | hx
        · have := hlt x hx; omega
        · simp at hx; subst hx; show pl + 1 ≤ _; omega
    · rintro σ H3 ⟨us, xs, pl, s4, rfl, cl, b3, ep, hS, hw, hl, q0, q1, hd, hlt⟩
      exact ⟨_, rfl, k p us xs H3 (D.next b3 cl) b3 np ep hS hw hd (by omega)⟩
end
def spRow2 : Unit := ()
section
variable {P : Program} {w : World} {K : PySem.W.Frag} {mg : Str → Option Value} {base : Heap}
theorem ok_made {f g a C : Addr} {fd : FuncData} (F : Fun K "_law_made" "_law_made" s_law_made f fd) (B : Blt mg) (R : RowC K mg C) (M : Mk K C g) (G : FnR P w K mg base CX0 3 g (spMake K C)) (A1 : FnR P w K mg base CX0 5 a (spAdd K C)) (SA : Sign K C "__add__" a) :
    FnOk P w K mg base CX0 6 f fd ["_law_stones_here"] (spRow K C) := by
  refine F.ok sc_law_made (fun vs H Q E h => ?_) (fun cdv A outer s H vs Q E hr h => ?_)
  · obtain ⟨q, us, xs, rfl, _⟩ := h
    rfl
  · obtain ⟨q, us, xs, rfl, hq, hS, hw, hz, k⟩ := h
    refine ⟨_, pss_cons (ps_set (i := 1) sc_law_made.nd rfl (Or.inl rfl) (Own.pe_makeR0 M G (hr.mono (by decide)) (by rfl) R.mgC pass0))
      (pss_cons (ps_for PassesOwn.never rfl (pi_list (pv 0)) (pg_name (i := 2) sc_law_made.nd rfl (Or.inl rfl))
        (pss_one (ps_set (i := 1) sc_law_made.nd rfl (Or.inl rfl) (pe_op (Own.op_bin (op := .Add) (C := C) (g := a) R.first SA.at_ SA.fn A1 hr pass0) (pv 1) (StX.pe_makeR M G (hr.mono (by decide)) (by rfl) R.mgC pass0 (pa_cons (pv 2) pa_nil))))))
      (pss_one (ps_ret (pv 1)))), ?_⟩
    refine seq_of (asg_of (mk0 fun z0 H1 s1 nz0 r0 => ?_))
    refine ⟨_, rfl, q, rfl, ⟨_, s1.seq hq⟩, for_list (K := K) (a := q) (xs := us) (fun j σ H2 => ∃ (z : Addr) (s2 : Option V), σ = [some (.ref q), some (.ref z), s2] ∧ Same H H2 ∧ H z = none ∧ RowAt K C H2 z (xs.take j)) ?_ ?_ ?_ ?_⟩
    · exact ⟨z0, none, rfl, s1, nz0, by rw [List.take_zero]; exact r0⟩
    · rintro j σ H2 _ ⟨_, _, _, sm, _⟩
      exact sm.seq hq
    · rintro j y σ H2 hy ⟨z, s2, rfl, sm, nz, rz⟩
      have hj : j < xs.length := by rw [← hS.1]; exact (List.getElem?_eq_some_iff.mp hy).1
      obtain ⟨x, hx⟩ : ∃ x, xs[j]? = some x := ⟨xs[j], by simp [hj]⟩
      obtain ⟨c, hc, hsc⟩ := hS.2 j x hx
      obtain rfl : y = V.ref c := Option.some.inj (hy.symm.trans hc)
      refine ⟨_, rfl, mk1 (i := 2) (x := x) rfl (sqT_same hsc sm) (hw.sub (Int.le_refl _) hx) fun z2 H3 s3 nz2 r2 => ?_⟩
      obtain ⟨dx, t, ws, e1, g1, g2⟩ := id (rz.same s3)
      obtain ⟨dy, t', ws', e2, g3, g4⟩ := id r2
      have et : xs.take j ++ [x] = xs.take (j + 1) := by rw [List.take_add_one, hx]; rfl
      refine ⟨z, dx, _, z2, dy, _, rfl, rfl, e1, e2, z, z2, _, _, rfl, rz.same s3, r2, by rw [et]; exact hw.take _, by rw [et]; simp; omega, fun z4 H4 s4 nz4 r4 => ?_⟩
      rw [et] at r4
      exact ⟨z4, _, rfl, (sm.trans s3).trans s4, Same.free (sm.trans s3) nz4, r4⟩
    · rintro σ H2 ⟨z, s2, rfl, sm, nz, rz⟩
      rw [show us.length = xs.length from hS.1, List.take_length] at rz
      exact ⟨_, rfl, k z H2 sm nz rz⟩
end
def spPick : PySem.W.Frag → Sp := fun K vs H Q _ => ∃ (L a p : Addr) (ns : List Int) (us : List V), vs = [.ref L, .ref p] ∧ Drw K H L a ns ∧ H p = some (.lst us) ∧ p ≠ L ∧ 0 < us.length ∧ us.length ≤ 1000 ∧ ∀ v (i : Nat) H', us[i]? = some v → Drw K H' L a ns → But L H H' → Q v H'
section
variable {P : Program} {w : World} {K : PySem.W.Frag} {mg : Str → Option Value} {base : Heap}
theorem ok_pick {f g : Addr} {fd gd : FuncData} (F : Fun K "_law_pick" "_law_pick" s_law_pick f fd) (B : Blt mg) (N : At P w K mg base CX0 1 "_law_next" ["_law_dice_here", "_law_many"] (spNext K) g gd) : FnOk P w K mg base CX0 2 f fd ["_law_d", "_law_some"] (spPick K) := by
  refine F.ok sc_law_pick (fun vs H Q E h => ?_) (fun cdv A outer s H vs Q E hr h => ?_)
  · obtain ⟨L, a, p, ns, us, rfl, _⟩ := h
    rfl
  · obtain ⟨L, a, p, ns, us, rfl, D, hp, ne, h0, hz, k⟩ := h
    refine ⟨_, pss_one (ps_ret (pe_ix ix_list (pv 1) (pe_at N hr (pa_cons (pv 0) (pa_cons (pe_callB call_len_seq (by rfl) B.len PySem.boot_len (pa_cons (pv 1) pa_nil)) pa_nil))) (fun _ _ => rfl))), ?_⟩
    refine ⟨_, rfl, _, rfl, _, rfl, p, us, rfl, .inl (SqL.of hp), L, a, ns, (us.length : Int), rfl, by omega, by omega, D, fun m H1 m0 m1 D1 b1 => ?_⟩
    have hm : m.toNat < us.length := by omega
    have e : us[m.toNat]? = some us[m.toNat] := by simp [hm]
    exact ⟨p, us, m, _, rfl, rfl, SqL.of (b1 _ _ ne hp), at_of (j := m.toNat) (by omega) e, k _ m.toNat H1 e D1 b1⟩
def spIsStoneW : Sp := fun vs H Q _ => ∃ (v : V) (n : Nat), vs = [v, .int (n : Nat)] ∧ plainV v ∧ Q (.bl (numO n v).isSome) H
theorem ok_isStoneW {f : Addr} {fd : FuncData} (F : Fun K "_law_is_stone" "_law_is_stone" s_law_is_stone f fd) (B : Blt mg) : FnOk P w K mg base CX0 1 f fd ["_law_value", "_law_size"] spIsStoneW := by
  refine F.ok sc_law_is_stone (fun vs H Q E h => ?_) (fun cdv A outer s H vs Q E hr h => ?_)
  · obtain ⟨v, n, rfl, _⟩ := h
    rfl
  · obtain ⟨v, n, rfl, hp, k⟩ := h
    refine ⟨_, pss_one (ps_ret (pe_and (pe_callB (call_isi) (by rfl) B.isinstance boot_isinstance (pa_cons (pv 0) (pa_cons (pe_bltn (v := .ty "int") (by rfl) B.int boot_int rfl) pa_nil))) (pe_and (pe_not (pe_callB (call_isi) (by rfl) B.isinstance boot_isinstance (pa_cons (pv 0) (pa_cons (pe_bltn (v := .ty "bool") (by rfl) B.bool boot_bool rfl) pa_nil)))) (pe_one (pe_chain op_le op_lt pe_int (pv 0) (pv 1)))))), ?_⟩
    obtain ⟨t, b, c, ty, k1, k2, alt⟩ := known_ty (plain_known (K := K) (H := H) hp)
    refine ⟨_, rfl, _, _, _, _, b, rfl, .ty "int", ty, k1, b, rfl, ?_⟩
    rcases alt with ⟨rfl, rfl, i, rfl⟩ | ⟨alt, no⟩
    · refine iteT ⟨_, rfl, _, _, _, _, false, rfl, .ty "bool", ty, k2, false, rfl, true, rfl, ?_⟩
      refine iteT ⟨_, rfl, 0, i, rfl, rfl, _, rfl, ?_⟩
      have eN : (numO n (.int i)).isSome = (decide (0 ≤ i) && decide (i < (n : Int))) := by
        show (if 0 ≤ i ∧ i < (n : Int) then some i.toNat else none).isSome = _
        by_cases c : 0 ≤ i ∧ i < (n : Int)
        · rw [if_pos c, decide_eq_true c.1, decide_eq_true c.2]; rfl
        · rw [if_neg c]
          by_cases c1 : 0 ≤ i
          · rw [decide_eq_true c1, decide_eq_false (fun z => c ⟨c1, z⟩)]; rfl
          · rw [decide_eq_false c1]; rfl
      rw [eN] at k
      refine ite2 (fun q => ?_) (fun q => ?_)
      · rw [q, Bool.true_and] at k
        exact ⟨_, rfl, i, (n : Int), rfl, rfl, k⟩
      · rw [Bool.eq_false_iff.mpr q, Bool.false_and] at k
        exact k
    · have eN : (numO n v).isSome = false := by
        cases v with
        | int i => exact absurd rfl (no i)
        | _ => rfl
      rw [eN] at k
      cases b with
      | false => exact iteF k
      | true =>
        rcases alt with z | rfl
        · cases z
        · refine iteT ⟨_, rfl, _, _, _, _, true, rfl, .ty "bool", ty, k2, true, rfl, false, rfl, ?_⟩
          exact iteF k
end
/-! ### _law_like, of equal data -/
def ixLT (K : PySem.W.Frag) : R2 := fun x y H Q => rIxL K x y H Q ∨ rIxT K x y H Q
def LeafP (d : PyData) : Prop := (∃ i, d = .int i) ∨ (∃ b, d = .bool b) ∨ (∃ r, d = .str r ∧ SeqAt.shaped (.str r) = true) ∨ d = .none
/-- data of ints, signs, words and None in lists and tuples, n deep -/
def Lk : Nat → PyData → Prop
  | 0, d => LeafP d
  | n + 1, d => LeafP d ∨ ∃ ds, (d = .list ds ∨ d = .tuple ds) ∧ ds.length ≤ 1000 ∧ ∀ e ∈ ds, Lk n e
theorem DpAll.get {K : PySem.W.Frag} {H : Hp} : ∀ {vs : List V} {ds : List PyData} {k : Nat} {d : PyData}, DpAll K H vs ds → ds[k]? = some d → ∃ v, vs[k]? = some v ∧ Dp K H v d
  | _, _, _, _, .nil, e => by simp at e
  | _, _, 0, _, .cons h _, e => by simp at e; subst e; exact ⟨_, rfl, h⟩
  | _, _, k + 1, _, .cons _ t, e => by
    obtain ⟨v, a, b⟩ := DpAll.get (k := k) t (by simpa using e)
    exact ⟨v, by simpa using a, b⟩
theorem DpAll.len {K : PySem.W.Frag} {H : Hp} : ∀ {vs : List V} {ds : List PyData}, DpAll K H vs ds → vs.length = ds.length
  | _, _, .nil => rfl
  | _, _, .cons _ t => congrArg (· + 1) (DpAll.len t)
mutual
theorem Dp.same {K : PySem.W.Frag} {H H' : Hp} (e : Same H H') : ∀ {v : V} {d : PyData}, Dp K H v d → Dp K H' v d
  | _, _, .non => .non
  | _, _, .bl b => .bl b
  | _, _, .int i => .int i
  | _, _, .str x => .str x
  | _, _, .lst h a => .lst (e.seq h) (DpAll.same e a)
  | _, _, .tup h a => .tup (sqT_same h e) (DpAll.same e a)
theorem DpAll.same {K : PySem.W.Frag} {H H' : Hp} (e : Same H H') : ∀ {vs : List V} {ds : List PyData}, DpAll K H vs ds → DpAll K H' vs ds
  | _, _, .nil => .nil
  | _, _, .cons h t => .cons (Dp.same e h) (DpAll.same e t)
end
/-- what isinstance says of a value that is no list and no tuple -/
structure LeafT (K : PySem.W.Frag) (t : String) (b i s : Bool) : Prop where
  tup : PySem.W.kitOne K (.type t) (.type "tuple") = some false
  lst : PySem.W.kitOne K (.type t) (.type "list") = some false
  bl : PySem.W.kitOne K (.type t) (.type "bool") = some b
  int : PySem.W.kitOne K (.type t) (.type "int") = some i
  str : PySem.W.kitOne K (.type t) (.type "str") = some s
theorem leaf_tyP {K : PySem.W.Frag} {d : PyData} (h : LeafP d) : ∃ (t : String) (b i s : Bool), LeafT K t b i s ∧ SeqAt.shaped d = true ∧ PyData.eqv d d = true ∧ ∀ H v, Dp K H v d → ∀ H', TyX K H' v (.type t) ∧ Dp K H' v d := by
  rcases h with ⟨i, rfl⟩ | ⟨b, rfl⟩ | ⟨r, rfl, sh⟩ | rfl
  · refine ⟨"int", false, true, false, ⟨kit_ty (by decide +kernel), kit_ty (by decide +kernel), kit_ty (by decide +kernel), kit_ty (by decide +kernel), kit_ty (by decide +kernel)⟩, rfl, by simp [PyData.eqv], fun H v h H' => ?_⟩
    cases h
    exact ⟨.base (.int i), .int i⟩
  · refine ⟨"bool", true, true, false, ⟨kit_ty (by decide +kernel), kit_ty (by decide +kernel), kit_ty (by decide +kernel), kit_ty (by decide +kernel), kit_ty (by decide +kernel)⟩, rfl, by cases b <;> rfl, fun H v h H' => ?_⟩
    cases h
    exact ⟨.base (.bl b), .bl b⟩
  · refine ⟨"str", false, false, true, ⟨kit_ty (by decide +kernel), kit_ty (by decide +kernel), kit_ty (by decide +kernel), kit_ty (by decide +kernel), kit_ty (by decide +kernel)⟩, sh, SeqAt.eqv_refl _ (SeqAt.canLay_of_shaped sh), fun H v h H' => ?_⟩
    cases h
    exact ⟨.base (.str _), .str _⟩
  · refine ⟨"NoneType", false, false, false, ⟨kit_ty (by decide +kernel), kit_ty (by decide +kernel), kit_ty (by decide +kernel), kit_ty (by decide +kernel), kit_ty (by decide +kernel)⟩, rfl, by simp [PyData.eqv], fun H v h H' => ?_⟩
    cases h
    exact ⟨.base .non, .non⟩
def spLike (K : PySem.W.Frag) (n : Nat) : Sp := fun vs H Q _ => ∃ v u d, vs = [v, u] ∧ Dp K H v d ∧ Dp K H u d ∧ Lk n d ∧ ∀ H', Same H H' → Q (.bl true) H'
/-- a list or a tuple: what isinstance says of it, and what it holds -/
theorem lk_seq {K : PySem.W.Frag} {d : PyData} {ds : List PyData} (hd : d = .list ds ∨ d = .tuple ds) : ∃ (T : String) (tup : Bool), PySem.W.kitOne K (.type T) (.type "list") = some (!tup) ∧ PySem.W.kitOne K (.type T) (.type "tuple") = some tup ∧
    ∀ {H : Hp} {v : V}, Dp K H v d → ∃ a xs, v = .ref a ∧ DpAll K H xs ds ∧ ∀ H', Same H H' → (SqL K H' a xs ∨ SqT K H' a xs) ∧ TyX K H' (.ref a) (.type T) := by
  rcases hd with rfl | rfl
  · refine ⟨"list", false, kit_ty (by decide +kernel), kit_ty (by decide +kernel), fun {H v} h => ?_⟩
    cases h with
    | lst h a => exact ⟨_, _, rfl, a, fun H' e => ⟨.inl (e.seq h), tyL (e.seq h)⟩⟩
  · refine ⟨"tuple", true, kit_ty (by decide +kernel), kit_ty (by decide +kernel), fun {H v} h => ?_⟩
    cases h with
    | tup h a => exact ⟨_, _, rfl, a, fun H' e => ⟨.inr (sqT_same h e), tyT (sqT_same h e)⟩⟩
theorem ix_lt {K : PySem.W.Frag} {H : Hp} {a : Addr} {xs : List V} {i : Nat} {v : V} {Q : VK} (h : SqL K H a xs ∨ SqT K H a xs) (e : xs[i]? = some v) (q : Q v H) : ixLT K (.ref a) (.int (i : Int)) H Q := by
  rcases h with h | h
  · exact .inl ⟨a, xs, _, v, rfl, rfl, h, atI_nat e, q⟩
  · exact .inr ⟨a, xs, _, v, rfl, rfl, h, atI_nat e, q⟩
section
variable {P : Program} {w : World} {K : PySem.W.Frag} {mg : Str → Option Value} {base : Heap}
theorem ok_like0 {f : Addr} {fd : FuncData} (F : Fun K "_law_like" "_law_like" s_law_like f fd) (B : Blt mg) (bs : mg "str" = none) : FnOk P w K mg base CX0 1 f fd ["_law_found", "_law_due"] (spLike K 0) := by
  refine F.ok sc_law_like (fun vs H Q E h => ?_) (fun cdv A outer s H vs Q E hr h => ?_)
  · obtain ⟨v, u, d, rfl, _⟩ := h
    rfl
  · obtain ⟨v, u, d, rfl, hv, hu', lf, k⟩ := h
    have hu := hr.units
    refine ⟨_, pss_cons (ps_if (PW.pt (pw_or (pt_val (pe_callB (call_isi) (by rfl) B.isinstance boot_isinstance (pa_cons (pv 1) (pa_cons (pe_bltn (v := .ty "tuple") (by rfl) B.tuple boot_tuple rfl) pa_nil)))) (pw_or1 (pt_val (pe_callB (call_isi) (by rfl) B.isinstance boot_isinstance (pa_cons (pv 1) (pa_cons (pe_bltn (v := .ty "list") (by rfl) B.list boot_list rfl) pa_nil))))))) pss_never pss_nil)
      (pss_cons (ps_if (pt_cmpR (op_ne) (pe_callB (call_isi) (by rfl) B.isinstance boot_isinstance (pa_cons (pv 0) (pa_cons (pe_bltn (v := .ty "bool") (by rfl) B.bool boot_bool rfl) pa_nil))) (pe_callB (call_isi) (by rfl) B.isinstance boot_isinstance (pa_cons (pv 1) (pa_cons (pe_bltn (v := .ty "bool") (by rfl) B.bool boot_bool rfl) pa_nil))) (nomark _)) (pss_one (ps_ret pe_bl)) pss_nil)
      (pss_cons (ps_if (PW.pt (pw_or (pt_cmpR (op_ne) (pe_callB (call_isi) (by rfl) B.isinstance boot_isinstance (pa_cons (pv 0) (pa_cons (pe_bltn (v := .ty "int") (by rfl) B.int boot_int rfl) pa_nil))) (pe_callB (call_isi) (by rfl) B.isinstance boot_isinstance (pa_cons (pv 1) (pa_cons (pe_bltn (v := .ty "int") (by rfl) B.int boot_int rfl) pa_nil))) (nomark _)) (pw_or1 (pt_cmpR (op_ne) (pe_callB (call_isi) (by rfl) B.isinstance boot_isinstance (pa_cons (pv 0) (pa_cons (pe_bltn (v := .ty "str") (by rfl) bs boot_str rfl) pa_nil))) (pe_callB (call_isi) (by rfl) B.isinstance boot_isinstance (pa_cons (pv 1) (pa_cons (pe_bltn (v := .ty "str") (by rfl) bs boot_str rfl) pa_nil))) (nomark _))))) (pss_one (ps_ret pe_bl)) pss_nil)
      (pss_one (ps_ret (pe_cmpR (op_eqD hu) (pv 0) (pv 1) (nomark _)))))), ?_⟩
    obtain ⟨ty, tb, ti, ts, kt, shp, eqv, dty⟩ := leaf_tyP (K := K) lf
    refine ⟨_, rfl, u, .ty "tuple", _, _, false, rfl, .ty "tuple", (dty _ _ hu' _).1, kt.tup, _, rfl, iteF ?_⟩
    refine ⟨_, rfl, u, .ty "list", _, _, false, rfl, .ty "list", (dty _ _ hu' _).1, kt.lst, _, rfl, iteF ?_⟩
    refine ⟨_, rfl, v, .ty "bool", _, _, tb, rfl, .ty "bool", (dty _ _ hv _).1, kt.bl, _, rfl, u, .ty "bool", _, _, tb, rfl, .ty "bool", (dty _ _ hu' _).1, kt.bl, rfl, _, rfl, ?_⟩
    rw [show (!decide (V.bl tb = V.bl tb)) = false by simp]
    refine iteF ?_
    refine ⟨_, rfl, v, .ty "int", _, _, ti, rfl, .ty "int", (dty _ _ hv _).1, kt.int, _, rfl, u, .ty "int", _, _, ti, rfl, .ty "int", (dty _ _ hu' _).1, kt.int, rfl, _, rfl, ?_⟩
    rw [show (!decide (V.bl ti = V.bl ti)) = false by simp]
    refine iteF ?_
    refine ⟨_, rfl, v, .ty "str", _, _, ts, rfl, .ty "str", (dty _ _ hv _).1, kt.str, _, rfl, u, .ty "str", _, _, ts, rfl, .ty "str", (dty _ _ hu' _).1, kt.str, rfl, _, rfl, ?_⟩
    rw [show (!decide (V.bl ts = V.bl ts)) = false by simp]
    refine iteF ?_
    refine ⟨_, rfl, _, rfl, d, d, (dty _ _ hv _).2, (dty _ _ hu' _).2, shp, shp, ?_⟩
    rw [eqv]
    exact k _ (Same.refl _)
theorem ok_likeS {n : Nat} {f : Addr} {fd : FuncData} (F : Fun K "_law_like" "_law_like" s_law_like f fd) (B : Blt mg) (bs : mg "str" = none) (N : At P w K mg base CX0 (n + 1) "_law_like" ["_law_found", "_law_due"] (spLike K n) f fd) :
    FnOk P w K mg base CX0 (n + 2) f fd ["_law_found", "_law_due"] (spLike K (n + 1)) := by
  refine F.ok sc_law_like (fun vs H Q E h => ?_) (fun cdv A outer s H vs Q E hr h => ?_)
  · obtain ⟨v, u, d, rfl, _⟩ := h
    rfl
  · obtain ⟨v, u, d, rfl, hv, hu', al, k⟩ := h
    have hu := hr.units
    refine ⟨_, pss_cons (ps_if (PW.pt (pw_or (pt_val (pe_callB (call_isi) (by rfl) B.isinstance boot_isinstance (pa_cons (pv 1) (pa_cons (pe_bltn (v := .ty "tuple") (by rfl) B.tuple boot_tuple rfl) pa_nil)))) (pw_or1 (pt_val (pe_callB (call_isi) (by rfl) B.isinstance boot_isinstance (pa_cons (pv 1) (pa_cons (pe_bltn (v := .ty "list") (by rfl) B.list boot_list rfl) pa_nil)))))))
        (pss_cons (ps_if (pt_cmpR (op_ne) (pe_callB (call_isi) (by rfl) B.isinstance boot_isinstance (pa_cons (pv 0) (pa_cons (pe_bltn (v := .ty "tuple") (by rfl) B.tuple boot_tuple rfl) pa_nil))) (pe_callB (call_isi) (by rfl) B.isinstance boot_isinstance (pa_cons (pv 1) (pa_cons (pe_bltn (v := .ty "tuple") (by rfl) B.tuple boot_tuple rfl) pa_nil))) (nomark _)) (pss_one (ps_ret pe_bl)) pss_nil)
        (pss_cons (ps_if (PW.pt (pw_or (pt_cmpR (op_ne) (pe_callB (call_isi) (by rfl) B.isinstance boot_isinstance (pa_cons (pv 0) (pa_cons (pe_bltn (v := .ty "list") (by rfl) B.list boot_list rfl) pa_nil))) (pe_callB (call_isi) (by rfl) B.isinstance boot_isinstance (pa_cons (pv 1) (pa_cons (pe_bltn (v := .ty "list") (by rfl) B.list boot_list rfl) pa_nil))) (nomark _)) (pw_or1 (pt_cmpR (op_ne) (pe_callB call_len_seq (by rfl) B.len PySem.boot_len (pa_cons (pv 0) pa_nil)) (pe_callB call_len_seq (by rfl) B.len PySem.boot_len (pa_cons (pv 1) pa_nil)) (nomark _))))) (pss_one (ps_ret pe_bl)) pss_nil)
        (pss_one (ps_ret (pe_cmpR (op_eqD hu) (pe_lc rfl sc_law_like.nd (pi_range1 (by rfl) B.range (pa_cons (pe_callB call_len_seq (by rfl) B.len PySem.boot_len (pa_cons (pv 1) pa_nil)) pa_nil)) (blkOk_by (own := [("_law_k", 2)]) (N := n_law_like) (sc := defScope s_law_like) (by decide +kernel)) (fun _ _ _ _ _ => pg_name (i := 2) sc_law_like.nd rfl (Or.inl rfl))
          (fun _ _ _ _ _ => pts_one (show PT _ _ (tNot (tB (tCall (spLike K n) [] E0 (tCons (tOp (ixLT K) (tVar 0) (tVar 2)) (tCons (tOp (ixLT K) (tVar 1) (tVar 2)) tNil))))) from pt_not (pt_val (pe_at N hr (pa_cons (pe_ix (IxR.or ix_list ix_tup) (pv 0) (pv 2) (fun _ _ => rfl)) (pa_cons (pe_ix (IxR.or ix_list ix_tup) (pv 1) (pv 2) (fun _ _ => rfl)) pa_nil))))))
          (fun _ _ _ _ _ => pv 2)) (pe_lst pa_nil) (nomark _)))))) pss_nil)
      (pss_cons (ps_if (pt_cmpR (op_ne) (pe_callB (call_isi) (by rfl) B.isinstance boot_isinstance (pa_cons (pv 0) (pa_cons (pe_bltn (v := .ty "bool") (by rfl) B.bool boot_bool rfl) pa_nil))) (pe_callB (call_isi) (by rfl) B.isinstance boot_isinstance (pa_cons (pv 1) (pa_cons (pe_bltn (v := .ty "bool") (by rfl) B.bool boot_bool rfl) pa_nil))) (nomark _)) (pss_one (ps_ret pe_bl)) pss_nil)
      (pss_cons (ps_if (PW.pt (pw_or (pt_cmpR (op_ne) (pe_callB (call_isi) (by rfl) B.isinstance boot_isinstance (pa_cons (pv 0) (pa_cons (pe_bltn (v := .ty "int") (by rfl) B.int boot_int rfl) pa_nil))) (pe_callB (call_isi) (by rfl) B.isinstance boot_isinstance (pa_cons (pv 1) (pa_cons (pe_bltn (v := .ty "int") (by rfl) B.int boot_int rfl) pa_nil))) (nomark _)) (pw_or1 (pt_cmpR (op_ne) (pe_callB (call_isi) (by rfl) B.isinstance boot_isinstance (pa_cons (pv 0) (pa_cons (pe_bltn (v := .ty "str") (by rfl) bs boot_str rfl) pa_nil))) (pe_callB (call_isi) (by rfl) B.isinstance boot_isinstance (pa_cons (pv 1) (pa_cons (pe_bltn (v := .ty "str") (by rfl) bs boot_str rfl) pa_nil))) (nomark _))))) (pss_one (ps_ret pe_bl)) pss_nil)
      (pss_one (ps_ret (pe_cmpR (op_eqD hu) (pv 0) (pv 1) (nomark _)))))), ?_⟩
    rcases al with lf | ⟨ds, hd, hl, hall⟩
    · obtain ⟨ty, tb, ti, ts, kt, shp, eqv, dty⟩ := leaf_tyP (K := K) lf
      refine ⟨_, rfl, u, .ty "tuple", _, _, false, rfl, .ty "tuple", (dty _ _ hu' _).1, kt.tup, _, rfl, iteF ?_⟩
      refine ⟨_, rfl, u, .ty "list", _, _, false, rfl, .ty "list", (dty _ _ hu' _).1, kt.lst, _, rfl, iteF ?_⟩
      refine ⟨_, rfl, v, .ty "bool", _, _, tb, rfl, .ty "bool", (dty _ _ hv _).1, kt.bl, _, rfl, u, .ty "bool", _, _, tb, rfl, .ty "bool", (dty _ _ hu' _).1, kt.bl, rfl, _, rfl, ?_⟩
      rw [show (!decide (V.bl tb = V.bl tb)) = false by simp]
      refine iteF ?_
      refine ⟨_, rfl, v, .ty "int", _, _, ti, rfl, .ty "int", (dty _ _ hv _).1, kt.int, _, rfl, u, .ty "int", _, _, ti, rfl, .ty "int", (dty _ _ hu' _).1, kt.int, rfl, _, rfl, ?_⟩
      rw [show (!decide (V.bl ti = V.bl ti)) = false by simp]
      refine iteF ?_
      refine ⟨_, rfl, v, .ty "str", _, _, ts, rfl, .ty "str", (dty _ _ hv _).1, kt.str, _, rfl, u, .ty "str", _, _, ts, rfl, .ty "str", (dty _ _ hu' _).1, kt.str, rfl, _, rfl, ?_⟩
      rw [show (!decide (V.bl ts = V.bl ts)) = false by simp]
      refine iteF ?_
      refine ⟨_, rfl, _, rfl, d, d, (dty _ _ hv _).2, (dty _ _ hu' _).2, shp, shp, ?_⟩
      rw [eqv]
      exact k _ (Same.refl _)
    · obtain ⟨T, tup, kL, kT, seq⟩ := lk_seq (K := K) hd
      obtain ⟨a, xs, rfl, ax, qa⟩ := seq hv
      obtain ⟨b, ys, rfl, by', qb⟩ := seq hu'
      have lx : xs.length = ds.length := DpAll.len ax
      have ly : ys.length = ds.length := DpAll.len by'
      refine ⟨_, rfl, _, .ty "tuple", _, _, tup, rfl, .ty "tuple", (qb _ (Same.refl _)).2, kT, _, rfl, ?_⟩
      have s2 : Same H H := Same.refl _
      cases tup
      case' false => refine iteF ⟨_, rfl, _, .ty "list", _, _, true, rfl, .ty "list", (qb _ (Same.refl _)).2, kL, _, rfl, iteT ?_⟩
      case' true => refine iteT ?_
      all_goals
        refine ⟨_, rfl, _, .ty "tuple", _, _, _, rfl, .ty "tuple", (qa _ s2).2, kT, _, rfl, _, .ty "tuple", _, _, _, rfl, .ty "tuple", (qb _ s2).2, kT, rfl, _, rfl, ?_⟩
        refine iteF ?_
        refine ⟨_, rfl, _, .ty "list", _, _, _, rfl, .ty "list", (qa _ s2).2, kL, _, rfl, _, .ty "list", _, _, _, rfl, .ty "list", (qb _ s2).2, kL, rfl, _, rfl, ?_⟩
        refine iteF ?_
        refine ⟨_, rfl, a, xs, rfl, (qa _ s2).1, _, rfl, b, ys, rfl, (qb _ s2).1, rfl, _, rfl, ?_⟩
        rw [lx, ly, show (!decide (V.int (ds.length : Int) = V.int (ds.length : Int))) = false by simp]
        refine iteF ?_
        refine ⟨_, rfl, b, ys, rfl, (qb _ s2).1, (ys.length : Int), rfl, by omega, by omega, fun D nD => ?_⟩
        rw [show ((ys.length : Int)).toNat = ds.length by omega]
        refine lc_range (lo := 0) (n := ds.length) (fun j H3 => But D H H3 ∧ H3 D = some (.lst [])) ⟨but_upd, upd_same⟩ ?_ ?_
        · rintro j H3 hj ⟨bu, eD⟩
          have sm : Same H H3 := s2.trans (But.same bu nD)
          obtain ⟨d', hd'⟩ : ∃ d', ds[j]? = some d' := ⟨ds[j], by simp [hj]⟩
          obtain ⟨v', hv', dv⟩ := DpAll.get ax hd'
          obtain ⟨u', hu2, du⟩ := DpAll.get by' hd'
          refine ⟨rfl, _, rfl, _, rfl, ?_⟩
          rw [Int.zero_add]
          refine ix_lt (qa _ sm).1 hv' ⟨_, rfl, _, rfl, ix_lt (qb _ sm).1 hu2 ⟨v', u', d', rfl, Dp.same sm dv, Dp.same sm du, hall _ (List.mem_of_getElem? hd'), fun H4 s4 => ⟨_, rfl, ?_⟩⟩⟩
          refine iteF ⟨bu.trans (Same.but s4 D), s4 _ _ eD⟩
        · rintro H3 ⟨bu, eD⟩
          refine ⟨by show 0 ≤ sizeLine; decide, fun e ne => ⟨.list [], .list [], .lst (SqL.of (same_new ne _ _ eD)) .nil, .lst (SqL.of upd_same) .nil, rfl, rfl, ?_⟩⟩
          rw [show PyData.eqv (.list []) (.list []) = true from by simp [PyData.eqv, PyData.eqvAll]]
          exact k _ ((s2.trans (But.same bu nD)).trans (same_new ne))
theorem ok_like {f : Addr} {fd : FuncData} (D : DefAt K mg "_law_like" s_law_like ["_law_found", "_law_due"] f fd) (B : Blt mg) (bs : mg "str" = none) : ∀ n, At P w K mg base CX0 (n + 1) "_law_like" ["_law_found", "_law_due"] (spLike K n) f fd
  | 0 => D.at (ok_like0 D.fn B bs)
  | n + 1 => D.at (ok_likeS D.fn B bs (ok_like D B bs n))
end
/-! ### whether a result is an error -/
def spIsErr (K : PySem.W.Frag) : Sp := fun vs H Q _ => ∃ v, vs = [v] ∧ ((∃ t, TyX K H v (.type t) ∧ PySem.W.kitOne K (.type t) (.type "tuple") = some false ∧ Q (.bl false) H) ∨
  ∃ a x rest, v = .ref a ∧ SqT K H a (.str "error" :: x :: rest) ∧ ∀ H', Same H H' → Q (.bl true) H')
section
variable {P : Program} {w : World} {K : PySem.W.Frag} {mg : Str → Option Value} {base : Heap}
theorem ok_isErr {f : Addr} {fd : FuncData} (F : Fun K "_law_is_error" "_law_is_error" s_law_is_error f fd) (B : Blt mg) : FnOk P w K mg base CX0 1 f fd ["_law_due"] (spIsErr K) := by
  refine F.ok sc_law_is_error (fun vs H Q E h => ?_) (fun cdv A outer s H vs Q E hr h => ?_)
  · obtain ⟨v, rfl, _⟩ := h
    rfl
  · obtain ⟨v, rfl, h⟩ := h
    have hu := hr.units
    refine ⟨_, pss_one (ps_ret (pe_and (pe_callB (call_isi) (by rfl) B.isinstance boot_isinstance (pa_cons (pv 0) (pa_cons (pe_bltn (v := .ty "tuple") (by rfl) B.tuple boot_tuple rfl) pa_nil))) (pe_one (pe_cmpR (op_eqD hu) (pe_slice sl_tupA (pv 0) po_none (po_some pe_int)) (pe_tup (pa_cons (pe_str) pa_nil)) (nomark _))))), ?_⟩
    rcases h with ⟨t, ty, no, k⟩ | ⟨a, x, rest, rfl, hT, k⟩
    · exact ⟨_, rfl, _, _, _, _, false, rfl, .ty "tuple", ty, no, false, rfl, iteF k⟩
    · refine ⟨_, rfl, _, _, _, _, true, rfl, .ty "tuple", tyT hT, kit_ty (by decide +kernel), true, rfl, iteT ?_⟩
      refine ⟨_, rfl, 1, rfl, a, _, rfl, hT, fun h => absurd h.2 ?_, fun _ p np => ?_⟩
      · show ¬ (min 1 (rest.length + 2) = rest.length + 2)
        omega
      · refine ⟨by show 1 ≤ sizeLine; decide, fun t nt => ⟨.tuple [.str "error"], .tuple [.str "error"], .tup (SqT.of (same_new nt _ _ upd_same)) (.cons (.str _) .nil), .tup (SqT.of upd_same) (.cons (.str _) .nil), by decide +kernel, by decide +kernel, ?_⟩⟩
        rw [show PyData.eqv (.tuple [.str "error"]) (.tuple [.str "error"]) = true from by decide +kernel]
        exact k _ ((same_new np).trans (same_new nt))
end
/-! ### one operation, by the method of its name -/
def spActX (K : PySem.W.Frag) (Z : ClsE) (D : Addr) : Sp := LvX K D fun q xs ss n rest H Q E => ∃ o ow, rest = [.ref o] ∧ SqT K H o (owV ow) ∧ plainW ow ∧ n + 1 < 900 ∧
  (∀ op, owE (curr ss n) ow = .inl op → ∀ v H', But q H H' → ResAt xs (curr ss n) H' v op → (∀ z, v = .ref z → H z = none) → LiveAt K H' q D xs (newSteps xs ss n [op]) (n + 1) → Q v H') ∧
  ∀ e, owE (curr ss n) ow = .inr e → ErrAt Z E H e
section
variable {P : Program} {w : World} {K : PySem.W.Frag} {mg : Str → Option Value} {base : Heap}
theorem ok_actX {f D gP gL gT : Addr} {fd dP dL dT : FuncData} {Z : ClsE} (F : Fun K "_law_act" "_law_act" s_law_act f fd) (cL : ClsL K D)
    (HP : Meth K D "push" gP) (FP : FnOk P w K mg base (L2.CX P w) 6 gP dP ["self", "stone", "side"] (spOpX K Z D isPushW)) (bP : Binds K dP ["self", "stone", "side"] [])
    (HL : Meth K D "lift" gL) (FL : FnOk P w K mg base (L2.CX P w) 6 gL dL ["self", "stone"] (spOpX K Z D isLiftW)) (bL : Binds K dL ["self", "stone"] [])
    (HT : Meth K D "take" gT) (FT : FnOk P w K mg base (L2.CX P w) 6 gT dT ["self", "stone"] (spOpX K Z D isTakeW)) (bT : Binds K dT ["self", "stone"] []) :
    FnOk P w K mg base (L2.CX P w) 7 f fd ["_law_live", "_law_operation"] (spActX K Z D) := by
  refine F.okX sc_law_act (fun vs H Q E h => ?_) (fun cdv A outer s H vs Q E hr h => ?_)
  · obtain ⟨q, xs, ss, n, rest, rfl, _, _, o, ow, rfl, _⟩ := h
    rfl
  · obtain ⟨q, xs, ss, n, rest, rfl, hL, p, o, ow, rfl, hO, hp, hn, k, er⟩ := h
    obtain ⟨dx, t, st, o1, k1, k2, us, ws, hX⟩ := id hL
    refine ⟨_, pss_cons (ps_if (pt_cmpR (op_eq) (pe_ix ix_tup (pv 1) (pe_int) (fun _ _ => rfl)) (pe_str) (nomark _)) (pss_one (ps_ret (pe_meth (pv 0) cL.cl HP FP hr bP .nil (passE (takes_of rfl rfl rfl rfl)) (pa_cons (pe_ix ix_tup (pv 1) (pe_int) (fun _ _ => rfl)) (pa_cons (pe_ix ix_tup (pv 1) (pe_int) (fun _ _ => rfl)) pa_nil))))) pss_nil)
      (pss_one (ps_ret (pe_ifExp (pt_cmpR (op_eq) (pe_ix ix_tup (pv 1) (pe_int) (fun _ _ => rfl)) (pe_str) (nomark _)) (pe_meth (pv 0) cL.cl HL FL hr bL .nil (passE (takes_of rfl rfl rfl rfl)) (pa_cons (pe_ix ix_tup (pv 1) (pe_int) (fun _ _ => rfl)) pa_nil)) (pe_meth (pv 0) cL.cl HT FT hr bT .nil (passE (takes_of rfl rfl rfl rfl)) (pa_cons (pe_ix ix_tup (pv 1) (pe_int) (fun _ _ => rfl)) pa_nil))))), ?_⟩
    refine ⟨_, rfl, o, _, ((0 : Nat) : Int), _, rfl, rfl, hO, atI_nat (j := 0) (owV_at0 ow), rfl, _, rfl, ?_⟩
    cases ow with
    | push v sv =>
      refine iteT ⟨_, rfl, q, dx, _, rfl, hX.at_, rfl, _, rfl, o, _, ((1 : Nat) : Int), _, rfl, rfl, hO, atI_nat (j := 1) rfl, _, rfl, o, _, ((2 : Nat) : Int), _, rfl, rfl, hO, atI_nat (j := 2) rfl, ?_⟩
      exact ⟨q, xs, ss, n, _, rfl, hL, p, _, ⟨_, _, rfl⟩, rfl, hp, hn, k, er⟩
    | lift v =>
      refine iteF ⟨_, rfl, o, _, ((0 : Nat) : Int), _, rfl, rfl, hO, atI_nat (j := 0) rfl, rfl, _, rfl, ?_⟩
      refine iteT ⟨_, rfl, q, dx, _, rfl, hX.at_, rfl, _, rfl, o, _, ((1 : Nat) : Int), _, rfl, rfl, hO, atI_nat (j := 1) rfl, ?_⟩
      exact ⟨q, xs, ss, n, _, rfl, hL, p, _, ⟨_, rfl⟩, rfl, hp, hn, k, er⟩
    | take v =>
      refine iteF ⟨_, rfl, o, _, ((0 : Nat) : Int), _, rfl, rfl, hO, atI_nat (j := 0) rfl, rfl, _, rfl, ?_⟩
      refine iteF ⟨_, rfl, q, dx, _, rfl, hX.at_, rfl, _, rfl, o, _, ((1 : Nat) : Int), _, rfl, rfl, hO, atI_nat (j := 1) rfl, ?_⟩
      exact ⟨q, xs, ss, n, _, rfl, hL, p, _, ⟨_, rfl⟩, rfl, hp, hn, k, er⟩
end
/-! ### the law's random operation -/
def spDeed (K : PySem.W.Frag) : Sp := fun vs H Q _ => ∃ (L a : Addr) (ns : List Int) (n : Nat) (b : Bool), vs = [.ref L, .int (n : Nat), .int (if b then 1 else 0)] ∧ Drw K H L a ns ∧ n ≤ 40 ∧
  ∀ T ow H', Drw K H' L a ns → But L H H' → H T = none → SqT K H' T (owV ow) → plainW ow → Q (.ref T) H'
section
variable {P : Program} {w : World} {K : PySem.W.Frag} {mg : Str → Option Value} {base : Heap}
theorem ok_deed {f g1 g2 : Addr} {fd d1 d2 : FuncData} (F : Fun K "_law_deed" "_law_deed" s_law_deed f fd) (B : Blt mg) (N1 : At P w K mg base CX0 1 "_law_next" ["_law_dice_here", "_law_many"] (spNext K) g1 d1)
    (N2 : At P w K mg base CX0 2 "_law_pick" ["_law_d", "_law_some"] (spPick K) g2 d2) : FnOk P w K mg base CX0 3 f fd ["_law_d", "_law_size", "_law_odd"] (spDeed K) := by
  refine F.ok sc_law_deed (fun vs H Q E h => ?_) (fun cdv A outer s H vs Q E hr h => ?_)
  · obtain ⟨L, a, ns, n, b, rfl, _⟩ := h
    rfl
  · obtain ⟨L, a, ns, n, b, rfl, D, hn, k⟩ := h
    have r1 : Room 1 _ := hr.mono (by decide)
    refine ⟨_, pss_cons (ps_set (i := 3) sc_law_deed.nd rfl (Or.inl rfl) (pe_at N2 hr (pa_cons (pv 0) (pa_cons (pe_op op_cat (pe_op op_rep (pe_lst (pa_cons (pe_at N1 r1 (pa_cons (pv 0) (pa_cons (pe_callB ((call_max2 rfl)) (by rfl) B.max boot_max (pa_cons (pe_int) (pa_cons (pv 1) pa_nil))) pa_nil))) pa_nil)) pe_int) (pe_op op_rep (pe_lst (pa_cons (pe_un un_neg pe_int) (pa_cons (pv 1) (pa_cons (pe_non) (pa_cons (pe_bl) (pa_cons (pe_str) pa_nil)))))) (pv 2))) pa_nil))))
      (pss_cons (ps_set (i := 4) sc_law_deed.nd rfl (Or.inl rfl) (pe_at N1 r1 (pa_cons (pv 0) (pa_cons (pe_int) pa_nil))))
      (pss_cons (ps_if (pt_cmpR (op_lt) (pv 4) (pe_int) (nomark _)) (pss_one (ps_ret (pe_tup (pa_cons (pe_str) (pa_cons (pv 3) (pa_cons (pe_at N2 hr (pa_cons (pv 0) (pa_cons (pe_op op_cat (pe_lst (pa_cons (pe_str) (pa_cons (pe_str) (pa_cons (pe_str) (pa_cons (pe_str) pa_nil))))) (pe_op op_rep (pe_lst (pa_cons (pe_str) (pa_cons (pe_non) (pa_cons (pe_int) pa_nil)))) (pv 2))) pa_nil))) pa_nil)))))) pss_nil)
      (pss_one (ps_ret (pe_ifExp (pt_cmpR (op_lt) (pv 4) (pe_int) (nomark _)) (pe_tup (pa_cons (pe_str) (pa_cons (pv 3) pa_nil))) (pe_tup (pa_cons (pe_str) (pa_cons (pv 3) pa_nil)))))))), ?_⟩
    have c0 := D.cell
    obtain ⟨yL, eL⟩ := c0.list
    -- the stone
    refine ⟨_, rfl, _, rfl, _, rfl, 1, (n : Int), rfl, L, a, ns, _, rfl, by split <;> omega, by split <;> omega, D, fun m H1 m0 m1 D1 b1 => ?_⟩
    refine ⟨by show 1 ≤ sizeLine; decide, fun l1 n1 => ?_⟩
    refine ⟨l1, 4, [V.int m], rfl, rfl, upd_same, by decide, by decide, by show 1 * 4 ≤ sizeLine; decide, fun l2 n2 => ?_⟩
    have i2 : ∀ c : Bool, (if c then (1 : Int) else 0).toNat = if c then 1 else 0 := fun c => by cases c <;> rfl
    have i3 : ∀ c : Bool, -(2 ^ 63) ≤ (if c then (1 : Int) else 0) ∧ (if c then (1 : Int) else 0) < 2 ^ 63 := fun c => by cases c <;> decide
    have sz1 : ∀ x y : V, [x, y, .non, .bl true, .str "0"].length * (if b then 1 else 0) ≤ sizeLine := fun x y => by
      cases b with
      | false => show 5 * 0 ≤ sizeLine; decide
      | true => show 5 * 1 ≤ sizeLine; decide
    have sz2 : ∀ x y : V, [V.int m, V.int m, V.int m, V.int m].length + (List.replicate (if b then 1 else 0) [x, y, .non, .bl true, .str "0"]).flatten.length ≤ sizeLine := fun x y => by
      cases b with
      | false => show 4 + 0 ≤ sizeLine; decide
      | true => show 4 + 5 ≤ sizeLine; decide
    have sz3 : ∀ x y : V, ([V.int m, V.int m, V.int m, V.int m] ++ (List.replicate (if b then 1 else 0) [x, y, .non, .bl true, .str "0"]).flatten).length ≤ 1000 := fun x y => by
      cases b with
      | false => show 4 ≤ 1000; decide
      | true => show 9 ≤ 1000; decide
    have e2 : (upd (upd H1 l1 (.lst [V.int m])) l2 (.lst (List.replicate (4 : Int).toNat [V.int m]).flatten)) l2 = some (.lst [V.int m, V.int m, V.int m, V.int m]) := upd_same
    have s2 := (same_new (o := .lst [V.int m]) n1).trans (same_new (o := .lst (List.replicate (4 : Int).toNat [V.int m]).flatten) n2)
    generalize upd (upd H1 l1 (.lst [V.int m])) l2 (.lst (List.replicate (4 : Int).toNat [V.int m]).flatten) = H2 at s2 e2
    refine ⟨1, rfl, _, rfl, by show 5 ≤ sizeLine; decide, fun l3 n3 => ?_⟩
    refine ⟨_, rfl, l3, _, _, rfl, rfl, upd_same, (i3 b).1, (i3 b).2, by rw [i2]; exact sz1 _ _, fun l4 n4 => ?_⟩
    rw [i2]
    have s4 := (same_new (o := .lst [V.int (-1), V.int (n : Nat), V.non, V.bl true, V.str "0"]) n3).trans (same_new (o := .lst (List.replicate (if b then 1 else 0) [V.int (-1), V.int (n : Nat), V.non, V.bl true, V.str "0"]).flatten) n4)
    refine ⟨l2, l4, _, _, rfl, rfl, s4 _ _ e2, upd_same, sz2 _ _, fun l5 n5 => ?_⟩
    have s5 := s4.trans (same_new (o := .lst ([V.int m, V.int m, V.int m, V.int m] ++ (List.replicate (if b then 1 else 0) [V.int (-1), V.int (n : Nat), V.non, V.bl true, V.str "0"]).flatten)) n5)
    have D5 := D1.up (s2.trans s5)
    have b5 : But L H _ := b1.trans (Same.but (s2.trans s5) L)
    have pl1 : ∀ u ∈ [V.int m, V.int m, V.int m, V.int m] ++ (List.replicate (if b then 1 else 0) [V.int (-1), V.int (n : Nat), V.non, V.bl true, V.str "0"]).flatten, plainV u := by
      intro u hu
      cases b <;> simp at hu <;> (first | (rcases hu with rfl | rfl | rfl | rfl | rfl | rfl) | subst hu) <;> first | exact True.intro | (show PyData.strOk "0" = true; decide +kernel)
    refine ⟨L, a, l5, ns, _, rfl, D5, upd_same, fun e => ?_, by simp, sz3 _ _, fun v i H6 hv D6 b6 => ?_⟩
    · obtain ⟨ys, q⟩ := D5.cell.list
      obtain ⟨ys', q'⟩ := (D1.up (s2.trans s4)).cell.list
      rw [← e, n5] at q'
      cases q'
    have hpv : plainV v := pl1 _ (List.mem_of_getElem? hv)
    have b06 := b5.trans b6
    -- which one
    refine ⟨_, rfl, L, a, ns, 6, rfl, by decide, by decide, D6, fun m7 H7 m70 m71 D7 b7 => ?_⟩
    have b07 := b06.trans b7
    have fr : ∀ {Hx : Hp} {T : Addr}, But L H Hx → Drw K Hx L a ns → Hx T = none → H T = none := fun {Hx T} b d e => by
      obtain ⟨ys, q⟩ := d.cell.list
      have ne : T ≠ L := fun z => by rw [z, q] at e; cases e
      cases h : H T with
      | none => rfl
      | some o => rw [b _ _ ne h] at e; cases e
    refine ⟨_, rfl, _, _, rfl, rfl, _, rfl, ?_⟩
    refine ite2 (fun q => ?_) (fun q => ?_)
    · refine ⟨_, rfl, _, rfl, by show 4 ≤ sizeLine; decide, fun l6 n6 => ⟨by show 3 ≤ sizeLine; decide, fun l7 n7 => ?_⟩⟩
      refine ⟨_, rfl, l7, _, _, rfl, rfl, upd_same, (i3 b).1, (i3 b).2, by rw [i2]; cases b <;> decide, fun l8 n8 => ?_⟩
      rw [i2]
      have s6 := same_new (o := .lst [V.str "left", V.str "right", V.str "left", V.str "right"]) n6
      have s8 := (same_new (o := .lst [V.str "up", V.non, V.int 5]) n7).trans (same_new (o := .lst (List.replicate (if b then 1 else 0) [V.str "up", V.non, V.int 5]).flatten) n8)
      refine ⟨l6, l8, _, _, rfl, rfl, s8 _ _ upd_same, upd_same, by cases b <;> decide, fun l9 n9 => ?_⟩
      have s9 := s8.trans (same_new (o := .lst ([V.str "left", V.str "right", V.str "left", V.str "right"] ++ (List.replicate (if b then 1 else 0) [V.str "up", V.non, V.int 5]).flatten)) n9)
      have D9 := D7.up (s6.trans s9)
      have b9 : But L H _ := b07.trans (Same.but (s6.trans s9) L)
      have pl2 : ∀ u ∈ [V.str "left", V.str "right", V.str "left", V.str "right"] ++ (List.replicate (if b then 1 else 0) [V.str "up", V.non, V.int 5]).flatten, plainV u := by
        intro u hu
        have k1 : PyData.strOk "left" = true := by decide +kernel
        have k2 : PyData.strOk "right" = true := by decide +kernel
        have k3 : PyData.strOk "up" = true := by decide +kernel
        cases b <;> simp at hu
        · rcases hu with rfl | rfl | rfl | rfl <;> assumption
        · rcases hu with rfl | rfl | rfl | rfl | rfl | rfl | rfl <;> first | assumption | exact True.intro
      refine ⟨L, a, l9, ns, _, rfl, D9, upd_same, fun e => ?_, by simp, by cases b <;> decide, fun v2 i2 H10 hv2 D10 b10 => ?_⟩
      · obtain ⟨ys', q'⟩ := (D7.up (s6.trans s8)).cell.list
        rw [← e, n9] at q'
        cases q'
      have hp2 : plainV v2 := pl2 _ (List.mem_of_getElem? hv2)
      have b010 := b9.trans b10
      refine ⟨by show 3 ≤ sizeLine; decide, fun T nT => k T (.push v v2) _ (D10.up (same_new nT)) (b010.new nT) (fr b010 D10 nT) (SqT.of upd_same) ⟨hpv, hp2⟩⟩
    · refine ⟨_, rfl, _, _, rfl, rfl, _, rfl, ?_⟩
      refine ite2 (fun q => ?_) (fun q => ?_)
      · refine ⟨_, rfl, by show 2 ≤ sizeLine; decide, fun T nT => k T (.lift v) _ (D7.up (same_new nT)) (b07.new nT) (fr b07 D7 nT) (SqT.of upd_same) hpv⟩
      · refine ⟨_, rfl, by show 2 ≤ sizeLine; decide, fun T nT => k T (.take v) _ (D7.up (same_new nT)) (b07.new nT) (fr b07 D7 nT) (SqT.of upd_same) hpv⟩
end
/-! ### hit by hit: mathematics -/
def far (x y : Int × Int) (r : Bool) : Int := if r then y.1 - x.1 else x.1 - y.1
def hitB (xs : List (Int × Int)) (r : Bool) (m o : Nat) : Bool := match xs[m]?, xs[o]? with
  | some x, some y => decide (0 < far x y r) && decide (far x y r ≤ x.2)
  | _, _ => false
abbrev Wave := List (Nat × Nat) × List Nat
def stepIn (xs : List (Int × Int)) (r : Bool) (t m : Nat) (st : Wave) (o : Nat) : Wave := if hitB xs r m o = true ∧ o ∉ st.1.map (·.1) then (st.1 ++ [(o, t)], st.2 ++ [o]) else st
def stepLv (xs : List (Int × Int)) (S : List Nat) (r : Bool) (t : Nat) (st : Wave) (m : Nat) : Wave := S.foldl (stepIn xs r t m) st
def level (xs : List (Int × Int)) (S : List Nat) (r : Bool) (t : Nat) (st : Wave) : Wave := st.2.foldl (stepLv xs S r t) (st.1, [])
def iter (xs : List (Int × Int)) (S : List Nat) (r : Bool) (i : Nat) : Nat → Wave
  | 0 => ([(i, 0)], [i])
  | t + 1 => level xs S r (t + 1) (iter xs S r i t)
structure Prog (xs : List (Int × Int)) (r : Bool) (fs : List (Nat × Nat)) (t : Nat) (D : Nat → Nat → Prop) (st : Wave) : Prop where
  eq : st.1 = fs ++ st.2.map fun o => (o, t)
  nd : (st.1.map (·.1)).Nodup
  wh : ∀ o ∈ st.2, ∃ m, D m o ∧ hitB xs r m o = true
  al : ∀ m o, D m o → hitB xs r m o = true → o ∈ st.1.map (·.1)
theorem Prog.step {xs : List (Int × Int)} {r : Bool} {fs : List (Nat × Nat)} {t m o : Nat} {D : Nat → Nat → Prop} {st : Wave} (h : Prog xs r fs t D st) : Prog xs r fs t (fun m' o' => D m' o' ∨ (m' = m ∧ o' = o)) (stepIn xs r t m st o) := by
  unfold stepIn
  split
  · rename_i hc
    refine ⟨?_, ?_, ?_, ?_⟩
    · show st.1 ++ [(o, t)] = fs ++ (st.2 ++ [o]).map fun o => (o, t)
      rw [h.eq]; simp
    · show ((st.1 ++ [(o, t)]).map (·.1)).Nodup
      rw [List.map_append, List.nodup_append]
      refine ⟨h.nd, by simp, ?_⟩
      intro a ha b hb e
      simp at hb
      subst hb e
      exact hc.2 ha
    · intro o' ho'
      rcases List.mem_append.mp ho' with z | z
      · obtain ⟨m', h1, h2⟩ := h.wh o' z
        exact ⟨m', .inl h1, h2⟩
      · simp at z
        subst z
        exact ⟨m, .inr ⟨rfl, rfl⟩, hc.1⟩
    · intro m' o' hd hh
      show o' ∈ (st.1 ++ [(o, t)]).map (·.1)
      rw [List.map_append]
      rcases hd with hd | ⟨rfl, rfl⟩
      · exact List.mem_append_left _ (h.al m' o' hd hh)
      · exact List.mem_append_right _ (by simp)
  · rename_i hc
    refine ⟨h.eq, h.nd, fun o' ho' => ?_, fun m' o' hd hh => ?_⟩
    · obtain ⟨m', h1, h2⟩ := h.wh o' ho'
      exact ⟨m', .inl h1, h2⟩
    · rcases hd with hd | ⟨rfl, rfl⟩
      · exact h.al m' o' hd hh
      · exact Classical.byContradiction fun z => hc ⟨hh, z⟩
theorem Prog.imp {xs : List (Int × Int)} {r : Bool} {fs : List (Nat × Nat)} {t : Nat} {D D' : Nat → Nat → Prop} {st : Wave} (h : Prog xs r fs t D st) (e : ∀ m o, D m o ↔ D' m o) : Prog xs r fs t D' st :=
  ⟨h.eq, h.nd, fun o ho => let ⟨m, h1, h2⟩ := h.wh o ho; ⟨m, (e m o).mp h1, h2⟩, fun m o hd => h.al m o ((e m o).mpr hd)⟩
theorem Prog.row {xs : List (Int × Int)} {r : Bool} {fs : List (Nat × Nat)} {t m : Nat} : ∀ (S : List Nat) {D : Nat → Nat → Prop} {st : Wave}, Prog xs r fs t D st → Prog xs r fs t (fun m' o' => D m' o' ∨ (m' = m ∧ o' ∈ S)) (S.foldl (stepIn xs r t m) st)
  | [], D, st, h => h.imp fun m' o' => by simp
  | o :: S, D, st, h => (Prog.row S (h.step (m := m) (o := o))).imp fun m' o' => by
      simp only [List.mem_cons]
      constructor
      · rintro ((h | ⟨a, b⟩) | ⟨a, b⟩)
        · exact .inl h
        · exact .inr ⟨a, .inl b⟩
        · exact .inr ⟨a, .inr b⟩
      · rintro (h | ⟨a, b | b⟩)
        · exact .inl (.inl h)
        · exact .inl (.inr ⟨a, b⟩)
        · exact .inr ⟨a, b⟩
theorem Prog.all {xs : List (Int × Int)} {S : List Nat} {r : Bool} {fs : List (Nat × Nat)} {t : Nat} : ∀ (lv : List Nat) {D : Nat → Nat → Prop} {st : Wave}, Prog xs r fs t D st → Prog xs r fs t (fun m' o' => D m' o' ∨ (m' ∈ lv ∧ o' ∈ S)) (lv.foldl (stepLv xs S r t) st)
  | [], D, st, h => h.imp fun m' o' => by simp
  | m :: lv, D, st, h => (Prog.all lv (h.row (m := m) S)).imp fun m' o' => by
      simp only [List.mem_cons]
      constructor
      · rintro ((h | ⟨a, b⟩) | ⟨a, b⟩)
        · exact .inl h
        · exact .inr ⟨.inl a, b⟩
        · exact .inr ⟨.inr a, b⟩
      · rintro (h | ⟨a | a, b⟩)
        · exact .inl (.inl h)
        · exact .inl (.inr ⟨a, b⟩)
        · exact .inr ⟨a, b⟩
theorem level_spec {xs : List (Int × Int)} {S : List Nat} {r : Bool} {fs : List (Nat × Nat)} {lv : List Nat} {t : Nat} (nd : (fs.map (·.1)).Nodup) :
    (level xs S r t (fs, lv)).1 = fs ++ (level xs S r t (fs, lv)).2.map (fun o => (o, t)) ∧ ((level xs S r t (fs, lv)).1.map (·.1)).Nodup ∧
    ∀ o, o ∈ (level xs S r t (fs, lv)).2 ↔ (o ∉ fs.map (·.1) ∧ o ∈ S ∧ ∃ m ∈ lv, hitB xs r m o = true) := by
  have p0 : Prog xs r fs t (fun _ _ => False) (fs, []) := ⟨by simp, nd, fun o h => (nomatch h), fun m o h => h.elim⟩
  have p := (Prog.all (S := S) lv p0)
  have e : lv.foldl (stepLv xs S r t) (fs, []) = level xs S r t (fs, lv) := rfl
  rw [e] at p
  refine ⟨p.eq, p.nd, fun o => ⟨fun h => ?_, fun ⟨h1, h2, m, h3, h4⟩ => ?_⟩⟩
  · obtain ⟨m, hd, hh⟩ := p.wh o h
    rcases hd with hd | ⟨hm, hS⟩
    · exact hd.elim
    · refine ⟨fun hf => ?_, hS, m, hm, hh⟩
      have nd2 := p.nd
      rw [p.eq, List.map_append, List.nodup_append] at nd2
      refine nd2.2.2 o hf o ?_ rfl
      rw [List.map_map]
      exact List.mem_map.mpr ⟨o, h, rfl⟩
  · have := p.al m o (.inr ⟨h3, h2⟩) h4
    rw [p.eq, List.map_append, List.mem_append] at this
    rcases this with z | z
    · exact absurd z h1
    · rw [List.map_map] at z
      obtain ⟨o', z1, z2⟩ := List.mem_map.mp z
      have : o' = o := z2
      rw [← this]
      exact z1
/-- reached within so many ticks -/
def RB (xs : List (Int × Int)) (S : List Nat) (r : Bool) (i : Nat) : Nat → Nat → Prop
  | 0, j => j = i
  | t + 1, j => RB xs S r i t j ∨ ∃ m, RB xs S r i t m ∧ j ∈ S ∧ hitB xs r m j = true
/-- reached first in this tick -/
def Fst (xs : List (Int × Int)) (S : List Nat) (r : Bool) (i u j : Nat) : Prop := RB xs S r i u j ∧ ∀ v, v < u → ¬ RB xs S r i v j
section
variable {xs : List (Int × Int)} {S : List Nat} {r : Bool} {i : Nat}
theorem RB.up {t u j : Nat} (h : RB xs S r i t j) (e : t ≤ u) : RB xs S r i u j := by
  induction u with
  | zero =>
    obtain rfl : t = 0 := by omega
    exact h
  | succ u ih =>
    by_cases q : t = u + 1
    · rw [← q]; exact h
    · exact .inl (ih (by omega))
theorem RB.first {t j : Nat} (h : RB xs S r i t j) : ∃ u, u ≤ t ∧ Fst xs S r i u j := by
  induction t using Nat.strongRecOn with
  | ind t ih =>
    by_cases q : ∃ v, v < t ∧ RB xs S r i v j
    · obtain ⟨v, h1, h2⟩ := q
      obtain ⟨u, h3, h4⟩ := ih v h1 h2
      exact ⟨u, by omega, h4⟩
    · exact ⟨t, Nat.le_refl _, h, fun v hv z => q ⟨v, hv, z⟩⟩
theorem Fst.eq {u v j : Nat} (a : Fst xs S r i u j) (b : Fst xs S r i v j) : u = v := by
  rcases Nat.lt_trichotomy u v with h | h | h
  · exact absurd a.1 (b.2 u h)
  · exact h
  · exact absurd b.1 (a.2 v h)
theorem iter_spec (t : Nat) : ((iter xs S r i t).1.map (·.1)).Nodup ∧ (∀ j u, (j, u) ∈ (iter xs S r i t).1 ↔ u ≤ t ∧ Fst xs S r i u j) ∧ ∀ j, j ∈ (iter xs S r i t).2 ↔ Fst xs S r i t j := by
  induction t with
  | zero =>
    refine ⟨by simp [iter], fun j u => ?_, fun j => ?_⟩
    · show (j, u) ∈ [(i, 0)] ↔ _
      rw [List.mem_singleton, Prod.mk.injEq]
      constructor
      · rintro ⟨rfl, rfl⟩
        exact ⟨Nat.le_refl _, rfl, fun v h => absurd h (Nat.not_lt_zero _)⟩
      · rintro ⟨h, h1, _⟩
        obtain rfl : u = 0 := by omega
        exact ⟨h1, rfl⟩
    · show j ∈ [i] ↔ _
      rw [List.mem_singleton]
      exact ⟨fun h => ⟨h, fun v h => absurd h (Nat.not_lt_zero _)⟩, fun h => h.1⟩
  | succ t ih =>
    obtain ⟨nd, hf, hl⟩ := ih
    have e : iter xs S r i (t + 1) = level xs S r (t + 1) ((iter xs S r i t).1, (iter xs S r i t).2) := rfl
    obtain ⟨q1, q2, q3⟩ := level_spec (xs := xs) (S := S) (r := r) (t := t + 1) (lv := (iter xs S r i t).2) nd
    rw [← e] at q1 q2 q3
    have key : ∀ j, j ∈ (iter xs S r i t).1.map (·.1) ↔ RB xs S r i t j := by
      intro j
      constructor
      · intro h
        obtain ⟨⟨j', u⟩, h1, rfl⟩ := List.mem_map.mp h
        obtain ⟨h2, h3⟩ := (hf j' u).mp h1
        exact h3.1.up h2
      · intro h
        obtain ⟨u, h1, h2⟩ := h.first
        exact List.mem_map.mpr ⟨(j, u), (hf j u).mpr ⟨h1, h2⟩, rfl⟩
    have lv : ∀ j, j ∈ (iter xs S r i (t + 1)).2 ↔ Fst xs S r i (t + 1) j := by
      intro j
      rw [q3 j, key j]
      constructor
      · rintro ⟨h1, h2, m, h3, h4⟩
        exact ⟨.inr ⟨m, ((hl m).mp h3).1, h2, h4⟩, fun v hv z => h1 (z.up (by omega))⟩
      · rintro ⟨h1, h2⟩
        have n := h2 t (Nat.lt_succ_self _)
        rcases h1 with h1 | ⟨m, h3, h4, h5⟩
        · exact absurd h1 n
        · refine ⟨n, h4, m, (hl m).mpr ?_, h5⟩
          obtain ⟨u, h6, h7⟩ := h3.first
          by_cases q : u = t
          · rw [← q]; exact h7
          · exact absurd (RB.up (t := u + 1) (.inr ⟨m, h7.1, h4, h5⟩) (by omega)) n
    refine ⟨q2, fun j u => ?_, lv⟩
    rw [q1, List.mem_append, hf j u]
    constructor
    · rintro (⟨h1, h2⟩ | h)
      · exact ⟨by omega, h2⟩
      · obtain ⟨o, h1, h2⟩ := List.mem_map.mp h
        cases h2
        exact ⟨Nat.le_refl _, (lv _).mp h1⟩
    · rintro ⟨h1, h2⟩
      by_cases q : u = t + 1
      · subst q
        exact .inr (List.mem_map.mpr ⟨j, (lv j).mpr h2, rfl⟩)
      · exact .inl ⟨by omega, h2⟩
theorem iter_sub (t : Nat) : ∀ j ∈ (iter xs S r i t).1.map (·.1), j = i ∨ j ∈ S := by
  intro j hj
  obtain ⟨⟨j', u⟩, h1, rfl⟩ := List.mem_map.mp hj
  obtain ⟨_, h3⟩ := ((iter_spec t).2.1 j' u).mp h1
  have : ∀ n k, RB xs S r i n k → k = i ∨ k ∈ S := by
    intro n
    induction n with
    | zero => intro k h; exact .inl h
    | succ n ih =>
      intro k h
      rcases h with h | ⟨m, _, h, _⟩
      · exact ih k h
      · exact .inr h
  exact this _ _ h3.1
theorem nodup_len {l m : List Nat} (h : l.Nodup) (s : ∀ x ∈ l, x ∈ m) : l.length ≤ m.length := by
  induction l generalizing m with
  | nil => simp
  | cons a l ih =>
    have hm := s a (by simp)
    have hn := List.nodup_cons.mp h
    have := ih (m := m.erase a) hn.2 fun x hx => by
      have : x ≠ a := fun e => hn.1 (e ▸ hx)
      exact (List.mem_erase_of_ne this).mpr (s x (by simp [hx]))
    rw [List.length_erase_of_mem hm] at this
    have : 0 < m.length := List.length_pos_of_mem hm
    simp
    omega
theorem iter_len (t : Nat) : (iter xs S r i t).1.length ≤ S.length + 1 := by
  have := nodup_len (l := (iter xs S r i t).1.map (·.1)) (m := i :: S) (iter_spec t).1 fun x hx => by
    rcases iter_sub t x hx with h | h
    · simp [h]
    · simp [h]
  simpa using this
/-- what falls as the turns go on: each round is longer, or is the last one -/
def meas (cap : Nat) (st : Wave) : Nat := 2 * (cap - st.1.length) + (if st.2 = [] then 0 else 1)
theorem iter_meas (t : Nat) (h : (iter xs S r i t).2 ≠ []) : meas (S.length + 1) (iter xs S r i (t + 1)) < meas (S.length + 1) (iter xs S r i t) := by
  have e : iter xs S r i (t + 1) = level xs S r (t + 1) ((iter xs S r i t).1, (iter xs S r i t).2) := rfl
  obtain ⟨q1, _, _⟩ := level_spec (xs := xs) (S := S) (r := r) (t := t + 1) (lv := (iter xs S r i t).2) (iter_spec t).1
  rw [← e] at q1
  have l1 := congrArg List.length q1
  rw [List.length_append, List.length_map] at l1
  have l2 := iter_len (xs := xs) (S := S) (r := r) (i := i) (t + 1)
  unfold meas
  rw [if_neg h]
  split
  · rename_i z
    rw [z] at l1
    simp at l1
    omega
  · rename_i z
    have : 0 < (iter xs S r i (t + 1)).2.length := List.length_pos_iff.mpr z
    omega
theorem iter_done {t : Nat} (h : (iter xs S r i t).2 = []) : ∀ n j, RB xs S r i n j → RB xs S r i t j := by
  intro n
  induction n with
  | zero => intro j hj; exact RB.up (t := 0) hj (Nat.zero_le _)
  | succ n ih =>
    intro j hj
    rcases hj with hj | ⟨m, h1, h2, h3⟩
    · exact ih j hj
    · obtain ⟨u, h4, h5⟩ := (ih m h1).first
      by_cases q : u = t
      · subst q
        have := ((iter_spec (xs := xs) (S := S) (r := r) (i := i) u).2.2 m).mpr h5
        rw [h] at this
        cases this
      · exact RB.up (t := u + 1) (.inr ⟨m, h5.1, h2, h3⟩) (by omega)
theorem iter_end {t : Nat} (h : (iter xs S r i t).2 = []) (j u : Nat) : (j, u) ∈ (iter xs S r i t).1 ↔ Fst xs S r i u j := by
  rw [(iter_spec t).2.1 j u]
  constructor
  · exact fun z => z.2
  · intro z
    refine ⟨?_, z⟩
    rcases Nat.lt_or_ge t u with q | q
    · exact absurd (iter_done h u j z.1) (z.2 t q)
    · exact q
end
/-! ### runs: mathematics -/
/-- places rise -/
def Inc (xs : List (Int × Int)) : Prop := ∀ (a b : Nat) (x y : Int × Int), a < b → xs[a]? = some x → xs[b]? = some y → x.1 < y.1
theorem Wf.inc : ∀ {xs : List (Int × Int)} {lo : Int}, Wf lo xs → Inc xs
  | [], _, _ => fun a b x y _ h => by simp at h
  | z :: xs, lo, w => fun a b x y hab hx hy => by
    cases b with
    | zero => omega
    | succ b =>
      simp at hy
      cases a with
      | zero =>
        simp at hx
        subst hx
        have := Wf.low w.2.2.2.2 hy
        omega
      | succ a =>
        simp at hx
        exact Wf.inc w.2.2.2.2 a b x y (by omega) hx hy
/-- place and height -/
def pl (xs : List (Int × Int)) (k : Nat) : Int := (xs.getD k (0, 0)).1
def ht (xs : List (Int × Int)) (k : Nat) : Int := (xs.getD k (0, 0)).2
theorem pl_of {xs : List (Int × Int)} {k : Nat} {x : Int × Int} (h : xs[k]? = some x) : pl xs k = x.1 ∧ ht xs k = x.2 := by
  unfold pl ht
  rw [List.getD_eq_getElem?_getD, h]
  exact ⟨rfl, rfl⟩
theorem Inc.pl {xs : List (Int × Int)} (h : Inc xs) {a b : Nat} (hab : a < b) (hb : b < xs.length) : pl xs a < pl xs b := by
  have ha : a < xs.length := by omega
  have e1 : xs[a]? = some xs[a] := by simp [ha]
  have e2 : xs[b]? = some xs[b] := by simp [hb]
  rw [(pl_of e1).1, (pl_of e2).1]
  exact h a b _ _ hab e1 e2
/-- m hits o on the side r -/
def Hit (xs : List (Int × Int)) (r : Bool) (m o : Nat) : Prop := m < xs.length ∧ o < xs.length ∧ (r = true → m < o ∧ pl xs o ≤ pl xs m + ht xs m) ∧ (r = false → o < m ∧ pl xs m ≤ pl xs o + ht xs m)
theorem hit_iff {xs : List (Int × Int)} (h : Inc xs) {r : Bool} {m o : Nat} : hitB xs r m o = true ↔ Hit xs r m o := by
  unfold hitB Hit
  by_cases hm : m < xs.length
  · by_cases ho : o < xs.length
    · have e1 : xs[m]? = some xs[m] := by simp [hm]
      have e2 : xs[o]? = some xs[o] := by simp [ho]
      rw [e1, e2]
      obtain ⟨p1, t1⟩ := pl_of e1
      obtain ⟨p2, _⟩ := pl_of e2
      rw [p1, p2, t1]
      simp only [hm, ho, true_and, Bool.and_eq_true, decide_eq_true_eq]
      have cmp : m < o ↔ (xs[m]).1 < (xs[o]).1 := by
        constructor
        · exact fun q => h m o _ _ q e1 e2
        · intro q
          rcases Nat.lt_trichotomy m o with z | z | z
          · exact z
          · subst z; omega
          · have := h o m _ _ z e2 e1; omega
      have cmp2 : o < m ↔ (xs[o]).1 < (xs[m]).1 := by
        constructor
        · exact fun q => h o m _ _ q e2 e1
        · intro q
          rcases Nat.lt_trichotomy m o with z | z | z
          · have := h m o _ _ z e1 e2; omega
          · subst z; omega
          · exact z
      cases r with
      | true =>
        unfold far
        simp only [if_true, forall_const, Bool.true_eq_false, false_implies, and_true]
        rw [cmp]
        omega
      | false =>
        unfold far
        simp only [Bool.false_eq_true, if_false, false_implies, true_and, forall_const]
        rw [cmp2]
        omega
    · have e2 : xs[o]? = none := by simp; omega
      rw [e2]
      constructor
      · intro q
        cases e1 : xs[m]? <;> rw [e1] at q <;> cases q
      · exact fun q => absurd q.2.1 ho
  · have e1 : xs[m]? = none := by simp; omega
    rw [e1]
    exact ⟨fun q => (nomatch q), fun q => absurd q.1 hm⟩
/-- how far the reach goes, told stone by stone -/
def dst (xs : List (Int × Int)) (p0 : Int) (k : Nat) : Int := ab (pl xs k - p0)
theorem mx_le {a b c : Int} : c ≤ mx a b ↔ c ≤ a ∨ c ≤ b := by unfold mx; split <;> omega
theorem scan_spec {xs : List (Int × Int)} {sd : List Bool} {p0 : Int} (up : ∀ o, o < xs.length → sd[o]? = some true) : ∀ (os : List Nat) (R : Int), (∀ o ∈ os, o < xs.length) →
    (∀ a o, a < (scan xs sd p0 R os).length → os[a]? = some o → dst xs p0 o ≤ R ∨ ∃ b u, b < a ∧ os[b]? = some u ∧ dst xs p0 o ≤ dst xs p0 u + ht xs u) ∧
    (∀ o, os[(scan xs sd p0 R os).length]? = some o → R < dst xs p0 o ∧ ∀ b u, b < (scan xs sd p0 R os).length → os[b]? = some u → dst xs p0 u + ht xs u < dst xs p0 o)
  | [], R, _ => ⟨fun a o _ h => by simp at h, fun o h => by simp at h⟩
  | o :: os, R, hlt => by
    have ho := hlt o (by simp)
    have e1 : xs[o]? = some xs[o] := by simp [ho]
    obtain ⟨p1, t1⟩ := pl_of e1
    have ed : dst xs p0 o = ab ((xs[o]).1 - p0) := by unfold dst; rw [p1]
    have es : scan xs sd p0 R (o :: os) = if ab ((xs[o]).1 - p0) > R then [] else o :: scan xs sd p0 (mx R (ab ((xs[o]).1 - p0) + (xs[o]).2)) os := by
      conv => lhs; unfold scan
      rw [e1]
      simp only [up o ho, if_true]
    rw [es]
    by_cases hg : ab ((xs[o]).1 - p0) > R
    · rw [if_pos hg]
      refine ⟨fun a o' h => absurd h (Nat.not_lt_zero _), fun o' h => ?_⟩
      simp at h
      subst h
      exact ⟨by rw [ed]; exact hg, fun b u h => absurd h (Nat.not_lt_zero _)⟩
    · rw [if_neg hg, ← ed, ← t1]
      obtain ⟨ih1, ih2⟩ := scan_spec (xs := xs) (sd := sd) (p0 := p0) up os (mx R (dst xs p0 o + ht xs o)) fun z hz => hlt z (by simp [hz])
      refine ⟨fun a o' h e => ?_, fun o' e => ?_⟩
      · cases a with
        | zero =>
          simp at e
          subst e
          exact .inl (by rw [ed]; omega)
        | succ a =>
          simp at e h
          rcases ih1 a o' h e with q | ⟨b, u, q1, q2, q3⟩
          · rcases mx_le.mp q with q | q
            · exact .inl q
            · exact .inr ⟨0, o, by omega, rfl, q⟩
          · exact .inr ⟨b + 1, u, by omega, by simpa using q2, q3⟩
      · simp at e
        obtain ⟨q1, q2⟩ := ih2 o' e
        have n1 : ¬ dst xs p0 o' ≤ mx R (dst xs p0 o + ht xs o) := by omega
        rw [mx_le] at n1
        refine ⟨by omega, fun b u h e' => ?_⟩
        cases b with
        | zero =>
          simp at e'
          subst e'
          omega
        | succ b =>
          simp at e' h
          exact q2 b u h e'
structure RunR (xs : List (Int × Int)) (i e : Nat) : Prop where
  le : i ≤ e
  lt : e < xs.length
  by_ : ∀ j, i < j → j ≤ e → ∃ m, i ≤ m ∧ m < j ∧ Hit xs true m j
  no : ∀ m j, i ≤ m → m ≤ e → e < j → ¬ Hit xs true m j
structure RunL (xs : List (Int × Int)) (i f : Nat) : Prop where
  le : f ≤ i
  lt : i < xs.length
  by_ : ∀ j, f ≤ j → j < i → ∃ m, j < m ∧ m ≤ i ∧ Hit xs false m j
  no : ∀ m j, f ≤ m → m ≤ i → j < f → ¬ Hit xs false m j
theorem besideR_get {i n a : Nat} (h : a < n - (i + 1)) : (beside true i n)[a]? = some (i + 1 + a) := by
  unfold beside
  rw [if_pos rfl, List.getElem?_map, List.getElem?_range h]
  rfl
theorem besideL_get {i n a : Nat} (h : a < i) : (beside false i n)[a]? = some (i - 1 - a) := by
  unfold beside
  rw [if_neg (by decide), List.getElem?_map, List.getElem?_range h]
  rfl
theorem reach_eq {xs : List (Int × Int)} {i : Nat} {r : Bool} (hi : i < xs.length) : reachN xs i r = (scan xs (allUp xs.length) (pl xs i) (ht xs i) (beside r i xs.length)).length := by
  have e1 : xs[i]? = some xs[i] := by simp [hi]
  obtain ⟨p1, t1⟩ := pl_of e1
  rw [p1, t1]
  unfold reachN felled
  rw [e1]
  simp
theorem runR {xs : List (Int × Int)} (h : Inc xs) {i : Nat} (hi : i < xs.length) : RunR xs i (run xs i true).2 := by
  have hle := reach_le (r := true) hi
  rw [besideR_len] at hle
  obtain ⟨s1, s2⟩ := scan_spec (xs := xs) (sd := allUp xs.length) (p0 := pl xs i) (fun o ho => allUp_get ho) (beside true i xs.length) (ht xs i) (beside_lt hi)
  rw [← reach_eq hi] at s1 s2
  show RunR xs i (i + reachN xs i true)
  generalize reachN xs i true = c at hle s1 s2
  have dR : ∀ k, i ≤ k → k < xs.length → dst xs (pl xs i) k = pl xs k - pl xs i := by
    intro k h1 h2
    unfold dst ab
    rcases Nat.lt_or_ge i k with q | q
    · have := h.pl q h2
      rw [if_neg (by omega)]
    · obtain rfl : k = i := by omega
      simp
  refine ⟨by omega, by omega, fun j h1 h2 => ?_, fun m j h1 h2 h3 hh => ?_⟩
  · have ej : (beside true i xs.length)[j - (i + 1)]? = some j := by rw [besideR_get (by omega)]; congr 1; omega
    have dj := dR j (by omega) (by omega)
    rcases s1 (j - (i + 1)) j (by omega) ej with q | ⟨b, u, q1, q2, q3⟩
    · exact ⟨i, Nat.le_refl _, h1, hi, by omega, fun _ => ⟨h1, by omega⟩, fun z => nomatch z⟩
    · rw [besideR_get (by omega)] at q2
      obtain rfl : i + 1 + b = u := Option.some.inj q2
      have du := dR (i + 1 + b) (by omega) (by omega)
      exact ⟨i + 1 + b, by omega, by omega, by omega, by omega, fun _ => ⟨by omega, by omega⟩, fun z => nomatch z⟩
  · obtain ⟨hm, hj, hr, _⟩ := hh
    obtain ⟨_, hr⟩ := hr rfl
    obtain ⟨q1, q2⟩ := s2 (i + 1 + c) (besideR_get (by omega))
    have dc := dR (i + 1 + c) (by omega) (by omega)
    have pj : pl xs (i + 1 + c) ≤ pl xs j := by
      rcases Nat.lt_or_ge (i + 1 + c) j with z | z
      · exact Int.le_of_lt (h.pl z hj)
      · obtain rfl : j = i + 1 + c := by omega
        exact Int.le_refl _
    rcases Nat.lt_or_ge i m with z | z
    · have q3 := q2 (m - (i + 1)) m (by omega) (by rw [besideR_get (by omega)]; congr 1; omega)
      have dm := dR m (by omega) (by omega)
      omega
    · obtain rfl : m = i := by omega
      omega
theorem runL {xs : List (Int × Int)} (h : Inc xs) {i : Nat} (hi : i < xs.length) : RunL xs i (run xs i false).1 := by
  have hle := reach_le (r := false) hi
  rw [besideL_len] at hle
  obtain ⟨s1, s2⟩ := scan_spec (xs := xs) (sd := allUp xs.length) (p0 := pl xs i) (fun o ho => allUp_get ho) (beside false i xs.length) (ht xs i) (beside_lt hi)
  rw [← reach_eq hi] at s1 s2
  show RunL xs i (i - reachN xs i false)
  generalize reachN xs i false = c at hle s1 s2
  have dR : ∀ k, k ≤ i → dst xs (pl xs i) k = pl xs i - pl xs k := by
    intro k h1
    unfold dst ab
    rcases Nat.lt_or_ge k i with q | q
    · have := h.pl q hi
      rw [if_pos (by omega)]
      omega
    · obtain rfl : k = i := by omega
      simp
  refine ⟨by omega, hi, fun j h1 h2 => ?_, fun m j h1 h2 h3 hh => ?_⟩
  · have ej : (beside false i xs.length)[i - 1 - j]? = some j := by rw [besideL_get (by omega)]; congr 1; omega
    have dj := dR j (by omega)
    rcases s1 (i - 1 - j) j (by omega) ej with q | ⟨b, u, q1, q2, q3⟩
    · exact ⟨i, h2, Nat.le_refl _, hi, by omega, fun z => (nomatch z), fun _ => ⟨h2, by omega⟩⟩
    · rw [besideL_get (by omega)] at q2
      obtain rfl : i - 1 - b = u := Option.some.inj q2
      have du := dR (i - 1 - b) (by omega)
      exact ⟨i - 1 - b, by omega, by omega, by omega, by omega, fun z => (nomatch z), fun _ => ⟨by omega, by omega⟩⟩
  · obtain ⟨hm, hj, _, hr⟩ := hh
    obtain ⟨_, hr⟩ := hr rfl
    obtain ⟨q1, q2⟩ := s2 (i - 1 - c) (besideL_get (by omega))
    have dc := dR (i - 1 - c) (by omega)
    have pj : pl xs j ≤ pl xs (i - 1 - c) := by
      rcases Nat.lt_or_ge j (i - 1 - c) with z | z
      · exact Int.le_of_lt (h.pl z (by omega))
      · obtain rfl : j = i - 1 - c := by omega
        exact Int.le_refl _
    rcases Nat.lt_or_ge m i with z | z
    · have q3 := q2 (i - 1 - m) m (by omega) (by rw [besideL_get (by omega)]; congr 1; omega)
      have dm := dR m (by omega)
      omega
    · obtain rfl : m = i := by omega
      omega
/-! ### pushes one after another: mathematics -/
def Reach (xs : List (Int × Int)) (S : List Nat) (r : Bool) (i j : Nat) : Prop := ∃ n, RB xs S r i n j
section
variable {xs : List (Int × Int)} {S T : List Nat} {r : Bool} {i : Nat}
theorem Reach.refl : Reach xs S r i i := ⟨0, rfl⟩
theorem Reach.step (hx : Inc xs) {m j : Nat} (h : Reach xs S r i m) (hj : j ∈ S) (hh : Hit xs r m j) : Reach xs S r i j := let ⟨n, h⟩ := h; ⟨n + 1, .inr ⟨m, h, hj, (hit_iff hx).mpr hh⟩⟩
theorem Reach.ind (hx : Inc xs) {P : Nat → Prop} (h0 : P i) (hs : ∀ m j, Reach xs S r i m → P m → j ∈ S → Hit xs r m j → P j) {j : Nat} (h : Reach xs S r i j) : P j := by
  obtain ⟨n, h⟩ := h
  induction n generalizing j with
  | zero => obtain rfl : j = i := h; exact h0
  | succ n ih =>
    rcases h with h | ⟨m, h1, h2, h3⟩
    · exact ih h
    · exact hs m j ⟨n, h1⟩ (ih h1) h2 ((hit_iff hx).mp h3)
theorem Reach.fst {j : Nat} : Reach xs S r i j ↔ ∃ u, Fst xs S r i u j :=
  ⟨fun ⟨_, h⟩ => let ⟨u, _, h2⟩ := h.first; ⟨u, h2⟩, fun ⟨u, h⟩ => ⟨u, h.1⟩⟩
noncomputable def after (xs : List (Int × Int)) (S : List Nat) (r : Bool) (i : Nat) : List Nat := S.filter fun j => @decide (¬ Reach xs S r i j) (Classical.propDecidable _)
theorem mem_after {j : Nat} : j ∈ after xs S r i ↔ j ∈ S ∧ ¬ Reach xs S r i j := by
  unfold after
  rw [List.mem_filter]
  exact ⟨fun h => ⟨h.1, @of_decide_eq_true _ (Classical.propDecidable _) h.2⟩, fun h => ⟨h.1, @decide_eq_true _ (Classical.propDecidable _) h.2⟩⟩
theorem right_ge (hx : Inc xs) {j : Nat} (h : Reach xs S true i j) : i ≤ j :=
  Reach.ind hx (P := fun j => i ≤ j) (Nat.le_refl _) (fun m j _ hm _ hh => Nat.le_trans hm (Nat.le_of_lt (hh.2.2.1 rfl).1)) h
theorem left_le (hx : Inc xs) {j : Nat} (h : Reach xs S false i j) : j ≤ i :=
  Reach.ind hx (P := fun j => j ≤ i) (Nat.le_refl _) (fun m j _ hm _ hh => Nat.le_trans (Nat.le_of_lt (hh.2.2.2 rfl).1) hm) h
theorem in_right (hx : Inc xs) {e j : Nat} (R : RunR xs i e) (h : Reach xs S true i j) : j ≤ e :=
  Reach.ind hx (P := fun j => j ≤ e) R.le (fun m j hr hm _ hh => by
    rcases Nat.lt_or_ge e j with q | q
    · exact absurd hh (R.no m j (right_ge hx hr) hm q)
    · exact q) h
theorem in_left (hx : Inc xs) {l f j : Nat} (R : RunL xs l f) (h1 : f ≤ i) (h2 : i ≤ l) (h : Reach xs S false i j) : f ≤ j :=
  Reach.ind hx (P := fun j => f ≤ j) h1 (fun m j hr hm _ hh => by
    rcases Nat.lt_or_ge j f with q | q
    · exact absurd hh (R.no m j hm (Nat.le_trans (left_le hx hr) h2) q)
    · exact q) h
theorem all_right (hx : Inc xs) {e e' : Nat} (R : RunR xs i e) (he : e' ≤ e) (hS : ∀ j, i < j → j ≤ e' → j ∈ S) : ∀ j, i ≤ j → j ≤ e' → Reach xs S true i j := by
  intro j
  induction j using Nat.strongRecOn with
  | ind j ih =>
    intro h1 h2
    by_cases q : j = i
    · subst q; exact .refl
    · obtain ⟨m, q1, q2, q3⟩ := R.by_ j (by omega) (by omega)
      exact (ih m q2 q1 (by omega)).step hx (hS j (by omega) h2) q3
theorem all_left (hx : Inc xs) {f : Nat} (R : RunL xs i f) (hS : ∀ j, f ≤ j → j < i → j ∈ S) : ∀ d j, f ≤ j → j ≤ i → i - j = d → Reach xs S false i j := by
  intro d
  induction d using Nat.strongRecOn with
  | ind d ih =>
    intro j h1 h2 hd
    by_cases q : j = i
    · subst q; exact .refl
    · obtain ⟨m, q1, q2, q3⟩ := R.by_ j h1 (by omega)
      exact (ih (i - m) (by omega) m (by omega) q2 rfl).step hx (hS j h1 (by omega)) q3
theorem cross_left (hx : Inc xs) {s j : Nat} (hs : s ∈ S) (hi : s ≤ i) (h : Reach xs S false i j) : j < s → Reach xs S false i s :=
  Reach.ind hx (P := fun j => j < s → Reach xs S false i s) (fun q => absurd q (by omega)) (fun m j hr ih _ hh hj => by
    rcases Nat.lt_trichotomy m s with q | q | q
    · exact ih q
    · exact q ▸ hr
    · obtain ⟨h1, h2, _, h3⟩ := hh
      obtain ⟨h3, h4⟩ := h3 rfl
      have := hx.pl hj (by omega)
      exact hr.step hx hs ⟨h1, by omega, fun z => (nomatch z), fun _ => ⟨q, by omega⟩⟩) h
theorem cross_right (hx : Inc xs) {s j : Nat} (hs : s ∈ S) (hi : i ≤ s) (h : Reach xs S true i j) : s ≤ j → Reach xs S true i s :=
  Reach.ind hx (P := fun j => s ≤ j → Reach xs S true i s) (fun q => by
    have e : s = i := by omega
    rw [e]
    exact .refl) (fun m j hr ih _ hh hj => by
    rcases Nat.lt_or_ge m s with q | q
    · obtain ⟨h1, h2, h3, _⟩ := hh
      obtain ⟨h3, h4⟩ := h3 rfl
      have : pl xs s ≤ pl xs j := by
        rcases Nat.lt_or_ge s j with z | z
        · exact Int.le_of_lt (hx.pl z h2)
        · obtain rfl : s = j := by omega
          exact Int.le_refl _
      exact hr.step hx hs ⟨h1, by omega, fun _ => ⟨q, by omega⟩, fun z => (nomatch z)⟩
    · exact ih q) h
end
/-! ### ticks, one stone after another -/
/-- so many stones beside stone i -/
def bpos (r : Bool) (i d : Nat) : Nat := if r then i + d else i - d
def bmax (r : Bool) (i n : Nat) : Nat := if r then n - (i + 1) else i
theorem beside_at {r : Bool} {i n k : Nat} (h : k < bmax r i n) : (beside r i n)[k]? = some (bpos r i (k + 1)) := by
  cases r with
  | true =>
    have h : k < n - (i + 1) := h
    rw [besideR_get h]
    show some (i + 1 + k) = some (i + (k + 1))
    congr 1; omega
  | false =>
    have h : k < i := h
    rw [besideL_get h]
    show some (i - 1 - k) = some (i - (k + 1))
    congr 1; omega
theorem beside_length (r : Bool) (i n : Nat) : (beside r i n).length = bmax r i n := by cases r <;> simp [beside, bmax]
def touch (xs : List (Int × Int)) (m o : Nat) : Bool := decide (ab (pl xs o - pl xs m) ≤ ht xs m)
theorem touch_hit {xs : List (Int × Int)} (h : Inc xs) {r : Bool} {i d e : Nat} (hi : i < xs.length) (hd : d < e) (he : e ≤ bmax r i xs.length) : touch xs (bpos r i d) (bpos r i e) = true ↔ Hit xs r (bpos r i d) (bpos r i e) := by
  unfold touch
  rw [decide_eq_true_eq]
  cases r with
  | true =>
    have he : e ≤ xs.length - (i + 1) := he
    show ab (pl xs (i + e) - pl xs (i + d)) ≤ ht xs (i + d) ↔ Hit xs true (i + d) (i + e)
    have := h.pl (a := i + d) (b := i + e) (by omega) (by omega)
    constructor
    · intro q
      unfold ab at q
      refine ⟨by omega, by omega, fun _ => ⟨by omega, ?_⟩, fun z => nomatch z⟩
      split at q <;> omega
    · intro q
      have := (q.2.2.1 rfl).2
      unfold ab
      split <;> omega
  | false =>
    have he : e ≤ i := he
    show ab (pl xs (i - e) - pl xs (i - d)) ≤ ht xs (i - d) ↔ Hit xs false (i - d) (i - e)
    have := h.pl (a := i - e) (b := i - d) (by omega) (by omega)
    constructor
    · intro q
      unfold ab at q
      refine ⟨by omega, by omega, (fun z => nomatch z), fun _ => ⟨by omega, ?_⟩⟩
      split at q <;> omega
    · intro q
      have := (q.2.2.2 rfl).2
      unfold ab
      split <;> omega
theorem hit_ahead {xs : List (Int × Int)} {r : Bool} {i m e : Nat} (he : e ≤ bmax r i xs.length) (q : Hit xs r m (bpos r i e)) (hm : ∃ d, d ≤ bmax r i xs.length ∧ m = bpos r i d) : ∃ d, d < e ∧ m = bpos r i d := by
  obtain ⟨d, hd, rfl⟩ := hm
  refine ⟨d, ?_, rfl⟩
  cases r with
  | true =>
    have := (q.2.2.1 rfl).1
    have this : i + d < i + e := this
    omega
  | false =>
    have := (q.2.2.2 rfl).1
    have this : i - e < i - d := this
    omega
theorem rb_pos {xs : List (Int × Int)} (h : Inc xs) {r : Bool} {i t j : Nat} (hi : i < xs.length) (q : RB xs (List.range xs.length) r i t j) : ∃ d, d ≤ bmax r i xs.length ∧ j = bpos r i d := by
  have hr : Reach xs (List.range xs.length) r i j := ⟨t, q⟩
  have hj : j < xs.length := by
    cases t with
    | zero => obtain rfl : j = i := q; exact hi
    | succ t =>
      refine Reach.ind h (P := fun j => j < xs.length) hi (fun m j _ _ hj _ => List.mem_range.mp hj) hr
  cases r with
  | true =>
    have := right_ge h hr
    exact ⟨j - i, by show j - i ≤ xs.length - (i + 1); omega, by show j = i + (j - i); omega⟩
  | false =>
    have := left_le h hr
    exact ⟨i - j, by show i - j ≤ i; omega, by show j = i - (i - j); omega⟩
theorem bpos_lt {r : Bool} {i n d : Nat} (hi : i < n) (hd : d ≤ bmax r i n) : bpos r i d < n := by
  cases r with
  | true => have hd : d ≤ n - (i + 1) := hd; show i + d < n; omega
  | false => show i - d < n; omega
theorem bpos_inj {r : Bool} {i n d e : Nat} (hd : d ≤ bmax r i n) (he : e ≤ bmax r i n) (q : bpos r i d = bpos r i e) : d = e := by
  cases r with
  | true => have q : i + d = i + e := q; omega
  | false => have q : i - d = i - e := q; have hd : d ≤ i := hd; have he : e ≤ i := he; omega
/-! ### what fell, sorted -/
theorem run_keys {xs : List (Int × Int)} (hx : Inc xs) {r : Bool} {i j : Nat} (hi : i < xs.length) : Reach xs (List.range xs.length) r i j ↔ (run xs i r).1 ≤ j ∧ j ≤ (run xs i r).2 := by
  cases r with
  | true =>
    have R := runR hx hi
    constructor
    · intro h
      exact ⟨right_ge hx h, in_right hx R h⟩
    · rintro ⟨h1, h2⟩
      exact all_right hx R (Nat.le_refl _) (fun j _ h => List.mem_range.mpr (Nat.lt_of_le_of_lt h R.lt)) j h1 h2
  | false =>
    have R := runL hx hi
    constructor
    · intro h
      exact ⟨in_left hx R R.le (Nat.le_refl _) h, left_le hx h⟩
    · rintro ⟨h1, h2⟩
      exact all_left hx R (fun j _ h => List.mem_range.mpr (Nat.lt_trans h hi)) _ j h1 h2 rfl
theorem run_bounds {xs : List (Int × Int)} (hx : Inc xs) {r : Bool} {i : Nat} (hi : i < xs.length) : (run xs i r).1 ≤ i ∧ i ≤ (run xs i r).2 ∧ (run xs i r).2 < xs.length := by
  cases r with
  | true => have R := runR hx hi; exact ⟨Nat.le_refl _, R.le, R.lt⟩
  | false => have R := runL hx hi; exact ⟨R.le, Nat.le_refl _, hi⟩
theorem rgV_rise {f e : Nat} (h : f ≤ e) : rgV (f : Int) ((e : Int) + 1) = (rise f (e - f)).map V.int := by
  unfold rgV rise
  rw [List.map_map]
  have : ((e : Int) + 1 - (f : Int)).toNat = e - f + 1 := by omega
  rw [this]
  exact List.map_congr_left fun k _ => congrArg V.int (show (f : Int) + (k : Int) = ((f + k : Nat) : Int) by omega)
theorem rgV_nat (n : Nat) : rgV 0 (n : Int) = ivs (List.range n) := by
  unfold rgV ivs
  have e : ((n : Int) - 0).toNat = n := by omega
  rw [e]
  exact List.map_congr_left fun k _ => congrArg V.int (by omega)
theorem sideS_inj {r r' : Bool} (h : V.str (sideS r) = V.str (sideS r')) : r = r' := by
  cases r <;> cases r' <;> first | rfl | (exact absurd h (by decide +kernel))
theorem int_inj {i j : Nat} (h : V.int (i : Int) = V.int (j : Int)) : i = j := by injection h with h; omega
theorem numB_idx {i n : Nat} (h : i < n) : numB (.int (i : Int)) 0 ((n : Int) - 1) = true := by
  show (decide (0 ≤ (i : Int)) && decide ((i : Int) ≤ (n : Int) - 1)) = true
  rw [decide_eq_true (by omega), decide_eq_true (by omega)]
  rfl
/-! ### which stones fall when some are taken away -/
def dsb (xs : List (Int × Int)) (r : Bool) (i d : Nat) : Int := ab (pl xs (bpos r i d) - pl xs i)
theorem dsb_up {xs : List (Int × Int)} (h : Inc xs) {r : Bool} {i d e : Nat} (hi : i < xs.length) (hd : d < e) (he : e ≤ bmax r i xs.length) : dsb xs r i d < dsb xs r i e := by
  unfold dsb
  cases r with
  | true =>
    have he : e ≤ xs.length - (i + 1) := he
    show ab (pl xs (i + d) - pl xs i) < ab (pl xs (i + e) - pl xs i)
    have h1 := h.pl (a := i + d) (b := i + e) (by omega) (by omega)
    have h2 : pl xs i ≤ pl xs (i + d) := by
      rcases Nat.eq_zero_or_pos d with rfl | hp
      · exact Int.le_refl _
      · have := h.pl (a := i) (b := i + d) (by omega) (by omega); omega
    unfold ab
    split <;> split <;> omega
  | false =>
    have he : e ≤ i := he
    show ab (pl xs (i - d) - pl xs i) < ab (pl xs (i - e) - pl xs i)
    have h1 := h.pl (a := i - e) (b := i - d) (by omega) (by omega)
    have h2 : pl xs (i - d) ≤ pl xs i := by
      rcases Nat.eq_zero_or_pos d with rfl | hp
      · exact Int.le_refl _
      · have := h.pl (a := i - d) (b := i) (by omega) (by omega); omega
    unfold ab
    split <;> split <;> omega
theorem hit_dist {xs : List (Int × Int)} (h : Inc xs) {r : Bool} {i d e : Nat} (hi : i < xs.length) (hd : d < e) (he : e ≤ bmax r i xs.length) : Hit xs r (bpos r i d) (bpos r i e) ↔ dsb xs r i e ≤ dsb xs r i d + ht xs (bpos r i d) := by
  rw [← touch_hit h hi hd he]
  unfold touch
  rw [decide_eq_true_eq]
  have key : ab (pl xs (bpos r i e) - pl xs (bpos r i d)) = dsb xs r i e - dsb xs r i d := by
    unfold dsb
    cases r with
    | true =>
      have he : e ≤ xs.length - (i + 1) := he
      show ab (pl xs (i + e) - pl xs (i + d)) = ab (pl xs (i + e) - pl xs i) - ab (pl xs (i + d) - pl xs i)
      have h1 := h.pl (a := i + d) (b := i + e) (by omega) (by omega)
      have h2 : pl xs i ≤ pl xs (i + d) := by
        rcases Nat.eq_zero_or_pos d with rfl | hp
        · exact Int.le_refl _
        · have := h.pl (a := i) (b := i + d) (by omega) (by omega); omega
      unfold ab
      split <;> split <;> split <;> omega
    | false =>
      have he : e ≤ i := he
      show ab (pl xs (i - e) - pl xs (i - d)) = ab (pl xs (i - e) - pl xs i) - ab (pl xs (i - d) - pl xs i)
      have h1 := h.pl (a := i - e) (b := i - d) (by omega) (by omega)
      have h2 : pl xs (i - d) ≤ pl xs i := by
        rcases Nat.eq_zero_or_pos d with rfl | hp
        · exact Int.le_refl _
        · have := h.pl (a := i - d) (b := i) (by omega) (by omega); omega
      unfold ab
      split <;> split <;> split <;> omega
  rw [key]
  omega
theorem hit_pos {xs : List (Int × Int)} {r : Bool} {i d j : Nat} (hi : i < xs.length) (hd : d ≤ bmax r i xs.length) (q : Hit xs r (bpos r i d) j) : ∃ e, d < e ∧ e ≤ bmax r i xs.length ∧ j = bpos r i e := by
  cases r with
  | true =>
    have h1 : i + d < j := (q.2.2.1 rfl).1
    exact ⟨j - i, by omega, by have := q.2.1; show j - i ≤ xs.length - (i + 1); omega, by show j = i + (j - i); omega⟩
  | false =>
    have h1 : j < i - d := (q.2.2.2 rfl).1
    exact ⟨i - j, by omega, by show i - j ≤ i; omega, by show j = i - (i - j); omega⟩
theorem bpos_zero (r : Bool) (i : Nat) : bpos r i 0 = i := by cases r <;> rfl
theorem reach_pos {xs : List (Int × Int)} (h : Inc xs) {S : List Nat} {r : Bool} {i j : Nat} (hi : i < xs.length) (q : Reach xs S r i j) : ∃ d, d ≤ bmax r i xs.length ∧ j = bpos r i d ∧ (d = 0 ∨ j ∈ S) := by
  refine Reach.ind h (P := fun j => ∃ d, d ≤ bmax r i xs.length ∧ j = bpos r i d ∧ (d = 0 ∨ j ∈ S)) ⟨0, Nat.zero_le _, (bpos_zero r i).symm, .inl rfl⟩ (fun m j _ hm hj hh => ?_) q
  obtain ⟨d, hd, rfl, _⟩ := hm
  obtain ⟨e, _, he, rfl⟩ := hit_pos hi hd hh
  exact ⟨e, he, rfl, .inr hj⟩
theorem scan_sub (xs : List (Int × Int)) (sd : List Bool) (p0 : Int) : ∀ (os : List Nat) (R : Int) (o : Nat), o ∈ scan xs sd p0 R os → o ∈ os
  | [], R, o => by simp [scan]
  | q :: os, R, o => by
    unfold scan
    split
    · intro z; cases z
    · split
      · intro z; cases z
      · split
        · intro z
          rcases List.mem_cons.mp z with rfl | z
          · exact List.mem_cons_self
          · exact List.mem_cons_of_mem _ (scan_sub xs sd p0 os _ o z)
        · exact fun z => List.mem_cons_of_mem _ (scan_sub xs sd p0 os _ o z)
theorem beside_drop {r : Bool} {i n k : Nat} (h : k < bmax r i n) : (beside r i n).drop k = bpos r i (k + 1) :: (beside r i n).drop (k + 1) := drop_get (beside_at h)
theorem mem_drop {r : Bool} {i n k o : Nat} (h : o ∈ (beside r i n).drop k) : ∃ e, k < e ∧ e ≤ bmax r i n ∧ o = bpos r i e := by
  obtain ⟨a, ha⟩ := List.mem_iff_getElem?.mp h
  rw [List.getElem?_drop] at ha
  have hl : k + a < bmax r i n := by
    have := (List.getElem?_eq_some_iff.mp ha).1
    rwa [beside_length] at this
  rw [beside_at hl] at ha
  exact ⟨k + a + 1, by omega, by omega, (Option.some.inj ha).symm⟩
theorem scan_mem {xs : List (Int × Int)} (h : Inc xs) {sd : List Bool} {S : List Nat} {r : Bool} {i : Nat} (hi : i < xs.length) (hS : ∀ o, o < xs.length → (sd[o]? = some true ↔ o ∈ S)) :
    ∀ (f k : Nat) (R : Int), k + f = bmax r i xs.length → (∃ d, d ≤ k ∧ Reach xs S r i (bpos r i d) ∧ dsb xs r i d + ht xs (bpos r i d) = R) → (∀ d, d ≤ k → Reach xs S r i (bpos r i d) → dsb xs r i d + ht xs (bpos r i d) ≤ R) →
      ∀ e, k < e → e ≤ bmax r i xs.length → (bpos r i e ∈ scan xs sd (pl xs i) R ((beside r i xs.length).drop k) ↔ Reach xs S r i (bpos r i e)) := by
  intro f
  induction f with
  | zero => intro k R hk _ _ e h1 h2; omega
  | succ f ih =>
    intro k R hk A B e h1 h2
    have hk1 : k < bmax r i xs.length := by omega
    rw [beside_drop hk1]
    have holt : bpos r i (k + 1) < xs.length := bpos_lt hi (by omega)
    obtain ⟨x, hx⟩ : ∃ x, xs[bpos r i (k + 1)]? = some x := ⟨xs[bpos r i (k + 1)], by simp [holt]⟩
    obtain ⟨ep, eh⟩ := pl_of hx
    have eD : ab (x.1 - pl xs i) = dsb xs r i (k + 1) := by unfold dsb; rw [ep]
    unfold scan
    rw [hx]
    simp only
    rw [eD, ← eh]
    by_cases c1 : dsb xs r i (k + 1) > R
    · rw [if_pos c1]
      refine ⟨fun z => (by cases z), fun q => ?_⟩
      have key : ∃ d, d ≤ k ∧ bpos r i e = bpos r i d := by
        refine Reach.ind h (P := fun j => ∃ d, d ≤ k ∧ j = bpos r i d) ⟨0, Nat.zero_le _, (bpos_zero r i).symm⟩ (fun m j hm hp hj hh => ?_) q
        obtain ⟨d, hd, rfl⟩ := hp
        obtain ⟨e', hde, he', rfl⟩ := hit_pos hi (by omega) hh
        by_cases c : e' ≤ k
        · exact ⟨e', c, rfl⟩
        · have b1 := B d hd hm
          have b2 := (hit_dist h hi hde he').mp hh
          have b3 : dsb xs r i (k + 1) ≤ dsb xs r i e' := by
            rcases Nat.lt_or_ge (k + 1) e' with c' | c'
            · exact Int.le_of_lt (dsb_up h hi c' he')
            · have : e' = k + 1 := by omega
              rw [this]; exact Int.le_refl _
          omega
      obtain ⟨d, hd, q2⟩ := key
      have := bpos_inj h2 (by omega) q2
      omega
    · rw [if_neg c1]
      obtain ⟨d0, hd0, q0, e0⟩ := A
      have hit0 : Hit xs r (bpos r i d0) (bpos r i (k + 1)) := (hit_dist h hi (by omega) (by omega)).mpr (by omega)
      by_cases c2 : sd[bpos r i (k + 1)]? = some true
      · rw [if_pos c2]
        have q1 : Reach xs S r i (bpos r i (k + 1)) := q0.step h ((hS _ holt).mp c2) hit0
        rw [List.mem_cons]
        have IH := ih (k + 1) (mx R (dsb xs r i (k + 1) + ht xs (bpos r i (k + 1)))) (by omega) (by
            by_cases c : dsb xs r i (k + 1) + ht xs (bpos r i (k + 1)) > R
            · exact ⟨k + 1, Nat.le_refl _, q1, by unfold mx; rw [if_pos c]⟩
            · exact ⟨d0, by omega, q0, by unfold mx; rw [if_neg c]; exact e0⟩) (fun d hd qd => by
            by_cases c : d ≤ k
            · have := B d c qd
              unfold mx; split <;> omega
            · have : d = k + 1 := by omega
              subst this
              unfold mx; split <;> omega)
        rcases Nat.lt_or_ge (k + 1) e with c | c
        · rw [← IH e c h2]
          refine ⟨fun z => z.resolve_left fun q => ?_, .inr⟩
          have := bpos_inj h2 (by omega) q
          omega
        · have : e = k + 1 := by omega
          subst this
          exact ⟨fun _ => q1, fun _ => .inl rfl⟩
      · rw [if_neg c2]
        have n1 : ¬ Reach xs S r i (bpos r i (k + 1)) := fun q => by
          obtain ⟨d, hd, e1, z⟩ := reach_pos h hi q
          have := bpos_inj (by omega) hd e1
          rcases z with rfl | z
          · omega
          · exact c2 ((hS _ holt).mpr z)
        have IH := ih (k + 1) R (by omega) ⟨d0, by omega, q0, e0⟩ (fun d hd qd => by
          by_cases c : d ≤ k
          · exact B d c qd
          · have : d = k + 1 := by omega
            subst this
            exact absurd qd n1)
        rcases Nat.lt_or_ge (k + 1) e with c | c
        · exact IH e c h2
        · have : e = k + 1 := by omega
          subst this
          refine ⟨fun z => ?_, fun q => absurd q n1⟩
          obtain ⟨e', h1', h2', e1⟩ := mem_drop (scan_sub _ _ _ _ _ _ z)
          have := bpos_inj h2 h2' e1
          omega
theorem felled_mem {xs : List (Int × Int)} (h : Inc xs) {sd : List Bool} {S : List Nat} {r : Bool} {i j : Nat} (hi : i < xs.length) (hS : ∀ o, o < xs.length → (sd[o]? = some true ↔ o ∈ S)) : j ∈ felled xs sd i r ↔ Reach xs S r i j := by
  obtain ⟨x, hx⟩ : ∃ x, xs[i]? = some x := ⟨xs[i], by simp [hi]⟩
  obtain ⟨ep, eh⟩ := pl_of hx
  have d0 : dsb xs r i 0 = 0 := by unfold dsb; rw [bpos_zero, Int.sub_self]; rfl
  have key := scan_mem h (sd := sd) (S := S) (r := r) hi hS (bmax r i xs.length) 0 (ht xs i) (by omega) ⟨0, Nat.le_refl _, by rw [bpos_zero]; exact Reach.refl, by rw [d0, bpos_zero]; omega⟩ (fun d hd _ => by
    obtain rfl : d = 0 := by omega
    rw [d0, bpos_zero]; omega)
  unfold felled
  rw [hx]
  simp only
  rw [← ep, ← eh, List.mem_cons]
  rw [List.drop_zero] at key
  constructor
  · rintro (rfl | z)
    · exact Reach.refl
    · have zz := scan_sub _ _ _ _ _ _ z
      obtain ⟨e, e1, e2, rfl⟩ := mem_drop (k := 0) (by rw [List.drop_zero]; exact zz)
      exact (key e e1 e2).mp z
  · intro q
    obtain ⟨d, hd, rfl, _⟩ := reach_pos h hi q
    rcases Nat.eq_zero_or_pos d with rfl | hp
    · exact .inl (bpos_zero r i)
    · exact .inr ((key d hp hd).mpr q)
/-! ### the law's own wave, stone by stone -/
def kvs (fs : List (Nat × Nat)) : List (Key × V) := fs.map fun p => ((Sum.inl (p.1 : Int) : Key), V.int (p.2 : Int))
theorem kvs_none {fs : List (Nat × Nat)} {o : Nat} : valV (kvs fs) (Sum.inl (o : Int) : Key) = none ↔ o ∉ fs.map (·.1) := by
  induction fs with
  | nil => exact ⟨fun _ h => (nomatch h), fun _ => rfl⟩
  | cons p fs ih =>
    have c : kvs (p :: fs) = ((Sum.inl (p.1 : Int) : Key), V.int (p.2 : Int)) :: kvs fs := rfl
    rw [c]
    by_cases e : p.1 = o
    · rw [valV_pos (by rw [e])]
      simp [e]
    · rw [valV_neg (by intro h; injection h with h; omega), ih]
      simp only [List.map_cons, List.mem_cons, not_or]
      exact ⟨fun h => ⟨fun z => e z.symm, h⟩, fun h => h.2⟩
theorem kvs_put {fs : List (Nat × Nat)} {o t : Nat} (h : o ∉ fs.map (·.1)) : putK (kvs fs) (Sum.inl (o : Int) : Key) (V.int (t : Int)) = kvs (fs ++ [(o, t)]) := by
  rw [putK_new _ (kvs_none.mpr h)]
  unfold kvs
  simp
theorem kvs_len (fs : List (Nat × Nat)) : (kvs fs).length = fs.length := by unfold kvs; simp
/-- lists of ints as data -/
def intD (ns : List Nat) : PyData := .list (ns.map fun (k : Nat) => PyData.int (k : Int))
theorem ints_all {K : PySem.W.Frag} {H : Hp} : ∀ ns : List Nat, DpAll K H (ivs ns) (ns.map fun (k : Nat) => PyData.int (k : Int))
  | [] => .nil
  | k :: ns => .cons (.int k) (ints_all ns)
theorem ints_dp {K : PySem.W.Frag} {H : Hp} {a : Addr} {ns : List Nat} (h : SqL K H a (ivs ns)) : Dp K H (.ref a) (intD ns) := .lst h (ints_all ns)
theorem lay_ints : ∀ ns : List Nat, PyData.canLayAll0 (ns.map fun (k : Nat) => PyData.int (k : Int)) = true
  | [] => by simp [PyData.canLayAll0]
  | k :: ns => by simp [PyData.canLayAll0, PyData.canLay0, lay_ints ns]
theorem deep_ints : ∀ ns : List Nat, PyData.depthAll (ns.map fun (k : Nat) => PyData.int (k : Int)) ≤ 1
  | [] => by simp [PyData.depthAll]
  | k :: ns => by
    have := deep_ints ns
    simp only [List.map_cons, PyData.depthAll, PyData.depth]
    omega
theorem ints_shaped (ns : List Nat) : SeqAt.shaped (intD ns) = true := by
  have h1 := deep_ints ns
  have h2 : PyData.depth (intD ns) ≤ 64 := by unfold intD; simp only [PyData.depth]; omega
  show (PyData.canLay0 (intD ns) && decide (PyData.depth (intD ns) ≤ 64)) = true
  rw [Bool.and_eq_true]
  exact ⟨by unfold intD; simp only [PyData.canLay0]; exact lay_ints ns, decide_eq_true h2⟩
theorem ints_nil (ns : List Nat) : PyData.eqv (intD ns) (intD []) = ns.isEmpty := by
  cases ns with
  | nil => simp [intD, PyData.eqv, PyData.eqvAll]
  | cons k ns => simp [intD, PyData.eqv, PyData.eqvAll]
theorem same_upd {H H1 : Hp} {p : Addr} {o : HO} (e : Same H H1) (h : H p = none) : Same H (upd H1 p o) := fun b u q => by rw [upd_ne (ne_of_none q h)]; exact e _ _ q
/-- A if side == "right" else B, where both come to the same letter -/
theorem if_side {n : Nat} {σ : L2.St} {H : Hp} {Q : VK} {ta tb : TE} {r : Bool} {v : V} (h3 : σ[n]? = some (some (.str (sideS r)))) (ha : r = true → ∀ Q : VK, Q v H → ta σ H Q) (hb : r = false → ∀ Q : VK, Q v H → tb σ H Q) (q : Q v H) :
    tIf (tTest (tOp rEq (tVar n) (tC (.str "right")))) ta tb σ H Q := by
  refine ⟨_, h3, rfl, _, rfl, ?_⟩
  rw [right_eq]
  cases r with
  | true => exact iteT (ha rfl Q q)
  | false => exact iteF (hb rfl Q q)
theorem in_len {xs : List (Int × Int)} {r : Bool} {t m : Nat} : ∀ (L : List Nat) (st : Wave), (L.foldl (stepIn xs r t m) st).1.length ≤ st.1.length + L.length ∧ (L.foldl (stepIn xs r t m) st).2.length ≤ st.2.length + L.length
  | [], st => by simp
  | o :: L, st => by
    have ih := in_len (xs := xs) (r := r) (t := t) (m := m) L (stepIn xs r t m st o)
    have h : (stepIn xs r t m st o).1.length ≤ st.1.length + 1 ∧ (stepIn xs r t m st o).2.length ≤ st.2.length + 1 := by
      unfold stepIn
      split
      · simp
      · omega
    simp only [List.foldl_cons, List.length_cons]
    omega
theorem lv_len {xs : List (Int × Int)} {S : List Nat} {r : Bool} {t : Nat} : ∀ (L : List Nat) (st : Wave), (L.foldl (stepLv xs S r t) st).1.length ≤ st.1.length + L.length * S.length ∧ (L.foldl (stepLv xs S r t) st).2.length ≤ st.2.length + L.length * S.length
  | [], st => by simp
  | m :: L, st => by
    have ih := lv_len (xs := xs) (S := S) (r := r) (t := t) L (stepLv xs S r t st m)
    have h := in_len (xs := xs) (r := r) (t := t) (m := m) S st
    have e : stepLv xs S r t st m = S.foldl (stepIn xs r t m) st := rfl
    rw [e] at ih
    simp only [List.foldl_cons, List.length_cons, e, Nat.add_mul, Nat.one_mul]
    omega
theorem lvl_len {xs : List (Int × Int)} {S : List Nat} {r : Bool} {i : Nat} : ∀ t : Nat, (iter xs S r i t).2.length ≤ (iter xs S r i t).1.length
  | 0 => by simp [iter]
  | t + 1 => by
    have e : iter xs S r i (t + 1) = level xs S r (t + 1) ((iter xs S r i t).1, (iter xs S r i t).2) := rfl
    have q := (level_spec (xs := xs) (S := S) (r := r) (t := t + 1) (lv := (iter xs S r i t).2) (iter_spec (xs := xs) (S := S) (r := r) (i := i) t).1).1
    rw [← e] at q
    have l := congrArg List.length q
    rw [List.length_append, List.length_map] at l
    omega
/-! ### _law_ticks: the waves, kept in a dict -/
theorem kvs_at {fs : List (Nat × Nat)} (nd : (fs.map (·.1)).Nodup) {m u : Nat} (h : (m, u) ∈ fs) : valV (kvs fs) (Sum.inl (m : Int) : Key) = some (.int (u : Int)) := by
  induction fs with
  | nil => cases h
  | cons p fs ih =>
    have c : kvs (p :: fs) = ((Sum.inl (p.1 : Int) : Key), V.int (p.2 : Int)) :: kvs fs := rfl
    rw [c]
    rw [List.map_cons, List.nodup_cons] at nd
    rcases List.mem_cons.mp h with e | h
    · rw [← e]
      exact valV_pos rfl
    · have ne : p.1 ≠ m := fun e => nd.1 (by rw [e]; exact List.mem_map.mpr ⟨_, h, rfl⟩)
      rw [valV_neg (by intro z; injection z with z; omega)]
      exact ih nd.2 h
theorem pair_ints : ∀ {ys : List V} {L : List Nat}, Paired (fun (v : V) (k : Nat) => v = .int (k : Int)) ys L → ys = ivs L
  | _, _, .nil => rfl
  | _, _, .cons h t => by rw [h, pair_ints t]; rfl
/-- those of the last tick -/
theorem iter_last {xs : List (Int × Int)} {S : List Nat} {r : Bool} {i : Nat} (t : Nat) : ((iter xs S r i t).1.filter fun p => p.2 == t).map (·.1) = (iter xs S r i t).2 := by
  cases t with
  | zero => rfl
  | succ t =>
    have e : iter xs S r i (t + 1) = level xs S r (t + 1) ((iter xs S r i t).1, (iter xs S r i t).2) := rfl
    obtain ⟨q1, _, _⟩ := level_spec (xs := xs) (S := S) (r := r) (t := t + 1) (lv := (iter xs S r i t).2) (iter_spec t).1
    rw [← e] at q1
    rw [q1, List.filter_append, List.map_append]
    have h1 : (iter xs S r i t).1.filter (fun p => p.2 == t + 1) = [] := by
      rw [List.filter_eq_nil_iff]
      rintro ⟨j, u⟩ hp
      have := ((iter_spec t).2.1 j u).mp hp
      simp
      omega
    have h2 : ((iter xs S r i (t + 1)).2.map fun o => (o, t + 1)).filter (fun p => p.2 == t + 1) = (iter xs S r i (t + 1)).2.map fun o => (o, t + 1) := by
      rw [List.filter_eq_self]
      rintro ⟨j, u⟩ hp
      obtain ⟨o, _, e⟩ := List.mem_map.mp hp
      cases e
      simp
    rw [h1, h2, List.map_map]
    simp [Function.comp_def]
def spTicksW (K : PySem.W.Frag) : Sp := fun vs H Q _ => ∃ (q b : Addr) (us : List V) (xs : List (Int × Int)) (S : List Nat) (i : Nat) (r : Bool), vs = [.ref q, .ref b, .int (i : Nat), .str (sideS r)] ∧ SqL K H q us ∧ StonesAt K H us xs ∧ SqL K H b (ivs S) ∧
  (∀ o ∈ S, o < xs.length) ∧ i < xs.length ∧ S.length ≤ 40 ∧
  ∀ (d : Addr) (fs : List (Nat × Nat)) (H' : Hp), Same H H' → H d = none → H' d = some (.dK (kvs fs)) → (fs.map (·.1)).Nodup → fs.length ≤ S.length + 1 → (∀ j u, (j, u) ∈ fs ↔ Fst xs S r i u j) → Q (.ref d) H'
section
variable {P : Program} {w : World} {K : PySem.W.Frag} {mg : Str → Option Value} {base : Heap}
theorem ok_ticksW {f : Addr} {fd : FuncData} (F : Fun K "_law_ticks" "_law_ticks" s_law_ticks f fd) : FnOk P w K mg base CX0 1 f fd ["_law_stones_here", "_law_up", "_law_stone", "_law_side"] (spTicksW K) := by
  refine F.ok sc_law_ticks (fun vs H Q E h => ?_) (fun cdv A outer s H vs Q E hr h => ?_)
  · obtain ⟨q, b, us, xs, S, i, r, rfl, _⟩ := h
    rfl
  · obtain ⟨q, b, us, xs, S, i, r, rfl, hq, hS, hb, hlt, hi, hc, k⟩ := h
    have hu := hu_of hr
    refine ⟨_, pss_cons (ps_asg (pe_tup (pa_cons (pe_disp (pps_cons (pv 2) pe_int pps_nil) (by rfl) (by rfl) (fun z => by cases z) (by decide)) (pa_cons (pe_int) (pa_cons (pe_bl) pa_nil)))) (pg_tup rfl (pgs_cons (pg_name (i := 4) sc_law_ticks.nd rfl (Or.inr rfl)) (pgs_cons (pg_name (i := 5) sc_law_ticks.nd rfl (Or.inr rfl)) (pgs_cons (pg_name (i := 6) sc_law_ticks.nd rfl (Or.inl rfl)) pgs_nil)))))
      (pss_cons (ps_while PassesOwn.never (pt_val (pv 6))
        (pss_cons (ps_set (i := 6) sc_law_ticks.nd rfl (Or.inl rfl) (pe_bl))
        (pss_cons (ps_for PassesOwn.never rfl (pi_list (pe_lock (pe_lc (own := [("_law_k", 8)]) (g := gName 8) rfl sc_law_ticks.nd (pi_keys (pv 4)) (blkOk_by (N := n_law_ticks) (sc := defScope s_law_ticks) (by decide +kernel))
              (fun _ _ _ _ _ => pg_name (i := 8) sc_law_ticks.nd rfl (Or.inl rfl)) (fun _ _ _ _ _ => pts_one (show PT _ _ (tTest (tOp rEq (tDGet (tVar 4) (tVar 8)) (tVar 5))) from pt_cmpR (op_eq) (pe_dget hu (pv 4) (pv 8) (fun _ _ => rfl)) (pv 5) (nomark _))) (fun _ _ _ _ _ => pv 8)))) (pg_name (i := 7) sc_law_ticks.nd rfl (Or.inl rfl))
          (pss_one (ps_for PassesOwn.never rfl (pi_list (pv 1)) (pg_name (i := 9) sc_law_ticks.nd rfl (Or.inl rfl))
            (pss_cons (ps_set (i := 10) sc_law_ticks.nd rfl (Or.inl rfl) (pe_op op_sub (pe_ix ix_tup (pe_ix ix_list (pv 0) (pv 9) (fun _ _ => rfl)) (pe_int) (fun _ _ => rfl)) (pe_ix ix_tup (pe_ix ix_list (pv 0) (pv 7) (fun _ _ => rfl)) (pe_int) (fun _ _ => rfl))))
            (pss_cons (ps_set (i := 10) sc_law_ticks.nd rfl (Or.inl rfl) (pe_ifExp (pt_cmpR (op_eq) (pv 3) (pe_str) (nomark _)) (pv 10) (pe_op op_sub (pe_int) (pv 10))))
            (pss_one (ps_if (PW.pt (pw_and (pt_cmp (pc_dnotin hu (pv 9) (pv 4))) (pw_and1 (pt_chain op_lt op_le pe_int (pv 10) (pe_ix ix_tup (pe_ix ix_list (pv 0) (pv 7) (fun _ _ => rfl)) (pe_int) (fun _ _ => rfl))))))
              (pss_one (ps_asg (pe_tup (pa_cons (pe_op op_add (pv 5) (pe_int)) (pa_cons (pe_bl) pa_nil))) (pg_tup rfl (pgs_cons (pg_sub (pv 4) (pv 9) (set_dict hu)) (pgs_cons (pg_name (i := 6) sc_law_ticks.nd rfl (Or.inl rfl)) pgs_nil))))) pss_nil)))))))
        (pss_one (ps_set (i := 5) sc_law_ticks.nd rfl (Or.inr rfl) (pe_op op_add (pv 5) (pe_int)))))))
      (pss_one (ps_ret (pv 4)))), ?_⟩
    refine fun d nd => ⟨_, rfl, upd_same, [((Sum.inl (i : Int) : Key), V.int 0)], rfl, by show 1 ≤ 15; decide, ?_⟩
    have eM : upd (upd H d (.dK [])) d (.dK (mergeK [] [((Sum.inl (i : Int) : Key), V.int 0)])) = upd H d (.dK (kvs [(i, 0)])) := upd_upd
    rw [eM]
    have s1 : Same H (upd H d (.dK (kvs [(i, 0)]))) := same_new nd
    refine ⟨by show 3 ≤ sizeLine; decide, fun T nT => ⟨T, _, rfl, SqT.of upd_same, rfl, _, _, rfl, _, _, rfl, _, _, rfl, rfl, ?_⟩⟩
    have dT : d ≠ T := ne_of_none upd_same nT
    have keyIn : ∀ t, ∀ j ∈ (iter xs S r i t).1.map (·.1), j < xs.length := fun t j hj => by
      rcases iter_sub t j hj with h | h
      · rw [h]; exact hi
      · exact hlt j h
    refine ⟨fun n σ H3 => ∃ (t : Nat) (s7 s8 s9 s10 : Option V), σ = [some (.ref q), some (.ref b), some (.int (i : Nat)), some (.str (sideS r)), some (.ref d), some (.int (t : Nat)), some (.bl (!(iter xs S r i t).2.isEmpty)), s7, s8, s9, s10] ∧
      Same H H3 ∧ H3 d = some (.dK (kvs (iter xs S r i t).1)) ∧ n = meas (S.length + 1) (iter xs S r i t), ?_, ?_⟩
    · exact ⟨_, 0, none, none, none, none, rfl, s1.trans (same_new nT), same_new nT _ _ upd_same, rfl⟩
    · rintro n σ H3 ⟨t, s7, s8, s9, s10, rfl, sm, ed, rfl⟩
      refine ⟨_, rfl, _, rfl, ?_⟩
      cases hE : (iter xs S r i t).2.isEmpty with
      | true =>
        have hn : (iter xs S r i t).2 = [] := List.isEmpty_iff.mp hE
        refine iteF ⟨_, rfl, ?_⟩
        exact k d _ H3 sm nd ed (iter_spec t).1 (iter_len t) (iter_end hn)
      | false =>
        have hn : (iter xs S r i t).2 ≠ [] := fun z => by rw [z] at hE; cases hE
        refine iteT ⟨_, fun _ _ z => z, ?_⟩
        -- the stones of this tick
        have ndk := (iter_spec (xs := xs) (S := S) (r := r) (i := i) t).1
        have hlen := iter_len (xs := xs) (S := S) (r := r) (i := i) t
        have hlast := iter_last (xs := xs) (S := S) (r := r) (i := i) t
        refine seq_of (asg_of ?_)
        refine ⟨d, _, ed, True.intro, fun od => ?_⟩
        have edz : (upd H3 d (.frz od (.dK (kvs (iter xs S r i t).1)))) d = some (.frz od (.dK (kvs (iter xs S r i t).1))) := upd_same
        have smz : Same H (upd H3 d (.frz od (.dK (kvs (iter xs S r i t).1)))) := same_upd sm nd
        refine ⟨_, rfl, d, od, rfl, .inl ⟨_, edz, fun D nD => ?_⟩⟩
        have Dd : D ≠ d := fun z => by rw [z, edz] at nD; cases nD
        refine lc_fm (walk_keys (d := d) (o := od) (kvs := kvs (iter xs S r i t).1)) (iter xs S r i t).1 (fun p => p.2 == t) (·.1) (fun _ v k => v = .int ((k : Nat) : Int)) (kvs_len _).symm (by rw [kvs_len]; omega) nD (fun _ _ _ _ _ _ _ q => q) (fun _ e => e _ _ edz) ?_ ?_
        · rintro n ⟨m, u⟩ x G G' N' M' hm smG _ ⟨rfl, kk, vv, e1, rfl⟩ no go
          have ek : (kvs (iter xs S r i t).1)[n]? = some ((Sum.inl (m : Int) : Key), V.int (u : Int)) := by unfold kvs; rw [List.getElem?_map, hm]; rfl
          rw [ek] at e1
          obtain ⟨rfl, rfl⟩ : (Sum.inl (m : Int) : Key) = kk ∧ V.int (u : Int) = vv := by injection e1 with e1; injection e1 with a b; exact ⟨a, b⟩
          refine ⟨rfl, _, rfl, _, rfl, d, V.int (u : Int), rfl, .inl ⟨_, Sum.inl (m : Int), .inr ⟨od, smG _ _ edz⟩, rfl, (kvs_at ndk (List.mem_of_getElem? hm)).symm⟩, _, rfl, rfl, _, rfl, ?_⟩
          by_cases hu' : u = t
          · subst hu'
            rw [decide_eq_true (rfl : V.int (u : Int) = V.int (u : Int))]
            exact iteT ⟨_, rfl, go _ _ (by simp) (Same.refl _) rfl⟩
          · rw [decide_eq_false (fun z : V.int (u : Int) = V.int (t : Int) => hu' (by injection z with z; omega))]
            exact iteF (no _ (by simp [hu']) (Same.refl _))
        · intro G ys smG eD rel
          rw [hlast] at rel
          obtain rfl := pair_ints rel
          have edG : (upd G d (.dK (kvs (iter xs S r i t).1))) d = some (.dK (kvs (iter xs S r i t).1)) := upd_same
          have eDG : (upd G d (.dK (kvs (iter xs S r i t).1))) D = some (.lst (ivs (iter xs S r i t).2)) := by rw [upd_ne Dd]; exact eD
          have smR : Same H (upd G d (.dK (kvs (iter xs S r i t).1))) := same_upd (smz.trans smG) nd
          refine ⟨smG _ _ edz, D, rfl, ⟨_, SqL.of eDG⟩, for_list (K := K) (a := D) (xs := ivs (iter xs S r i t).2) (fun j σ H5 => ∃ (s7 s8 s9 s10 : Option V), σ = [some (.ref q), some (.ref b), some (.int (i : Nat)), some (.str (sideS r)), some (.ref d), some (.int (t : Nat)), some (.bl (!(((iter xs S r i t).2.take j).foldl (stepLv xs S r (t + 1)) ((iter xs S r i t).1, [])).2.isEmpty)), s7, s8, s9, s10] ∧
            Same H H5 ∧ H5 d = some (.dK (kvs (((iter xs S r i t).2.take j).foldl (stepLv xs S r (t + 1)) ((iter xs S r i t).1, [])).1)) ∧ H5 D = some (.lst (ivs (iter xs S r i t).2))) ?_ ?_ ?_ ?_⟩
          · exact ⟨_, _, _, _, rfl, smR, edG, eDG⟩
          · rintro j σ H5 _ ⟨_, _, _, _, _, _, _, e⟩
            exact SqL.of e
          · rintro j y σ H5 hy ⟨s7, s8, s9, s10, rfl, sm5, ed5, el5⟩
            obtain ⟨m, hm, rfl⟩ := ivs_get hy
            have hmx : m < xs.length := by
              have h1 := ((iter_spec (xs := xs) (S := S) (r := r) (i := i) t).2.2 m).mp (List.mem_of_getElem? hm)
              refine keyIn t m (List.mem_map.mpr ⟨(m, t), ((iter_spec t).2.1 m t).mpr ⟨Nat.le_refl _, h1⟩, rfl⟩)
            obtain ⟨x, hx⟩ : ∃ x, xs[m]? = some x := ⟨xs[m], by simp [hmx]⟩
            obtain ⟨ca, hca, hsca⟩ := hS.2 m x hx
            have eT : ((iter xs S r i t).2.take (j + 1)).foldl (stepLv xs S r (t + 1)) ((iter xs S r i t).1, []) = S.foldl (stepIn xs r (t + 1) m) (((iter xs S r i t).2.take j).foldl (stepLv xs S r (t + 1)) ((iter xs S r i t).1, [])) := by
              rw [List.take_add_one, hm, List.foldl_append]
              rfl
            rw [eT]
            generalize hst : ((iter xs S r i t).2.take j).foldl (stepLv xs S r (t + 1)) ((iter xs S r i t).1, []) = st at ed5
            have stl : st.1.length ≤ 110000 := by
              have h1 := lv_len (xs := xs) (S := S) (r := r) (t := t + 1) ((iter xs S r i t).2.take j) ((iter xs S r i t).1, [])
              rw [hst] at h1
              have h3 := lvl_len (xs := xs) (S := S) (r := r) (i := i) t
              have h4 : ((iter xs S r i t).2.take j).length ≤ 41 := by rw [List.length_take]; omega
              have h5 : ((iter xs S r i t).2.take j).length * S.length ≤ 41 * 40 := Nat.mul_le_mul h4 hc
              have h6 : ((iter xs S r i t).1, ([] : List Nat)).1.length = (iter xs S r i t).1.length := rfl
              omega
            refine ⟨_, rfl, b, rfl, ⟨_, sm5.seq hb⟩, for_list (K := K) (a := b) (xs := ivs S) (fun n σ H6 => ∃ (s8 s9 s10 : Option V), σ = [some (.ref q), some (.ref b), some (.int (i : Nat)), some (.str (sideS r)), some (.ref d), some (.int (t : Nat)), some (.bl (!((S.take n).foldl (stepIn xs r (t + 1) m) st).2.isEmpty)), some (.int (m : Nat)), s8, s9, s10] ∧
              Same H H6 ∧ H6 d = some (.dK (kvs ((S.take n).foldl (stepIn xs r (t + 1) m) st).1)) ∧ H6 D = some (.lst (ivs (iter xs S r i t).2))) ?_ ?_ ?_ ?_⟩
            · exact ⟨_, _, _, rfl, sm5, ed5, el5⟩
            · rintro n σ H6 _ ⟨_, _, _, _, sm6, _⟩
              exact sm6.seq hb
            · rintro n y σ H6 hy ⟨s8, s9, s10, rfl, sm6, ed6, el6⟩
              obtain ⟨o, ho, rfl⟩ := ivs_get hy
              have hox : o < xs.length := hlt o (List.mem_of_getElem? ho)
              obtain ⟨y, hy⟩ : ∃ y, xs[o]? = some y := ⟨xs[o], by simp [hox]⟩
              obtain ⟨cb, hcb, hscb⟩ := hS.2 o y hy
              have eS : (S.take (n + 1)).foldl (stepIn xs r (t + 1) m) st = stepIn xs r (t + 1) m ((S.take n).foldl (stepIn xs r (t + 1) m) st) o := by
                rw [List.take_add_one, ho, List.foldl_append]
                rfl
              rw [eS]
              have len := in_len (xs := xs) (r := r) (t := t + 1) (m := m) (S.take n) st
              rw [List.length_take] at len
              generalize (S.take n).foldl (stepIn xs r (t + 1) m) st = sn at ed6 len
              have hit : hitB xs r m o = (decide (0 < far x y r) && decide (far x y r ≤ x.2)) := by unfold hitB; rw [hx, hy]
              -- away
              refine ⟨_, rfl, _, rfl, q, us, _, _, rfl, rfl, sm6.seq hq, atI_nat hcb, cb, _, ((0 : Nat) : Int), _, rfl, rfl, sqT_same hscb sm6, atI_nat (j := 0) rfl, _, rfl, _, rfl, q, us, _, _, rfl, rfl, sm6.seq hq, atI_nat hca, ca, _, ((0 : Nat) : Int), _, rfl, rfl, sqT_same hsca sm6, atI_nat (j := 0) rfl, _, _, rfl, rfl, ?_⟩
              refine seq_of (asg_of (if_side (n := 3) (r := r) (v := .int (far x y r)) rfl (fun e Q' q' => ?_) (fun e Q' q' => ?_) ?_))
              · subst e
                exact ⟨_, rfl, q'⟩
              · subst e
                refine ⟨_, rfl, _, _, rfl, rfl, ?_⟩
                show Q' (V.int (0 - (y.1 - x.1))) H6
                rw [show (0 : Int) - (y.1 - x.1) = far x y false by show _ = x.1 - y.1; omega]
                exact q'
              have no : stepIn xs r (t + 1) m sn o = sn → ∀ s10, ∃ s8' s9' s10', [some (.ref q), some (.ref b), some (.int (i : Nat)), some (.str (sideS r)), some (.ref d), some (.int (t : Nat)), some (.bl (!sn.2.isEmpty)), some (.int (m : Nat)), s8, some (.int (o : Nat)), s10] = [some (.ref q), some (.ref b), some (.int (i : Nat)), some (.str (sideS r)), some (.ref d), some (.int (t : Nat)), some (V.bl (!(stepIn xs r (t + 1) m sn o).2.isEmpty)), some (.int (m : Nat)), s8', s9', s10'] ∧
                  Same H H6 ∧ H6 d = some (.dK (kvs (stepIn xs r (t + 1) m sn o).1)) ∧ H6 D = some (.lst (ivs (iter xs S r i t).2)) := fun e s10 => by
                rw [e]
                exact ⟨_, _, _, rfl, sm6, ed6, el6⟩
              refine ⟨_, rfl, _, rfl, d, _, rfl, DGet.k (k := Sum.inl (o : Int)) ed6, _, rfl, ?_⟩
              cases hv : valV (kvs sn.1) (Sum.inl (o : Int) : Key) with
              | some v =>
                refine iteF ?_
                refine no ?_ _
                unfold stepIn
                rw [if_neg (fun z => by rw [kvs_none.mpr z.2] at hv; cases hv)]
              | none =>
                have nk := kvs_none.mp hv
                refine iteT ?_
                refine ⟨_, rfl, _, _, rfl, rfl, _, rfl, ?_⟩
                refine ite2 (fun h1 => ?_) (fun h1 => ?_)
                · refine ⟨_, rfl, _, rfl, q, us, _, _, rfl, rfl, sm6.seq hq, atI_nat hca, ca, _, ((1 : Nat) : Int), _, rfl, rfl, sqT_same hsca sm6, atI_nat (j := 1) rfl, _, _, rfl, rfl, _, rfl, ?_⟩
                  refine ite2 (fun h2 => ?_) (fun h2 => ?_)
                  · have hh : hitB xs r m o = true := by rw [hit, h1, h2]; rfl
                    have e : stepIn xs r (t + 1) m sn o = (sn.1 ++ [(o, t + 1)], sn.2 ++ [o]) := by
                      unfold stepIn
                      rw [if_pos ⟨hh, nk⟩]
                    rw [e]
                    refine ⟨_, rfl, _, _, rfl, rfl, by show 2 ≤ sizeLine; decide, fun T6 nT6 => ?_⟩
                    have ed7 := same_new (o := .tup [V.int ((t : Int) + 1), V.bl true]) nT6 _ _ ed6
                    have el7 := same_new (o := .tup [V.int ((t : Int) + 1), V.bl true]) nT6 _ _ el6
                    have sm7 := sm6.trans (same_new (o := .tup [V.int ((t : Int) + 1), V.bl true]) nT6)
                    refine ⟨T6, _, rfl, SqT.of upd_same, rfl, _, _, rfl, _, rfl, _, rfl, d, _, rfl, DPut.k (k := Sum.inl (o : Int)) ed7 (by rw [kvs_len, sizeLine_eq]; omega), _, _, rfl, rfl, ?_⟩
                    have ep : putK (kvs sn.1) (Sum.inl (o : Int) : Key) (V.int ((t : Int) + 1)) = kvs (sn.1 ++ [(o, t + 1)]) := kvs_put (t := t + 1) nk
                    refine ⟨s8, some (.int (o : Nat)), some (.int (far x y r)), ?_, same_upd sm7 nd, ?_, ?_⟩
                    · have eb : (!(sn.2 ++ [o]).isEmpty) = true := by simp
                      show _ = [some (V.ref q), some (.ref b), some (.int (i : Nat)), some (.str (sideS r)), some (.ref d), some (.int (t : Nat)), some (.bl (!(sn.2 ++ [o]).isEmpty)), some (.int (m : Nat)), s8, some (.int (o : Nat)), some (.int (far x y r))]
                      rw [eb]
                      rfl
                    · rw [upd_same, ep]
                    · rw [upd_ne Dd]
                      exact el7
                  · have hf : decide (far x y r ≤ x.2) = false := Bool.eq_false_iff.mpr h2
                    refine no ?_ _
                    unfold stepIn
                    rw [if_neg (fun z => by rw [hit, hf, Bool.and_false] at z; cases z.1)]
                · have hf : decide (0 < far x y r) = false := Bool.eq_false_iff.mpr h1
                  refine ⟨false, rfl, iteF ?_⟩
                  refine no ?_ _
                  unfold stepIn
                  rw [if_neg (fun z => by rw [hit, hf, Bool.false_and] at z; cases z.1)]
            · rintro σ H6 ⟨s8, s9, s10, rfl, sm6, ed6, el6⟩
              rw [show (ivs S).length = S.length from by unfold ivs; simp, List.take_length] at ed6 ⊢
              exact ⟨_, _, _, _, rfl, sm6, ed6, el6⟩
          · rintro σ H5 ⟨s7, s8, s9, s10, rfl, sm5, ed5, el5⟩
            have eI : ((iter xs S r i t).2.take (ivs (iter xs S r i t).2).length).foldl (stepLv xs S r (t + 1)) ((iter xs S r i t).1, []) = iter xs S r i (t + 1) := by
              rw [show (ivs (iter xs S r i t).2).length = (iter xs S r i t).2.length from by unfold ivs; simp, List.take_length]
              rfl
            rw [eI] at ed5 ⊢
            exact ⟨_, rfl, _, _, rfl, rfl, _, iter_meas t hn, t + 1, _, _, _, _, rfl, sm5, ed5, rfl⟩
end
/-! ### the fewest stones to take away -/
def gap (i s : Nat) : Nat := if s < i then i - s else s - i
theorem bpos_gap {r : Bool} {i d n : Nat} (hd : d ≤ bmax r i n) : gap i (bpos r i d) = d := by
  unfold gap
  cases r with
  | true => show (if i + d < i then i - (i + d) else i + d - i) = d; split <;> omega
  | false => have hd : d ≤ i := hd; show (if i - d < i then i - (i - d) else i - d - i) = d; split <;> omega
/-- the stones strictly between -/
def betw (i s : Nat) : List Nat := (List.range (max i s - (min i s + 1))).map fun k => min i s + 1 + k
theorem mem_betw {i s k : Nat} : k ∈ betw i s ↔ min i s < k ∧ k < max i s := by
  unfold betw
  rw [List.mem_map]
  constructor
  · rintro ⟨a, ha, rfl⟩
    have := List.mem_range.mp ha
    omega
  · intro h
    exact ⟨k - (min i s + 1), List.mem_range.mpr (by omega), by omega⟩
theorem betw_sorted (i s : Nat) : (betw i s).Pairwise (· < ·) := by
  unfold betw
  refine List.Pairwise.map _ (fun x y h => ?_) (List.pairwise_lt_range (n := _))
  have h : x < y := h
  show min i s + 1 + x < min i s + 1 + y
  omega
def rbt (xs : List (Int × Int)) (i s : Nat) : List Nat := (betw i s).filter fun k => touch xs k s
theorem rbt_sorted (xs : List (Int × Int)) (i s : Nat) : (rbt xs i s).Pairwise (· < ·) := (betw_sorted i s).filter _
theorem pw_nodup {l : List Nat} (h : l.Pairwise (· < ·)) : l.Nodup := h.imp fun hh e => by subst e; exact Nat.lt_irrefl _ hh
theorem mem_rbt {xs : List (Int × Int)} {i s k : Nat} : k ∈ rbt xs i s ↔ (min i s < k ∧ k < max i s) ∧ touch xs k s = true := by
  unfold rbt
  rw [List.mem_filter, mem_betw]
/-- between the pushed stone and one beside it, told by their distances -/
theorem betw_pos {r : Bool} {i n e k : Nat} (he : e ≤ bmax r i n) : (min i (bpos r i e) < k ∧ k < max i (bpos r i e)) ↔ ∃ d, 0 < d ∧ d < e ∧ k = bpos r i d := by
  cases r with
  | true =>
    show (min i (i + e) < k ∧ k < max i (i + e)) ↔ ∃ d, 0 < d ∧ d < e ∧ k = i + d
    exact ⟨fun h => ⟨k - i, by omega, by omega, by omega⟩, fun ⟨d, h1, h2, h3⟩ => by omega⟩
  | false =>
    have he : e ≤ i := he
    show (min i (i - e) < k ∧ k < max i (i - e)) ↔ ∃ d, 0 < d ∧ d < e ∧ k = i - d
    exact ⟨fun h => ⟨i - k, by omega, by omega, by omega⟩, fun ⟨d, h1, h2, h3⟩ => by omega⟩
/-- one more candidate is looked at -/
def fstep (xs : List (Int × Int)) (i : Nat) (acc : Option (List Nat)) (s : Nat) : Option (List Nat) :=
  if touch xs i s = true then acc else match acc with
    | none => some (rbt xs i s)
    | some t => if (rbt xs i s).length < t.length then some (rbt xs i s) else some t
def few (xs : List (Int × Int)) (i : Nat) (ss : List Nat) : Option (List Nat) := ss.foldl (fstep xs i) none
theorem few_snoc (xs : List (Int × Int)) (i : Nat) (ss : List Nat) (s : Nat) : few xs i (ss ++ [s]) = fstep xs i (few xs i ss) s := by
  unfold few
  rw [List.foldl_append]
  rfl
structure FewOf (xs : List (Int × Int)) (i : Nat) (ss : List Nat) (o : Option (List Nat)) : Prop where
  no : o = none → ∀ s ∈ ss, touch xs i s = true
  yes : ∀ t, o = some t → ∃ s ∈ ss, touch xs i s = false ∧ t = rbt xs i s
  least : ∀ t, o = some t → ∀ s ∈ ss, touch xs i s = false → t.length ≤ (rbt xs i s).length
theorem few_rev {xs : List (Int × Int)} {i : Nat} : ∀ l : List Nat, FewOf xs i l.reverse (few xs i l.reverse)
  | [] => ⟨fun _ s hs => (by cases hs), fun t e => (by cases e), fun t e => (by cases e)⟩
  | a :: l => by
    have ih := few_rev (xs := xs) (i := i) l
    rw [List.reverse_cons, few_snoc]
    generalize few xs i l.reverse = o at ih ⊢
    generalize l.reverse = ss at ih ⊢
    unfold fstep
    by_cases c : touch xs i a = true
    · rw [if_pos c]
      refine ⟨fun e s hs => ?_, fun t e => ?_, fun t e s hs ns => ?_⟩
      · rcases List.mem_append.mp hs with h | h
        · exact ih.no e s h
        · obtain rfl : s = a := by simpa using h
          exact c
      · obtain ⟨s, h1, h2⟩ := ih.yes t e
        exact ⟨s, List.mem_append_left _ h1, h2⟩
      · rcases List.mem_append.mp hs with h | h
        · exact ih.least t e s h ns
        · obtain rfl : s = a := by simpa using h
          rw [c] at ns
          cases ns
    · rw [if_neg c]
      have cf : touch xs i a = false := by simpa using c
      cases o with
      | none =>
        refine ⟨fun e => (by cases e), fun t e => ?_, fun t e s hs ns => ?_⟩
        · cases e
          exact ⟨a, by simp, cf, rfl⟩
        · cases e
          rcases List.mem_append.mp hs with h | h
          · rw [ih.no rfl s h] at ns; cases ns
          · obtain rfl : s = a := by simpa using h
            exact Nat.le_refl _
      | some u =>
        simp only
        split
        · rename_i hlt
          refine ⟨fun e => (by cases e), fun t e => ?_, fun t e s hs ns => ?_⟩
          · cases e
            exact ⟨a, by simp, cf, rfl⟩
          · cases e
            rcases List.mem_append.mp hs with h | h
            · exact Nat.le_trans (Nat.le_of_lt hlt) (ih.least u rfl s h ns)
            · obtain rfl : s = a := by simpa using h
              exact Nat.le_refl _
        · rename_i hlt
          refine ⟨fun e => (by cases e), fun t e => ?_, fun t e s hs ns => ?_⟩
          · cases e
            obtain ⟨s, h1, h2⟩ := ih.yes u rfl
            exact ⟨s, List.mem_append_left _ h1, h2⟩
          · cases e
            rcases List.mem_append.mp hs with h | h
            · exact ih.least u rfl s h ns
            · obtain rfl : s = a := by simpa using h
              omega
theorem few_spec (xs : List (Int × Int)) (i : Nat) (ss : List Nat) : FewOf xs i ss (few xs i ss) := by
  have := few_rev (xs := xs) (i := i) ss.reverse
  rwa [List.reverse_reverse] at this
/-- the candidates -/
def cand (r : Bool) (i n G : Nat) : List Nat := (beside r i n).take G
theorem mem_cand {r : Bool} {i n G s : Nat} (hG : G ≤ bmax r i n) : s ∈ cand r i n G ↔ ∃ e, 0 < e ∧ e ≤ G ∧ s = bpos r i e := by
  unfold cand
  constructor
  · intro h
    obtain ⟨a, ha⟩ := List.mem_iff_getElem?.mp h
    rw [List.getElem?_take] at ha
    split at ha
    · rw [beside_at (by omega)] at ha
      exact ⟨a + 1, by omega, by omega, (Option.some.inj ha).symm⟩
    · cases ha
  · rintro ⟨e, h1, h2, rfl⟩
    refine List.mem_iff_getElem?.mpr ⟨e - 1, ?_⟩
    rw [List.getElem?_take, if_pos (by omega), beside_at (by omega)]
    congr 2
    omega
section
variable {xs : List (Int × Int)} {S T : List Nat} {r : Bool} {i e G : Nat}
theorem touch_zero (h : Inc xs) (hi : i < xs.length) (h0 : 0 < e) (he : e ≤ bmax r i xs.length) : touch xs i (bpos r i e) = true ↔ Hit xs r i (bpos r i e) := by
  have := touch_hit h (r := r) hi h0 he
  rwa [bpos_zero] at this
theorem cut_is_cut (h : Inc xs) (hi : i < xs.length) (h0 : 0 < e) (heG : e ≤ G) (hG : G ≤ bmax r i xs.length) (nt : touch xs i (bpos r i e) = false) (dj : ∀ k ∈ rbt xs i (bpos r i e), k ∉ S) : ¬ Reach xs S r i (bpos r i G) := by
  intro q
  have key : ∃ d, d < e ∧ bpos r i G = bpos r i d ∧ (d = 0 ∨ bpos r i G ∈ S) := by
    refine Reach.ind h (P := fun j => ∃ d, d < e ∧ j = bpos r i d ∧ (d = 0 ∨ j ∈ S)) ⟨0, h0, (bpos_zero r i).symm, .inl rfl⟩ (fun m j _ hp hj hh => ?_) q
    obtain ⟨d, hd, rfl, hz⟩ := hp
    obtain ⟨d', hdd, hd', rfl⟩ := hit_pos hi (by omega) hh
    refine ⟨d', ?_, rfl, .inr hj⟩
    refine Nat.lt_of_not_le fun c => ?_
    have b2 := (hit_dist h hi hdd hd').mp hh
    have b3 : dsb xs r i e ≤ dsb xs r i d' := by
      rcases Nat.lt_or_ge e d' with c' | c'
      · exact Int.le_of_lt (dsb_up h hi c' hd')
      · have : d' = e := by omega
        rw [this]; exact Int.le_refl _
    have hit : Hit xs r (bpos r i d) (bpos r i e) := (hit_dist h hi hd (by omega)).mpr (by omega)
    rcases hz with rfl | hz
    · rw [bpos_zero] at hit
      rw [(touch_zero h hi h0 (by omega)).mpr hit] at nt
      cases nt
    · rcases Nat.eq_zero_or_pos d with rfl | hp
      · rw [bpos_zero] at hit
        rw [(touch_zero h hi h0 (by omega)).mpr hit] at nt
        cases nt
      · exact dj _ (mem_rbt.mpr ⟨(betw_pos (n := xs.length) (by omega)).mpr ⟨d, hp, hd, rfl⟩, (touch_hit h hi hd (by omega)).mpr hit⟩) hz
  obtain ⟨d, hd, e1, _⟩ := key
  have := bpos_inj hG (by omega) e1
  omega
theorem cut_least (h : Inc xs) (hi : i < xs.length) (hT : ∀ k, k < xs.length → k ∉ T → k ∈ S) (hG : G ≤ bmax r i xs.length) (gT : bpos r i G ∉ T) (nr : ¬ Reach xs S r i (bpos r i G)) :
    ∃ e, 0 < e ∧ e ≤ G ∧ touch xs i (bpos r i e) = false ∧ ∀ k ∈ rbt xs i (bpos r i e), k ∈ T := by
  have main : ∀ f g : Nat, g ≤ f → g ≤ G → bpos r i g ∉ T → ¬ Reach xs S r i (bpos r i g) → ∃ e, 0 < e ∧ e ≤ G ∧ touch xs i (bpos r i e) = false ∧ ∀ k ∈ rbt xs i (bpos r i e), k ∈ T := by
    intro f
    induction f with
    | zero =>
      intro g hg _ _ nr
      obtain rfl : g = 0 := by omega
      rw [bpos_zero] at nr
      exact absurd Reach.refl nr
    | succ f ih =>
      intro g hg hgG gT nr
      have g0 : 0 < g := by
        rcases Nat.eq_zero_or_pos g with rfl | hp
        · rw [bpos_zero] at nr; exact absurd Reach.refl nr
        · exact hp
      by_cases c : ∃ d, 0 < d ∧ d < g ∧ bpos r i d ∉ T ∧ ¬ Reach xs S r i (bpos r i d)
      · obtain ⟨d, _, hd, h1, h2⟩ := c
        exact ih d (by omega) (by omega) h1 h2
      · have gS : bpos r i g ∈ S := hT _ (bpos_lt hi (by omega)) gT
        refine ⟨g, g0, hgG, ?_, fun k hk => ?_⟩
        · cases ht : touch xs i (bpos r i g) with
          | false => rfl
          | true => exact absurd (Reach.refl.step h gS ((touch_zero h hi g0 (by omega)).mp ht)) nr
        · obtain ⟨hb, ht⟩ := mem_rbt.mp hk
          obtain ⟨d, hd0, hdg, rfl⟩ := (betw_pos (n := xs.length) (by omega)).mp hb
          refine Classical.byContradiction fun nT => ?_
          by_cases q : Reach xs S r i (bpos r i d)
          · exact nr (q.step h gS ((touch_hit h hi hdg (by omega)).mp ht))
          · exact c ⟨d, hd0, hdg, nT, q⟩
  exact main G G (Nat.le_refl _) (Nat.le_refl _) gT nr
/-- a goal that a run holds lies beside the pushed stone -/
theorem goal_pos (h : Inc xs) (hi : i < xs.length) {g : Nat} (h1 : (run xs i r).1 ≤ g) (h2 : g ≤ (run xs i r).2) : gap i g ≤ bmax r i xs.length ∧ g = bpos r i (gap i g) := by
  obtain ⟨d, hd, e, _⟩ := reach_pos h hi ((run_keys h hi).mpr ⟨h1, h2⟩)
  have : gap i g = d := by rw [e, bpos_gap hd]
  rw [this]
  exact ⟨hd, e⟩
end
/-! ### rows of the stones that are left -/
def leftL (n : Nat) (ns : List Nat) : List Nat := (List.range n).filter fun k => decide (k ∉ ns)
theorem mem_left {n k : Nat} {ns : List Nat} : k ∈ leftL n ns ↔ k < n ∧ k ∉ ns := by
  unfold leftL
  rw [List.mem_filter, List.mem_range, decide_eq_true_eq]
theorem left_sorted (n : Nat) (ns : List Nat) : (leftL n ns).Pairwise (· < ·) := (List.pairwise_lt_range (n := n)).filter _
theorem left_nil (n : Nat) : leftL n [] = List.range n := List.filter_eq_self.mpr fun k _ => by simp
def part (xs : List (Int × Int)) (L : List Nat) : List (Int × Int) := L.map fun k => xs.getD k (0, 0)
theorem part_get {xs : List (Int × Int)} {L : List Nat} {a k : Nat} (h : L[a]? = some k) (hk : k < xs.length) : (part xs L)[a]? = xs[k]? := by
  unfold part
  rw [List.getElem?_map, h]
  show some (xs.getD k (0, 0)) = xs[k]?
  simp [List.getD, hk]
theorem part_all (xs : List (Int × Int)) : part xs (List.range xs.length) = xs := by
  apply List.ext_getElem?
  intro a
  by_cases h : a < xs.length
  · rw [part_get (k := a) (by rw [List.getElem?_range h]) h]
  · rw [List.getElem?_eq_none (by unfold part; simp; omega), List.getElem?_eq_none (by omega)]
theorem part_len (xs : List (Int × Int)) (L : List Nat) : (part xs L).length = L.length := by unfold part; rw [List.length_map]
theorem get_lt {L : List Nat} (s : L.Pairwise (· < ·)) {a b k j : Nat} (h : L[a]? = some k) (g : L[b]? = some j) : a < b ↔ k < j := by
  obtain ⟨ha, rfl⟩ := List.getElem?_eq_some_iff.mp h
  obtain ⟨hb, rfl⟩ := List.getElem?_eq_some_iff.mp g
  have p := List.pairwise_iff_getElem.mp s
  constructor
  · exact fun q => p a b ha hb q
  · intro q
    refine Nat.lt_of_not_le fun c => ?_
    rcases Nat.lt_or_ge b a with c' | c'
    · have := p b a hb ha c'; omega
    · have : a = b := by omega
      subst this
      omega
theorem part_inc {xs : List (Int × Int)} (h : Inc xs) {L : List Nat} (s : L.Pairwise (· < ·)) (b : ∀ k ∈ L, k < xs.length) : Inc (part xs L) := by
  intro a c x y hac hx hy
  have ha : a < L.length := by have := (List.getElem?_eq_some_iff.mp hx).1; rwa [part_len] at this
  have hc : c < L.length := by have := (List.getElem?_eq_some_iff.mp hy).1; rwa [part_len] at this
  have ea : L[a]? = some L[a] := by simp [ha]
  have ec : L[c]? = some L[c] := by simp [hc]
  rw [part_get ea (b _ (List.getElem_mem ha))] at hx
  rw [part_get ec (b _ (List.getElem_mem hc))] at hy
  exact h _ _ _ _ ((get_lt s ea ec).mp hac) hx hy
theorem part_pl {xs : List (Int × Int)} {L : List Nat} {a k : Nat} (h : L[a]? = some k) (hk : k < xs.length) : pl (part xs L) a = pl xs k ∧ ht (part xs L) a = ht xs k := by
  unfold pl ht
  simp only [List.getD]
  rw [part_get h hk]
  exact ⟨rfl, rfl⟩
theorem part_hit {xs : List (Int × Int)} {L : List Nat} (s : L.Pairwise (· < ·)) (bd : ∀ k ∈ L, k < xs.length) {r : Bool} {a b k j : Nat} (h : L[a]? = some k) (g : L[b]? = some j) : Hit (part xs L) r a b ↔ Hit xs r k j := by
  have ha := (List.getElem?_eq_some_iff.mp h).1
  have hb := (List.getElem?_eq_some_iff.mp g).1
  have hk := bd k (List.mem_of_getElem? h)
  have hj := bd j (List.mem_of_getElem? g)
  unfold Hit
  rw [part_len, (part_pl h hk).1, (part_pl h hk).2, (part_pl g hj).1, get_lt s h g, get_lt s g h]
  exact ⟨fun q => ⟨hk, hj, q.2.2⟩, fun q => ⟨ha, hb, q.2.2⟩⟩
theorem part_reach {xs : List (Int × Int)} (hx : Inc xs) {L : List Nat} (s : L.Pairwise (· < ·)) (bd : ∀ k ∈ L, k < xs.length) {r : Bool} {a i : Nat} (h : L[a]? = some i) {b j : Nat} (g : L[b]? = some j) :
    Reach (part xs L) (List.range (part xs L).length) r a b ↔ Reach xs L r i j := by
  have hp := part_inc hx s bd
  constructor
  · intro q
    have key : ∃ j', L[b]? = some j' ∧ Reach xs L r i j' := by
      refine Reach.ind hp (P := fun b => ∃ j', L[b]? = some j' ∧ Reach xs L r i j') ⟨i, h, Reach.refl⟩ (fun m c _ hm hc hh => ?_) q
      obtain ⟨k, hk, rk⟩ := hm
      have hcl : c < L.length := by have := List.mem_range.mp hc; rwa [part_len] at this
      have ec : L[c]? = some L[c] := by simp [hcl]
      exact ⟨_, ec, rk.step hx (List.getElem_mem hcl) ((part_hit s bd hk ec).mp hh)⟩
    obtain ⟨j', e, q⟩ := key
    rw [g] at e
    cases e
    exact q
  · intro q
    have key : ∀ b, L[b]? = some j → Reach (part xs L) (List.range (part xs L).length) r a b := by
      refine Reach.ind hx (P := fun j => ∀ b, L[b]? = some j → Reach (part xs L) (List.range (part xs L).length) r a b) (fun (b : Nat) hb => ?_) (fun (m c : Nat) rm hm hc hh b hb => ?_) q
      · have e : a = b := by
          rcases Nat.lt_trichotomy a b with c | c | c
          · have := (get_lt s h hb).mp c; omega
          · exact c
          · have := (get_lt s hb h).mp c; omega
        rw [← e]; exact Reach.refl
      · have hmL : ∃ a' : Nat, L[a']? = some m := by
          obtain ⟨d, q⟩ := rm
          cases d with
          | zero => obtain rfl : m = i := q; exact ⟨a, h⟩
          | succ d =>
            have : m = i ∨ m ∈ L := by
              refine Reach.ind hx (P := fun m => m = i ∨ m ∈ L) (.inl rfl) (fun _ _ _ _ hj _ => .inr hj) (⟨d + 1, q⟩ : Reach xs L r i m)
            rcases this with rfl | hm
            · exact ⟨a, h⟩
            · exact List.mem_iff_getElem?.mp hm
        obtain ⟨a', ha'⟩ := hmL
        refine (hm a' ha').step hp (List.mem_range.mpr ?_) ((part_hit s bd ha' hb).mpr hh)
        rw [part_len]
        exact (List.getElem?_eq_some_iff.mp hb).1
    exact key b g
/-- those of the stones that are left that a push fells -/
def fellsL (xs : List (Int × Int)) (ns : List Nat) (i : Nat) (r : Bool) : List Nat :=
  ((leftL xs.length ns).drop (run (part xs (leftL xs.length ns)) ((leftL xs.length ns).idxOf i) r).1).take
    ((run (part xs (leftL xs.length ns)) ((leftL xs.length ns).idxOf i) r).2 + 1 - (run (part xs (leftL xs.length ns)) ((leftL xs.length ns).idxOf i) r).1)
theorem idx_get {L : List Nat} {i : Nat} (h : i ∈ L) : L[L.idxOf i]? = some i := by
  have hl := List.idxOf_lt_length_of_mem h
  rw [List.getElem?_eq_getElem hl, List.getElem_idxOf]
theorem mem_slice {L : List Nat} {f e j : Nat} (hfe : f ≤ e + 1) : j ∈ (L.drop f).take (e + 1 - f) ↔ ∃ b, f ≤ b ∧ b ≤ e ∧ L[b]? = some j := by
  constructor
  · intro h
    obtain ⟨a, ha⟩ := List.mem_iff_getElem?.mp h
    rw [List.getElem?_take] at ha
    split at ha
    · rw [List.getElem?_drop] at ha
      exact ⟨f + a, by omega, by omega, ha⟩
    · cases ha
  · rintro ⟨b, h1, h2, h3⟩
    refine List.mem_iff_getElem?.mpr ⟨b - f, ?_⟩
    rw [List.getElem?_take, if_pos (by omega), List.getElem?_drop]
    rw [show f + (b - f) = b by omega]
    exact h3
theorem mem_fells {xs : List (Int × Int)} (hx : Inc xs) {ns : List Nat} {i j : Nat} {r : Bool} (hi : i ∈ leftL xs.length ns) : j ∈ fellsL xs ns i r ↔ j ∈ leftL xs.length ns ∧ Reach xs (leftL xs.length ns) r i j := by
  have s := left_sorted xs.length ns
  have bd : ∀ k ∈ leftL xs.length ns, k < xs.length := fun k hk => (mem_left.mp hk).1
  unfold fellsL
  generalize leftL xs.length ns = L at *
  have ei := idx_get hi
  have hp := part_inc hx s bd
  have hl : L.idxOf i < (part xs L).length := by rw [part_len]; exact List.idxOf_lt_length_of_mem hi
  have b := run_bounds hp (r := r) hl
  rw [mem_slice (by omega)]
  constructor
  · rintro ⟨b', h1, h2, h3⟩
    exact ⟨List.mem_of_getElem? h3, (part_reach hx s bd ei h3).mp ((run_keys hp hl).mpr ⟨h1, h2⟩)⟩
  · rintro ⟨h1, h2⟩
    obtain ⟨b', hb'⟩ := List.mem_iff_getElem?.mp h1
    have := (run_keys hp hl).mp ((part_reach hx s bd ei hb').mpr h2)
    exact ⟨b', this.1, this.2, hb'⟩
theorem fells_sub {xs : List (Int × Int)} {ns : List Nat} {i : Nat} {r : Bool} : (fellsL xs ns i r).Sublist (leftL xs.length ns) := (List.take_sublist _ _).trans (List.drop_sublist _ _)
theorem fells_all {xs : List (Int × Int)} (hx : Inc xs) {i : Nat} {r : Bool} (hi : i < xs.length) : fellsL xs [] i r = (List.range ((run xs i r).2 + 1 - (run xs i r).1)).map fun k => (run xs i r).1 + k := by
  have b := run_bounds hx (r := r) hi
  unfold fellsL
  rw [left_nil, part_all]
  have e : (List.range xs.length).idxOf i = i := by
    have h := idx_get (L := List.range xs.length) (i := i) (List.mem_range.mpr hi)
    have hl := List.idxOf_lt_length_of_mem (List.mem_range.mpr hi : i ∈ List.range xs.length)
    rw [List.length_range] at hl
    rw [List.getElem?_range hl] at h
    exact Option.some.inj h
  rw [e]
  apply List.ext_getElem?
  intro a
  rw [List.getElem?_take, List.getElem?_map]
  split
  · rw [List.getElem?_drop, List.getElem?_range (by omega), List.getElem?_range (by omega)]
    rfl
  · rw [List.getElem?_eq_none (by rw [List.length_range]; omega)]
    rfl
/-- one more of them is taken away: the greatest one first -/
theorem take_one {n k : Nat} {L : List Nat} {ns : List Nat} (hL : L = leftL n ns) (hk : k < n) (hn : ∀ m ∈ ns, k < m) : ((List.range L.length).filter fun i => decide (i ≠ k)).map (fun i => L.getD i 0) = leftL n (k :: ns) ∧ k < L.length := by
  have e0 : L = List.range (k + 1) ++ ((List.range (n - (k + 1))).map (k + 1 + ·)).filter fun j => decide (j ∉ ns) := by
    rw [hL]
    unfold leftL
    rw [show n = (k + 1) + (n - (k + 1)) by omega, List.range_add, List.filter_append]
    rw [show k + 1 + (n - (k + 1)) - (k + 1) = n - (k + 1) by omega]
    congr 1
    refine List.filter_eq_self.mpr fun j hj => decide_eq_true fun hm => ?_
    have := List.mem_range.mp hj
    have := hn j hm
    omega
  have hkL : L[k]? = some k := by
    rw [e0, List.getElem?_append_left (by rw [List.length_range]; omega), List.getElem?_range (by omega)]
  have kl := (List.getElem?_eq_some_iff.mp hkL).1
  refine ⟨?_, kl⟩
  have s : L.Pairwise (· < ·) := by rw [hL]; exact left_sorted n ns
  have e1 : leftL n (k :: ns) = L.filter fun j => decide (j ≠ k) := by
    rw [hL]
    unfold leftL
    rw [List.filter_filter]
    refine List.filter_congr fun j _ => ?_
    rw [← Bool.decide_and, decide_eq_decide]
    simp [List.mem_cons, not_or]
  have e2 : L = (List.range L.length).map fun i => L.getD i 0 := by
    apply List.ext_getElem?
    intro a
    by_cases h : a < L.length
    · rw [List.getElem?_map, List.getElem?_range h]
      simp [List.getD, h]
    · rw [List.getElem?_eq_none (by omega), List.getElem?_eq_none (by simp; omega)]
  rw [e1]
  conv => rhs; rw [e2]
  rw [List.filter_map]
  congr 1
  refine List.filter_congr fun i hi => ?_
  have hil := List.mem_range.mp hi
  have ei : L[i]? = some (L.getD i 0) := by simp [List.getD, hil]
  show decide (i ≠ k) = decide (L.getD i 0 ≠ k)
  rw [decide_eq_decide]
  constructor
  · intro h e
    rw [e] at ei
    rcases Nat.lt_trichotomy i k with c | c | c
    · have := (get_lt s ei hkL).mp c; omega
    · exact h c
    · have := (get_lt s hkL ei).mp c; omega
  · intro h e
    subst e
    rw [hkL] at ei
    exact h (Option.some.inj ei).symm
/-! ### live rows: mathematics -/
theorem idxs_mark_mem {cs : List Cnd} {l : List Nat} {c d : Cnd} {k : Nat} : k ∈ idxs (mark cs l c) d ↔ k < cs.length ∧ (if k ∈ l then c = d else cs[k]? = some d) := by
  rw [idxs_mem]
  by_cases hk : k < cs.length
  · rw [mark_at hk]
    have e : cs[k]? = some (cs.getD k none) := by rw [List.getD_eq_getElem?_getD]; simp [hk]
    split
    · exact ⟨fun h => ⟨hk, Option.some.inj h⟩, fun h => congrArg some h.2⟩
    · rw [e]
      exact ⟨fun h => ⟨hk, h⟩, fun h => h.2⟩
  · have e : (mark cs l c)[k]? = none := List.getElem?_eq_none (by rw [mark_len]; omega)
    rw [e]
    exact ⟨fun h => (nomatch h), fun h => absurd h.1 hk⟩
theorem idxs_lt {cs : List Cnd} {c : Cnd} {k : Nat} (h : k ∈ idxs cs c) : k < cs.length := (List.getElem?_eq_some_iff.mp (idxs_mem.mp h)).1
theorem idxs_up (cs : List Cnd) (c : Cnd) : (idxs cs c).Pairwise (· < ·) := filter_lt _ _
theorem nodup_up {l : List Nat} (h : l.Pairwise (· < ·)) : l.Nodup := h.imp fun {a b} q => Nat.ne_of_lt q
theorem up_ext {l m : List Nat} (hl : l.Pairwise (· < ·)) (hm : m.Pairwise (· < ·)) (h : ∀ k, k ∈ l ↔ k ∈ m) : l = m :=
  ((List.perm_ext_iff_of_nodup (nodup_up hl) (nodup_up hm)).mpr h).eq_of_pairwise (fun a b p q r s => by omega) hl hm
theorem idxs_mark_ne {cs : List Cnd} {l : List Nat} {c d : Cnd} (h : c ≠ d) : idxs (mark cs l c) d = (idxs cs d).filter fun k => decide (k ∉ l) := by
  refine up_ext (idxs_up _ _) ((idxs_up _ _).filter _) fun k => ?_
  rw [idxs_mark_mem, List.mem_filter, decide_eq_true_eq]
  by_cases hk : k ∈ l
  · rw [if_pos hk]
    exact ⟨fun q => absurd q.2 h, fun q => absurd hk q.2⟩
  · rw [if_neg hk]
    exact ⟨fun q => ⟨idxs_mem.mpr q.2, hk⟩, fun q => ⟨idxs_lt q.1, idxs_mem.mp q.1⟩⟩
theorem idxs_mark_eq {cs : List Cnd} {l : List Nat} {c : Cnd} (nd : l.Nodup) (hl : ∀ k ∈ l, k < cs.length ∧ cs[k]? ≠ some c) : (idxs cs c ++ l).Perm (idxs (mark cs l c) c) := by
  refine (List.perm_ext_iff_of_nodup ?_ (nodup_up (idxs_up _ _))).mpr fun k => ?_
  · refine List.nodup_append.mpr ⟨nodup_up (idxs_up _ _), nd, fun a ha b hb e => ?_⟩
    subst e
    exact (hl a hb).2 (idxs_mem.mp ha)
  · rw [idxs_mark_mem, List.mem_append]
    by_cases hk : k ∈ l
    · rw [if_pos hk]
      exact ⟨fun _ => ⟨(hl k hk).1, rfl⟩, fun _ => .inr hk⟩
    · rw [if_neg hk]
      exact ⟨fun q => q.elim (fun q => ⟨idxs_lt q, idxs_mem.mp q⟩) fun q => absurd q hk, fun q => .inl (idxs_mem.mpr q.2)⟩
/-- sorted, they are the ones of the condition -/
theorem sorted_idxs {cs : List Cnd} {l : List Nat} {c : Cnd} {ms : List Int} (h : l.Perm (idxs cs c)) (p : ms.Perm (l.map fun (k : Nat) => (k : Int))) (s : ms.Pairwise (· ≤ ·)) : ms.map V.int = ivs (idxs cs c) := by
  rw [srt_one s (idxs_up cs c) (p.trans (h.map _))]
  unfold ivs
  rw [List.map_map]
  rfl
theorem reach_in {xs : List (Int × Int)} (hx : Inc xs) {S : List Nat} {r : Bool} {i j : Nat} (hi : i ∈ S) (h : Reach xs S r i j) : j ∈ S := Reach.ind hx (P := fun j => j ∈ S) hi (fun _ _ _ _ q _ => q) h
theorem mem_fellL {xs : List (Int × Int)} (hx : Inc xs) {cs : List Cnd} {i j : Nat} {r : Bool} (hl : cs.length = xs.length) (hi : cs[i]? = some (some true)) : j ∈ fellL xs cs i r ↔ Reach xs (idxs cs (some true)) r i j := by
  have hi2 : i < xs.length := by rw [← hl]; exact (List.getElem?_eq_some_iff.mp hi).1
  have q := felled_mem (j := j) hx (sd := ups cs) (S := idxs cs (some true)) (r := r) hi2 (fun o _ => ups_at)
  unfold fellL
  rw [List.mem_filter, List.mem_range, decide_eq_true_eq, q]
  refine ⟨fun h => h.2, fun h => ⟨?_, h⟩⟩
  rw [← hl]
  exact idxs_lt (reach_in hx (idxs_mem.mpr hi) h)
theorem fellL_up {xs : List (Int × Int)} (hx : Inc xs) {cs : List Cnd} {i j : Nat} {r : Bool} (hl : cs.length = xs.length) (hi : cs[i]? = some (some true)) (h : j ∈ fellL xs cs i r) : cs[j]? = some (some true) :=
  idxs_mem.mp (reach_in hx (idxs_mem.mpr hi) ((mem_fellL hx hl hi).mp h))
theorem fell_slice {xs : List (Int × Int)} (hx : Inc xs) {cs : List Cnd} {i : Nat} {r : Bool} (hl : cs.length = xs.length) (hi : cs[i]? = some (some true)) :
    ((idxs cs (some true)).drop (run (part xs (idxs cs (some true))) ((idxs cs (some true)).idxOf i) r).1).take ((run (part xs (idxs cs (some true))) ((idxs cs (some true)).idxOf i) r).2 + 1 - (run (part xs (idxs cs (some true))) ((idxs cs (some true)).idxOf i) r).1) = fellL xs cs i r := by
  have s := idxs_up cs (some true)
  have bd : ∀ k ∈ idxs cs (some true), k < xs.length := fun k hk => by rw [← hl]; exact idxs_lt hk
  have him := idxs_mem.mpr hi
  refine up_ext (s.sublist ((List.take_sublist _ _).trans (List.drop_sublist _ _))) (filter_lt _ _) fun j => ?_
  rw [mem_fellL hx hl hi]
  generalize idxs cs (some true) = L at *
  have ei := idx_get him
  have hp := part_inc hx s bd
  have hL : L.idxOf i < (part xs L).length := by rw [part_len]; exact List.idxOf_lt_length_of_mem him
  have b := run_bounds hp (r := r) hL
  rw [mem_slice (by omega)]
  constructor
  · rintro ⟨b', h1, h2, h3⟩
    exact (part_reach hx s bd ei h3).mp ((run_keys hp hL).mpr ⟨h1, h2⟩)
  · intro h
    obtain ⟨b', hb'⟩ := List.mem_iff_getElem?.mp (reach_in hx him h)
    have := (run_keys hp hL).mp ((part_reach hx s bd ei hb').mpr h)
    exact ⟨b', this.1, this.2, hb'⟩
theorem fellL_pw (xs : List (Int × Int)) (cs : List Cnd) (i : Nat) (r : Bool) : (fellL xs cs i r).Pairwise (· < ·) := filter_lt _ _
/-! ### _law_after: mathematics -/
def lawS : Cnd → Str
  | some true => "up"
  | some false => "down"
  | none => "gone"
def lwV (cs : List Cnd) : List V := cs.map fun c => V.str (lawS c)
theorem lwV_len (cs : List Cnd) : (lwV cs).length = cs.length := by unfold lwV; rw [List.length_map]
theorem lwV_at {cs : List Cnd} {i : Nat} {c : Cnd} (h : cs[i]? = some c) : (lwV cs)[i]? = some (V.str (lawS c)) := by unfold lwV; rw [List.getElem?_map, h]; rfl
theorem law_dec (c d : Cnd) : decide (V.str (lawS c) = V.str (lawS d)) = decide (c = d) := by
  rcases c with _ | _ | _ <;> rcases d with _ | _ | _ <;> decide +kernel
def lwD (cs : List Cnd) : List PyData := cs.map fun c => PyData.str (lawS c)
theorem lw_all {K : PySem.W.Frag} {H : Hp} : ∀ cs : List Cnd, DpAll K H (lwV cs) (lwD cs)
  | [] => .nil
  | c :: cs => .cons (.str _) (lw_all cs)
theorem lw_lay : ∀ cs : List Cnd, PyData.canLayAll0 (lwD cs) = true
  | [] => by simp [lwD, PyData.canLayAll0]
  | c :: cs => by
    have h : PyData.strOk (lawS c) = true := by rcases c with _ | _ | _ <;> decide +kernel
    have ih := lw_lay cs
    unfold lwD at ih ⊢
    simp [PyData.canLayAll0, PyData.canLay0, h, ih]
theorem lw_deep : ∀ cs : List Cnd, PyData.depthAll (lwD cs) ≤ 1
  | [] => by simp [lwD, PyData.depthAll]
  | c :: cs => by
    have ih := lw_deep cs
    unfold lwD at ih ⊢
    simp only [List.map_cons, PyData.depthAll, PyData.depth]
    omega
theorem lw_shaped (cs : List Cnd) : SeqAt.shaped (.list (lwD cs)) = true := by
  have h1 := lw_deep cs
  have h2 : PyData.depth (.list (lwD cs)) ≤ 64 := by simp only [PyData.depth]; omega
  show (PyData.canLay0 (.list (lwD cs)) && decide (PyData.depth (.list (lwD cs)) ≤ 64)) = true
  rw [Bool.and_eq_true]
  exact ⟨by simp only [PyData.canLay0]; exact lw_lay cs, decide_eq_true h2⟩
theorem cnds_all (cs : List Cnd) : (List.range cs.length).map (fun k => cs.getD k none) = cs := by
  apply List.ext_getElem?
  intro k
  by_cases h : k < cs.length
  · rw [List.getElem?_map, List.getElem?_range h]
    simp [h]
  · rw [List.getElem?_eq_none (by simp; omega), List.getElem?_eq_none (by omega)]
theorem lw_count (cs : List Cnd) : ((lwD cs).countP fun z => PyData.eqv z (.str "up")) = (idxs cs (some true)).length := by
  unfold lwD idxs
  rw [List.countP_map, ← List.countP_eq_length_filter]
  conv => lhs; rw [← cnds_all cs]
  rw [List.countP_map]
  apply List.countP_congr
  intro k hk
  have hk : k < cs.length := List.mem_range.mp hk
  simp only [Function.comp_def]
  have e : cs[k]? = some (cs.getD k none) := by simp [hk]
  rw [e]
  generalize cs.getD k none = c
  rcases c with _ | _ | _ <;> decide +kernel
theorem cut_put {us : List V} {i : Nat} {v : V} (h : i < us.length) : cutV us none (some (i : Int)) ++ [v] ++ cutV us (some ((i : Int) + 1)) none = us.set i v := by
  have e1 : cutV us none (some (i : Int)) = us.take i := by
    unfold cutV
    rw [HT.sIx_nat, HT.sIx_none, Nat.min_eq_left (by omega)]
    simp
  have e2 : cutV us (some ((i : Int) + 1)) none = us.drop (i + 1) := by
    unfold cutV
    rw [show (i : Int) + 1 = ((i + 1 : Nat) : Int) by omega, HT.sIx_nat, HT.sIx_none, Nat.min_eq_left (by omega)]
    rw [List.take_of_length_le (by rw [List.length_drop]; exact Nat.le_refl _)]
  rw [e1, e2, List.set_eq_take_append_cons_drop, if_pos h]
  simp
theorem lw_mark {cs : List Cnd} {i : Nat} {c : Cnd} (h : i < cs.length) : (lwV cs).set i (.str (lawS c)) = lwV (mark cs [i] c) := by
  apply List.ext_getElem?
  intro k
  by_cases hk : k < cs.length
  · rw [lwV_at (mark_at hk), List.getElem?_set]
    by_cases e : i = k
    · subst e
      rw [if_pos rfl, if_pos (by rw [lwV_len]; exact h), if_pos (by simp)]
    · rw [if_neg e, if_neg (by simp; exact fun z => e z.symm), lwV_at (c := cs.getD k none) (by simp [hk])]
  · rw [List.getElem?_eq_none (by rw [List.length_set, lwV_len]; omega), List.getElem?_eq_none (by rw [lwV_len, mark_len]; omega)]
def resD (xs : List (Int × Int)) (cs : List Cnd) : Opn → PyData
  | .push i r => intD (fellL xs cs i r)
  | .lift i => .int ((idxs (mark cs [i] (some true)) (some true)).length : Nat)
  | .take i => .bool (decide (cs[i]? = some (some true)))
def errD : ErW → PyData
  | .stone => .tuple [.str "error", .str "UnknownStone"]
  | .side => .tuple [.str "error", .str "InvalidSide"]
  | .stand i => .tuple [.str "error", .str "NotStanding", .list [.int (i : Nat)]]
  | .lie i => .tuple [.str "error", .str "NotLying", .list [.int (i : Nat)]]
def outD (xs : List (Int × Int)) (cs : List Cnd) (ow : OpW) : PyData := match owE cs ow with
  | .inl op => resD xs cs op
  | .inr e => errD e
def nextC (xs : List (Int × Int)) (cs : List Cnd) (ow : OpW) : List Cnd := match owE cs ow with
  | .inl op => afterOp xs cs op
  | .inr _ => cs
/-- the stones that fall, sorted -/
theorem sorted_fell {xs : List (Int × Int)} (hx : Inc xs) {cs : List Cnd} {i : Nat} {r : Bool} (hl : cs.length = xs.length) (hi : cs[i]? = some (some true)) {fs : List (Nat × Nat)} (nd : (fs.map (·.1)).Nodup)
    (has : ∀ j u, (j, u) ∈ fs ↔ Fst xs (idxs cs (some true)) r i u j) {ms : List Int} (p : ms.Perm (fs.map fun p => (p.1 : Int))) (s : ms.Pairwise (· ≤ ·)) : ms.map V.int = ivs (fellL xs cs i r) := by
  have pm : (fs.map (·.1)).Perm (fellL xs cs i r) := by
    refine (List.perm_ext_iff_of_nodup nd (nodup_up (fellL_pw _ _ _ _))).mpr fun j => ?_
    rw [mem_fellL hx hl hi]
    constructor
    · intro h
      obtain ⟨⟨j', u⟩, h1, rfl⟩ := List.mem_map.mp h
      exact ⟨u, ((has _ _).mp h1).1⟩
    · rintro ⟨n, h⟩
      obtain ⟨u, _, h2⟩ := h.first
      exact List.mem_map.mpr ⟨(j, u), (has _ _).mpr h2, rfl⟩
  rw [srt_one s (fellL_pw xs cs i r) (p.trans (by
    have := pm.map fun (k : Nat) => (k : Int)
    rwa [List.map_map] at this))]
  unfold ivs
  rw [List.map_map]
  rfl
/-! ### _law_after -/
theorem numO_inv {n i : Nat} {v : V} (h : numO n v = some i) : v = .int ((i : Nat) : Int) ∧ i < n := by
  cases v with
  | int j =>
    have h : (if 0 ≤ j ∧ j < (n : Int) then some j.toNat else none) = some i := h
    by_cases c : 0 ≤ j ∧ j < (n : Int)
    · rw [if_pos c] at h
      cases h
      exact ⟨congrArg V.int (by omega), by omega⟩
    · rw [if_neg c] at h
      cases h
  | _ => cases h
theorem side_any (d : PyData) : ([PyData.str "left", .str "right"].any fun z => PyData.eqv z d) = sideD d := by simp [sideD]
def spAfter (K : PySem.W.Frag) : Sp := fun vs H Q _ => ∃ (q sp o : Addr) (us : List V) (xs : List (Int × Int)) (cs : List Cnd) (ow : OpW), vs = [.ref q, .ref sp, .ref o] ∧ SqL K H q us ∧ StonesAt K H us xs ∧ Wf 0 xs ∧ H sp = some (.lst (lwV cs)) ∧ cs.length = xs.length ∧ xs.length ≤ 40 ∧ SqT K H o (owV ow) ∧ plainW ow ∧
  ∀ (T : Addr) (v : V) (st : Addr) (H' : Hp), Same H H' → H' T = some (.tup [v, .ref st]) → Dp K H' v (outD xs cs ow) → H' st = some (.lst (lwV (nextC xs cs ow))) → Q (.ref T) H'
section
variable {P : Program} {w : World} {K : PySem.W.Frag} {mg : Str → Option Value} {base : Heap}
theorem ok_afterW {f g1 g2 : Addr} {fd d1 d2 : FuncData} (F : Fun K "_law_after" "_law_after" s_law_after f fd) (B : Blt mg) (NS : At P w K mg base CX0 1 "_law_is_stone" ["_law_value", "_law_size"] spIsStoneW g1 d1)
    (NT : At P w K mg base CX0 1 "_law_ticks" ["_law_stones_here", "_law_up", "_law_stone", "_law_side"] (spTicksW K) g2 d2) : FnOk P w K mg base CX0 2 f fd ["_law_stones_here", "_law_states", "_law_operation"] (spAfter K) := by
  refine F.ok sc_law_after (fun vs H Q E h => ?_) (fun cdv A outer s H vs Q E hr h => ?_)
  · obtain ⟨q, sp, o, us, xs, cs, ow, rfl, _⟩ := h
    rfl
  · obtain ⟨q, sp, o, us, xs, cs, ow, rfl, hq, hS, hw, hp, hl, hz, hO, pl, k⟩ := h
    have hun := hr.un
    have hu65 : (A.deeper (envOfC "_law_after" (defScope s_law_after) s.heap.objs.size f cdv)).units + 65 < cLine := by omega
    refine ⟨_, pss_cons (ps_par3 rfl sc_law_after.nd (i := 3) (j := 4) (l := 5) rfl rfl rfl (by decide) (by decide) (by decide) rfl rfl rfl (pa_cons (pe_ix ix_tup (pv 2) (pe_int) (fun _ _ => rfl)) (pa_cons (pe_ix ix_tup (pv 2) (pe_int) (fun _ _ => rfl)) (pa_cons (pe_callB call_len_seq (by rfl) B.len PySem.boot_len (pa_cons (pv 0) pa_nil)) pa_nil))) (by rfl))
      (pss_cons (ps_if (pt_not (pt_val (pe_at NS hr (pa_cons (pv 4) (pa_cons (pv 5) pa_nil))))) (pss_one (ps_ret (pe_tup (pa_cons (pe_tup (pa_cons (pe_str) (pa_cons (pe_str) pa_nil))) (pa_cons (pv 1) pa_nil))))) pss_nil)
      (pss_cons (ps_if (pt_cmpR (op_eq) (pv 3) (pe_str) (nomark _))
        (pss_cons (ps_if (pt_cmpR (DictI.op_notInT hu65) (pe_ix ix_tup (pv 2) (pe_int) (fun _ _ => rfl)) (pe_tup (pa_cons (pe_str) (pa_cons (pe_str) pa_nil))) (by rfl)) (pss_one (ps_ret (pe_tup (pa_cons (pe_tup (pa_cons (pe_str) (pa_cons (pe_str) pa_nil))) (pa_cons (pv 1) pa_nil))))) pss_nil)
        (pss_cons (ps_if (pt_cmpR (op_ne) (pe_ix ix_list (pv 1) (pv 4) (fun _ _ => rfl)) (pe_str) (nomark _)) (pss_one (ps_ret (pe_tup (pa_cons (pe_tup (pa_cons (pe_str) (pa_cons (pe_str) (pa_cons (pe_lst (pa_cons (pv 4) pa_nil)) pa_nil)))) (pa_cons (pv 1) pa_nil))))) pss_nil)
        (pss_cons (ps_setLc (i := 6) (own := [("_law_k", 7)]) (g := gName 7) rfl sc_law_after.nd rfl rfl (sw_true rfl rfl rfl (by decide +kernel)) (pi_range1 (by rfl) B.range (pa_cons (pv 5) pa_nil)) (blkOk_by (N := n_law_after) (sc := defScope s_law_after) (by decide +kernel))
          (fun _ _ _ _ _ => pg_name (i := 7) sc_law_after.nd rfl (Or.inl rfl)) (fun _ _ _ _ _ => pts_one (show PT _ _ (tTest (tOp rEq (tOp (rIxL K) (tVar 1) (tVar 7)) (tC (.str "up")))) from pt_cmpR (op_eq) (pe_ix ix_list (pv 1) (pv 7) (fun _ _ => rfl)) (pe_str) (nomark _))) (fun _ _ _ _ _ => pv 7))
        (pss_cons (ps_set (i := 8) sc_law_after.nd rfl (Or.inr rfl) (pe_callB ((DictI.cr_sortedDI rfl)) (by rfl) B.sorted boot_sorted (pa_cons (pe_at NT hr (pa_cons (pv 0) (pa_cons (pv 6) (pa_cons (pv 4) (pa_cons (pe_ix ix_tup (pv 2) (pe_int) (fun _ _ => rfl)) pa_nil))))) pa_nil)))
        (pss_one (ps_ret (pe_tup (pa_cons (pv 8) (pa_cons (pe_lc (own := [("_law_k", 7)]) (g := gName 7) (tt := tYes) rfl sc_law_after.nd (pi_range1 (by rfl) B.range (pa_cons (pv 5) pa_nil)) (blkOk_by (N := n_law_after) (sc := defScope s_law_after) (by decide +kernel))
          (fun _ _ _ _ _ => pg_name (i := 7) sc_law_after.nd rfl (Or.inl rfl)) (fun _ _ _ _ _ => pts_nil) (fun _ _ _ _ _ => (show PE _ _ (tIf (tTest (tOp (rIn K false) (tVar 7) (tVar 8))) (tC (.str "down")) (tOp (rIxL K) (tVar 1) (tVar 7))) from pe_ifExp (pt_cmpR (op_in_seq) (pv 7) (pv 8) (by rfl)) pe_str (pe_ix ix_list (pv 1) (pv 7) (fun _ _ => rfl))))) pa_nil))))))))) pss_nil)
      (pss_cons (ps_if (pt_cmpR (op_eq) (pv 3) (pe_str) (nomark _))
        (pss_cons (ps_if (pt_cmpR (op_ne) (pe_ix ix_list (pv 1) (pv 4) (fun _ _ => rfl)) (pe_str) (nomark _)) (pss_one (ps_ret (pe_tup (pa_cons (pe_tup (pa_cons (pe_str) (pa_cons (pe_str) (pa_cons (pe_lst (pa_cons (pv 4) pa_nil)) pa_nil)))) (pa_cons (pv 1) pa_nil))))) pss_nil)
        (pss_cons (ps_set (i := 9) sc_law_after.nd rfl (Or.inl rfl) (pe_op op_cat (pe_op op_cat (pe_slice sl_list (pv 1) po_none (po_some (pv 4))) (pe_lst (pa_cons (pe_str) pa_nil))) (pe_slice sl_list (pv 1) (po_some (pe_op op_add (pv 4) (pe_int))) po_none)))
        (pss_one (ps_ret (pe_tup (pa_cons (pe_bm PySem.F.plainAttrs_list PySem.F.slot_list_count PySem.F.type_list_count (LamV.mt_countD ?hcnt) (pv 9) (pa_cons (pe_str) pa_nil)) (pa_cons (pv 9) pa_nil))))))) pss_nil)
      (pss_cons (ps_if (pt_cmpR (op_eq) (pe_ix ix_list (pv 1) (pv 4) (fun _ _ => rfl)) (pe_str) (nomark _)) (pss_one (ps_ret (pe_tup (pa_cons (pe_tup (pa_cons (pe_str) (pa_cons (pe_str) (pa_cons (pe_lst (pa_cons (pv 4) pa_nil)) pa_nil)))) (pa_cons (pv 1) pa_nil))))) pss_nil)
      (pss_one (ps_ret (pe_tup (pa_cons (pe_cmpR (op_eq) (pe_ix ix_list (pv 1) (pv 4) (fun _ _ => rfl)) (pe_str) (nomark _)) (pa_cons (pe_op op_cat (pe_op op_cat (pe_slice sl_list (pv 1) po_none (po_some (pv 4))) (pe_lst (pa_cons (pe_str) pa_nil))) (pe_slice sl_list (pv 1) (po_some (pe_op op_add (pv 4) (pe_int))) po_none)) pa_nil))))))))), ?_⟩
    case hcnt => exact hu65
    have hpa := plainW_arg pl
    refine ⟨_, rfl, o, _, ((0 : Nat) : Int), _, rfl, rfl, hO, atI_nat (j := 0) (owV_at0 ow), _, rfl, o, _, ((1 : Nat) : Int), _, rfl, rfl, hO, atI_nat (j := 1) (owV_at1 ow), _, rfl, q, us, rfl, .inl hq, _, _, _, rfl, ?_⟩
    refine ⟨_, rfl, _, rfl, owA ow, us.length, rfl, hpa, _, rfl, ?_⟩
    have eu : us.length = cs.length := by rw [hS.1, hl]
    rw [eu]
    have err2 : ∀ (e : ErW) (a b : Str), owE cs ow = .inr e → errD e = .tuple [.str a, .str b] → ∀ H1, Same H H1 → ∀ t, H1 t = none → ∀ T, (upd H1 t (.tup [.str a, .str b])) T = none → Q (.ref T) (upd (upd H1 t (.tup [.str a, .str b])) T (.tup [.ref t, .ref sp])) := fun e a b he hd H1 s1 t nt T nT => by
      have s2 := s1.trans (same_new (o := .tup [V.str a, V.str b]) nt)
      have s3 := s2.trans (same_new (o := .tup [V.ref t, V.ref sp]) nT)
      refine k T _ sp _ s3 upd_same ?_ ?_
      · unfold outD
        rw [he]
        show Dp K _ _ (errD e)
        rw [hd]
        exact .tup (SqT.of (same_new nT _ _ upd_same)) (.cons (.str _) (.cons (.str _) .nil))
      · unfold nextC
        rw [he]
        exact s3 _ _ hp
    have err3 : ∀ (e : ErW) (a b : Str) (i : Nat), owE cs ow = .inr e → errD e = .tuple [.str a, .str b, .list [.int (i : Nat)]] → ∀ H1, Same H H1 → ∀ l, H1 l = none → ∀ t, (upd H1 l (.lst [.int (i : Nat)])) t = none → ∀ T, (upd (upd H1 l (.lst [.int (i : Nat)])) t (.tup [.str a, .str b, .ref l])) T = none →
        Q (.ref T) (upd (upd (upd H1 l (.lst [.int (i : Nat)])) t (.tup [.str a, .str b, .ref l])) T (.tup [.ref t, .ref sp])) := fun e a b i he hd H1 s1 l nl t nt T nT => by
      have s2 := (s1.trans (same_new (o := .lst [V.int (i : Nat)]) nl)).trans (same_new (o := .tup [V.str a, V.str b, V.ref l]) nt)
      have s3 := s2.trans (same_new (o := .tup [V.ref t, V.ref sp]) nT)
      refine k T _ sp _ s3 upd_same ?_ ?_
      · unfold outD
        rw [he]
        show Dp K _ _ (errD e)
        rw [hd]
        exact .tup (SqT.of (same_new nT _ _ upd_same)) (.cons (.str _) (.cons (.str _) (.cons (.lst (SqL.of (same_new nT _ _ (same_new nt _ _ upd_same))) (.cons (.int _) .nil)) .nil)))
      · unfold nextC
        rw [he]
        exact s3 _ _ hp
    cases hn : numO cs.length (owA ow) with
    | none =>
      refine iteT ⟨by show 2 ≤ sizeLine; decide, fun t nt => ⟨_, rfl, by show 2 ≤ sizeLine; decide, fun T nT => err2 .stone _ _ ?_ rfl H (Same.refl _) t nt T nT⟩⟩
      cases ow with
      | push v sv => simp only [owE]; rw [show numO cs.length v = none from hn]
      | lift v => simp only [owE]; rw [show numO cs.length v = none from hn]
      | take v => simp only [owE]; rw [show numO cs.length v = none from hn]
    | some i =>
      obtain ⟨eA, hi⟩ := numO_inv hn
      refine iteF ?_
      obtain ⟨c, hc⟩ : ∃ c, cs[i]? = some c := ⟨cs[i], by simp [hi]⟩
      rw [eA]
      refine ⟨_, rfl, rfl, _, rfl, ?_⟩
      -- later
      have put : ∀ (c' : Cnd), cutV (lwV cs) none (some ((i : Nat) : Int)) ++ [V.str (lawS c')] ++ cutV (lwV cs) (some (((i : Nat) : Int) + 1)) none = lwV (mark cs [i] c') := fun c' => by rw [cut_put (by rw [lwV_len]; exact hi), lw_mark hi]
      have lenp : ∀ c' : Cnd, (cutV (lwV cs) none (some ((i : Nat) : Int)) ++ [V.str (lawS c')] ++ cutV (lwV cs) (some (((i : Nat) : Int) + 1)) none).length ≤ 40 := fun c' => by rw [put, lwV_len, mark_len]; omega
      have l1 : ∀ c' : Cnd, (cutV (lwV cs) none (some ((i : Nat) : Int))).length + [V.str (lawS c')].length ≤ sizeLine := fun c' => by
        have := lenp c'
        rw [List.length_append, List.length_append] at this
        rw [sizeLine_eq]; omega
      have l2 : ∀ c' : Cnd, (cutV (lwV cs) none (some ((i : Nat) : Int)) ++ [V.str (lawS c')]).length + (cutV (lwV cs) (some (((i : Nat) : Int) + 1)) none).length ≤ sizeLine := fun c' => by
        have := lenp c'
        rw [List.length_append] at this
        rw [sizeLine_eq]; omega
      cases ow with
      | push v sv =>
        obtain rfl : v = .int (i : Nat) := eA
        refine iteT ?_
        refine ⟨_, rfl, o, _, ((2 : Nat) : Int), _, rfl, rfl, hO, atI_nat (j := 2) rfl, by show 2 ≤ sizeLine; decide, fun t2 nt2 => ⟨plainD sv, [.str "left", .str "right"], plain_dp pl.2, .tup (SqT.of upd_same) (.cons (.str _) (.cons (.str _) .nil)), plain_shaped pl.2, by decide +kernel, _, rfl, ?_⟩⟩
        have s2 := same_new (o := .tup [V.str "left", V.str "right"]) nt2
        generalize upd H t2 (.tup [V.str "left", V.str "right"]) = H2 at s2 ⊢
        rw [side_any]
        cases hsd : sideD (plainD sv) with
        | false =>
          refine iteT ⟨by show 2 ≤ sizeLine; decide, fun t nt => ⟨_, rfl, by show 2 ≤ sizeLine; decide, fun T nT => err2 .side _ _ ?_ rfl H2 s2 t nt T nT⟩⟩
          simp only [owE]
          rw [show numO cs.length (.int (i : Nat)) = some i from hn]
          dsimp only
          rw [sideO_none hsd pl.2]
        | true =>
          obtain ⟨r, rfl⟩ := side_some (K := K) (H := H) (plain_dp pl.2) hsd
          refine iteF ?_
          refine ⟨_, rfl, _, rfl, sp, _, ((i : Nat) : Int), _, rfl, rfl, SqL.of (s2 _ _ hp), atI_nat (lwV_at hc), rfl, _, rfl, ?_⟩
          rw [show (!decide (V.str (lawS c) = V.str "up")) = !decide (c = some true) from congrArg (! ·) (law_dec c (some true))]
          by_cases e : c = some true
          · subst e
            rw [decide_eq_true rfl]
            have ho : owE cs (.push (.int (i : Nat)) (.str (sideS r))) = .inl (.push i r) := by
              simp only [owE]
              rw [show numO cs.length (.int (i : Nat)) = some i from hn]
              dsimp only
              rw [sideO_some]
              dsimp only
              rw [if_pos hc]
            refine iteF ?_
            -- up
            refine ⟨_, rfl, (cs.length : Int), rfl, by omega, by omega, fun D nD => ?_⟩
            rw [show ((cs.length : Nat) : Int).toNat = cs.length by omega]
            refine lc_fm (walk_range (lo := 0) (n := cs.length)) (List.range cs.length) (fun k => decide (cs[k]? = some (some true))) (fun k => k) (fun _ v k => v = .int ((k : Nat) : Int)) (List.length_range) (by omega) nD (fun _ _ _ _ _ _ _ q => q) (fun _ _ => True.intro) ?_ ?_
            · rintro n kx x G G' N' M' hm smG _ ⟨rfl, rfl⟩ no go
              obtain ⟨hnl, rfl⟩ := get_range hm
              obtain ⟨c2, hc2⟩ : ∃ c2, cs[kx]? = some c2 := ⟨cs[kx], by simp [hnl]⟩
              show gName 7 (V.int (0 + (kx : Int))) _ _ _
              rw [Int.zero_add]
              refine ⟨rfl, _, rfl, _, rfl, sp, _, ((kx : Nat) : Int), _, rfl, rfl, SqL.of (smG _ _ (s2 _ _ hp)), atI_nat (lwV_at hc2), rfl, _, rfl, ?_⟩
              rw [show decide (V.str (lawS c2) = V.str "up") = decide (c2 = some true) from law_dec c2 (some true)]
              by_cases e2 : c2 = some true
              · rw [decide_eq_true e2]
                exact iteT ⟨_, rfl, go _ _ (by rw [hc2, e2]; simp) (Same.refl _) rfl⟩
              · rw [decide_eq_false e2]
                exact iteF (no _ (by rw [hc2]; simp [e2]) (Same.refl _))
            · intro G ys smG eD rel
              rw [List.map_id'] at rel
              obtain rfl := pair_ints rel
              have eD : G D = some (.lst (ivs (idxs cs (some true)))) := eD
              have s3 := s2.trans smG
              have hx := hw.inc
              -- falling
              refine ⟨_, rfl, _, rfl, _, rfl, _, rfl, o, _, ((2 : Nat) : Int), _, rfl, rfl, sqT_same hO s3, atI_nat (j := 2) rfl, ?_⟩
              refine ⟨q, D, us, xs, idxs cs (some true), i, r, rfl, sqL_same s3 hq, hS.same s3, SqL.of eD, fun k hk => by rw [← hl]; exact idxs_lt hk, by omega, by have := idxs_len cs (some true); omega, fun d fs H4 s4 nd ed ndk hlen has => ?_⟩
              have s4' := s3.trans s4
              refine ⟨d, kvs fs, fs.map (fun p => (p.1 : Int)), rfl, .inl ed, by unfold kvs; rw [List.map_map, List.map_map]; rfl, fun ms p5 pm pw n5 => ?_⟩
              have e5 : (upd H4 p5 (.lst (ms.map V.int))) p5 = some (.lst (ivs (fellL xs cs i r))) := by rw [upd_same, sorted_fell hx hl hc ndk has pm pw]
              have s5 := s4'.trans (same_new (o := .lst (ms.map V.int)) n5)
              generalize upd H4 p5 (.lst (ms.map V.int)) = H5 at s5 e5
              refine nm_of ?_
              -- the states then
              refine ⟨_, rfl, _, rfl, (cs.length : Int), rfl, by omega, by omega, fun D6 nD6 => ?_⟩
              rw [show ((cs.length : Nat) : Int).toNat = cs.length by omega]
              refine lc_fm (walk_range (lo := 0) (n := cs.length)) (List.range cs.length) (fun _ => true) (fun k => V.str (lawS (if k ∈ fellL xs cs i r then some false else cs.getD k none))) (fun _ v b => v = b) (List.length_range) (by omega) nD6 (fun _ _ _ _ _ _ _ q => q) (fun _ _ => True.intro) ?_ ?_
              · rintro n kx x G' G'' N' M' hm smG' _ ⟨rfl, rfl⟩ no go
                obtain ⟨hnl, rfl⟩ := get_range hm
                obtain ⟨c2, hc2⟩ : ∃ c2, cs[kx]? = some c2 := ⟨cs[kx], by simp [hnl]⟩
                show gName 7 (V.int (0 + (kx : Int))) _ _ _
                rw [Int.zero_add]
                refine ⟨rfl, _, rfl, _, rfl, p5, _, rfl, .inl (SqL.of (smG' _ _ e5)), rfl, flat_iv _, _, rfl, ?_⟩
                rw [if_neg Bool.false_ne_true]
                by_cases hk : kx ∈ fellL xs cs i r
                · rw [(inV_iv (j := kx) (ns := fellL xs cs i r)).trans (decide_eq_true hk)]
                  refine iteT (go _ _ rfl (Same.refl _) ?_)
                  rw [if_pos hk]
                  rfl
                · rw [(inV_iv (j := kx) (ns := fellL xs cs i r)).trans (decide_eq_false hk)]
                  refine iteF ⟨_, rfl, _, rfl, sp, _, ((kx : Nat) : Int), _, rfl, rfl, SqL.of (smG' _ _ (s5 _ _ hp)), atI_nat (lwV_at hc2), go _ _ rfl (Same.refl _) ?_⟩
                  rw [if_neg hk]
                  have e9 : cs.getD kx none = c2 := by simp [hc2]
                  rw [e9]
              · intro G' ys smG' eD' rel
                rw [show (List.range cs.length).filter (fun _ => true) = List.range cs.length from List.filter_eq_self.mpr (fun _ _ => rfl)] at rel
                have ey : ys = lwV (mark cs (fellL xs cs i r) (some false)) := by
                  rw [paired_eq (fun b => b) rel, List.map_id']
                  unfold lwV mark
                  rw [List.map_map]
                  rfl
                subst ey
                have s6 := s5.trans smG'
                refine ⟨by show 2 ≤ sizeLine; decide, fun T nT => ?_⟩
                refine k T _ D6 _ (s6.trans (same_new nT)) upd_same ?_ ?_
                · unfold outD
                  rw [ho]
                  exact ints_dp (SqL.of (same_new nT _ _ (smG' _ _ e5)))
                · unfold nextC
                  rw [ho]
                  exact same_new nT _ _ eD'
          · rw [decide_eq_false e]
            refine iteT ⟨_, rfl, by show 1 ≤ sizeLine; decide, fun l nl => ⟨by show 3 ≤ sizeLine; decide, fun t nt => ⟨_, rfl, by show 2 ≤ sizeLine; decide, fun T nT => err3 (.stand i) _ _ i ?_ rfl H2 s2 l nl t nt T nT⟩⟩⟩
            simp only [owE]
            rw [show numO cs.length (.int (i : Nat)) = some i from hn]
            dsimp only
            rw [sideO_some]
            dsimp only
            rw [if_neg (fun z => by rw [hc] at z; exact e (Option.some.inj z))]
      | lift v =>
        refine iteF ⟨_, rfl, rfl, _, rfl, iteT ?_⟩
        refine ⟨_, rfl, _, rfl, sp, _, ((i : Nat) : Int), _, rfl, rfl, SqL.of hp, atI_nat (lwV_at hc), rfl, _, rfl, ?_⟩
        rw [show (!decide (V.str (lawS c) = V.str "down")) = !decide (c = some false) from congrArg (! ·) (law_dec c (some false))]
        by_cases e : c = some false
        · rw [decide_eq_true e]
          have ho : owE cs (.lift v) = .inl (.lift i) := by
            simp only [owE]
            rw [show numO cs.length v = some i from hn]
            dsimp only
            rw [if_pos (by rw [hc, e])]
          refine iteF ?_
          refine ⟨_, rfl, _, rfl, _, rfl, sp, _, rfl, SqL.of hp, fun p1 n1 => ?_⟩
          have s1 := same_new (o := .lst (cutV (lwV cs) none (some ((i : Nat) : Int)))) n1
          refine ⟨by show 1 ≤ sizeLine; decide, fun p2 n2 => ?_⟩
          have s2 := s1.trans (same_new (o := .lst [V.str "up"]) n2)
          refine ⟨p1, p2, _, _, rfl, rfl, same_new n2 _ _ upd_same, upd_same, l1 (some true), fun p3 n3 => ?_⟩
          have s3 := s2.trans (same_new (o := .lst (cutV (lwV cs) none (some ((i : Nat) : Int)) ++ [V.str "up"])) n3)
          refine ⟨_, rfl, _, rfl, _, _, rfl, rfl, _, rfl, sp, _, rfl, SqL.of (s3 _ _ hp), fun p4 n4 => ?_⟩
          have s4 := s3.trans (same_new (o := .lst (cutV (lwV cs) (some (((i : Nat) : Int) + 1)) none)) n4)
          refine ⟨p3, p4, _, _, rfl, rfl, same_new n4 _ _ upd_same, upd_same, l2 (some true), fun p5 n5 => ?_⟩
          have s5 := s4.trans (same_new (o := .lst (cutV (lwV cs) none (some ((i : Nat) : Int)) ++ [V.str "up"] ++ cutV (lwV cs) (some (((i : Nat) : Int) + 1)) none)) n5)
          have e5 : (upd (upd (upd (upd (upd H p1 (.lst (cutV (lwV cs) none (some ((i : Nat) : Int))))) p2 (.lst [V.str "up"])) p3 (.lst (cutV (lwV cs) none (some ((i : Nat) : Int)) ++ [V.str "up"]))) p4 (.lst (cutV (lwV cs) (some (((i : Nat) : Int) + 1)) none))) p5
              (.lst (cutV (lwV cs) none (some ((i : Nat) : Int)) ++ [V.str "up"] ++ cutV (lwV cs) (some (((i : Nat) : Int) + 1)) none))) p5 = some (.lst (lwV (mark cs [i] (some true)))) := by rw [upd_same]; exact congrArg (fun z => some (HO.lst z)) (put (some true))
          refine ⟨_, rfl, .inl ⟨rfl, _, SqL.of e5⟩, p5, _, _, _, rfl, rfl, .lst (SqL.of e5) (lw_all _), .str _, lw_shaped _, by decide +kernel, _, rfl, by show 2 ≤ sizeLine; decide, fun T nT => ?_⟩
          refine k T _ p5 _ (s5.trans (same_new nT)) upd_same ?_ ?_
          · unfold outD
            rw [ho, lw_count]
            exact .int _
          · unfold nextC
            rw [ho]
            exact same_new nT _ _ e5
        · rw [decide_eq_false e]
          refine iteT ⟨_, rfl, by show 1 ≤ sizeLine; decide, fun l nl => ⟨by show 3 ≤ sizeLine; decide, fun t nt => ⟨_, rfl, by show 2 ≤ sizeLine; decide, fun T nT => err3 (.lie i) _ _ i ?_ rfl H (Same.refl _) l nl t nt T nT⟩⟩⟩
          simp only [owE]
          rw [show numO cs.length v = some i from hn]
          dsimp only
          rw [if_neg (fun z => by rw [hc] at z; exact e (Option.some.inj z))]
      | take v =>
        refine iteF ⟨_, rfl, rfl, _, rfl, iteF ?_⟩
        refine ⟨_, rfl, _, rfl, sp, _, ((i : Nat) : Int), _, rfl, rfl, SqL.of hp, atI_nat (lwV_at hc), rfl, _, rfl, ?_⟩
        rw [show decide (V.str (lawS c) = V.str "gone") = decide (c = none) from law_dec c none]
        by_cases e : c = none
        · rw [decide_eq_true e]
          refine iteT ⟨_, rfl, by show 1 ≤ sizeLine; decide, fun l nl => ⟨by show 3 ≤ sizeLine; decide, fun t nt => ⟨_, rfl, by show 2 ≤ sizeLine; decide, fun T nT => err3 (.stand i) _ _ i ?_ rfl H (Same.refl _) l nl t nt T nT⟩⟩⟩
          simp only [owE]
          rw [show numO cs.length v = some i from hn]
          dsimp only
          rw [if_pos (by rw [hc, e])]
        · rw [decide_eq_false e]
          refine iteF ?_
          have ho : owE cs (.take v) = .inl (.take i) := by
            simp only [owE]
            rw [show numO cs.length v = some i from hn]
            dsimp only
            rw [if_neg (fun z => by rw [hc] at z; exact e (Option.some.inj z))]
          refine ⟨_, rfl, _, rfl, sp, _, ((i : Nat) : Int), _, rfl, rfl, SqL.of hp, atI_nat (lwV_at hc), rfl, ?_⟩
          refine ⟨_, rfl, _, rfl, _, rfl, sp, _, rfl, SqL.of hp, fun p1 n1 => ?_⟩
          have s1 := same_new (o := .lst (cutV (lwV cs) none (some ((i : Nat) : Int)))) n1
          refine ⟨by show 1 ≤ sizeLine; decide, fun p2 n2 => ?_⟩
          have s2 := s1.trans (same_new (o := .lst [V.str "gone"]) n2)
          refine ⟨p1, p2, _, _, rfl, rfl, same_new n2 _ _ upd_same, upd_same, l1 none, fun p3 n3 => ?_⟩
          have s3 := s2.trans (same_new (o := .lst (cutV (lwV cs) none (some ((i : Nat) : Int)) ++ [V.str "gone"])) n3)
          refine ⟨_, rfl, _, rfl, _, _, rfl, rfl, _, rfl, sp, _, rfl, SqL.of (s3 _ _ hp), fun p4 n4 => ?_⟩
          have s4 := s3.trans (same_new (o := .lst (cutV (lwV cs) (some (((i : Nat) : Int) + 1)) none)) n4)
          refine ⟨p3, p4, _, _, rfl, rfl, same_new n4 _ _ upd_same, upd_same, l2 none, fun p5 n5 => ?_⟩
          have s5 := s4.trans (same_new (o := .lst (cutV (lwV cs) none (some ((i : Nat) : Int)) ++ [V.str "gone"] ++ cutV (lwV cs) (some (((i : Nat) : Int) + 1)) none)) n5)
          have e5 : (upd (upd (upd (upd (upd H p1 (.lst (cutV (lwV cs) none (some ((i : Nat) : Int))))) p2 (.lst [V.str "gone"])) p3 (.lst (cutV (lwV cs) none (some ((i : Nat) : Int)) ++ [V.str "gone"]))) p4 (.lst (cutV (lwV cs) (some (((i : Nat) : Int) + 1)) none))) p5
              (.lst (cutV (lwV cs) none (some ((i : Nat) : Int)) ++ [V.str "gone"] ++ cutV (lwV cs) (some (((i : Nat) : Int) + 1)) none))) p5 = some (.lst (lwV (mark cs [i] none))) := by rw [upd_same]; exact congrArg (fun z => some (HO.lst z)) (put none)
          refine ⟨by show 2 ≤ sizeLine; decide, fun T nT => ?_⟩
          refine k T _ p5 _ (s5.trans (same_new nT)) upd_same ?_ ?_
          · unfold outD
            rw [ho]
            show Dp K _ (.bl (decide (V.str (lawS c) = V.str (lawS (some true))))) (.bool (decide (cs[i]? = some (some true))))
            rw [law_dec, hc, show decide (some c = some (some true)) = decide (c = some true) by simp]
            exact .bl _
          · unfold nextC
            rw [ho]
            exact same_new nT _ _ e5
end
/-! ### _law_told: the result of a call, or its exception in words -/
structure Exc11 where
  e : Addr
  c0 : Addr
  c1 : Addr
  c2 : Addr
  c3 : Addr
  c4 : Addr
  c5 : Addr
  c6 : Addr
  c7 : Addr
  c8 : Addr
  c9 : Addr
  c10 : Addr
/-- the field that tells of the place p -/
def fldW (p : Nat) : Str := if p == 3 || p == 4 then "stone" else "index"
/-- D is the class of the place p -/
structure ExcOfW (K : PySem.W.Frag) (Z : Exc11) (D : Addr) (p : Nat) : Prop where
  ex : ExcC K D
  ix : PySem.W.findIn K (.ref D) "index" = some none
  sx : PySem.W.findIn K (.ref D) "stone" = some none
  se : PySem.W.exmOne K (.ref D) (.ref Z.e) = some true
  k0 : PySem.W.kitOne K (.ref D) (.ref Z.c0) = some (p == 0)
  k1 : PySem.W.kitOne K (.ref D) (.ref Z.c1) = some (p == 1)
  k2 : PySem.W.kitOne K (.ref D) (.ref Z.c2) = some (p == 2)
  k3 : PySem.W.kitOne K (.ref D) (.ref Z.c3) = some (p == 3)
  k4 : PySem.W.kitOne K (.ref D) (.ref Z.c4) = some (p == 4)
  k5 : PySem.W.kitOne K (.ref D) (.ref Z.c5) = some (p == 5)
  k6 : PySem.W.kitOne K (.ref D) (.ref Z.c6) = some (p == 6)
  k7 : PySem.W.kitOne K (.ref D) (.ref Z.c7) = some (p == 7)
  k8 : PySem.W.kitOne K (.ref D) (.ref Z.c8) = some (p == 8)
  k9 : PySem.W.kitOne K (.ref D) (.ref Z.c9) = some (p == 9)
  k10 : PySem.W.kitOne K (.ref D) (.ref Z.c10) = some (p == 10)
  ve : PySem.W.kitOne K (.ref D) (.type "ValueError") = some true
def ExcOfW.xf {K : PySem.W.Frag} {Z : Exc11} {D : Addr} {p : Nat} (o : ExcOfW K Z D p) : XfC K D := ⟨o.ex.hg, o.ex.hk, o.ex.hs, o.ex.hd⟩
/-- the names of the classes in the law -/
structure ExcMW (mg : Str → Option Value) (Z : Exc11) : Prop where
  e : mg "StoneError" = some (.ref Z.e)
  c0 : mg "InvalidOperation" = some (.ref Z.c0)
  c1 : mg "DecodeError" = some (.ref Z.c1)
  c2 : mg "NotationError" = some (.ref Z.c2)
  c3 : mg "NotStanding" = some (.ref Z.c3)
  c4 : mg "NotLying" = some (.ref Z.c4)
  c5 : mg "InvalidRow" = some (.ref Z.c5)
  c6 : mg "UnknownStone" = some (.ref Z.c6)
  c7 : mg "InvalidSide" = some (.ref Z.c7)
  c8 : mg "InvalidNumber" = some (.ref Z.c8)
  c9 : mg "Contradiction" = some (.ref Z.c9)
  c10 : mg "InvalidCount" = some (.ref Z.c10)
  ve : mg "ValueError" = none
def wordsW : List Str := ["InvalidOperation", "DecodeError", "NotationError", "NotStanding", "NotLying", "InvalidRow", "UnknownStone", "InvalidSide", "InvalidNumber", "Contradiction", "InvalidCount", "other"]
def wordW (p : Nat) : Str := wordsW.getD p ""
def bitsW (p : Nat) : List Bool := [p == 0, p == 1, p == 2, p == 3, p == 4, p == 5, p == 6, p == 7, p == 8, p == 9, p == 10]
theorem bitsW_one {p : Nat} (h : p < 11) : (((bitsW p).map PyData.bool).countP fun z => PyData.eqv z (.bool true)) = 1 := by
  have key : ∀ p, p < 11 → (((bitsW p).map PyData.bool).countP fun z => PyData.eqv z (.bool true)) = 1 := by
    intro p h
    match p, h with
    | 0, _ => rfl
    | 1, _ => rfl
    | 2, _ => rfl
    | 3, _ => rfl
    | 4, _ => rfl
    | 5, _ => rfl
    | 6, _ => rfl
    | 7, _ => rfl
    | 8, _ => rfl
    | 9, _ => rfl
    | 10, _ => rfl
  exact key p h
theorem bitsW_at {p : Nat} (h : p < 11) : (((bitsW p).map V.bl).all flatV = true) ∧ ((bitsW p).map V.bl)[p]? = some (V.bl true) ∧ ∀ (m : Nat) (z : V), m < p → ((bitsW p).map V.bl)[m]? = some z → eqV z (.bl true) = false := by
  have key : ∀ p, p < 11 → (((bitsW p).map V.bl).all flatV = true) ∧ (bitsW p)[p]? = some true ∧ ∀ m, m < p → (bitsW p)[m]? = some false := by decide
  obtain ⟨a, b, c⟩ := key p h
  refine ⟨a, by rw [List.getElem?_map, b]; rfl, fun m z hm e => ?_⟩
  rw [List.getElem?_map, c m hm] at e
  cases e
  rfl
theorem wordW_at {p : Nat} (h : p < 11) : atI (wordsW.map V.str) (p : Int) = some (.str (wordW p)) := by
  match p, h with
  | 0, _ => rfl
  | 1, _ => rfl
  | 2, _ => rfl
  | 3, _ => rfl
  | 4, _ => rfl
  | 5, _ => rfl
  | 6, _ => rfl
  | 7, _ => rfl
  | 8, _ => rfl
  | 9, _ => rfl
  | 10, _ => rfl
theorem bitsW_dp {K : PySem.W.Frag} {H : Hp} : ∀ bs : List Bool, DpAll K H (bs.map V.bl) (bs.map PyData.bool)
  | [] => .nil
  | b :: bs => .cons (.bl b) (bitsW_dp bs)
theorem bitsW_shaped (p : Nat) : SeqAt.shaped (.list ((bitsW p).map PyData.bool)) = true := by
  have h1 : ∀ bs : List Bool, PyData.canLayAll0 (bs.map PyData.bool) = true := fun bs => by
    induction bs with
    | nil => simp [PyData.canLayAll0]
    | cons b bs ih => simp [PyData.canLayAll0, PyData.canLay0, ih]
  have h2 : ∀ bs : List Bool, PyData.depthAll (bs.map PyData.bool) ≤ 1 := fun bs => by
    induction bs with
    | nil => simp [PyData.depthAll]
    | cons b bs ih => simp only [List.map_cons, PyData.depthAll, PyData.depth]; omega
  have h3 : PyData.depth (.list ((bitsW p).map PyData.bool)) ≤ 64 := by have := h2 (bitsW p); simp only [PyData.depth]; omega
  show (PyData.canLay0 (.list ((bitsW p).map PyData.bool)) && decide (PyData.depth (.list ((bitsW p).map PyData.bool)) ≤ 64)) = true
  rw [Bool.and_eq_true]
  exact ⟨by simp only [PyData.canLay0]; exact h1 _, decide_eq_true h3⟩
theorem refW_one {c : Addr} : ∀ u, L2.RelV (.ref c) u → u = .ref c := fun _ r => r
theorem tyW_one {c : String} : ∀ u, L2.RelV (.ty c) u → u = .type c := fun _ r => r
theorem lenW_five {l : L2.St} (h : l.length = 5) : ∃ a b c d e, l = [a, b, c, d, e] := by
  match l, h with
  | [a, b, c, d, e], _ => exact ⟨a, b, c, d, e, rfl⟩
/-- an exception is told so: its words and the list of its field, if it has one -/
def ToldW (K : PySem.W.Frag) (Z : Exc11) (Q : VK) : XK := fun cls d H => ∃ (D : Addr) (p : Nat) (v : V), cls = .ref D ∧ p < 11 ∧ p ≠ 1 ∧ p ≠ 2 ∧ ExcOfW K Z D p ∧ (∀ dd, d = some dd → ∃ fs, H dd = some (.xd fs)) ∧ (p < 6 → ∃ dd fs, d = some dd ∧ H dd = some (.xd fs) ∧ fs.lookup (fldW p) = some v) ∧
  (p < 6 → ∀ t l H', Same H H' → H' l = some (.lst [v]) → H' t = some (.tup [.str "error", .str (wordW p), .ref l]) → Q (.ref t) H') ∧ (¬ p < 6 → ∀ t H', Same H H' → H' t = some (.tup [.str "error", .str (wordW p)]) → Q (.ref t) H')
def TToldW (K : PySem.W.Frag) (Z : Exc11) : (XK → Hp → VK → Prop) → Hp → VK → Prop := fun tl H Q => tl (ToldW K Z Q) H Q
/-- the handler's reading -/
def tHandW (K : PySem.W.Frag) (Z : Exc11) (a : Addr) (cls : Value) (d : Option Addr) : TS := fun D sl H => (∃ s0 : L2.St, sl = s0.set 1 (some (.ref a))) ∧ H a = none ∧ ToldW K Z D.rt cls d H
def tNoE : TE := fun _ _ _ => False
theorem pe_noE {X : Cx} {e : Expr} : PE X e tNoE := ⟨fun _ _ _ _ _ _ h => h.elim⟩
section
variable {Y : Cx} {Z : Exc11} {a : Addr} {oe : Obj} {d : Option Addr} {cls : Value} {pn : List (Addr × Obj)}
theorem handW_ok (eN : Y.N = n_law_told) {body : List Stmt}
    (hb : ∀ (D : Addr) (p : Nat), ExcOfW Y.K Z D p → cls = .ref D → p < 11 → ∃ t, PSs (Y.suite a ((a, oe) :: pn)) body t ∧ ∀ (De : Ends) (x0 x2 x3 x4 : Option V) (H : Hp), H a = none → ToldW Y.K Z De.rt cls d H → t De [x0, some (.ref a), x2, x3, x4] H) :
    PSs (Y.suite a ((a, oe) :: pn)) body (tHandW Y.K Z a cls d) := by
  refine ⟨fun pins s sl H De inv h => ?_⟩
  obtain ⟨⟨s0, rfl⟩, na, told⟩ := h
  obtain ⟨D, p, v, ec, hp, _, _, o, _⟩ := id told
  obtain ⟨t, ht, go⟩ := hb D p o ec hp
  have len : (s0.set 1 (some (V.ref a))).length = 5 := by rw [inv.len, show (Y.suite a ((a, oe) :: pn)).N = n_law_told from eN]; rfl
  rw [List.length_set] at len
  obtain ⟨x0, x1, x2, x3, x4, rfl⟩ := lenW_five len
  exact ht.run pins s _ H De inv (go De x0 x2 x3 x4 H na told)
end
theorem in34 : ∀ p : Nat, p < 11 → inV (.int (p : Int)) [V.int 3, V.int 4] = (p == 3 || p == 4) := by
  intro p h
  match p, h with
  | 0, _ => rfl
  | 1, _ => rfl
  | 2, _ => rfl
  | 3, _ => rfl
  | 4, _ => rfl
  | 5, _ => rfl
  | 6, _ => rfl
  | 7, _ => rfl
  | 8, _ => rfl
  | 9, _ => rfl
  | 10, _ => rfl
section
variable {X : Cx} {Z : Exc11}
theorem told_givesW {g : Addr} {cdg : Value} (M : ExcMW X.mg Z) (B : Blt X.mg) (hu : X.A.units + 130 < cLine) : LamV.Gives X n_law_told "_law_told" (defScope s_law_told) g cdg (defBody s_law_told) "_law_work" (TToldW X.K Z) := by
  intro f is s H Q tl act hi go
  have hsu : ∀ (a : Addr) (oe : Obj) (cls : Value) (d : Option Addr) (pn : List (Addr × Obj)), Zc cls d oe → (∃ vs, oe.data = .fields vs) →
      PSs ((cxOf CX0 X.prog X.w X.K X.mg X.base n_law_told "_law_told" (defScope s_law_told) g cdg X.A X.stack s H E0).nox.suite a ((a, oe) :: pn)) (match defBody s_law_told with | .Try _ [.ExceptHandler _ _ b _] _ _ _ :: _ => b | _ => []) (tHandW X.K Z a cls d) := fun a oe cls d pn hz hf => by
    refine handW_ok (Y := (cxOf CX0 X.prog X.w X.K X.mg X.base n_law_told "_law_told" (defScope s_law_told) g cdg X.A X.stack s H E0).nox) rfl fun D p o ec hp => ?_
    subst ec
    refine ⟨_, pss_cons (ps_set (i := 2) sc_law_told.nd rfl (Or.inl rfl) (pe_lst (pa_cons (pe_callB (LamV.call_isD o.ex hz hf) (by rfl) B.isinstance boot_isinstance (pa_cons (pv 1) (pa_cons (pe_glob (v := .ref Z.c0) (by rfl) M.c0 rfl) pa_nil))) (pa_cons (pe_callB (LamV.call_isD o.ex hz hf) (by rfl) B.isinstance boot_isinstance (pa_cons (pv 1) (pa_cons (pe_glob (v := .ref Z.c1) (by rfl) M.c1 rfl) pa_nil))) (pa_cons (pe_callB (LamV.call_isD o.ex hz hf) (by rfl) B.isinstance boot_isinstance (pa_cons (pv 1) (pa_cons (pe_glob (v := .ref Z.c2) (by rfl) M.c2 rfl) pa_nil))) pa_nil)))))
      (pss_cons (ps_set (i := 2) sc_law_told.nd rfl (Or.inl rfl) (pe_op op_cat (pv 2) (pe_lst (pa_cons (pe_callB (LamV.call_isD o.ex hz hf) (by rfl) B.isinstance boot_isinstance (pa_cons (pv 1) (pa_cons (pe_glob (v := .ref Z.c3) (by rfl) M.c3 rfl) pa_nil))) (pa_cons (pe_callB (LamV.call_isD o.ex hz hf) (by rfl) B.isinstance boot_isinstance (pa_cons (pv 1) (pa_cons (pe_glob (v := .ref Z.c4) (by rfl) M.c4 rfl) pa_nil))) (pa_cons (pe_callB (LamV.call_isD o.ex hz hf) (by rfl) B.isinstance boot_isinstance (pa_cons (pv 1) (pa_cons (pe_glob (v := .ref Z.c5) (by rfl) M.c5 rfl) pa_nil))) pa_nil))))))
      (pss_cons (ps_set (i := 2) sc_law_told.nd rfl (Or.inl rfl) (pe_op op_cat (pv 2) (pe_lst (pa_cons (pe_callB (LamV.call_isD o.ex hz hf) (by rfl) B.isinstance boot_isinstance (pa_cons (pv 1) (pa_cons (pe_glob (v := .ref Z.c6) (by rfl) M.c6 rfl) pa_nil))) (pa_cons (pe_callB (LamV.call_isD o.ex hz hf) (by rfl) B.isinstance boot_isinstance (pa_cons (pv 1) (pa_cons (pe_glob (v := .ref Z.c7) (by rfl) M.c7 rfl) pa_nil))) (pa_cons (pe_callB (LamV.call_isD o.ex hz hf) (by rfl) B.isinstance boot_isinstance (pa_cons (pv 1) (pa_cons (pe_glob (v := .ref Z.c8) (by rfl) M.c8 rfl) pa_nil))) pa_nil))))))
      (pss_cons (ps_set (i := 2) sc_law_told.nd rfl (Or.inl rfl) (pe_op op_cat (pv 2) (pe_lst (pa_cons (pe_callB (LamV.call_isD o.ex hz hf) (by rfl) B.isinstance boot_isinstance (pa_cons (pv 1) (pa_cons (pe_glob (v := .ref Z.c9) (by rfl) M.c9 rfl) pa_nil))) (pa_cons (pe_callB (LamV.call_isD o.ex hz hf) (by rfl) B.isinstance boot_isinstance (pa_cons (pv 1) (pa_cons (pe_glob (v := .ref Z.c10) (by rfl) M.c10 rfl) pa_nil))) pa_nil)))))
      (pss_cons (ps_set (i := 3) sc_law_told.nd rfl (Or.inl rfl) (pe_lst (pa_cons pe_str (pa_cons pe_str (pa_cons (pe_str) (pa_cons (pe_str) (pa_cons (pe_str) (pa_cons (pe_str) pa_nil))))))))
      (pss_cons (ps_set (i := 3) sc_law_told.nd rfl (Or.inl rfl) (pe_op op_cat (pv 3) (pe_lst (pa_cons pe_str (pa_cons pe_str (pa_cons (pe_str) (pa_cons (pe_str) (pa_cons (pe_str) (pa_cons (pe_str) pa_nil)))))))))
      (pss_cons (ps_set (i := 4) sc_law_told.nd rfl (Or.inl rfl) (pe_ifExp (PW.pt (pw_and (pt_cmpR (op_eq) (pe_bm PySem.F.plainAttrs_list PySem.F.slot_list_count PySem.F.type_list_count (LamV.mt_countD (X := (cxOf CX0 X.prog X.w X.K X.mg X.base n_law_told "_law_told" (defScope s_law_told) g cdg X.A X.stack s H E0).nox.suite a ((a, oe) :: pn)) ?hcnt) (pv 2) (pa_cons (pe_bl) pa_nil)) (pe_int) (nomark _))
          (pw_and1 (pt_val (pe_callB (LamV.call_isD o.ex hz hf) (by rfl) B.isinstance boot_isinstance (pa_cons (pv 1) (pa_cons (pe_bltn (v := .ty "ValueError") (by rfl) M.ve (by rfl) rfl) pa_nil)))))))
          (pe_bm PySem.F.plainAttrs_list PySem.F.slot_list_index PySem.F.type_list_index mt_index (pv 2) (pa_cons (pe_bl) pa_nil)) pe_int))
      (pss_cons (ps_if (pt_cmpR (op_eq) (pv 4) (pe_int) (nomark _)) pss_never pss_nil)
      (pss_cons (ps_if (pt_cmpR (op_in_seq) (pv 4) (pe_tup (pa_cons (pe_int) (pa_cons (pe_int) pa_nil))) (by rfl)) (pss_one (ps_ret (pe_tup (pa_cons (pe_str) (pa_cons (pe_ix ix_list (pv 3) (pv 4) (fun _ _ => rfl)) (pa_cons (pe_lst (pa_cons (pe_xf o.xf o.sx hz hf (pv 1)) pa_nil)) pa_nil)))))) pss_nil)
      (pss_one (ps_ret (pe_ifExp (pt_cmpR (op_lt) (pv 4) (pe_int) (nomark _)) (pe_tup (pa_cons (pe_str) (pa_cons (pe_ix ix_list (pv 3) (pv 4) (fun _ _ => rfl)) (pa_cons (pe_ifExp (pt_cmpR (op_eq) (pv 4) (pe_int) (nomark _)) pe_noE (pe_lst (pa_cons (pe_xf o.xf o.ix hz hf (pv 1)) pa_nil))) pa_nil)))) (pe_tup (pa_cons (pe_str) (pa_cons (pe_ix ix_list (pv 3) (pv 4) (fun _ _ => rfl)) pa_nil))))))))))))))
      , fun De x0 x2 x3 x4 H1 na told => ?_⟩
    case hcnt => exact (show X.A.units + 3 + 65 < cLine by omega)
    obtain ⟨D', p', v, eD, hp', hp1, hp2, o', dict, fld, k3, k2⟩ := told
    cases eD
    refine ⟨_, rfl, _, _, _, rfl, refW_one, o'.k0, dict, ⟨_, rfl, _, _, _, rfl, refW_one, o'.k1, dict, ⟨_, rfl, _, _, _, rfl, refW_one, o'.k2, dict, by show 3 ≤ sizeLine; decide, fun l1 n1 => ?_⟩⟩⟩
    have s1 := same_new (o := .lst [V.bl (p' == 0), V.bl (p' == 1), V.bl (p' == 2)]) n1
    have e1 : (upd H1 l1 (.lst [V.bl (p' == 0), V.bl (p' == 1), V.bl (p' == 2)])) l1 = some (.lst [V.bl (p' == 0), V.bl (p' == 1), V.bl (p' == 2)]) := upd_same
    change gName 2 (V.ref l1) _ (upd H1 l1 (.lst [V.bl (p' == 0), V.bl (p' == 1), V.bl (p' == 2)])) _
    generalize upd H1 l1 (.lst [V.bl (p' == 0), V.bl (p' == 1), V.bl (p' == 2)]) = h1 at s1 e1 ⊢
    have dict2 : ∀ dd, d = some dd → ∃ fs, h1 dd = some (.xd fs) := fun dd e => (dict dd e).imp fun fs z => s1 _ _ z
    refine ⟨_, rfl, ⟨_, rfl, _, _, _, rfl, refW_one, o'.k3, dict2, ⟨_, rfl, _, _, _, rfl, refW_one, o'.k4, dict2, ⟨_, rfl, _, _, _, rfl, refW_one, o'.k5, dict2, by show 3 ≤ sizeLine; decide, fun m2 nm2 => ?_⟩⟩⟩⟩
    have t2 := same_new (o := .lst [V.bl (p' == 3), V.bl (p' == 4), V.bl (p' == 5)]) nm2
    refine ⟨l1, m2, _, _, rfl, rfl, t2 _ _ e1, upd_same, by show 3 + 3 ≤ sizeLine; decide, fun l2 n2 => ?_⟩
    have s2 := (s1.trans t2).trans (same_new (o := .lst [V.bl (p' == 0), V.bl (p' == 1), V.bl (p' == 2), V.bl (p' == 3), V.bl (p' == 4), V.bl (p' == 5)]) n2)
    have e2 : (upd (upd h1 m2 (.lst [V.bl (p' == 3), V.bl (p' == 4), V.bl (p' == 5)])) l2 (.lst [V.bl (p' == 0), V.bl (p' == 1), V.bl (p' == 2), V.bl (p' == 3), V.bl (p' == 4), V.bl (p' == 5)])) l2 = some (.lst [V.bl (p' == 0), V.bl (p' == 1), V.bl (p' == 2), V.bl (p' == 3), V.bl (p' == 4), V.bl (p' == 5)]) := upd_same
    change gName 2 (V.ref l2) _ (upd (upd h1 m2 (.lst [V.bl (p' == 3), V.bl (p' == 4), V.bl (p' == 5)])) l2 (.lst [V.bl (p' == 0), V.bl (p' == 1), V.bl (p' == 2), V.bl (p' == 3), V.bl (p' == 4), V.bl (p' == 5)])) _
    generalize upd (upd h1 m2 (.lst [V.bl (p' == 3), V.bl (p' == 4), V.bl (p' == 5)])) l2 (.lst [V.bl (p' == 0), V.bl (p' == 1), V.bl (p' == 2), V.bl (p' == 3), V.bl (p' == 4), V.bl (p' == 5)]) = h2 at s2 e2 ⊢
    have dict3 : ∀ dd, d = some dd → ∃ fs, h2 dd = some (.xd fs) := fun dd e => (dict dd e).imp fun fs z => s2 _ _ z
    refine ⟨_, rfl, ⟨_, rfl, _, _, _, rfl, refW_one, o'.k6, dict3, ⟨_, rfl, _, _, _, rfl, refW_one, o'.k7, dict3, ⟨_, rfl, _, _, _, rfl, refW_one, o'.k8, dict3, by show 3 ≤ sizeLine; decide, fun m3 nm3 => ?_⟩⟩⟩⟩
    have t3 := same_new (o := .lst [V.bl (p' == 6), V.bl (p' == 7), V.bl (p' == 8)]) nm3
    refine ⟨l2, m3, _, _, rfl, rfl, t3 _ _ e2, upd_same, by show 6 + 3 ≤ sizeLine; decide, fun l3 n3 => ?_⟩
    have s3 := (s2.trans t3).trans (same_new (o := .lst [V.bl (p' == 0), V.bl (p' == 1), V.bl (p' == 2), V.bl (p' == 3), V.bl (p' == 4), V.bl (p' == 5), V.bl (p' == 6), V.bl (p' == 7), V.bl (p' == 8)]) n3)
    have e3 : (upd (upd h2 m3 (.lst [V.bl (p' == 6), V.bl (p' == 7), V.bl (p' == 8)])) l3 (.lst [V.bl (p' == 0), V.bl (p' == 1), V.bl (p' == 2), V.bl (p' == 3), V.bl (p' == 4), V.bl (p' == 5), V.bl (p' == 6), V.bl (p' == 7), V.bl (p' == 8)])) l3 = some (.lst [V.bl (p' == 0), V.bl (p' == 1), V.bl (p' == 2), V.bl (p' == 3), V.bl (p' == 4), V.bl (p' == 5), V.bl (p' == 6), V.bl (p' == 7), V.bl (p' == 8)]) := upd_same
    change gName 2 (V.ref l3) _ (upd (upd h2 m3 (.lst [V.bl (p' == 6), V.bl (p' == 7), V.bl (p' == 8)])) l3 (.lst [V.bl (p' == 0), V.bl (p' == 1), V.bl (p' == 2), V.bl (p' == 3), V.bl (p' == 4), V.bl (p' == 5), V.bl (p' == 6), V.bl (p' == 7), V.bl (p' == 8)])) _
    generalize upd (upd h2 m3 (.lst [V.bl (p' == 6), V.bl (p' == 7), V.bl (p' == 8)])) l3 (.lst [V.bl (p' == 0), V.bl (p' == 1), V.bl (p' == 2), V.bl (p' == 3), V.bl (p' == 4), V.bl (p' == 5), V.bl (p' == 6), V.bl (p' == 7), V.bl (p' == 8)]) = h3 at s3 e3 ⊢
    have dict4 : ∀ dd, d = some dd → ∃ fs, h3 dd = some (.xd fs) := fun dd e => (dict dd e).imp fun fs z => s3 _ _ z
    refine ⟨_, rfl, ⟨_, rfl, _, _, _, rfl, refW_one, o'.k9, dict4, ⟨_, rfl, _, _, _, rfl, refW_one, o'.k10, dict4, by show 2 ≤ sizeLine; decide, fun m4 nm4 => ?_⟩⟩⟩
    have t4 := same_new (o := .lst [V.bl (p' == 9), V.bl (p' == 10)]) nm4
    refine ⟨l3, m4, _, _, rfl, rfl, t4 _ _ e3, upd_same, by show 9 + 2 ≤ sizeLine; decide, fun l4 n4 => ?_⟩
    have s4 := (s3.trans t4).trans (same_new (o := .lst [V.bl (p' == 0), V.bl (p' == 1), V.bl (p' == 2), V.bl (p' == 3), V.bl (p' == 4), V.bl (p' == 5), V.bl (p' == 6), V.bl (p' == 7), V.bl (p' == 8), V.bl (p' == 9), V.bl (p' == 10)]) n4)
    have e4 : (upd (upd h3 m4 (.lst [V.bl (p' == 9), V.bl (p' == 10)])) l4 (.lst [V.bl (p' == 0), V.bl (p' == 1), V.bl (p' == 2), V.bl (p' == 3), V.bl (p' == 4), V.bl (p' == 5), V.bl (p' == 6), V.bl (p' == 7), V.bl (p' == 8), V.bl (p' == 9), V.bl (p' == 10)])) l4 = some (.lst [V.bl (p' == 0), V.bl (p' == 1), V.bl (p' == 2), V.bl (p' == 3), V.bl (p' == 4), V.bl (p' == 5), V.bl (p' == 6), V.bl (p' == 7), V.bl (p' == 8), V.bl (p' == 9), V.bl (p' == 10)]) := upd_same
    change gName 2 (V.ref l4) _ (upd (upd h3 m4 (.lst [V.bl (p' == 9), V.bl (p' == 10)])) l4 (.lst [V.bl (p' == 0), V.bl (p' == 1), V.bl (p' == 2), V.bl (p' == 3), V.bl (p' == 4), V.bl (p' == 5), V.bl (p' == 6), V.bl (p' == 7), V.bl (p' == 8), V.bl (p' == 9), V.bl (p' == 10)])) _
    generalize upd (upd h3 m4 (.lst [V.bl (p' == 9), V.bl (p' == 10)])) l4 (.lst [V.bl (p' == 0), V.bl (p' == 1), V.bl (p' == 2), V.bl (p' == 3), V.bl (p' == 4), V.bl (p' == 5), V.bl (p' == 6), V.bl (p' == 7), V.bl (p' == 8), V.bl (p' == 9), V.bl (p' == 10)]) = h4 at s4 e4 ⊢
    have sq : SqL X.K h4 l4 ((bitsW p').map V.bl) := SqL.of e4
    refine ⟨by show 6 ≤ sizeLine; decide, fun w1 nw1 => ?_⟩
    refine ⟨_, rfl, by show 6 ≤ sizeLine; decide, fun w2 nw2 => ?_⟩
    have ew1 : (upd (upd h4 w1 (.lst [V.str "InvalidOperation", V.str "DecodeError", V.str "NotationError", V.str "NotStanding", V.str "NotLying", V.str "InvalidRow"])) w2 (.lst [V.str "UnknownStone", V.str "InvalidSide", V.str "InvalidNumber", V.str "Contradiction", V.str "InvalidCount", V.str "other"])) w1 = some (.lst [V.str "InvalidOperation", V.str "DecodeError", V.str "NotationError", V.str "NotStanding", V.str "NotLying", V.str "InvalidRow"]) := same_new nw2 _ _ upd_same
    refine ⟨w1, w2, _, _, rfl, rfl, ew1, upd_same, by show 6 + 6 ≤ sizeLine; decide, fun w3 nw3 => ?_⟩
    have s5 := ((s4.trans (same_new (o := .lst [V.str "InvalidOperation", V.str "DecodeError", V.str "NotationError", V.str "NotStanding", V.str "NotLying", V.str "InvalidRow"]) nw1)).trans (same_new (o := .lst [V.str "UnknownStone", V.str "InvalidSide", V.str "InvalidNumber", V.str "Contradiction", V.str "InvalidCount", V.str "other"]) nw2)).trans (same_new (o := .lst (wordsW.map V.str)) nw3)
    have sq := ((((same_new (o := .lst [V.str "InvalidOperation", V.str "DecodeError", V.str "NotationError", V.str "NotStanding", V.str "NotLying", V.str "InvalidRow"]) nw1).trans (same_new (o := .lst [V.str "UnknownStone", V.str "InvalidSide", V.str "InvalidNumber", V.str "Contradiction", V.str "InvalidCount", V.str "other"]) nw2)).trans (same_new (o := .lst (wordsW.map V.str)) nw3))).seq sq
    have e5 : (upd (upd (upd h4 w1 (.lst [V.str "InvalidOperation", V.str "DecodeError", V.str "NotationError", V.str "NotStanding", V.str "NotLying", V.str "InvalidRow"])) w2 (.lst [V.str "UnknownStone", V.str "InvalidSide", V.str "InvalidNumber", V.str "Contradiction", V.str "InvalidCount", V.str "other"])) w3 (.lst (wordsW.map V.str))) w3 = some (.lst (wordsW.map V.str)) := upd_same
    change gName 3 (V.ref w3) _ (upd (upd (upd h4 w1 (.lst [V.str "InvalidOperation", V.str "DecodeError", V.str "NotationError", V.str "NotStanding", V.str "NotLying", V.str "InvalidRow"])) w2 (.lst [V.str "UnknownStone", V.str "InvalidSide", V.str "InvalidNumber", V.str "Contradiction", V.str "InvalidCount", V.str "other"])) w3 (.lst (wordsW.map V.str))) _
    generalize upd (upd (upd h4 w1 (.lst [V.str "InvalidOperation", V.str "DecodeError", V.str "NotationError", V.str "NotStanding", V.str "NotLying", V.str "InvalidRow"])) w2 (.lst [V.str "UnknownStone", V.str "InvalidSide", V.str "InvalidNumber", V.str "Contradiction", V.str "InvalidCount", V.str "other"])) w3 (.lst (wordsW.map V.str)) = h5 at s5 e5 sq ⊢
    have dict5 : ∀ dd, d = some dd → ∃ fs, h5 dd = some (.xd fs) := fun dd e => (dict dd e).imp fun fs z => s5 _ _ z
    refine ⟨_, rfl, .inl ⟨rfl, _, sq⟩, l4, _, _, _, rfl, rfl, .lst sq (bitsW_dp _), .bl true, bitsW_shaped p', rfl, rfl, _, rfl, ?_⟩
    have ec1 : decide (V.int ((((bitsW p').map PyData.bool).countP fun z => PyData.eqv z (.bool true) : Nat) : Int) = V.int 1) = true := by
      rw [bitsW_one hp']
      rfl
    rw [ec1]
    refine iteT ⟨_, rfl, _, _, _, rfl, tyW_one, o'.ve, dict5, _, rfl, iteT ?_⟩
    obtain ⟨y1, y2, y3⟩ := bitsW_at hp'
    refine ⟨_, rfl, .inl ⟨rfl, _, sq⟩, l4, _, _, p', _, rfl, rfl, sq, rfl, y1, y2, rfl, y3, ?_⟩
    refine ⟨_, rfl, rfl, _, rfl, ?_⟩
    rw [show decide (V.int (p' : Int) = V.int 2) = false from decide_eq_false fun z => hp2 (by injection z with z; omega)]
    refine iteF ?_
    have at5 : ∀ {H : Hp}, Same h5 H → ∀ {Q : VK}, Q (.str (wordW p')) H → rIxL X.K (.ref w3) (.int (p' : Int)) H Q := fun sm Q q => ⟨w3, _, _, _, rfl, rfl, SqL.of (sm _ _ e5), wordW_at hp', q⟩
    refine ⟨_, rfl, by show 2 ≤ sizeLine; decide, fun t nt => ⟨t, _, rfl, .inr (SqT.of upd_same), rfl, rfl, _, rfl, ?_⟩⟩
    have s6 := same_new (o := .tup [V.int 3, V.int 4]) nt
    generalize upd h5 t (.tup [V.int 3, V.int 4]) = h6 at s6 ⊢
    rw [if_neg Bool.false_ne_true]
    have ei : inV (.int (p' : Int)) [V.int 3, V.int 4] = (p' == 3 || p' == 4) := in34 p' hp'
    rw [ei]
    have s56 := s5.trans s6
    cases q : (p' == 3 || p' == 4) with
    | true =>
      have hlt : p' < 6 := by
        rw [Bool.or_eq_true, beq_iff_eq, beq_iff_eq] at q
        omega
      obtain ⟨dd, fs, ed, hd, lk⟩ := fld hlt
      have ef : fldW p' = "stone" := by unfold fldW; rw [if_pos q]
      rw [ef] at lk
      refine iteT ⟨_, rfl, _, rfl, w3, _, _, _, rfl, rfl, SqL.of (s6 _ _ e5), wordW_at hp', _, rfl, rfl, rfl, dd, fs, v, ed, s56 _ _ hd, lk, by show 1 ≤ sizeLine; decide, fun l nl => ⟨by show 3 ≤ sizeLine; decide, fun T nT => ?_⟩⟩
      exact k3 hlt T l _ ((s56.trans (same_new nl)).trans (same_new nT)) (same_new nT _ _ upd_same) upd_same
    | false =>
      refine iteF ?_
      refine ⟨_, rfl, _, _, rfl, rfl, _, rfl, ?_⟩
      have ef : fldW p' = "index" := by unfold fldW; rw [if_neg (by rw [q]; exact Bool.false_ne_true)]
      refine ite2 (fun c => ?_) (fun c => ?_)
      · have hlt : p' < 6 := by have := of_decide_eq_true c; omega
        obtain ⟨dd, fs, ed, hd, lk⟩ := fld hlt
        rw [ef] at lk
        refine ⟨_, rfl, _, rfl, w3, _, _, _, rfl, rfl, SqL.of (s6 _ _ e5), wordW_at hp', _, rfl, rfl, _, rfl, ?_⟩
        rw [show decide (V.int (p' : Int) = V.int 1) = false from decide_eq_false fun z => hp1 (by injection z with z; omega)]
        refine iteF ⟨_, rfl, rfl, rfl, dd, fs, v, ed, s56 _ _ hd, lk, by show 1 ≤ sizeLine; decide, fun l nl => ⟨by show 3 ≤ sizeLine; decide, fun T nT => ?_⟩⟩
        exact k3 hlt T l _ ((s56.trans (same_new nl)).trans (same_new nT)) (same_new nT _ _ upd_same) upd_same
      · have hlt : ¬ p' < 6 := fun z => c (decide_eq_true (by omega))
        refine ⟨_, rfl, _, rfl, w3, _, _, _, rfl, rfl, SqL.of (s6 _ _ e5), wordW_at hp', by show 2 ≤ sizeLine; decide, fun T nT => ?_⟩
        exact k2 hlt T _ (s56.trans (same_new nT)) upd_same
  refine ⟨_, pss_one (ps_try_as (X := (cxOf CX0 X.prog X.w X.K X.mg X.base n_law_told "_law_told" (defScope s_law_told) g cdg X.A X.stack s H E0).nox) (c := .ref Z.e) (i := 1) (ts := tHandW X.K Z)
      (tb := fun W D sl H => ∃ E : XK, (∀ cls d sl' H', E cls d H' → W cls d sl' H') ∧ sl[0]? = some (some (.ref f)) ∧ is H ∧ tl E H fun v H' => D.rt v H')
      rfl rfl sc_law_told.nd rfl rfl ⟨by rfl, by decide, .inl M.e⟩ L2.takes0 (fun W pn xe tk _ => ⟨fun pins s' sl H' D inv h => ?_⟩) hsu), ?_⟩
  · obtain ⟨E, hE, h0, h1, h2⟩ := h
    exact (pss_one (ps_ret (act W pn xe E _ _ tk hE))).run pins s' sl H' D inv ⟨h0, h1, h2⟩
  · refine ⟨ToldW X.K Z Q, fun cls d sl' H' told => ?_, rfl, hi, go⟩
    obtain ⟨D, p, v, ec, hp, h1, h2, o, more⟩ := id told
    subst ec
    exact ⟨true, o.se, fun _ a na => ⟨⟨sl', rfl⟩, na, told⟩, fun z => nomatch z⟩
end
/-! ### the other exceptions that say super().__init__ -/
section
variable {P : Program} {w : World} {K : PySem.W.Frag} {mg : Str → Option Value} {base : Heap}
theorem ok_nlInit {f cc D cd : Addr} {kV doc pm ct oc : Value} {an od : Option Addr} {osl : Array (Option Value)} {lf : Obj} {vs0 : Array Value} {file : Str} {tf : Tok}
    (lk : K.lookup f = some ⟨oc, od, .func (PySem.W.fnX "__init__" "NotLying.__init__" (defArgs s_NotLying_init) (defBody s_NotLying_init) (defScope s_NotLying_init) [("__class__", cc)] .none kV doc pm an (.ref cd) ct), osl⟩) (hcd : PySem.W.codeIn K (.ref cd) "NotLying.__init__" = true)
    (Z : SupX.SupD P K cc D) (lc : K.lookup cd = some lf) (hlf : lf.data = .fields vs0) (hv2 : vs0[2]? = some (.str file tf)) (hfile : ((P.main.file : Str) == file) = true) (hm : mg ("super" : Str) = none) (nF : PySem.W.findIn K (.ref D) "stone" = some none) :
    FnOk P w K mg base CX0 1 f (PySem.W.fnX "__init__" "NotLying.__init__" (defArgs s_NotLying_init) (defBody s_NotLying_init) (defScope s_NotLying_init) [("__class__", cc)] .none kV doc pm an (.ref cd) ct) ["self", "stone"] (spExI K D "stone") := by
  refine SupX.fn_sup (P := P) (w := w) (mg := mg) (base := base) (k := 0) (D := D) (N := ["self", "stone", "__class__"]) lk hcd Z (NdefX.nscope_by (by decide +kernel)) rfl lc hlf hv2 hfile rfl hm rfl rfl (fun vs H Q E h => ?_) (fun _ => rfl) (fun _ => rfl) (fun A outer s H vs Q E hr h => ?_)
  · obtain ⟨a, i, rfl, _⟩ := h
    rfl
  · obtain ⟨a, i, rfl, si, ha, T, k⟩ := h
    refine ⟨_, _, (pa_cons (pe_joined (.cons pe_str (.cons (pe_fmt (pv 1)) .nil))) pa_nil), pss_one (ps_ost (pv 0) (pv 1)), ?_⟩
    have l1 : (Str.empty ++ ("the stone does not lie on the ground: " : Str)).length ≤ 38 := by decide
    have l2 := lenJ l1 (lenI si)
    refine ⟨a, rfl, ha, ?_⟩
    exact ⟨_, rfl, lenS l1 (by decide), _, rfl, .inr ⟨i, rfl, si, _, rfl, lenS l2 (by decide), by show 1 ≤ 1000; decide, ha, T, _, rfl, _, rfl, a, D, rfl, T, nF, .inl ⟨ha, fun dx n ne => k dx n ne⟩⟩⟩
end
/-! ### the other exceptions that say super().__init__ -/
section
variable {P : Program} {w : World} {K : PySem.W.Frag} {mg : Str → Option Value} {base : Heap}
theorem ok_irInit {f cc D cd : Addr} {kV doc pm ct oc : Value} {an od : Option Addr} {osl : Array (Option Value)} {lf : Obj} {vs0 : Array Value} {file : Str} {tf : Tok}
    (lk : K.lookup f = some ⟨oc, od, .func (PySem.W.fnX "__init__" "InvalidRow.__init__" (defArgs s_InvalidRow_init) (defBody s_InvalidRow_init) (defScope s_InvalidRow_init) [("__class__", cc)] .none kV doc pm an (.ref cd) ct), osl⟩) (hcd : PySem.W.codeIn K (.ref cd) "InvalidRow.__init__" = true)
    (Z : SupX.SupD P K cc D) (lc : K.lookup cd = some lf) (hlf : lf.data = .fields vs0) (hv2 : vs0[2]? = some (.str file tf)) (hfile : ((P.main.file : Str) == file) = true) (hm : mg ("super" : Str) = none) (nF : PySem.W.findIn K (.ref D) "index" = some none) :
    FnOk P w K mg base CX0 1 f (PySem.W.fnX "__init__" "InvalidRow.__init__" (defArgs s_InvalidRow_init) (defBody s_InvalidRow_init) (defScope s_InvalidRow_init) [("__class__", cc)] .none kV doc pm an (.ref cd) ct) ["self", "index"] (spExI K D "index") := by
  refine SupX.fn_sup (P := P) (w := w) (mg := mg) (base := base) (k := 0) (D := D) (N := ["self", "index", "__class__"]) lk hcd Z (NdefX.nscope_by (by decide +kernel)) rfl lc hlf hv2 hfile rfl hm rfl rfl (fun vs H Q E h => ?_) (fun _ => rfl) (fun _ => rfl) (fun A outer s H vs Q E hr h => ?_)
  · obtain ⟨a, i, rfl, _⟩ := h
    rfl
  · obtain ⟨a, i, rfl, si, ha, T, k⟩ := h
    refine ⟨_, _, (pa_cons (pe_joined (.cons pe_str (.cons (pe_fmt (pv 1)) .nil))) pa_nil), pss_one (ps_ost (pv 0) (pv 1)), ?_⟩
    have l1 : (Str.empty ++ ("no stone for this place of a row: argument " : Str)).length ≤ 43 := by decide
    have l2 := lenJ l1 (lenI si)
    refine ⟨a, rfl, ha, ?_⟩
    exact ⟨_, rfl, lenS l1 (by decide), _, rfl, .inr ⟨i, rfl, si, _, rfl, lenS l2 (by decide), by show 1 ≤ 1000; decide, ha, T, _, rfl, _, rfl, a, D, rfl, T, nF, .inl ⟨ha, fun dx n ne => k dx n ne⟩⟩⟩
end
section
variable {P : Program} {w : World} {K : PySem.W.Frag} {mg : Str → Option Value} {base : Heap}
theorem ok_ioInit {f cc D cd : Addr} {kV doc pm ct oc : Value} {an od : Option Addr} {osl : Array (Option Value)} {lf : Obj} {vs0 : Array Value} {file : Str} {tf : Tok}
    (lk : K.lookup f = some ⟨oc, od, .func (PySem.W.fnX "__init__" "InvalidOperation.__init__" (defArgs s_InvalidOperation_init) (defBody s_InvalidOperation_init) (defScope s_InvalidOperation_init) [("__class__", cc)] .none kV doc pm an (.ref cd) ct), osl⟩) (hcd : PySem.W.codeIn K (.ref cd) "InvalidOperation.__init__" = true)
    (Z : SupX.SupD P K cc D) (lc : K.lookup cd = some lf) (hlf : lf.data = .fields vs0) (hv2 : vs0[2]? = some (.str file tf)) (hfile : ((P.main.file : Str) == file) = true) (hm : mg ("super" : Str) = none) (nF : PySem.W.findIn K (.ref D) "index" = some none) :
    FnOk P w K mg base CX0 1 f (PySem.W.fnX "__init__" "InvalidOperation.__init__" (defArgs s_InvalidOperation_init) (defBody s_InvalidOperation_init) (defScope s_InvalidOperation_init) [("__class__", cc)] .none kV doc pm an (.ref cd) ct) ["self", "index"] (spExI K D "index") := by
  refine SupX.fn_sup (P := P) (w := w) (mg := mg) (base := base) (k := 0) (D := D) (N := ["self", "index", "__class__"]) lk hcd Z (NdefX.nscope_by (by decide +kernel)) rfl lc hlf hv2 hfile rfl hm rfl rfl (fun vs H Q E h => ?_) (fun _ => rfl) (fun _ => rfl) (fun A outer s H vs Q E hr h => ?_)
  · obtain ⟨a, i, rfl, _⟩ := h
    rfl
  · obtain ⟨a, i, rfl, si, ha, T, k⟩ := h
    refine ⟨_, _, (pa_cons (pe_joined (.cons pe_str (.cons (pe_fmt (pv 1)) .nil))) pa_nil), pss_one (ps_ost (pv 0) (pv 1)), ?_⟩
    have l1 : (Str.empty ++ ("no operation: argument " : Str)).length ≤ 23 := by decide
    have l2 := lenJ l1 (lenI si)
    refine ⟨a, rfl, ha, ?_⟩
    exact ⟨_, rfl, lenS l1 (by decide), _, rfl, .inr ⟨i, rfl, si, _, rfl, lenS l2 (by decide), by show 1 ≤ 1000; decide, ha, T, _, rfl, _, rfl, a, D, rfl, T, nF, .inl ⟨ha, fun dx n ne => k dx n ne⟩⟩⟩
end
/-! ### what the law compares -/
theorem errAt_told {K : PySem.W.Frag} {Z : ClsE} {Y : Exc11} {Q : VK} {H : Hp} {e : ErW} (o1 : ExcOfW K Y Z.st 6) (o2 : ExcOfW K Y Z.si 7) (o3 : ExcOfW K Y Z.ns 3) (o4 : ExcOfW K Y Z.nl 4) (k : ∀ t H', Same H H' → Dp K H' (.ref t) (errD e) → Q (.ref t) H') : ErrAt Z (ToldW K Y Q) H e := by
  cases e with
  | stone => exact fun H' s => ⟨Z.st, 6, .non, rfl, by decide, by decide, by decide, o1, (fun dd h => nomatch h), fun h => absurd h (by decide), fun h => absurd h (by decide), fun _ t H2 s2 e => k t H2 (s.trans s2) (.tup (SqT.of e) (.cons (.str _) (.cons (.str _) .nil)))⟩
  | side => exact fun H' s => ⟨Z.si, 7, .non, rfl, by decide, by decide, by decide, o2, (fun dd h => nomatch h), fun h => absurd h (by decide), fun h => absurd h (by decide), fun _ t H2 s2 e => k t H2 (s.trans s2) (.tup (SqT.of e) (.cons (.str _) (.cons (.str _) .nil)))⟩
  | stand i =>
    refine fun dx H' s n e => ⟨Z.ns, 3, .int (i : Nat), rfl, by decide, by decide, by decide, o3, fun dd h => ?_, fun _ => ⟨dx, _, rfl, e, rfl⟩, fun _ t l H2 s2 el et => k t H2 (s.trans s2) (.tup (SqT.of et) (.cons (.str _) (.cons (.str _) (.cons (.lst (SqL.of el) (.cons (.int _) .nil)) .nil)))), fun h => absurd (by decide) h⟩
    cases h
    exact ⟨_, e⟩
  | lie i =>
    refine fun dx H' s n e => ⟨Z.nl, 4, .int (i : Nat), rfl, by decide, by decide, by decide, o4, fun dd h => ?_, fun _ => ⟨dx, _, rfl, e, rfl⟩, fun _ t l H2 s2 el et => k t H2 (s.trans s2) (.tup (SqT.of et) (.cons (.str _) (.cons (.str _) (.cons (.lst (SqL.of el) (.cons (.int _) .nil)) .nil)))), fun h => absurd (by decide) h⟩
    cases h
    exact ⟨_, e⟩
theorem resAt_dp {K : PySem.W.Frag} {H : Hp} {xs : List (Int × Int)} {cs : List Cnd} {v : V} {op : Opn} (h : ResAt xs cs H v op) : Dp K H v (resD xs cs op) := by
  cases op with
  | push i r =>
    obtain ⟨p, rfl, e⟩ := h
    exact ints_dp (SqL.of e)
  | lift i =>
    obtain rfl : v = _ := h
    exact .int _
  | take i =>
    obtain rfl : v = _ := h
    exact .bl _
theorem lk_str {n : Nat} {r : Str} (h : SeqAt.shaped (.str r) = true) : Lk n (.str r) := by
  cases n with
  | zero => exact .inr (.inr (.inl ⟨r, rfl, h⟩))
  | succ n => exact .inl (.inr (.inr (.inl ⟨r, rfl, h⟩)))
theorem lk_int {n : Nat} {i : Int} : Lk n (.int i) := by
  cases n with
  | zero => exact .inl ⟨i, rfl⟩
  | succ n => exact .inl (.inl ⟨i, rfl⟩)
theorem lk_bool {n : Nat} {b : Bool} : Lk n (.bool b) := by
  cases n with
  | zero => exact .inr (.inl ⟨b, rfl⟩)
  | succ n => exact .inl (.inr (.inl ⟨b, rfl⟩))
theorem lk_ints {n : Nat} {ns : List Nat} (h : ns.length ≤ 1000) : Lk (n + 1) (intD ns) := .inr ⟨_, .inl rfl, by rw [List.length_map]; exact h, fun e he => by
  obtain ⟨k, _, rfl⟩ := List.mem_map.mp he
  exact lk_int⟩
theorem err_lk (e : ErW) : Lk 2 (errD e) := by
  have h1 : ∀ r ∈ (["error", "UnknownStone", "InvalidSide", "NotStanding", "NotLying"] : List Str), SeqAt.shaped (.str r) = true := by decide +kernel
  cases e with
  | stone => exact .inr ⟨_, .inr rfl, by decide, fun e he => by
      simp at he
      rcases he with rfl | rfl
      · exact lk_str (h1 _ (by decide))
      · exact lk_str (h1 _ (by decide))⟩
  | side => exact .inr ⟨_, .inr rfl, by decide, fun e he => by
      simp at he
      rcases he with rfl | rfl
      · exact lk_str (h1 _ (by decide))
      · exact lk_str (h1 _ (by decide))⟩
  | stand i => exact .inr ⟨_, .inr rfl, by show 3 ≤ 1000; decide, fun e he => by
      simp at he
      rcases he with rfl | rfl | rfl
      · exact lk_str (h1 _ (by decide))
      · exact lk_str (h1 _ (by decide))
      · exact .inr ⟨_, .inl rfl, by show 1 ≤ 1000; decide, fun e he => by
          simp at he
          subst he
          exact lk_int⟩⟩
  | lie i => exact .inr ⟨_, .inr rfl, by show 3 ≤ 1000; decide, fun e he => by
      simp at he
      rcases he with rfl | rfl | rfl
      · exact lk_str (h1 _ (by decide))
      · exact lk_str (h1 _ (by decide))
      · exact .inr ⟨_, .inl rfl, by show 1 ≤ 1000; decide, fun e he => by
          simp at he
          subst he
          exact lk_int⟩⟩
theorem out_lk {xs : List (Int × Int)} {cs : List Cnd} {ow : OpW} (h : xs.length ≤ 40) : Lk 2 (outD xs cs ow) := by
  unfold outD
  cases owE cs ow with
  | inr e => exact err_lk e
  | inl op =>
    cases op with
    | push i r => exact lk_ints (by have := fellL_len xs cs i r; omega)
    | lift i => exact lk_int
    | take i => exact lk_bool
theorem isErr_of {K : PySem.W.Frag} {H : Hp} {v : V} {xs : List (Int × Int)} {cs : List Cnd} {ow : OpW} {Q : VK} {E : XK} (h : Dp K H v (outD xs cs ow)) (kf : ∀ op, owE cs ow = .inl op → Q (.bl false) H) (kt : ∀ e, owE cs ow = .inr e → ∀ H', Same H H' → Q (.bl true) H') :
    spIsErr K [v] H Q E := by
  unfold outD at h
  refine ⟨v, rfl, ?_⟩
  cases ho : owE cs ow with
  | inl op =>
    rw [ho] at h
    have kf := kf op ho
    cases op with
    | push i r =>
      cases h with
      | lst hs a => exact .inl ⟨"list", tyL hs, kit_ty (by decide +kernel), kf⟩
    | lift i =>
      cases h with
      | int i => exact .inl ⟨"int", .base (.int _), kit_ty (by decide +kernel), kf⟩
    | take i =>
      cases h with
      | bl b => exact .inl ⟨"bool", .base (.bl _), kit_ty (by decide +kernel), kf⟩
  | inr e =>
    rw [ho] at h
    have kt := kt e ho
    have key : ∀ {a : Addr} {ys : List V} {d : PyData} {ds : List PyData}, SqT K H a ys → DpAll K H ys (.str "error" :: d :: ds) → ∃ a' x rest, V.ref a = .ref a' ∧ SqT K H a' (.str "error" :: x :: rest) ∧ ∀ H', Same H H' → Q (.bl true) H' := fun {a ys d ds} hT al => by
      cases al with
      | cons h1 t1 =>
        cases h1
        cases t1 with
        | cons h2 t2 => exact ⟨a, _, _, rfl, hT, kt⟩
    cases e with
    | stone =>
      cases h with
      | tup hT al => exact .inr (key hT al)
    | side =>
      cases h with
      | tup hT al => exact .inr (key hT al)
    | stand i =>
      cases h with
      | tup hT al => exact .inr (key hT al)
    | lie i =>
      cases h with
      | tup hT al => exact .inr (key hT al)
/-! ### _law_stands -/
def spStands (K : PySem.W.Frag) (D : Addr) : Sp := Lv K D fun _ _ ss n rest H Q => ∃ sp, rest = [.ref sp] ∧ H sp = some (.lst (lwV (curr ss n))) ∧ ∀ H', Same H H' → Q (.bl true) H'
def scDue : Scope := { kind := .function, names := [(".0", .local), ("_law_word", .cell), ("range", .globalImplicit), ("len", .globalImplicit), ("_law_states", .cell)], isGenerator := false, isCoroutine := false }
/-- the list at a holds these lists of numbers; D is none of them -/
def LnD (D : Addr) (G : Hp) (v : V) (l : List Nat) : Prop := ∃ z : Addr, v = .ref z ∧ z ≠ D ∧ G z = some (.lst (ivs l))
theorem LnD.stab {D : Addr} {H H' : Hp} {v : V} {l : List Nat} (b : But D H H') (h : LnD D H v l) : LnD D H' v l := let ⟨z, h1, h2, h3⟩ := h; ⟨z, h1, h2, b _ _ h2 h3⟩
section
variable {P : Program} {w : World} {K : PySem.W.Frag} {mg : Str → Option Value} {base : Heap}
theorem ok_stands {f D gL g1 gC pS pY gS gY : Addr} {fd d1 dS dY : FuncData} (F : Fun K "_law_stands" "_law_stands" s_law_stands f fd) (B : Blt mg) (cL : ClsL K D)
    (NL : At P w K mg base CX0 3 "_law_like" ["_law_found", "_law_due"] (spLike K 2) g1 d1)
    (prS : PropOf K D "standing" pS gS) (FS : FnOk P w K mg base CX0 2 gS dS ["self"] (spStand K D (some true))) (bS : Binds K dS ["self"] [])
    (prY : PropOf K D "lying" pY gY) (FY : FnOk P w K mg base CX0 2 gY dY ["self"] (spStand K D (some false))) (bY : Binds K dY ["self"] [])
    (SL : Sign K D "__len__" gL) (GL : FnR P w K mg base CX0 2 gL (spLLen K D))
    (hsC : PySem.W.findIn K (.ref D) "__contains__" = some (some (.ref gC))) (hfC : PySem.W.isFn K (.ref gC) = true) (GC : FnR P w K mg base CX0 2 gC (spHas K D)) :
    FnOk P w K mg base CX0 4 f fd ["_law_live", "_law_states"] (spStands K D) := by
  refine F.ok sc_law_stands (fun vs H Q E h => ?_) (fun cdv A outer s H vs Q E hr h => ?_)
  · obtain ⟨q, xs, ss, n, rest, rfl, _, _, sp, rfl, _⟩ := h
    rfl
  · obtain ⟨q, xs, ss, n, rest, rfl, hL, p, sp, rfl, hsp, k⟩ := h
    have hu := hr.units
    have r2 : Room 2 _ := hr.mono (by decide)
    refine ⟨_, pss_cons (ps_setLc (i := 2) (own := [("_law_word", 4)]) (g := gName 4) (tt := tYes) rfl sc_law_stands.nd rfl rfl (sw_true rfl rfl rfl (by decide +kernel)) (pi_tup (pe_tup (pa_cons (pe_str) (pa_cons (pe_str) pa_nil)))) (blkOk_by (N := n_law_stands) (sc := defScope s_law_stands) (by decide +kernel))
      (fun _ _ _ _ _ => pg_name (i := 4) sc_law_stands.nd rfl (Or.inr rfl)) (fun _ _ _ _ _ => pts_nil)
      (fun _ _ _ _ _ => (show PE _ _ (tLc (iRng1 (tCons (tCB (fun xs H Q => ∃ p ys, xs = [V.ref p] ∧ (SqL K H p ys ∨ SqT K H p ys) ∧ Q (V.int (ys.length : Int)) H) (tCons (tVar 1) tNil)) tNil)) (gName 3) (tTest (tOp rEq (tOp (rIxL K) (tVar 1) (tVar 3)) (tVar 4))) (tVar 3) [3]) from pe_lc (own := [("_law_k", 3)]) (g := gName 3) rfl sc_law_stands.nd (pi_range1 (by rfl) B.range (pa_cons (pe_callB call_len_seq (by rfl) B.len PySem.boot_len (pa_cons (pv 1) pa_nil)) pa_nil)) (blkOk_by (N := n_law_stands) (sc := scDue) (by decide +kernel))
        (fun _ _ _ _ _ => pg_name (i := 3) sc_law_stands.nd rfl (Or.inl rfl)) (fun _ _ _ _ _ => pts_one (show PT _ _ (tTest (tOp rEq (tOp (rIxL K) (tVar 1) (tVar 3)) (tVar 4))) from pt_cmpR (op_eq) (pe_ix ix_list (pv 1) (pv 3) (fun _ _ => rfl)) (pv 4) (nomark _))) (fun _ _ _ _ _ => pv 3))))
      (pss_cons (ps_if (pt_not (pt_val (pe_at NL hr (pa_cons (pe_lst (pa_cons (pe_prop (pv 0) cL.cl prS FS hr bS .nil pass0 rfl) (pa_cons (pe_prop (pv 0) cL.cl prY FY hr bY .nil pass0 rfl) (pa_cons (pe_callB (Own.call_len SL.at_ SL.fn GL hr pass0) (by rfl) B.len PySem.boot_len (pa_cons (pv 0) pa_nil)) pa_nil)))) (pa_cons (pe_op op_cat (pv 2) (pe_lst (pa_cons (pe_callB call_len_seq (by rfl) B.len PySem.boot_len (pa_cons (pe_ix ix_list (pv 2) (pe_int) (fun _ _ => rfl)) pa_nil)) pa_nil))) pa_nil))))) (pss_one (ps_ret pe_bl)) pss_nil)
      (pss_one (ps_ret (pe_cmpR (op_eqD hu) (pe_lc (own := [("_law_k", 3)]) (g := gName 3) rfl sc_law_stands.nd (pi_range1 (by rfl) B.range (pa_cons (pe_callB call_len_seq (by rfl) B.len PySem.boot_len (pa_cons (pv 1) pa_nil)) pa_nil)) (blkOk_by (N := n_law_stands) (sc := defScope s_law_stands) (by decide +kernel)) (fun _ _ _ _ _ => pg_name (i := 3) sc_law_stands.nd rfl (Or.inl rfl))
          (fun _ _ _ _ _ => pts_one (show PT _ _ (tTest (tOp rNe (tOp (Own.rInO false D (spHas K D) E0) (tVar 3) (tVar 0)) (tOp rEq (tOp (rIxL K) (tVar 1) (tVar 3)) (tC (.str "up"))))) from pt_cmpR (op_ne) (pe_cmpR (Own.op_inO hsC hfC GC r2 pass0) (pv 3) (pv 0) (by rfl)) (pe_cmpR (op_eq) (pe_ix ix_list (pv 1) (pv 3) (fun _ _ => rfl)) (pe_str) (nomark _)) (nomark _)))
          (fun _ _ _ _ _ => pv 3)) (pe_lst pa_nil) (nomark _))))), ?_⟩
    have hz := p.z
    obtain ⟨s', hs, es, el⟩ := p.curr
    have hlen : (lwV (curr ss n)).length = (curr ss n).length := lwV_len _
    refine ⟨by show 2 ≤ sizeLine; decide, fun T nT => ⟨T, rfl, ⟨_, SqT.of upd_same⟩, fun D0 nD0 => ?_⟩⟩
    have sT := same_new (o := .tup [V.str "up", V.str "down"]) nT
    refine lc_fm (walk_tup (K := K) (a := T) (xs := [V.str "up", V.str "down"])) [true, false] (fun _ => true) (fun b => idxs (curr ss n) (some b)) (LnD D0) rfl (by show 2 < 1000000; decide) nD0 (fun _ _ _ _ _ _ b r => r.stab b) (fun G e => SqT.of (e _ _ upd_same)) ?_ ?_
    · rintro n2 b x G G2 N2 M2 hj2 sm2 nn ⟨rfl, hx2⟩ _ go2
      obtain rfl : x = V.str (lawS (some b)) := by
        match n2, hj2, hx2 with
        | 0, hj2, hx2 => cases hj2; cases hx2; rfl
        | 1, hj2, hx2 => cases hj2; cases hx2; rfl
      have sG := sT.trans sm2
      have hspG := sG _ _ hsp
      refine ⟨rfl, _, rfl, sp, _, rfl, .inl (SqL.of hspG), _, rfl, by omega, by omega, fun D2 nD2 => ?_⟩
      rw [show ((lwV (curr ss n)).length : Int).toNat = (curr ss n).length by omega]
      refine lc_fm (walk_range (lo := 0) (n := (curr ss n).length)) (List.range (curr ss n).length) (fun k => decide ((curr ss n)[k]? = some (some b))) (fun k => k) (fun _ v k => v = .int ((k : Nat) : Int)) (List.length_range) (by omega) nD2 (fun _ _ _ _ _ _ _ q => q) (fun _ _ => True.intro) ?_ ?_
      · rintro n3 kx x3 G3 G4 N4 M4 hm sm3 _ ⟨rfl, rfl⟩ no go
        obtain ⟨hnl, rfl⟩ := get_range hm
        obtain ⟨c2, hc2⟩ : ∃ c2, (curr ss n)[kx]? = some c2 := ⟨(curr ss n)[kx], by simp [hnl]⟩
        show gName 3 (V.int (0 + (kx : Int))) _ _ _
        rw [Int.zero_add]
        refine ⟨rfl, _, rfl, _, rfl, sp, _, ((kx : Nat) : Int), _, rfl, rfl, SqL.of (sm3 _ _ hspG), atI_nat (lwV_at hc2), _, rfl, rfl, _, rfl, ?_⟩
        rw [show decide (V.str (lawS c2) = V.str (lawS (some b))) = decide (c2 = some b) from law_dec c2 (some b)]
        by_cases e2 : c2 = some b
        · rw [decide_eq_true e2]
          exact iteT ⟨_, rfl, go _ _ (by rw [hc2, e2]; simp) (Same.refl _) rfl⟩
        · rw [decide_eq_false e2]
          exact iteF (no _ (by rw [hc2]; simp [e2]) (Same.refl _))
      · intro G3 ys sm3 eD3 rel
        rw [List.map_id'] at rel
        obtain rfl := pair_ints rel
        exact go2 _ _ rfl sm3 ⟨D2, rfl, fun e => nn (by rw [← e]; exact nD2), eD3⟩
    · intro G ys smG eD rel
      obtain ⟨z1, z2, rfl, hz1, hz2⟩ : ∃ z1 z2 : Addr, ys = [V.ref z1, V.ref z2] ∧ G z1 = some (.lst (ivs (idxs (curr ss n) (some true)))) ∧ G z2 = some (.lst (ivs (idxs (curr ss n) (some false)))) := by
        have rel : Paired (LnD D0 G) ys [idxs (curr ss n) (some true), idxs (curr ss n) (some false)] := rel
        cases rel with
        | cons h1 t1 =>
          cases t1 with
          | cons h2 t2 =>
            cases t2
            obtain ⟨z1, rfl, _, e1⟩ := h1
            obtain ⟨z2, rfl, _, e2⟩ := h2
            exact ⟨z1, z2, rfl, e1, e2⟩
      have sG := sT.trans smG
      have hLG := hL.same sG
      obtain ⟨dx, t, st, o, k1, k2, us, ws, hX⟩ := id hLG
      refine ⟨_, rfl, q, dx, _, rfl, hX.at_, q, xs, ss, n, _, rfl, hLG, p, rfl, fun a1 H1 s1 n1 e1 => ?_⟩
      refine ⟨_, rfl, q, dx, _, rfl, s1 _ _ hX.at_, q, xs, ss, n, _, rfl, hLG.same s1, p, rfl, fun a2 H2 s2 n2 e2 => ?_⟩
      have s12 := s1.trans s2
      refine ⟨_, rfl, q, dx, _, rfl, s12 _ _ hX.at_, q, xs, ss, n, _, rfl, hLG.same s12, p, rfl, fun H3 s3 => ?_⟩
      have s13 := s12.trans s3
      have hli := idxs_len (curr ss n) (some true)
      have hli2 := idxs_len (curr ss n) (some false)
      refine ⟨_, rfl, by omega, by omega, by show 3 ≤ sizeLine; decide, fun l4 n4 => ?_⟩
      have s4 := s13.trans (same_new (o := .lst [V.ref a1, V.ref a2, V.int ((idxs (curr ss n) (some true)).length : Nat)]) n4)
      have hz1' := s4 _ _ hz1
      have hz2' := s4 _ _ hz2
      have eD' := s4 _ _ eD
      have e4 : (upd H3 l4 (.lst [V.ref a1, V.ref a2, V.int ((idxs (curr ss n) (some true)).length : Nat)])) l4 = some (.lst [V.ref a1, V.ref a2, V.int ((idxs (curr ss n) (some true)).length : Nat)]) := upd_same
      have e1' : (upd H3 l4 (.lst [V.ref a1, V.ref a2, V.int ((idxs (curr ss n) (some true)).length : Nat)])) a1 = some (.lst (ivs (idxs (curr ss n) (some true)))) := same_new n4 _ _ (s3 _ _ (s2 _ _ e1))
      have e2' : (upd H3 l4 (.lst [V.ref a1, V.ref a2, V.int ((idxs (curr ss n) (some true)).length : Nat)])) a2 = some (.lst (ivs (idxs (curr ss n) (some false)))) := same_new n4 _ _ (s3 _ _ e2)
      generalize upd H3 l4 (.lst [V.ref a1, V.ref a2, V.int ((idxs (curr ss n) (some true)).length : Nat)]) = H4 at s4 hz1' hz2' eD' e4 e1' e2' ⊢
      refine ⟨_, rfl, _, rfl, D0, _, ((0 : Nat) : Int), _, rfl, rfl, SqL.of eD', atI_nat (j := 0) rfl, z1, _, rfl, .inl (SqL.of hz1'), by show 1 ≤ sizeLine; decide, fun l5 n5 => ?_⟩
      have hlv : (ivs (idxs (curr ss n) (some true))).length = (idxs (curr ss n) (some true)).length := by unfold ivs; rw [List.length_map]
      rw [hlv]
      have s5 := same_new (o := .lst [V.int ((idxs (curr ss n) (some true)).length : Nat)]) n5
      refine ⟨D0, l5, _, _, rfl, rfl, s5 _ _ eD', upd_same, by show 2 + 1 ≤ sizeLine; decide, fun l6 n6 => ?_⟩
      have s6 := s5.trans (same_new (o := .lst ([V.ref z1, V.ref z2] ++ [V.int ((idxs (curr ss n) (some true)).length : Nat)])) n6)
      refine ⟨_, _, .list [intD (idxs (curr ss n) (some true)), intD (idxs (curr ss n) (some false)), .int ((idxs (curr ss n) (some true)).length : Nat)], rfl, .lst (SqL.of (s6 _ _ e4)) (.cons (ints_dp (SqL.of (s6 _ _ e1'))) (.cons (ints_dp (SqL.of (s6 _ _ e2'))) (.cons (.int _) .nil))),
        .lst (SqL.of upd_same) (.cons (ints_dp (SqL.of (s6 _ _ hz1'))) (.cons (ints_dp (SqL.of (s6 _ _ hz2'))) (.cons (.int _) .nil))), .inr ⟨_, .inl rfl, by show 3 ≤ 1000; decide, fun e he => ?_⟩, fun H7 s7 => ⟨_, rfl, iteF ?_⟩⟩
      · simp only [List.mem_cons, List.not_mem_nil, or_false] at he
        rcases he with rfl | rfl | rfl
        · exact lk_ints (by omega)
        · exact lk_ints (by omega)
        · exact lk_int
      have sA := (sG.trans s4).trans (s6.trans s7)
      have hLA := hL.same sA
      obtain ⟨dx, t, st, o, k1, k2, us, ws, hX⟩ := id hLA
      have hspA := sA _ _ hsp
      refine ⟨_, rfl, sp, _, rfl, .inl (SqL.of hspA), _, rfl, by omega, by omega, fun D8 nD8 => ?_⟩
      rw [show ((lwV (curr ss n)).length : Int).toNat = (curr ss n).length by omega]
      refine lc_fm (walk_range (lo := 0) (n := (curr ss n).length)) (List.range (curr ss n).length) (fun _ => false) (fun k => k) (fun _ v k => v = .int ((k : Nat) : Int)) (List.length_range) (by omega) nD8 (fun _ _ _ _ _ _ _ q => q) (fun _ _ => True.intro) ?_ ?_
      · rintro n3 kx x3 G3 G4 N4 M4 hm sm3 _ ⟨rfl, rfl⟩ no go
        obtain ⟨hnl, rfl⟩ := get_range hm
        obtain ⟨c2, hc2⟩ : ∃ c2, (curr ss n)[kx]? = some c2 := ⟨(curr ss n)[kx], by simp [hnl]⟩
        show gName 3 (V.int (0 + (kx : Int))) _ _ _
        rw [Int.zero_add]
        refine ⟨rfl, _, rfl, _, rfl, q, dx, _, rfl, sm3 _ _ hX.at_, q, xs, ss, n, _, rfl, hLA.same sm3, p, _, rfl, True.intro, _, rfl, ?_⟩
        refine ⟨_, rfl, _, rfl, sp, _, ((kx : Nat) : Int), _, rfl, rfl, SqL.of (sm3 _ _ hspA), atI_nat (lwV_at hc2), rfl, rfl, _, rfl, ?_⟩
        rw [show decide (V.str (lawS c2) = V.str "up") = decide (c2 = some true) from law_dec c2 (some true)]
        have e9 : inCur (curr ss n) (.int ((kx : Nat) : Int)) = decide (c2 = some true) := by
          show (decide (0 ≤ ((kx : Nat) : Int)) && decide ((curr ss n)[((kx : Nat) : Int).toNat]? = some (some true))) = _
          rw [decide_eq_true (by omega), Int.toNat_natCast, hc2, Bool.true_and]
          simp
        rw [e9, if_neg Bool.false_ne_true, show (!decide (V.bl (decide (c2 = some true)) = V.bl (decide (c2 = some true)))) = false by simp]
        exact iteF (no _ rfl (Same.refl _))
      · intro G3 ys sm3 eD3 rel
        rw [List.filter_eq_nil_iff.mpr (fun _ _ => Bool.false_ne_true)] at rel
        cases rel
        refine ⟨by show 0 ≤ sizeLine; decide, fun e ne => ⟨.list [], .list [], .lst (SqL.of (same_new ne _ _ eD3)) .nil, .lst (SqL.of upd_same) .nil, rfl, rfl, ?_⟩⟩
        rw [show PyData.eqv (.list []) (.list []) = true from by simp [PyData.eqv, PyData.eqvAll]]
        exact k _ ((sA.trans sm3).trans (same_new ne))
end
/-! ### what stands while tables grow, and while a live row changes -/
def qL : Str := (("law" : Str) ++ (".<locals>." : Str)) ++ ("<lambda>" : Str)
theorem sqT_extN {H H' : Hp} {a : Addr} {xs : List V} {K : PySem.W.Frag} (e : LamX.ExtN H H') (h : SqT K H a xs) : SqT K H' a xs := by
  rcases h with (h | ⟨o, h⟩) | h
  · exact .inl (.inl (e _ _ h fun ps z => nomatch z))
  · exact .inl (.inr ⟨o, e _ _ h fun ps z => nomatch z⟩)
  · exact .inr h
theorem sqL_extN {H H' : Hp} {a : Addr} {xs : List V} {K : PySem.W.Frag} (e : LamX.ExtN H H') (h : SqL K H a xs) : SqL K H' a xs := by
  rcases h with (h | ⟨o, h⟩) | h
  · exact .inl (.inl (e _ _ h fun ps z => nomatch z))
  · exact .inl (.inr ⟨o, e _ _ h fun ps z => nomatch z⟩)
  · exact .inr h
theorem extN_of {H H' : Hp} (e : Same H H') : LamX.ExtN H H' := fun b o h _ => e b o h
theorem tabs_same {T : List (Addr × Str)} {H H' : Hp} (e : Same H H') (h : LamX.Tabs T H) : LamX.Tabs T H' := LamX.Tabs.ext h e
theorem tabs_but {T : List (Addr × Str)} {H H' : Hp} {L : Addr} {ys : List V} (e : But L H H') (hL : H L = some (.lst ys)) (h : LamX.Tabs T H) : LamX.Tabs T H' := fun p hp => by
  obtain ⟨ps, a, b, c⟩ := h p hp
  refine ⟨ps, e _ _ (fun z => by rw [z, hL] at a; cases a) a, b, fun pos cv q => ?_⟩
  obtain ⟨c0, d1, d2⟩ := c pos cv q
  exact ⟨c0, d1, e _ _ (fun z => by rw [z, hL] at d2; cases d2) d2⟩
theorem tabs_ins {T : List (Addr × Str)} {H H' : Hp} {q D dx : Addr} {fs : List (Str × V)} (e : But q H H') (hL : H q = some (.ins D dx fs)) (h : LamX.Tabs T H) : LamX.Tabs T H' := fun p hp => by
  obtain ⟨ps, a, b, c⟩ := h p hp
  refine ⟨ps, e _ _ (fun z => by rw [z, hL] at a; cases a) a, b, fun pos cv q => ?_⟩
  obtain ⟨c0, d1, d2⟩ := c pos cv q
  exact ⟨c0, d1, e _ _ (fun z => by rw [z, hL] at d2; cases d2) d2⟩
theorem StonesAt.map {K : PySem.W.Frag} {H H' : Hp} {us : List V} {xs : List (Int × Int)} (h : StonesAt K H us xs) (f : ∀ a ys, SqT K H a ys → SqT K H' a ys) : StonesAt K H' us xs :=
  ⟨h.1, fun k x q => let ⟨a, q1, q2⟩ := h.2 k x q; ⟨a, q1, f _ _ q2⟩⟩
theorem Drw.extN {K : PySem.W.Frag} {H H' : Hp} {L a : Addr} {ns : List Int} (h : Drw K H L a ns) (e : LamX.ExtN H H') : Drw K H' L a ns :=
  let ⟨i, s, r, h1, h2, h3, h4, h5⟩ := h; ⟨i, s, r, e _ _ h1 (fun ps z => nomatch z), h2, h3, h4, sqL_extN e h5⟩
theorem SqL.ins {K : PySem.W.Frag} {H H' : Hp} {q D : Addr} {dx : Addr} {fs : List (Str × V)} {a : Addr} {xs : List V} (h : SqL K H a xs) (eq : H q = some (.ins D dx fs)) (b : But q H H') : SqL K H' a xs := by
  rcases h with (h | ⟨o, h⟩) | h
  · exact .inl (.inl (b _ _ (fun e => by rw [e, eq] at h; cases h) h))
  · exact .inl (.inr ⟨o, b _ _ (fun e => by rw [e, eq] at h; cases h) h⟩)
  · exact .inr h
theorem Drw.ins {K : PySem.W.Frag} {H H' : Hp} {L a q D : Addr} {ns : List Int} {dx : Addr} {fs : List (Str × V)} (h : Drw K H L a ns) (eq : H q = some (.ins D dx fs)) (b : But q H H') : Drw K H' L a ns := by
  obtain ⟨i, s, r, h1, h2, h3, h4, h5⟩ := h
  exact ⟨i, s, r, b _ _ (fun e => by rw [e, eq] at h1; cases h1) h1, h2, h3, h4, SqL.ins h5 eq b⟩
theorem live_ne {K : PySem.W.Frag} {H : Hp} {q D u : Addr} {xs : List (Int × Int)} {ss : List Step} {n : Nat} {zs : List V} (h : LiveAt K H q D xs ss n) (e : H u = some (.lst zs)) : u ≠ q := fun z => by
  obtain ⟨dx, fs, h⟩ := h.ref
  rw [z, h] at e
  cases e
theorem LiveAt.lst {K : PySem.W.Frag} {H H' : Hp} {q D l : Addr} {xs : List (Int × Int)} {ss : List Step} {n : Nat} {zs : List V} (h : LiveAt K H q D xs ss n) (hl : H l = some (.lst zs)) (b : But l H H') : LiveAt K H' q D xs ss n := by
  obtain ⟨dx, t, st, o, k1, k2, us, ws, h⟩ := h
  have up : ∀ a ys, SqT K H a ys → SqT K H' a ys := fun a ys h => sqT_but h hl b
  exact ⟨dx, t, st, o, k1, k2, us, ws, b _ _ (fun e => by rw [e] at h; have := h.at_; rw [hl] at this; cases this) h.at_, up _ _ h.hT, ⟨h.hS.1, fun k x e => by obtain ⟨a, h1, h2⟩ := h.hS.2 k x e; exact ⟨a, h1, up _ _ h2⟩⟩, up _ _ h.hW, paired_imp (fun _ _ r => r.to up) h.hP⟩
theorem LiveAt.extN {K : PySem.W.Frag} {H H' : Hp} {q D : Addr} {xs : List (Int × Int)} {ss : List Step} {n : Nat} (h : LiveAt K H q D xs ss n) (e : LamX.ExtN H H') : LiveAt K H' q D xs ss n := by
  obtain ⟨dx, t, st, o, k1, k2, us, ws, h⟩ := h
  exact ⟨dx, t, st, o, k1, k2, us, ws, e _ _ h.at_ (fun ps z => nomatch z), sqT_extN e h.hT, h.hS.map fun _ _ => sqT_extN e, sqT_extN e h.hW, paired_imp (fun _ _ r => r.to fun _ _ => sqT_extN e) h.hP⟩
mutual
theorem Dp.map {K : PySem.W.Frag} {H H' : Hp} (eL : ∀ a xs, SqL K H a xs → SqL K H' a xs) (eT : ∀ a xs, SqT K H a xs → SqT K H' a xs) : ∀ {v : V} {d : PyData}, Dp K H v d → Dp K H' v d
  | _, _, .non => .non
  | _, _, .bl b => .bl b
  | _, _, .int i => .int i
  | _, _, .str x => .str x
  | _, _, .lst h a => .lst (eL _ _ h) (DpAll.map eL eT a)
  | _, _, .tup h a => .tup (eT _ _ h) (DpAll.map eL eT a)
theorem DpAll.map {K : PySem.W.Frag} {H H' : Hp} (eL : ∀ a xs, SqL K H a xs → SqL K H' a xs) (eT : ∀ a xs, SqT K H a xs → SqT K H' a xs) : ∀ {vs : List V} {ds : List PyData}, DpAll K H vs ds → DpAll K H' vs ds
  | _, _, .nil => .nil
  | _, _, .cons h t => .cons (Dp.map eL eT h) (DpAll.map eL eT t)
end
theorem Dp.extN {K : PySem.W.Frag} {H H' : Hp} (e : LamX.ExtN H H') {v : V} {d : PyData} (h : Dp K H v d) : Dp K H' v d := Dp.map (fun _ _ => sqL_extN e) (fun _ _ => sqT_extN e) h
theorem Dp.ins {K : PySem.W.Frag} {H H' : Hp} {q D dx : Addr} {fs : List (Str × V)} (eq : H q = some (.ins D dx fs)) (b : But q H H') {v : V} {d : PyData} (h : Dp K H v d) : Dp K H' v d := Dp.map (fun _ _ h => SqL.ins h eq b) (fun _ _ h => sqT_ins h eq b) h
theorem next_of {D : Ends} {σ : L2.St} {H : Hp} (h : D.nx σ H) : tNext D σ H := h
theorem join {t : TS} {nx bk ct : L2.St → Hp → Prop} {rt : VK} {sl : L2.St} {H : Hp} (Pv : L2.St → Hp → Prop) (key : ∀ s' H', Pv s' H' → nx s' H') (main : ∀ nx' : L2.St → Hp → Prop, (∀ s' H', Pv s' H' → nx' s' H') → t { nx := nx', rt := rt, bk := bk, ct := ct } sl H) :
    t { nx := nx, rt := rt, bk := bk, ct := ct } sl H := main nx key
/-! ### what an operation makes of the steps -/
def stpW (xs : List (Int × Int)) (ss : List Step) (n : Nat) (ow : OpW) : List Step × Nat := match owE (curr ss n) ow with
  | .inl op => (newSteps xs ss n [op], n + 1)
  | .inr _ => (ss, n)
theorem stpW_ok {xs : List (Int × Int)} {ss : List Step} {n : Nat} {ow : OpW} {op : Opn} (h : owE (curr ss n) ow = .inl op) : stpW xs ss n ow = (newSteps xs ss n [op], n + 1) := by unfold stpW; rw [h]
theorem stpW_err {xs : List (Int × Int)} {ss : List Step} {n : Nat} {ow : OpW} {e : ErW} (h : owE (curr ss n) ow = .inr e) : stpW xs ss n ow = (ss, n) := by unfold stpW; rw [h]
theorem stpW_curr {xs : List (Int × Int)} {ss : List Step} {n : Nat} (p : LiveP xs ss n) (ow : OpW) : curr (stpW xs ss n ow).1 (stpW xs ss n ow).2 = nextC xs (curr ss n) ow := by
  unfold nextC
  cases h : owE (curr ss n) ow with
  | inl op => rw [stpW_ok h]; exact curr_new p.lt [op]
  | inr e => rw [stpW_err h]
theorem stpW_live {xs : List (Int × Int)} {ss : List Step} {n : Nat} (p : LiveP xs ss n) (hn : n + 1 < 900) (ow : OpW) : LiveP xs (stpW xs ss n ow).1 (stpW xs ss n ow).2 := by
  cases h : owE (curr ss n) ow with
  | inl op => rw [stpW_ok h]; exact p.new (ops := [op]) hn
  | inr e => rw [stpW_err h]; exact p
theorem stpW_le {xs : List (Int × Int)} {ss : List Step} {n : Nat} (ow : OpW) : (stpW xs ss n ow).2 ≤ n + 1 := by
  cases h : owE (curr ss n) ow with
  | inl op => rw [stpW_ok h]; exact Nat.le_refl _
  | inr e => rw [stpW_err h]; exact Nat.le_succ _
theorem hist_new {xs : List (Int × Int)} {ss : List Step} {n : Nat} (hn : n < ss.length) (op : Opn) : ((newSteps xs ss n [op]).drop 1).take (n + 1) = ((ss.drop 1).take n) ++ [(some op, afterOp xs (curr ss n) op)] := by
  have e : newSteps xs ss n [op] = ss.take (n + 1) ++ [(some op, afterOp xs (curr ss n) op)] := by unfold newSteps; rw [if_neg (by simp)]; rfl
  rw [e, List.drop_append_of_le_length (by rw [List.length_take]; omega), List.take_of_length_le (by simp; omega), List.drop_take]
  rfl
theorem act_told {K : PySem.W.Frag} {Z : ClsE} {Y : Exc11} {D q o : Addr} {xs : List (Int × Int)} {ss : List Step} {n : Nat} {ow : OpW} {H : Hp} {Q : VK} (o1 : ExcOfW K Y Z.st 6) (o2 : ExcOfW K Y Z.si 7) (o3 : ExcOfW K Y Z.ns 3) (o4 : ExcOfW K Y Z.nl 4)
    (hL : LiveAt K H q D xs ss n) (p : LiveP xs ss n) (hO : SqT K H o (owV ow)) (pl : plainW ow) (hn : n + 1 < 900)
    (key : ∀ v G, But q H G → LiveAt K G q D xs (stpW xs ss n ow).1 (stpW xs ss n ow).2 → Dp K G v (outD xs (curr ss n) ow) → Q v G) : spActX K Z D [.ref q, .ref o] H Q (ToldW K Y Q) :=
  ⟨q, xs, ss, n, _, rfl, hL, p, o, ow, rfl, hO, pl, hn, fun op hop v H' b res _ hL' => key v H' b (by rw [stpW_ok hop]; exact hL') (by unfold outD; rw [hop]; exact resAt_dp res),
    fun e he => errAt_told o1 o2 o3 o4 fun t H' s dp => key _ H' (Same.but s q) (by rw [stpW_err he]; exact hL.same s) (by unfold outD; rw [he]; exact dp)⟩
/-! ### a history as data -/
def opD : Option Opn → PyData
  | none => .none
  | some (.push i r) => .tuple [.str "push", .int (i : Nat), .str (sideS r)]
  | some (.lift i) => .tuple [.str "lift", .int (i : Nat)]
  | some (.take i) => .tuple [.str "take", .int (i : Nat)]
def histD (ss : List Step) : PyData := .list (ss.map fun s => opD s.1)
theorem opAt_dp {K : PySem.W.Frag} {H : Hp} {v : V} : ∀ {o : Option Opn}, OpAt K H v o → Dp K H v (opD o)
  | none, h => by
    obtain rfl : v = .non := h
    exact .non
  | some (.push i r), ⟨a, e, h⟩ => by subst e; exact .tup h (.cons (.str _) (.cons (.int _) (.cons (.str _) .nil)))
  | some (.lift i), ⟨a, e, h⟩ => by subst e; exact .tup h (.cons (.str _) (.cons (.int _) .nil))
  | some (.take i), ⟨a, e, h⟩ => by subst e; exact .tup h (.cons (.str _) (.cons (.int _) .nil))
theorem hist_all {K : PySem.W.Frag} {H : Hp} : ∀ {vs : List V} {ss : List Step}, Paired (fun v (s : Step) => OpAt K H v s.1) vs ss → DpAll K H vs (ss.map fun s => opD s.1)
  | _, _, .nil => .nil
  | _, _, .cons h t => .cons (opAt_dp h) (hist_all t)
theorem op_lk (o : Option Opn) : Lk 1 (opD o) := by
  have h1 : ∀ r ∈ (["push", "lift", "take", "left", "right"] : List Str), SeqAt.shaped (.str r) = true := by decide +kernel
  have hs : ∀ r : Bool, SeqAt.shaped (.str (sideS r)) = true := fun r => by cases r <;> exact h1 _ (by decide)
  match o with
  | none => exact .inl (.inr (.inr (.inr rfl)))
  | some (.push i r) => exact .inr ⟨_, .inr rfl, by show 3 ≤ 1000; decide, fun e he => by
      simp only [List.mem_cons, List.not_mem_nil, or_false] at he
      rcases he with rfl | rfl | rfl
      · exact lk_str (h1 _ (by decide))
      · exact lk_int
      · exact lk_str (hs r)⟩
  | some (.lift i) => exact .inr ⟨_, .inr rfl, by show 2 ≤ 1000; decide, fun e he => by
      simp only [List.mem_cons, List.not_mem_nil, or_false] at he
      rcases he with rfl | rfl
      · exact lk_str (h1 _ (by decide))
      · exact lk_int⟩
  | some (.take i) => exact .inr ⟨_, .inr rfl, by show 2 ≤ 1000; decide, fun e he => by
      simp only [List.mem_cons, List.not_mem_nil, or_false] at he
      rcases he with rfl | rfl
      · exact lk_str (h1 _ (by decide))
      · exact lk_int⟩
theorem hist_lk {ss : List Step} (h : ss.length ≤ 1000) : Lk 2 (histD ss) := .inr ⟨_, .inl rfl, by rw [List.length_map]; exact h, fun e he => by
  obtain ⟨s, _, rfl⟩ := List.mem_map.mp he
  exact op_lk _⟩
theorem lw_ne {K : PySem.W.Frag} {H : Hp} {L a sp : Addr} {ns : List Int} {cs : List Cnd} (d : Drw K H L a ns) (e : H sp = some (.lst (lwV cs))) : sp ≠ L := fun z => by
  obtain ⟨i, s, r, h1, _⟩ := d
  rw [z, h1] at e
  have e : [V.ref a, .int i, .int s, .int r] = lwV cs := by injection e with e; injection e
  cases cs with
  | nil => cases e
  | cons x T => injection e with e _; cases e
/-- a round's heap: the stones, the live row, the operations done, the states -/
structure R41 (K : PySem.W.Frag) (D : Addr) (T : List (Addr × Str)) (L0 a q sl : Addr) (ns : List Int) (us : List V) (xs : List (Int × Int)) (dn : Addr) (ds : List Step) (sp : Addr) (cs : List Cnd) (ss : List Step) (n : Nat) (H : Hp) : Prop where
  t : LamX.Tabs T H
  d : Drw K H L0 a ns
  l : H sl = some (.lst us)
  s : StonesAt K H us xs
  v : LiveAt K H q D xs ss n
  o : ∃ dvs, H dn = some (.lst dvs) ∧ Paired (fun v (s : Step) => OpAt K H v s.1) dvs ds
  w : H sp = some (.lst (lwV cs))
  n1 : sl ≠ L0
  n2 : dn ≠ L0
section
variable {K : PySem.W.Frag} {D : Addr} {T : List (Addr × Str)} {L0 a q sl : Addr} {ns : List Int} {us : List V} {xs : List (Int × Int)} {dn : Addr} {ds : List Step} {sp : Addr} {cs : List Cnd} {ss : List Step} {n : Nat} {H H' : Hp}
theorem R41.extN (h : R41 K D T L0 a q sl ns us xs dn ds sp cs ss n H) (e : LamX.ExtN H H') (t : LamX.Tabs T H') : R41 K D T L0 a q sl ns us xs dn ds sp cs ss n H' :=
  ⟨t, h.d.extN e, e _ _ h.l (fun ps z => nomatch z), h.s.map fun _ _ => sqT_extN e, h.v.extN e, let ⟨v, h1, h2⟩ := h.o; ⟨v, e _ _ h1 (fun ps z => nomatch z), paired_imp (fun _ _ r => r.to fun _ _ => sqT_extN e) h2⟩, e _ _ h.w (fun ps z => nomatch z), h.n1, h.n2⟩
theorem R41.same (h : R41 K D T L0 a q sl ns us xs dn ds sp cs ss n H) (e : Same H H') : R41 K D T L0 a q sl ns us xs dn ds sp cs ss n H' := h.extN (extN_of e) (tabs_same e h.t)
theorem R41.but (h : R41 K D T L0 a q sl ns us xs dn ds sp cs ss n H) (b : But L0 H H') (d : Drw K H' L0 a ns) : R41 K D T L0 a q sl ns us xs dn ds sp cs ss n H' := by
  obtain ⟨ys, hL⟩ := h.d.cell.list
  exact ⟨tabs_but b hL h.t, d, b _ _ h.n1 h.l, h.s.map fun _ _ r => sqT_but r hL b, h.v.lst hL b, let ⟨v, h1, h2⟩ := h.o; ⟨v, b _ _ h.n2 h1, paired_imp (fun _ _ r => r.to fun _ _ r => sqT_but r hL b) h2⟩, b _ _ (lw_ne h.d h.w) h.w, h.n1, h.n2⟩
theorem R41.ins (h : R41 K D T L0 a q sl ns us xs dn ds sp cs ss n H) (b : But q H H') {ss' : List Step} {n' : Nat} (v : LiveAt K H' q D xs ss' n') : R41 K D T L0 a q sl ns us xs dn ds sp cs ss' n' H' := by
  obtain ⟨dx, fs, hL⟩ := h.v.ref
  exact ⟨tabs_ins b hL h.t, h.d.ins hL b, b _ _ (live_ne h.v h.l) h.l, h.s.ins hL b, v, let ⟨v, h1, h2⟩ := h.o; ⟨v, b _ _ (live_ne h.v h1) h1, paired_imp (fun _ _ r => r.to fun _ _ r => sqT_ins r hL b) h2⟩, b _ _ (live_ne h.v h.w) h.w, h.n1, h.n2⟩
end
theorem isErr_inl {K : PySem.W.Frag} {H : Hp} {v : V} {xs : List (Int × Int)} {cs : List Cnd} {ow : OpW} {op : Opn} (h : Dp K H v (outD xs cs ow)) (ho : owE cs ow = .inl op) : ∃ t, TyX K H v (.type t) ∧ PySem.W.kitOne K (.type t) (.type "tuple") = some false := by
  unfold outD at h
  rw [ho] at h
  cases op with
  | push i r =>
    cases h with
    | lst hs a => exact ⟨"list", tyL hs, kit_ty (by decide +kernel)⟩
  | lift i =>
    cases h with
    | int i => exact ⟨"int", .base (.int _), kit_ty (by decide +kernel)⟩
  | take i =>
    cases h with
    | bl b => exact ⟨"bool", .base (.bl _), kit_ty (by decide +kernel)⟩
theorem isErr_inr {K : PySem.W.Frag} {H : Hp} {v : V} {xs : List (Int × Int)} {cs : List Cnd} {ow : OpW} {e : ErW} (h : Dp K H v (outD xs cs ow)) (he : owE cs ow = .inr e) : ∃ a x rest, v = .ref a ∧ SqT K H a (.str "error" :: x :: rest) := by
  unfold outD at h
  rw [he] at h
  have key : ∀ {a : Addr} {ys : List V} {d : PyData} {ds : List PyData}, SqT K H a ys → DpAll K H ys (.str "error" :: d :: ds) → ∃ a' x rest, V.ref a = .ref a' ∧ SqT K H a' (.str "error" :: x :: rest) := fun {a ys d ds} hT al => by
    cases al with
    | cons h1 t1 =>
      cases h1
      cases t1 with
      | cons h2 t2 => exact ⟨a, _, _, rfl, hT⟩
  cases e with
  | stone =>
    cases h with
    | tup hT al => exact key hT al
  | side =>
    cases h with
    | tup hT al => exact key hT al
  | stand i =>
    cases h with
    | tup hT al => exact key hT al
  | lie i =>
    cases h with
    | tup hT al => exact key hT al
/-! ### undo, redo, the history -/
def spUndo (K : PySem.W.Frag) (D : Addr) : Sp := Lv K D fun q xs ss n rest H Q => rest = [] ∧ (n = 0 → Q (.bl false) H) ∧ (0 < n → ∀ H', But q H H' → LiveAt K H' q D xs ss (n - 1) → Q (.bl true) H')
def spRedo (K : PySem.W.Frag) (D : Addr) : Sp := Lv K D fun q xs ss n rest H Q => rest = [] ∧ (n + 1 = ss.length → Q (.bl false) H) ∧ (n + 1 < ss.length → ∀ H', But q H H' → LiveAt K H' q D xs ss (n + 1) → Q (.bl true) H')
def spHist (K : PySem.W.Frag) (D : Addr) : Sp := Lv K D fun _ _ ss n rest H Q => rest = [] ∧ ∀ p H' os, Same H H' → H p = none → H' p = some (.lst os) → Paired (fun v (s : Step) => OpAt K H' v s.1) os ((ss.drop 1).take n) → Q (.ref p) H'
theorem hist_len {xs : List (Int × Int)} {ss : List Step} {n : Nat} (p : LiveP xs ss n) : ((ss.drop 1).take n).length = n := by
  have := p.lt
  rw [List.length_take, List.length_drop]
  omega
/-- the last step is another one -/
theorem live_to {K : PySem.W.Frag} {H : Hp} {q D dx t st : Addr} {n : Nat} {o : Bool} {k1 k2 : V} {us ws : List V} {xs : List (Int × Int)} {ss : List Step} (h : LiveX K H q D dx t st n o k1 k2 us ws xs ss) {i : Int} (m : Nat) (e : i = (m : Int)) :
    LiveAt K (upd H q (.ins D dx (putF "_last_step" (.int i) (liveF t st n o k1 k2)))) q D xs ss m := by
  subst e
  exact ⟨dx, t, st, o, k1, k2, us, ws, upd_same, sqT_ins h.hT h.at_ but_upd, h.hS.ins h.at_ but_upd, sqT_ins h.hW h.at_ but_upd, paired_imp (fun _ _ r => r.ins h.at_ but_upd) h.hP⟩
theorem paired_drop {α β : Type} {F : α → β → Prop} : ∀ {xs : List α} {ys : List β} (k : Nat), Paired F xs ys → Paired F (xs.drop k) (ys.drop k)
  | _, _, 0, h => h
  | _, _, k + 1, .nil => .nil
  | _, _, k + 1, .cons a t => paired_drop k t
section
variable {P : Program} {w : World} {K : PySem.W.Frag} {mg : Str → Option Value} {base : Heap}
theorem ok_undo {f D : Addr} {fd : FuncData} (F : Fun K "undo" "LiveRow.undo" s_LiveRow_undo f fd) (cL : ClsL K D) : FnOk P w K mg base CX0 1 f fd ["self"] (spUndo K D) := by
  refine F.ok sc_LiveRow_undo (fun vs H Q E h => ?_) (fun cdv A outer s H vs Q E hr h => ?_)
  · obtain ⟨q, xs, ss, n, rest, rfl, _, _, rfl, _⟩ := h
    rfl
  · obtain ⟨q, xs, ss, n, rest, rfl, ⟨dx, t, st, o, k1, k2, us, ws, h⟩, p, rfl, k0, k1'⟩ := h
    refine ⟨_, pss_cons (ps_if (pt_cmpR (op_eq) (pe_fld (pv 0) rfl) (pe_int) (nomark _)) (pss_one (ps_ret pe_bl)) pss_nil)
      (pss_cons (ps_fldaug (pv 0) pe_int in_sub) (pss_one (ps_ret pe_bl))), ?_⟩
    refine ⟨_, rfl, q, D, dx, _, _, rfl, h.at_, cL.cl, cL.n3, rfl, rfl, _, rfl, ?_⟩
    rw [dec_int]
    by_cases e : n = 0
    · subst e
      exact iteT (k0 rfl)
    · rw [show (((n : Nat) : Int) == 0) = false by simp [e]]
      refine iteF ?_
      refine ⟨_, rfl, q, D, dx, _, _, rfl, h.at_, cL.cl, cL.n3, rfl, _, _, rfl, rfl, dx, _, h.at_, by show 6 < 1000; decide, ?_⟩
      exact k1' (by omega) _ but_upd (live_to h (n - 1) (by omega))
theorem ok_redo {f D : Addr} {fd : FuncData} (F : Fun K "redo" "LiveRow.redo" s_LiveRow_redo f fd) (B : Blt mg) (cL : ClsL K D) : FnOk P w K mg base CX0 1 f fd ["self"] (spRedo K D) := by
  refine F.ok sc_LiveRow_redo (fun vs H Q E h => ?_) (fun cdv A outer s H vs Q E hr h => ?_)
  · obtain ⟨q, xs, ss, n, rest, rfl, _, _, rfl, _⟩ := h
    rfl
  · obtain ⟨q, xs, ss, n, rest, rfl, ⟨dx, t, st, o, k1, k2, us, ws, h⟩, p, rfl, k0, k1'⟩ := h
    have hlt := p.lt
    refine ⟨_, pss_cons (ps_if (pt_cmpR (op_eq) (pe_fld (pv 0) rfl) (pe_op op_sub (pe_callB call_len_seq (by rfl) B.len PySem.boot_len (pa_cons (pe_fld (pv 0) rfl) pa_nil)) (pe_int)) (nomark _)) (pss_one (ps_ret pe_bl)) pss_nil)
      (pss_cons (ps_fldaug (pv 0) pe_int in_add) (pss_one (ps_ret pe_bl))), ?_⟩
    refine ⟨_, rfl, q, D, dx, _, _, rfl, h.at_, cL.cl, cL.n3, rfl, _, rfl, q, D, dx, _, _, rfl, h.at_, cL.cl, cL.n2, rfl, st, ws, rfl, .inr h.hW, _, _, rfl, rfl, rfl, _, rfl, ?_⟩
    rw [dec_int, paired_len h.hP]
    by_cases e : n + 1 = ss.length
    · rw [show (((n : Nat) : Int) == (ss.length : Int) - 1) = true by rw [beq_iff_eq]; omega]
      exact iteT (k0 e)
    · rw [show (((n : Nat) : Int) == (ss.length : Int) - 1) = false by rw [beq_eq_false_iff_ne]; omega]
      refine iteF ?_
      refine ⟨_, rfl, q, D, dx, _, _, rfl, h.at_, cL.cl, cL.n3, rfl, _, _, rfl, rfl, dx, _, h.at_, by show 6 < 1000; decide, ?_⟩
      exact k1' (by omega) _ but_upd (live_to h (n + 1) (by omega))
theorem ok_history {f D : Addr} {fd : FuncData} (F : Fun K "history" "LiveRow.history" s_LiveRow_history f fd) (cL : ClsL K D) : FnOk P w K mg base CX0 1 f fd ["self"] (spHist K D) := by
  refine F.ok sc_LiveRow_history (fun vs H Q E h => ?_) (fun cdv A outer s H vs Q E hr h => ?_)
  · obtain ⟨q, xs, ss, n, rest, rfl, _, _, rfl, _⟩ := h
    rfl
  · obtain ⟨q, xs, ss, n, rest, rfl, ⟨dx, t, st, o, k1, k2, us, ws, h⟩, p, rfl, k⟩ := h
    have hlt := p.lt
    have hle := p.le
    have hwl := paired_len h.hP
    refine ⟨_, pss_one (ps_ret (pe_lc (own := [("operation", 1), ("_", 2)]) (g := gTup K 2 (gCons (gName 1) (gCons (gName 2) gNil))) (tt := tYes) rfl sc_LiveRow_history.nd (pi_tup (pe_slice sl_tupA (pe_fld (pv 0) rfl) (po_some pe_int) (po_some (pe_op op_add (pe_fld (pv 0) rfl) (pe_int))))) (blkOk_by (N := n_LiveRow_history) (sc := defScope s_LiveRow_history) (by decide +kernel))
      (fun _ _ _ _ _ => (show PG _ _ (gTup K 2 (gCons (gName 1) (gCons (gName 2) gNil))) from pg_tup rfl (pgs_cons (pg_name (i := 1) sc_LiveRow_history.nd rfl (Or.inl rfl)) (pgs_cons (pg_name (i := 2) sc_LiveRow_history.nd rfl (Or.inl rfl)) pgs_nil)))) (fun _ _ _ _ _ => pts_nil) (fun _ _ _ _ _ => pv 1))), ?_⟩
    refine ⟨_, rfl, q, D, dx, _, _, rfl, h.at_, cL.cl, cL.n2, rfl, _, rfl, _, rfl, q, D, dx, _, _, rfl, h.at_, cL.cl, cL.n3, rfl, _, _, rfl, rfl, _, rfl, ?_⟩
    have e0 : HT.sIx ws.length 0 (some (1 : Int)) = 1 := by
      rw [show (1 : Int) = ((1 : Nat) : Int) from rfl, HT.sIx_nat]
      omega
    have e1 : HT.sIx ws.length ws.length (some ((n : Int) + 1)) = n + 1 := by
      rw [show (n : Int) + 1 = ((n + 1 : Nat) : Int) by omega, HT.sIx_nat]
      omega
    refine ⟨st, ws, rfl, h.hW, fun z => absurd (e0.symm.trans z.1) (by decide), fun _ z nz => ?_⟩
    have ec : cutV ws (some 1) (some ((n : Int) + 1)) = (ws.drop 1).take n := by
      unfold cutV
      rw [e0, e1]
      rfl
    rw [ec]
    have s1 := same_new (o := .tup ((ws.drop 1).take n)) nz
    have ez : SqT K (upd H z (.tup ((ws.drop 1).take n))) z ((ws.drop 1).take n) := SqT.of upd_same
    have hX := h.same s1
    generalize upd H z (.tup ((ws.drop 1).take n)) = H2 at s1 ez hX ⊢
    have hP : Paired (StepAt K H2) ((ws.drop 1).take n) ((ss.drop 1).take n) := paired_take n (paired_drop 1 hX.hP)
    have hl := hist_len p
    have hl2 : ((ws.drop 1).take n).length = n := by rw [paired_len hP, hl]
    refine ⟨z, rfl, ⟨_, ez⟩, fun L nL => lc_fm (walk_tup (K := K) (a := z) (xs := (ws.drop 1).take n)) ((ss.drop 1).take n) (fun _ => true) (fun s => s) (fun G v (s : Step) => OpAt K G v s.1) (by rw [hl, hl2]) (by rw [hl2]; omega) nL (fun G G' v b acc hD bt r => r.to fun a xs q => sqT_but q hD bt) (fun _ e => sqT_same ez e) ?_ ?_⟩
    · rintro j y x G G' N' M' hj sm _ ⟨rfl, hxx⟩ _ go
      obtain ⟨v, hv, a, ov, c, rfl, ha, hop, _⟩ := paired_at hP hj
      obtain rfl : x = .ref a := Option.some.inj (hxx.symm.trans hv)
      refine ⟨a, _, rfl, sqT_same ha sm, rfl, _, _, rfl, _, _, rfl, rfl, rfl, ?_⟩
      exact ⟨_, rfl, go _ _ rfl (Same.refl _) (hop.same sm)⟩
    · intro G ys sm eD rel
      rw [List.filter_eq_self.mpr (fun _ _ => rfl), List.map_id'] at rel
      exact k L G ys (s1.trans sm) (Same.free s1 nL) eD rel
end
/-! ### k42: a history with what was undone -/
def owOf : Opn → OpW
  | .push i r => .push (.int (i : Nat)) (.str (sideS r))
  | .lift i => .lift (.int (i : Nat))
  | .take i => .take (.int (i : Nat))
theorem owOf_v (o : Opn) : owV (owOf o) = opV o := by cases o <;> rfl
theorem owOf_plain (o : Opn) : plainW (owOf o) := by
  cases o with
  | push i r =>
    have h : PyData.strOk (sideS r) = true := by cases r <;> decide +kernel
    exact ⟨True.intro, h⟩
  | lift i => exact True.intro
  | take i => exact True.intro
theorem owOf_ok {cs : List Cnd} {o : Opn} (h : okOp cs o) : owE cs (owOf o) = .inl o := by
  cases o with
  | push i r =>
    have h : cs[i]? = some (some true) := h
    have hi : i < cs.length := (List.getElem?_eq_some_iff.mp h).1
    show (match numO cs.length (.int ((i : Nat) : Int)) with | none => _ | some i => _) = _
    rw [numO_lt hi]
    show (match sideO (.str (sideS r)) with | none => _ | some r => _) = _
    rw [sideO_some]
    exact if_pos h
  | lift i =>
    have h : cs[i]? = some (some false) := h
    have hi : i < cs.length := (List.getElem?_eq_some_iff.mp h).1
    show (match numO cs.length (.int ((i : Nat) : Int)) with | none => _ | some i => _) = _
    rw [numO_lt hi]
    exact if_pos h
  | take i =>
    obtain ⟨b, h⟩ : ∃ b : Bool, cs[i]? = some (some b) := h
    have hi : i < cs.length := (List.getElem?_eq_some_iff.mp h).1
    show (match numO cs.length (.int ((i : Nat) : Int)) with | none => _ | some i => _) = _
    rw [numO_lt hi]
    exact if_neg (by rw [h]; intro z; cases z)
theorem runW_of {xs : List (Int × Int)} : ∀ {cs : List Cnd} {ops : List Opn}, okOps xs cs ops → runW xs cs (ops.map owOf) = .inl ops
  | _, [], _ => rfl
  | cs, o :: ops, h => by
    show (match owE cs (owOf o) with | .inr e => _ | .inl op => _) = _
    rw [owOf_ok h.1]
    show (match runW xs (afterOp xs cs o) (ops.map owOf) with | .inr e => _ | .inl ops => _) = _
    rw [runW_of h.2]
def cs0 (xs : List (Int × Int)) : List Cnd := List.replicate xs.length (some true)
def stp (xs : List (Int × Int)) (ops : List Opn) : List Step := start1 xs.length :: stepsOf xs (cs0 xs) ops
section
variable {xs : List (Int × Int)}
theorem stp_len (ops : List Opn) : (stp xs ops).length = ops.length + 1 := by unfold stp; rw [List.length_cons, stepsOf_len]
theorem stepsOf_take : ∀ (cs : List Cnd) (ops : List Opn) (k : Nat), (stepsOf xs cs ops).take k = stepsOf xs cs (ops.take k)
  | cs, ops, 0 => by rw [List.take_zero, List.take_zero]; rfl
  | cs, [], k + 1 => rfl
  | cs, o :: ops, k + 1 => by
    show (some o, afterOp xs cs o) :: (stepsOf xs (afterOp xs cs o) ops).take k = (some o, afterOp xs cs o) :: stepsOf xs (afterOp xs cs o) (ops.take k)
    rw [stepsOf_take]
theorem stp_take (ops : List Opn) (k : Nat) : (stp xs ops).take (k + 1) = stp xs (ops.take k) := by unfold stp; rw [List.take_succ_cons, stepsOf_take]
theorem curr_take {ss : List Step} {k : Nat} : curr (ss.take (k + 1)) k = curr ss k := by
  unfold curr
  rw [List.getD_eq_getElem?_getD, List.getD_eq_getElem?_getD, List.getElem?_take_of_lt (by omega)]
theorem stp_last (ops : List Opn) : curr (stp xs ops) ops.length = condAt xs (cs0 xs) ops := by
  rcases List.eq_nil_or_concat ops with rfl | ⟨ys, o, rfl⟩
  · rfl
  · have e : stp xs (ys.concat o) = stp xs ys ++ [(some o, afterOp xs (condAt xs (cs0 xs) ys) o)] := by
      unfold stp
      rw [List.concat_eq_append, stepsOf_snoc, List.cons_append]
    rw [e, List.concat_eq_append, condAt_snoc]
    unfold curr
    rw [List.getD_eq_getElem?_getD, List.length_append, show ys.length + [o].length = (stp xs ys).length by rw [stp_len]; rfl, List.getElem?_append_right (Nat.le_refl _), Nat.sub_self]
    rfl
theorem stp_curr {ops : List Opn} {k : Nat} (h : k ≤ ops.length) : curr (stp xs ops) k = condAt xs (cs0 xs) (ops.take k) := by
  rw [← curr_take, stp_take]
  have e : (ops.take k).length = k := by rw [List.length_take]; omega
  have := stp_last (xs := xs) (ops.take k)
  rw [e] at this
  exact this
theorem stp_new {ops : List Opn} {k : Nat} (h : k ≤ ops.length) (op : Opn) : newSteps xs (stp xs ops) k [op] = stp xs (ops.take k ++ [op]) := by
  unfold newSteps
  rw [if_neg (by simp), stp_take, stp_curr h]
  unfold stp
  rw [stepsOf_snoc, List.cons_append]
  rfl
theorem stp_hist (ops : List Opn) (k : Nat) : ((stp xs ops).drop 1).take k = stepsOf xs (cs0 xs) (ops.take k) := by
  unfold stp
  rw [List.drop_succ_cons, List.drop_zero, stepsOf_take]
theorem stepsOf_ops : ∀ (cs : List Cnd) (ops : List Opn), (stepsOf xs cs ops).map (·.1) = ops.map some
  | _, [] => rfl
  | cs, o :: ops => by
    show some o :: (stepsOf xs (afterOp xs cs o) ops).map (·.1) = _
    rw [stepsOf_ops]
    rfl
theorem stp_live {ops : List Opn} {k : Nat} (h : k ≤ ops.length) (h9 : ops.length < 900) (hz : xs.length ≤ 40) : LiveP xs (stp xs ops) k :=
  ⟨by rw [stp_len]; omega, by rw [stp_len]; omega, hz, fun s hs => by
    rcases List.mem_cons.mp hs with rfl | hs
    · exact List.length_replicate
    · exact stepsOf_eq (m := xs.length) (by unfold cs0; exact List.length_replicate) s hs⟩
theorem stp_all (ops : List Opn) : newSteps xs [start1 xs.length] 0 ops = stp xs ops := by
  unfold newSteps
  by_cases h : ops = []
  · rw [if_pos h, h]
    rfl
  · rw [if_neg h]
    rfl
def sts (xs : List (Int × Int)) (ops : List Opn) : List (List Cnd) := (stp xs ops).map (·.2)
theorem sts_len (ops : List Opn) : (sts xs ops).length = ops.length + 1 := by unfold sts; rw [List.length_map, stp_len]
theorem sts_at {ops : List Opn} {k : Nat} (h : k ≤ ops.length) : (sts xs ops)[k]? = some (curr (stp xs ops) k) := by
  unfold sts curr
  have hk : k < (stp xs ops).length := by rw [stp_len]; omega
  rw [List.getElem?_map, List.getD_eq_getElem?_getD, List.getElem?_eq_getElem hk]
  rfl
theorem sts_new {ops : List Opn} {k : Nat} (h : k ≤ ops.length) (op : Opn) : (sts xs ops).take (k + 1) ++ [afterOp xs (curr (stp xs ops) k) op] = sts xs (ops.take k ++ [op]) := by
  unfold sts
  rw [← List.map_take, stp_take, stp_curr h]
  unfold stp
  rw [stepsOf_snoc, ← List.cons_append, List.map_append]
  rfl
theorem okOps_take : ∀ {cs : List Cnd} {ops : List Opn} (k : Nat), okOps xs cs ops → okOps xs cs (ops.take k)
  | _, _, 0, _ => True.intro
  | _, [], k + 1, _ => True.intro
  | _, o :: ops, k + 1, h => ⟨h.1, okOps_take k h.2⟩
theorem okOps_snoc : ∀ {cs : List Cnd} {ops : List Opn} {o : Opn}, okOps xs cs ops → okOp (condAt xs cs ops) o → okOps xs cs (ops ++ [o])
  | _, [], _, _, g => ⟨g, True.intro⟩
  | cs, p :: ops, o, h, g => ⟨h.1, okOps_snoc (cs := afterOp xs cs p) h.2 g⟩
end
theorem paired_map {α β γ : Type} {F : α → γ → Prop} {f : β → γ} : ∀ {xs : List α} {ys : List β}, Paired (fun x y => F x (f y)) xs ys → Paired F xs (ys.map f)
  | _, _, .nil => .nil
  | _, _, .cons a t => .cons a (paired_map t)
theorem paired_unmap {α β γ : Type} {F : α → γ → Prop} {f : β → γ} : ∀ {xs : List α} {ys : List β}, Paired F xs (ys.map f) → Paired (fun x y => F x (f y)) xs ys
  | _, [], .nil => .nil
  | _, _ :: _, .cons a t => .cons a (paired_unmap t)
/-- the operations of a history are those done -/
theorem hist_ops {K : PySem.W.Frag} {H : Hp} {xs : List (Int × Int)} {ops : List Opn} {k : Nat} {os : List V} (h : Paired (fun v (s : Step) => OpAt K H v s.1) os (((stp xs ops).drop 1).take k)) : Paired (fun v o => OpAt K H v (some o)) os (ops.take k) := by
  rw [stp_hist] at h
  have h1 := paired_map (F := fun v (o : Option Opn) => OpAt K H v o) (f := fun s : Step => s.1) h
  rw [stepsOf_ops] at h1
  exact paired_unmap h1
def opsD (ops : List Opn) : PyData := .list (ops.map fun o => opD (some o))
theorem opsD_all {K : PySem.W.Frag} {H : Hp} : ∀ {vs : List V} {ops : List Opn}, Paired (fun v o => OpAt K H v (some o)) vs ops → DpAll K H vs (ops.map fun o => opD (some o))
  | _, _, .nil => .nil
  | _, _, .cons h t => .cons (opAt_dp h) (opsD_all t)
theorem opsD_lk {ops : List Opn} (h : ops.length ≤ 1000) : Lk 2 (opsD ops) := .inr ⟨_, .inl rfl, by rw [List.length_map]; exact h, fun e he => by
  obtain ⟨s, _, rfl⟩ := List.mem_map.mp he
  exact op_lk _⟩
theorem opD_lay (o : Opn) : PyData.canLay0 (opD (some o)) = true ∧ PyData.depth (opD (some o)) ≤ 1 := by
  have h1 : PyData.strOk "push" = true := by decide +kernel
  have h2 : PyData.strOk "lift" = true := by decide +kernel
  have h3 : PyData.strOk "take" = true := by decide +kernel
  have h4 : ∀ r, PyData.strOk (sideS r) = true := fun r => by cases r <;> decide +kernel
  cases o with
  | push i r => exact ⟨by simp [opD, PyData.canLay0, PyData.canLayAll0, h1, h4], by simp [opD, PyData.depth, PyData.depthAll]⟩
  | lift i => exact ⟨by simp [opD, PyData.canLay0, PyData.canLayAll0, h2], by simp [opD, PyData.depth, PyData.depthAll]⟩
  | take i => exact ⟨by simp [opD, PyData.canLay0, PyData.canLayAll0, h3], by simp [opD, PyData.depth, PyData.depthAll]⟩
theorem opsD_shaped (ops : List Opn) : SeqAt.shaped (opsD ops) = true := by
  have h1 : ∀ ops : List Opn, PyData.canLayAll0 (ops.map fun o => opD (some o)) = true := fun ops => by
    induction ops with
    | nil => simp [PyData.canLayAll0]
    | cons o ops ih => simp [PyData.canLayAll0, (opD_lay o).1, ih]
  have h2 : ∀ ops : List Opn, PyData.depthAll (ops.map fun o => opD (some o)) ≤ 1 := fun ops => by
    induction ops with
    | nil => simp [PyData.depthAll]
    | cons o ops ih =>
      have := (opD_lay o).2
      simp only [List.map_cons, PyData.depthAll]
      omega
  have h3 : PyData.depth (opsD ops) ≤ 64 := by have := h2 ops; unfold opsD; simp only [PyData.depth]; omega
  show (PyData.canLay0 (opsD ops) && decide (PyData.depth (opsD ops) ≤ 64)) = true
  rw [Bool.and_eq_true]
  exact ⟨by unfold opsD; simp only [PyData.canLay0]; exact h1 _, decide_eq_true h3⟩
/-! ### replay, of operations that can be executed -/
def spReplay (K : PySem.W.Frag) (C D : Addr) : Sp := fun vs H Q _ => ∃ (z l : Addr) (xs : List (Int × Int)) (os : List V) (ows : List OpW) (ops : List Opn), vs = [.ref D, .ref z, .ref l] ∧ RowAt K C H z xs ∧ xs.length ≤ 40 ∧ SqL K H l os ∧ OpsWAt K H os ows ∧ ows.length < 900 ∧ runW xs (cs0 xs) ows = .inl ops ∧
  ∀ q H', Same H H' → H q = none → LiveAt K H' q D xs (stp xs ops) ops.length → Q (.ref q) H'
section
variable {P : Program} {w : World} {K : PySem.W.Frag} {mg : Str → Option Value} {base : Heap}
theorem ok_replay {f g gI C D : Addr} {fd dI : FuncData} {Z : ClsE} (F : Fun K "replay" "LiveRow.replay" s_LiveRow_replay f fd) (cL : ClsL K D) (MI : Mk K D gI) (FI : FnOk P w K mg base CX0 3 gI dI ["self", "row"] (spLInit K C D)) (bI : Binds K dI ["self", "row"] [])
    (BM : BMeth K D "apply" g) (G : FnR P w K mg base (L2.CX P w) 5 g (fun vs H Q E => ∃ w0 rest, vs = w0 :: rest ∧ rest.length ≤ 1000 ∧ ∀ p, H p = none → spApplyX K Z D [w0, V.ref p] (upd H p (.tup rest)) Q E)) :
    FnOk P w K mg base CX0 6 f fd ["cls", "row", "operations"] (spReplay K C D) := by
  refine F.ok sc_LiveRow_replay (fun vs H Q E h => ?_) (fun cdv A outer s H vs Q E hr h => ?_)
  · obtain ⟨z, l, xs, os, ows, ops, rfl, _⟩ := h
    rfl
  · obtain ⟨z, l, xs, os, ows, ops, rfl, hR, hz, hl, hO, h9, hrun, k⟩ := h
    have r4 : Room 4 _ := hr.mono (by decide)
    refine ⟨_, pss_cons (ps_set (i := 3) sc_LiveRow_replay.nd rfl (Or.inl rfl) (ClsV.pe_makeV (i := 0) MI FI r4 rfl (.inl rfl) bI .nil pass0 (pa_cons (pv 1) pa_nil)))
      (pss_cons (ps_expr (ClsV.pe_methSA (pv 3) cL.cl BM G hr passL (pv 2)))
      (pss_one (ps_ret (pv 3)))), ?_⟩
    refine ⟨rfl, _, rfl, fun q dy nq ndy nE => ?_⟩
    have s1 := same_new (o := .own q) ndy
    have n1 : (upd H dy (.own q)) q = none := by rw [upd_ne (fun e => nE e.symm)]; exact nq
    have s2 := s1.trans (same_new (o := .ins D dy []) n1)
    refine ⟨q, dy, z, xs, rfl, upd_same, hR.same s2, hz, fun H3 b3 hL3 => ⟨rfl, nm_of ?_⟩⟩
    have s3 : Same H H3 := fun c o e => b3 c o (ne_of_none e nq) (s2 c o e)
    obtain ⟨dx, t, st, o, k1, k2, us, ws, hX⟩ := id hL3
    refine ⟨_, rfl, q, dx, _, rfl, hX.at_, rfl, fun b nb => ⟨_, rfl, l, os, rfl, .inr ((s3.trans (same_new nb)).seq hl), upd_same, _, _, rfl, by rw [paired_len hO]; omega, fun tp ntp => ?_⟩⟩
    have s4 := (same_new (o := .met g q) nb).trans (same_new (o := .tup os) ntp)
    have sA := s3.trans s4
    refine ⟨q, xs, [start1 xs.length], 0, _, rfl, hL3.same s4, ⟨Nat.zero_lt_one, by show 1 ≤ 1000; decide, hz, fun s hs => by rw [List.mem_singleton.mp hs]; exact List.length_replicate⟩, tp, os, ows, rfl, SqT.of upd_same, paired_imp (fun v o h => let ⟨a, h1, h2, h3⟩ := h; ⟨a, h1, sqT_same h2 sA, h3⟩) hO, by omega, fun ops' e p rs H5 b5 np ep _ _ hL5 => ?_, fun e he => ?_⟩
    · obtain rfl : ops = ops' := Sum.inl.inj (hrun.symm.trans e)
      refine ⟨_, rfl, k q H5 (fun c o e => b5 c o (ne_of_none e nq) (sA c o e)) nq ?_⟩
      rw [stp_all, Nat.zero_add] at hL5
      exact hL5
    · have he : runW xs (cs0 xs) ows = .inr e := he
      rw [hrun] at he
      cases he
end
/-! ### k42's law -/
structure R42 (K : PySem.W.Frag) (D : Addr) (T : List (Addr × Str)) (L0 a q sl : Addr) (ns : List Int) (us : List V) (xs : List (Int × Int)) (pa dn : Addr) (ops lo : List Opn) (k : Nat) (H : Hp) : Prop where
  t : LamX.Tabs T H
  d : Drw K H L0 a ns
  l : H sl = some (.lst us)
  s : StonesAt K H us xs
  v : LiveAt K H q D xs (stp xs lo) k
  o : ∃ dvs, H dn = some (.lst dvs) ∧ Paired (fun v o => OpAt K H v (some o)) dvs ops
  w : ∃ ps, H pa = some (.lst ps) ∧ Paired (fun v cs => ∃ z : Addr, v = .ref z ∧ H z = some (.lst (lwV cs))) ps (sts xs ops)
  n1 : sl ≠ L0
  n2 : dn ≠ L0
  n3 : pa ≠ L0
section
variable {K : PySem.W.Frag} {D : Addr} {T : List (Addr × Str)} {L0 a q sl : Addr} {ns : List Int} {us : List V} {xs : List (Int × Int)} {pa dn : Addr} {ops lo : List Opn} {k : Nat} {H H' : Hp}
theorem R42.extN (h : R42 K D T L0 a q sl ns us xs pa dn ops lo k H) (e : LamX.ExtN H H') (t : LamX.Tabs T H') : R42 K D T L0 a q sl ns us xs pa dn ops lo k H' :=
  ⟨t, h.d.extN e, e _ _ h.l (fun ps z => nomatch z), h.s.map fun _ _ => sqT_extN e, h.v.extN e, let ⟨v, h1, h2⟩ := h.o; ⟨v, e _ _ h1 (fun ps z => nomatch z), paired_imp (fun _ _ r => r.to fun _ _ => sqT_extN e) h2⟩,
    let ⟨v, h1, h2⟩ := h.w; ⟨v, e _ _ h1 (fun ps z => nomatch z), paired_imp (fun _ _ r => let ⟨z, r1, r2⟩ := r; ⟨z, r1, e _ _ r2 (fun ps z => nomatch z)⟩) h2⟩, h.n1, h.n2, h.n3⟩
theorem R42.same (h : R42 K D T L0 a q sl ns us xs pa dn ops lo k H) (e : Same H H') : R42 K D T L0 a q sl ns us xs pa dn ops lo k H' := h.extN (extN_of e) (tabs_same e h.t)
theorem R42.but (h : R42 K D T L0 a q sl ns us xs pa dn ops lo k H) (b : But L0 H H') (d : Drw K H' L0 a ns) : R42 K D T L0 a q sl ns us xs pa dn ops lo k H' := by
  obtain ⟨ys, hL⟩ := h.d.cell.list
  exact ⟨tabs_but b hL h.t, d, b _ _ h.n1 h.l, h.s.map fun _ _ r => sqT_but r hL b, h.v.lst hL b, let ⟨v, h1, h2⟩ := h.o; ⟨v, b _ _ h.n2 h1, paired_imp (fun _ _ r => r.to fun _ _ r => sqT_but r hL b) h2⟩,
    let ⟨v, h1, h2⟩ := h.w; ⟨v, b _ _ h.n3 h1, paired_imp (fun _ _ r => let ⟨z, r1, r2⟩ := r; ⟨z, r1, b _ _ (lw_ne h.d r2) r2⟩) h2⟩, h.n1, h.n2, h.n3⟩
theorem R42.ins (h : R42 K D T L0 a q sl ns us xs pa dn ops lo k H) (b : But q H H') {lo' : List Opn} {k' : Nat} (v : LiveAt K H' q D xs (stp xs lo') k') : R42 K D T L0 a q sl ns us xs pa dn ops lo' k' H' := by
  obtain ⟨dx, fs, hL⟩ := h.v.ref
  exact ⟨tabs_ins b hL h.t, h.d.ins hL b, b _ _ (live_ne h.v h.l) h.l, h.s.ins hL b, v, let ⟨v, h1, h2⟩ := h.o; ⟨v, b _ _ (live_ne h.v h1) h1, paired_imp (fun _ _ r => r.to fun _ _ r => sqT_ins r hL b) h2⟩,
    let ⟨w, h1, h2⟩ := h.w; ⟨w, b _ _ (live_ne h.v h1) h1, paired_imp (fun _ _ r => let ⟨z, r1, r2⟩ := r; ⟨z, r1, b _ _ (live_ne h.v r2) r2⟩) h2⟩, h.n1, h.n2, h.n3⟩
end
theorem cut_to {us : List V} {i : Nat} (h : i ≤ us.length) : cutV us none (some (i : Int)) = us.take i := by
  unfold cutV
  rw [HT.sIx_nat, HT.sIx_none, Nat.min_eq_left h]
  simp
def spLaw (K : PySem.W.Frag) (T : List (Addr × Str)) : Sp := fun vs H Q _ => ∃ (a : Addr) (ns : List Int), vs = [.ref a] ∧ SqL K H a (ns.map V.int) ∧ ns.length ≤ 63 ∧ LamX.Tabs T H ∧ ∀ H', Q (.bl true) H'
section
variable {P : Program} {w : World} {K : PySem.W.Frag} {mg : Str → Option Value} {base : Heap}
theorem ok_law {Z : ClsE} {Y : Exc11} {C D gI gH pH gU gRd gP pP f1 f2 f3 f4 f5 f6 f7 f8 f9 f10 : Addr} {dI dH dU dRd d1 d2 d3 d4 d5 d6 d7 d8 d9 d10 : FuncData} {mc : Value}
    {f c Pt g : Addr} {oC kV doc pm ct dVr kVr docr pmr cdr ctr ocr : Value} {an od' anr odr : Option Addr} {osl oslr : Array (Option Value)} {T : List (Addr × Str)}
    (B : Blt mg) (cL : ClsL K D) (mD : mg "LiveRow" = some (.ref D)) (MI : Mk K D gI) (FI : FnOk P w K mg base CX0 3 gI dI ["self", "row"] (spLInit K C D)) (bI : Binds K dI ["self", "row"] [])
    (prH : PropOf K D "history" pH gH) (FH : FnOk P w K mg base CX0 1 gH dH ["self"] (spHist K D)) (bH : Binds K dH ["self"] [])
    (HU : Meth K D "undo" gU) (FU : FnOk P w K mg base CX0 1 gU dU ["self"] (spUndo K D)) (bU : Binds K dU ["self"] [])
    (HD : Meth K D "redo" gRd) (FD : FnOk P w K mg base CX0 1 gRd dRd ["self"] (spRedo K D)) (bD : Binds K dRd ["self"] [])
    (CR : ClX.CRead K D mc) (CM : ClX.CMet K D mc "replay" pP gP) (GP : FnR P w K mg base CX0 6 gP (spReplay K C D))
    (ND : At P w K mg base CX0 1 "_law_dice" ["_law_script"] (spDice K) f1 d1) (NX : At P w K mg base CX0 1 "_law_next" ["_law_dice_here", "_law_many"] (spNext K) f2 d2) (S2 : At P w K mg base CX0 2 "_law_stones" ["_law_d", "_law_most"] (spStones K) f3 d3)
    (R6 : At P w K mg base CX0 6 "_law_made" ["_law_stones_here"] (spRow K C) f4 d4) (DE : At P w K mg base CX0 3 "_law_deed" ["_law_d", "_law_size", "_law_odd"] (spDeed K) f5 d5) (NA : At P w K mg base CX0 2 "_law_after" ["_law_stones_here", "_law_states", "_law_operation"] (spAfter K) f6 d6)
    (NL : At P w K mg base CX0 3 "_law_like" ["_law_found", "_law_due"] (spLike K 2) f7 d7) (NE : At P w K mg base CX0 1 "_law_is_error" ["_law_due"] (spIsErr K) f8 d8) (NS : At P w K mg base CX0 4 "_law_stands" ["_law_live", "_law_states"] (spStands K D) f9 d9)
    (AC : At P w K mg base (L2.CX P w) 7 "_law_act" ["_law_live", "_law_operation"] (spActX K Z D) f10 d10)
    (M : ExcMW mg Y) (o1 : ExcOfW K Y Z.st 6) (o2 : ExcOfW K Y Z.si 7) (o3 : ExcOfW K Y Z.ns 3) (o4 : ExcOfW K Y Z.nl 4)
    (lk : K.lookup f = some ⟨oC, od', .func (PySem.W.fnOf "law" "law" (defArgs s_law) (defBody s_law) (defScope s_law) .none kV doc pm an (.ref c) ct), osl⟩) (hcd : PySem.W.codeIn K (.ref c) "law" = true)
    (mR : mg "_law_told" = some (.ref g)) (kR : PySem.W.keepIn K (.ref g) = true) (lkR : K.lookup g = some ⟨ocr, odr, .func (PySem.W.fnOf "_law_told" "_law_told" (defArgs s_law_told) (defBody s_law_told) (defScope s_law_told) dVr kVr docr pmr anr cdr ctr), oslr⟩)
    (hcR : PySem.W.codeIn K cdr "_law_told" = true) (bR : L2.Binds K (PySem.W.fnOf "_law_told" "_law_told" (defArgs s_law_told) (defBody s_law_told) (defScope s_law_told) dVr kVr docr pmr anr cdr ctr) ["_law_work"] [])
    (TB : LamX.TabB base mg c Pt) (inT : (Pt, qL) ∈ T) (one : ∀ p ∈ T, p.1 = Pt → p.2 = qL) :
    FnOk P w K mg base CX0 10 f (PySem.W.fnOf "law" "law" (defArgs s_law) (defBody s_law) (defScope s_law) .none kV doc pm an (.ref c) ct) ["_law_script"] (spLaw K T) := by
  refine fn_of lk hcd sc_law (fun vs H Q E h => ?_) (fun A outer s H vs Q E hr hsp => ?_)
  · obtain ⟨a, ns, rfl, _⟩ := h
    rfl
  · obtain ⟨a, ns, rfl, hs, hn63, tabs, k0⟩ := hsp
    have hu := hu_of hr
    have hu64 := hr.units
    have r6 : Room 6 _ := hr.mono (by decide)
    have r4 : Room 4 _ := hr.mono (by decide)
    have r3 : Room 3 _ := hr.mono (by decide)
    have r2 : Room 2 _ := hr.mono (by decide)
    have r1 : Room 1 _ := hr.mono (by decide)
    have hG := told_givesW (X := (cxOf CX0 P w K mg base n_law "law" (defScope s_law) f (.ref c) A outer s H E).nox) (Z := Y) (g := g) (cdg := cdr) M B (by have := hr.un; show (A.deeper _).units + 130 < cLine; omega)
    suffices hh : ∃ t, PSs (cxOf CX0 P w K mg base n_law "law" (defScope s_law) f (.ref c) A outer s H E).nox (defBody s_law) t ∧ t { nx := fun _ H' => Q .non H', rt := Q } (start n_law [.ref a]) H by
      obtain ⟨t, q1, q2⟩ := hh
      exact ⟨t, q1.nox, q2⟩
    refine ⟨_, pss_cons (ps_set (i := 1) sc_law.nd rfl (Or.inl rfl) (pe_at ND r1 (pa_cons (pv 0) pa_nil)))
      (pss_cons (ps_set (i := 2) sc_law.nd rfl (Or.inl rfl) (pe_at S2 r2 (pa_cons (pv 1) (pa_cons (pe_int) pa_nil))))
      (pss_cons (ps_set (i := 3) sc_law.nd rfl (Or.inr rfl) (pe_make MI FI r4 (by rfl) mD bI .nil pass0 (pa_cons (pe_at R6 r6 (pa_cons (pv 2) pa_nil)) pa_nil)))
      (pss_cons (ps_par3 rfl sc_law.nd (i := 4) (j := 5) (l := 6) rfl rfl rfl (by decide) (by decide) (by decide) rfl rfl rfl (pa_cons (pe_lst (pa_cons (pe_op op_rep (pe_lst (pa_cons (pe_str) pa_nil)) (pe_callB call_len_seq (by rfl) B.len PySem.boot_len (pa_cons (pv 2) pa_nil))) pa_nil)) (pa_cons (pe_int) (pa_cons (pe_lst pa_nil) pa_nil))) (by rfl))
      (pss_cons (ps_for PassesOwn.never rfl (pi_range1 (by rfl) B.range (pa_cons (pe_at NX r1 (pa_cons (pv 1) (pa_cons (pe_int) pa_nil))) pa_nil)) (pg_name (i := 7) sc_law.nd rfl (Or.inl rfl))
        (pss_cons (ps_set (i := 8) sc_law.nd rfl (Or.inl rfl) (pe_at NX r1 (pa_cons (pv 1) (pa_cons (pe_int) pa_nil))))
        (pss_cons (ps_if (pt_cmpR (op_eq) (pv 8) (pe_int) (nomark _))
          (pss_cons (ps_if (pt_cmpR (op_ne) (pe_meth0 (pv 3) cL.cl HU FU r1 bU .nil pass0) (pe_cmpR (op_gt) (pv 5) (pe_int) (nomark _)) (nomark _)) (pss_one (ps_ret pe_bl)) pss_nil)
          (pss_one (ps_set (i := 5) sc_law.nd rfl (Or.inl rfl) (pe_callB ((call_max2 rfl)) (by rfl) B.max boot_max (pa_cons (pe_int) (pa_cons (pe_op op_sub (pv 5) (pe_int)) pa_nil))))))
          (pss_one (ps_if (pt_cmpR (op_eq) (pv 8) (pe_int) (nomark _))
            (pss_cons (ps_if (pt_cmpR (op_ne) (pe_meth0 (pv 3) cL.cl HD FD r1 bD .nil pass0) (pe_cmpR (op_lt) (pe_op op_add (pv 5) (pe_int)) (pe_callB call_len_seq (by rfl) B.len PySem.boot_len (pa_cons (pv 4) pa_nil)) (nomark _)) (nomark _)) (pss_one (ps_ret pe_bl)) pss_nil)
            (pss_one (ps_set (i := 5) sc_law.nd rfl (Or.inl rfl) (pe_callB ((call_min2 rfl)) (by rfl) B.min boot_min (pa_cons (pe_op op_sub (pe_callB call_len_seq (by rfl) B.len PySem.boot_len (pa_cons (pv 4) pa_nil)) (pe_int)) (pa_cons (pe_op op_add (pv 5) (pe_int)) pa_nil))))))
            (pss_cons (ps_set (i := 9) sc_law.nd rfl (Or.inr rfl) (pe_at DE r3 (pa_cons (pv 1) (pa_cons (pe_callB call_len_seq (by rfl) B.len PySem.boot_len (pa_cons (pv 2) pa_nil)) (pa_cons (pe_int) pa_nil)))))
            (pss_cons (ps_asg (pe_at NA r2 (pa_cons (pv 2) (pa_cons (pe_ix ix_list (pv 4) (pv 5) (fun _ _ => rfl)) (pa_cons (pv 9) pa_nil)))) (pg_tup rfl (pgs_cons (pg_name (i := 10) sc_law.nd rfl (Or.inl rfl)) (pgs_cons (pg_name (i := 11) sc_law.nd rfl (Or.inl rfl)) pgs_nil))))
            (pss_cons (ps_if (pt_not (pt_val (pe_at NL r3 (pa_cons (LamV.pe_give (k := 7) (by rfl) mR kR lkR hcR bR sc_law_told rfl (.inl rfl) hG hr (pa_cons (LamV.pe_lam0 TB rfl inT one (LamV.lamN_by (N := n_law) (sc := defScope s_law) (by decide +kernel)).free rfl) pa_nil)) (pa_cons (pv 10) pa_nil))))) (pss_one (ps_ret pe_bl)) pss_nil)
            (pss_one (ps_if (pt_not (pt_val (pe_at NE r1 (pa_cons (pv 10) pa_nil))))
              (pss_cons (ps_par (i := 4) (j := 6) (by rfl) sc_law.nd rfl rfl (by decide) rfl rfl (pa_cons (pe_op op_cat (pe_slice sl_list (pv 4) po_none (po_some (pe_op op_add (pv 5) (pe_int)))) (pe_lst (pa_cons (pv 11) pa_nil))) (pa_cons (pe_op op_cat (pe_slice sl_list (pv 6) po_none (po_some (pv 5))) (pe_lst (pa_cons (pv 9) pa_nil))) pa_nil)) (by rfl))
              (pss_one (ps_set (i := 5) sc_law.nd rfl (Or.inl rfl) (pe_op op_add (pv 5) (pe_int))))) pss_nil))))))))
        (pss_one (ps_if (PW.pt (pw_or (pt_not (pt_val (pe_at NS r4 (pa_cons (pv 3) (pa_cons (pe_ix ix_list (pv 4) (pv 5) (fun _ _ => rfl)) pa_nil))))) (pw_or1 (pt_not (pt_val (pe_at NL r3 (pa_cons (pe_prop (pv 3) cL.cl prH FH r2 bH .nil pass0 rfl) (pa_cons (pe_slice sl_list (pv 6) po_none (po_some (pv 5))) pa_nil)))))))) (pss_one (ps_ret pe_bl)) pss_nil)))))
      (pss_cons (ps_setLc (i := 12) (own := [("_law_step", 13)]) (g := gName 13) (tt := tYes) rfl sc_law.nd rfl rfl (sw_true rfl rfl rfl (by decide +kernel)) (pi_range1 (by rfl) B.range (pa_cons (pv 5) pa_nil)) (blkOk_by (N := n_law) (sc := defScope s_law) (by decide +kernel))
        (fun _ _ _ _ _ => pg_name (i := 13) sc_law.nd rfl (Or.inl rfl)) (fun _ _ _ _ _ => pts_nil) (fun _ _ _ _ _ => (show PE _ _ (tMeth D "undo" (spUndo K D) [] E0 (tVar 3) tNil) from pe_meth0 (pv 3) cL.cl HU FU r1 bU .nil pass0)))
      (pss_cons (ps_if (PW.pt (pw_or (pt_not (pt_val (pe_at NS r4 (pa_cons (pv 3) (pa_cons (pe_ix ix_list (pv 4) (pe_int) (fun _ _ => rfl)) pa_nil))))) (pw_or (pt_cmpR (op_in_seq) (pe_bl) (pv 12) (by rfl)) (pw_or1 (pt_val (pe_meth0 (pv 3) cL.cl HU FU r1 bU .nil pass0)))))) (pss_one (ps_ret pe_bl)) pss_nil)
      (pss_cons (ps_setLc (i := 12) (own := [("_law_step", 13)]) (g := gName 13) (tt := tYes) rfl sc_law.nd rfl rfl (sw_true rfl rfl rfl (by decide +kernel)) (pi_range1 (by rfl) B.range (pa_cons (pv 5) pa_nil)) (blkOk_by (N := n_law) (sc := defScope s_law) (by decide +kernel))
        (fun _ _ _ _ _ => pg_name (i := 13) sc_law.nd rfl (Or.inl rfl)) (fun _ _ _ _ _ => pts_nil) (fun _ _ _ _ _ => (show PE _ _ (tMeth D "redo" (spRedo K D) [] E0 (tVar 3) tNil) from pe_meth0 (pv 3) cL.cl HD FD r1 bD .nil pass0)))
      (pss_cons (ps_if (PW.pt (pw_or (pt_not (pt_val (pe_at NS r4 (pa_cons (pv 3) (pa_cons (pe_ix ix_list (pv 4) (pv 5) (fun _ _ => rfl)) pa_nil))))) (pw_or1 (pt_cmpR (op_in_seq) (pe_bl) (pv 12) (by rfl))))) (pss_one (ps_ret pe_bl)) pss_nil)
      (pss_cons (ps_set (i := 14) sc_law.nd rfl (Or.inl rfl) (ClX.pe_cmeth (pe_glob (v := .ref D) (by rfl) mD rfl) CR CM GP r6 pass0 (pa_cons (pe_at R6 r6 (pa_cons (pv 2) pa_nil)) (pa_cons (pe_slice sl_list (pv 6) po_none (po_some (pv 5))) pa_nil))))
      (pss_one (ps_ret (pe_and (pe_at NS r4 (pa_cons (pv 14) (pa_cons (pe_ix ix_list (pv 4) (pv 5) (fun _ _ => rfl)) pa_nil))) (pe_one (pe_cmpR (op_eqD hu64) (pe_prop (pv 14) cL.cl prH FH r2 bH .nil pass0 rfl) (pe_prop (pv 3) cL.cl prH FH r2 bH .nil pass0 rfl) (nomark _))))))))))))))), ?_⟩
    -- the dice
    refine ⟨_, rfl, a, ns, rfl, hs, hn63, fun L0 H1 s1 nL D1 => ?_⟩
    have t1 := tabs_same s1 tabs
    refine nm_of ?_
    -- the stones
    refine ⟨_, rfl, L0, a, ns, 8, rfl, by decide, by decide, D1, fun sl us xs H2 D2 b2 nsl esl hS hw _ hz => ?_⟩
    refine nm_of ?_
    obtain ⟨yL, eL⟩ := D1.cell.list
    have slL : sl ≠ L0 := fun e => by rw [e, eL] at nsl; cases nsl
    have t2 := tabs_but b2 eL t1
    have ul : us.length = xs.length := hS.1
    have hxl : xs.length ≤ 40 := by omega
    clear t1 b2 nsl D1
    -- the live row
    refine ⟨_, rfl, sl, us, xs, rfl, SqL.of esl, hS, hw, by omega, fun z H4 s4' nz Rz => ?_⟩
    refine fun q dy nq ndy nE => ?_
    have s5' := same_new (o := .own q) ndy
    have n5 : (upd H4 dy (.own q)) q = none := by rw [upd_ne (fun e => nE e.symm)]; exact nq
    have s6' := s5'.trans (same_new (o := .ins D dy []) n5)
    refine ⟨q, dy, z, xs, rfl, upd_same, Rz.same s6', by omega, fun H5 b5 hL5 => ⟨rfl, ?_⟩⟩
    have s45 : Same H4 H5 := fun c o e => b5 c o (ne_of_none e nq) (s6' c o e)
    have sA := s4'.trans s45
    refine nm_of ?_
    refine ⟨by show 1 ≤ sizeLine; decide, fun l1 n1 => ?_⟩
    have sl1 := same_new (o := .lst [V.str "up"]) n1
    refine ⟨_, rfl, sl, us, rfl, .inl (SqL.of (sl1 _ _ (sA _ _ esl))), ?_⟩
    refine ⟨l1, _, [V.str "up"], rfl, rfl, upd_same, by omega, by omega, by show 1 * _ ≤ sizeLine; rw [sizeLine_eq]; omega, fun l2 n2 => ?_⟩
    rw [show ((us.length : Nat) : Int).toNat = xs.length by omega]
    have e2 : (upd (upd H5 l1 (.lst [V.str "up"])) l2 (.lst (List.replicate xs.length [V.str "up"]).flatten)) l2 = some (.lst (lwV (cs0 xs))) := by
      rw [upd_same]
      unfold cs0
      congr 2
      unfold lwV
      rw [List.map_replicate]
      generalize xs.length = m
      induction m with
      | zero => rfl
      | succ m ih => rw [List.replicate_succ, List.flatten_cons, ih, List.replicate_succ]; rfl
    have sl2 := same_new (o := .lst (List.replicate xs.length [V.str "up"]).flatten) n2
    refine ⟨by show 1 ≤ sizeLine; decide, fun pa npa => ?_⟩
    have spa := same_new (o := .lst [V.ref l2]) npa
    refine ⟨by show 0 ≤ sizeLine; decide, fun dn ndn => ⟨_, _, _, rfl, ?_⟩⟩
    have sdn := same_new (o := .lst []) ndn
    have s57 := ((sl1.trans sl2).trans spa).trans sdn
    have s37 := sA.trans s57
    have hx0 : ∀ {Hx : Hp} {u : Addr}, Same H2 Hx → Hx u = none → u ≠ L0 := fun {Hx u} sm nu e => by
      obtain ⟨yL2, eL2⟩ := D2.cell.list
      have := sm _ _ eL2
      rw [← e, nu] at this
      cases this
    have R7 : R42 K D T L0 a q sl ns us xs pa dn [] [] 0 (upd (upd (upd (upd H5 l1 (.lst [V.str "up"])) l2 (.lst (List.replicate xs.length [V.str "up"]).flatten)) pa (.lst [V.ref l2])) dn (.lst [])) :=
      ⟨tabs_same s37 t2, D2.up s37, s37 _ _ esl, hS.same s37, hL5.same s57, ⟨[], upd_same, .nil⟩, ⟨[V.ref l2], sdn _ _ upd_same, .cons ⟨l2, rfl, sdn _ _ (spa _ _ e2)⟩ .nil⟩, slL, hx0 (sA.trans ((sl1.trans sl2).trans spa)) ndn, hx0 (sA.trans (sl1.trans sl2)) npa⟩
    generalize upd (upd (upd (upd H5 l1 (.lst [V.str "up"])) l2 (.lst (List.replicate xs.length [V.str "up"]).flatten)) pa (.lst [V.ref l2])) dn (.lst []) = H7 at R7 ⊢
    clear s37 s57 sdn spa sl2 e2 sl1 sA s45 b5 hL5 s6' n5 s5' Rz s4' t2 esl hS hx0 ndn npa n1 n2 nz nq ndy nE D2
    -- how many operations
    refine ⟨_, rfl, L0, a, ns, 16, rfl, by decide, by decide, R7.d, fun m H8 m0 m1 D8 b8 => ?_⟩
    have R8 := R7.but b8 D8
    refine ⟨m, rfl, by omega, by omega, for_range (lo := 0) (n := m.toNat) (fun j σ G => ∃ (pa dn : Addr) (ops : List Opn) (k : Nat) (s7 s8 s9 s10 s11 : Option V), σ = [some (.ref a), some (.ref L0), some (.ref sl), some (.ref q), some (.ref pa), some (.int (k : Nat)), some (.ref dn), s7, s8, s9, s10, s11, none, none, none] ∧
      R42 K D T L0 a q sl ns us xs pa dn ops ops k G ∧ okOps xs (cs0 xs) ops ∧ k ≤ ops.length ∧ ops.length ≤ j) ?_ ?_ ?_⟩
    · exact ⟨pa, dn, [], 0, _, _, _, _, _, rfl, R8, True.intro, Nat.le_refl _, Nat.le_refl _⟩
    · rintro j σ G hj ⟨pa, dn, ops, k, s7, s8, s9, s10, s11, rfl, RG, ok, hk, hoj⟩
      have hj' : j < 16 := by omega
      have p := stp_live (xs := xs) hk (by omega) hxl
      refine nm_of ?_
      refine ⟨_, rfl, L0, a, ns, 5, rfl, by decide, by decide, RG.d, fun m3 G1 m30 m31 D1 b1 => ?_⟩
      have R1 := RG.but b1 D1
      refine nm_of ?_
      clear RG b1 D1
      dsimp only
      show tSeq _ _ _ _ _
      refine seq_of (join (fun σ G => ∃ (pa dn : Addr) (ops : List Opn) (k : Nat) (s9 s10 s11 : Option V), σ = [some (.ref a), some (.ref L0), some (.ref sl), some (.ref q), some (.ref pa), some (.int (k : Nat)), some (.ref dn), some (.int (0 + (j : Nat))), some (.int m3), s9, s10, s11, none, none, none] ∧
        R42 K D T L0 a q sl ns us xs pa dn ops ops k G ∧ okOps xs (cs0 xs) ops ∧ k ≤ ops.length ∧ ops.length ≤ j + 1) ?key ?main)
      case main =>
        intro nx hnx
        obtain ⟨dx, t, stq, o, k1, k2, us2, ws2, hX⟩ := id R1.v
        have hsl := stp_len (xs := xs) ops
        refine ⟨_, rfl, rfl, _, rfl, ?_⟩
        refine ite2 (fun e3 => ?_) (fun e3 => ?_)
        · -- undo
          refine ⟨_, rfl, q, dx, _, rfl, hX.at_, rfl, q, xs, _, k, _, rfl, R1.v, p, rfl, fun hk0 => ?_, fun hpos G2 b2 hL2 => ?_⟩
          · subst hk0
            refine ⟨_, rfl, _, _, rfl, rfl, rfl, _, rfl, iteF ?_⟩
            refine ⟨_, rfl, _, _, rfl, rfl, _, _, rfl, ?_⟩
            exact nm_of (hnx _ _ ⟨pa, dn, ops, 0, _, _, _, rfl, R1, ok, Nat.zero_le _, by omega⟩)
          · refine ⟨_, rfl, _, _, rfl, rfl, rfl, _, rfl, ?_⟩
            rw [show (!decide (V.bl true = V.bl (decide (0 < ((k : Nat) : Int))))) = false by simp; omega]
            refine iteF ?_
            refine ⟨_, rfl, _, _, rfl, rfl, _, _, rfl, ?_⟩
            rw [show (if ((k : Nat) : Int) - 1 > 0 then ((k : Nat) : Int) - 1 else 0) = ((k - 1 : Nat) : Int) by split <;> omega]
            exact nm_of (hnx _ _ ⟨pa, dn, ops, k - 1, _, _, _, rfl, R1.ins b2 hL2, ok, by omega, by omega⟩)
        · refine ⟨_, rfl, rfl, _, rfl, ?_⟩
          refine ite2 (fun e4 => ?_) (fun e4 => ?_)
          · -- redo
            refine ⟨_, rfl, q, dx, _, rfl, hX.at_, rfl, q, xs, _, k, _, rfl, R1.v, p, rfl, fun hk0 => ?_, fun hpos G2 b2 hL2 => ?_⟩
            · obtain ⟨ps, eps, hps⟩ := R1.w
              have lps := paired_len hps
              rw [sts_len] at lps
              refine ⟨_, rfl, _, _, rfl, rfl, _, rfl, pa, ps, rfl, .inl (SqL.of eps), _, _, rfl, rfl, rfl, _, rfl, ?_⟩
              rw [show (!decide (V.bl false = V.bl (decide (((k : Nat) : Int) + 1 < (ps.length : Int))))) = false by simp; omega]
              refine iteF ?_
              refine ⟨_, rfl, pa, ps, rfl, .inl (SqL.of eps), _, _, rfl, rfl, _, rfl, _, _, rfl, rfl, _, _, rfl, ?_⟩
              rw [show (if ((k : Nat) : Int) + 1 < (ps.length : Int) - 1 then ((k : Nat) : Int) + 1 else (ps.length : Int) - 1) = ((k : Nat) : Int) by split <;> omega]
              exact nm_of (hnx _ _ ⟨pa, dn, ops, k, _, _, _, rfl, R1, ok, by omega, by omega⟩)
            · have R2 := R1.ins b2 hL2
              obtain ⟨ps, eps, hps⟩ := R2.w
              have lps := paired_len hps
              rw [sts_len] at lps
              refine ⟨_, rfl, _, _, rfl, rfl, _, rfl, pa, ps, rfl, .inl (SqL.of eps), _, _, rfl, rfl, rfl, _, rfl, ?_⟩
              rw [show (!decide (V.bl true = V.bl (decide (((k : Nat) : Int) + 1 < (ps.length : Int))))) = false by simp; omega]
              refine iteF ?_
              refine ⟨_, rfl, pa, ps, rfl, .inl (SqL.of eps), _, _, rfl, rfl, _, rfl, _, _, rfl, rfl, _, _, rfl, ?_⟩
              rw [show (if ((k : Nat) : Int) + 1 < (ps.length : Int) - 1 then ((k : Nat) : Int) + 1 else (ps.length : Int) - 1) = ((k + 1 : Nat) : Int) by split <;> omega]
              exact nm_of (hnx _ _ ⟨pa, dn, ops, k + 1, _, _, _, rfl, R2, ok, by omega, by omega⟩)
          · -- an operation
            obtain ⟨s0, _, es0, el0⟩ := p.curr
            clear hX
            refine ⟨_, rfl, _, rfl, sl, us, rfl, .inl (SqL.of R1.l), L0, a, ns, us.length, false, rfl, R1.d, by omega, fun T1 ow G2 D2 b2 nT1 hO pl => ?_⟩
            have R2 := R1.but b2 D2
            refine nm_of ?_
            obtain ⟨ps, eps, hps⟩ := R2.w
            have lps := paired_len hps
            rw [sts_len] at lps
            obtain ⟨vz, hvz, sp, rfl, hsp⟩ := paired_at hps (sts_at (xs := xs) hk)
            -- what is due
            refine ⟨_, rfl, _, rfl, _, rfl, pa, ps, ((k : Nat) : Int), _, rfl, rfl, SqL.of eps, atI_nat hvz, _, rfl, sl, sp, T1, us, xs, curr (stp xs ops) k, ow, rfl, SqL.of R2.l, R2.s, hw, hsp, el0, hxl, hO, pl, fun T2 v st G3 s3' eT2 dpv est => ?_⟩
            have R3 := R2.same s3'
            have hO3 := sqT_same hO s3'
            refine ⟨T2, _, rfl, SqT.of eT2, rfl, _, _, rfl, _, _, rfl, rfl, ?_⟩
            clear R1 R2 b2 D2 hO s3' eT2 eps hps lps hvz hsp
            -- the lambda
            refine ⟨R3.t, fun f0 c0 G4 eN0 mn0 tT0 nf0 eF0 eC0 => ?_⟩
            have R4 := R3.extN eN0 tT0
            have hO4 := sqT_extN eN0 hO3
            have dp4 := Dp.extN eN0 dpv
            have est4 := eN0 _ _ est (fun ps z => nomatch z)
            clear R3 hO3 dpv est
            obtain ⟨F0, j0, of0⟩ : ∃ F0 : LamV.LF, F0.is f0 (fun _ => True) G4 ∧ F0.Of (cxOf CX0 P w K mg base n_law "law" (defScope s_law) f (.ref c) A outer s H E).nox ⟨defArgs s_law, F0.body, F0.scope, fun E => tCall (spActX K Z D) [] E (tCons (tVar 3) (tCons (tVar 9) tNil))⟩ (fun _ => True) 7 := by
              refine ⟨_, ⟨eF0, eC0, True.intro⟩, rfl, rfl, rfl, rfl, ?wa5, fun _ _ _ _ _ _ _ => ⟨[], .of_eq rfl, fun y hy => by cases hy⟩, ?wa7⟩
              (case wa5 => exact LamV.lamN_by (N := n_law) (sc := defScope s_law) (scope := { kind := .function, names := [("_law_live", .free), ("_law_operation", .free), ("_law_act", .globalImplicit)], isGenerator := false, isCoroutine := false }) (by decide +kernel))
              (case wa7 =>
                intro A outer s H E f c' r
                exact pe_call AC.ok (r.mono (by decide)) (by rfl) AC.m AC.kp AC.b .nil (passes_call (takes_of rfl rfl rfl rfl) fun _ _ _ _ z => z) (pa_cons (pv 3) (pa_cons (pv 9) pa_nil)))
            refine ⟨f0, F0, _, _, rfl, of0, j0, ?_⟩
            refine ⟨_, rfl, _, rfl, act_told o1 o2 o3 o4 R4.v p hO4 pl (by omega) fun v2 G5 b5 hL5 dp5 => ?_⟩
            obtain ⟨dxq, fsq, eq4⟩ := R4.v.ref
            have hO5 := sqT_ins hO4 eq4 b5
            have dpd5 := Dp.ins eq4 b5 dp4
            have est5 := b5 _ _ (live_ne R4.v est4) est4
            -- as it is due
            refine ⟨_, rfl, v2, v, _, rfl, dp5, dpd5, out_lk hxl, fun G6 s6' => ⟨_, rfl, iteF (next_of ?_)⟩⟩
            dsimp only
            have hO6 := sqT_same hO5 s6'
            have dp6 := Dp.same s6' dpd5
            have est6 := s6' _ _ est5
            clear dp5 dpd5 hO5 est5 eN0 mn0 tT0 nf0 eF0 eC0 j0 of0
            cases ho : owE (curr (stp xs ops) k) ow with
            | inl op =>
              obtain ⟨ty, hty, hno⟩ := isErr_inl dp6 ho
              rw [stpW_ok ho] at hL5
              have hL5 : LiveAt K G5 q D xs (newSteps xs (stp xs ops) k [op]) (k + 1) := hL5
              rw [stp_new hk] at hL5
              have R6 := (R4.ins b5 hL5).same s6'
              clear R4 hL5 b5 s6' eq4 hO4 dp4 est4
              obtain ⟨ps, eps, hps⟩ := R6.w
              obtain ⟨dvs, edv, hdv⟩ := R6.o
              have lps := paired_len hps
              rw [sts_len] at lps
              have ldv := paired_len hdv
              refine ⟨_, rfl, v, rfl, .inl ⟨ty, hty, hno, _, rfl, iteT ?_⟩⟩
              refine ⟨_, rfl, _, rfl, _, _, rfl, rfl, _, rfl, pa, ps, rfl, SqL.of eps, fun q1 w1 => ?_⟩
              rw [show ((k : Nat) : Int) + 1 = ((k + 1 : Nat) : Int) by omega, cut_to (by omega)]
              have z1 := same_new (o := .lst (ps.take (k + 1))) w1
              refine ⟨_, rfl, by show 1 ≤ sizeLine; decide, fun q2 w2 => ?_⟩
              have z2 := same_new (o := .lst [V.ref st]) w2
              refine ⟨q1, q2, _, _, rfl, rfl, z2 _ _ upd_same, upd_same, by show (ps.take (k + 1)).length + 1 ≤ sizeLine; rw [sizeLine_eq, List.length_take]; omega, fun q3 w3 => ?_⟩
              have z3 := (z1.trans z2).trans (same_new (o := .lst (ps.take (k + 1) ++ [V.ref st])) w3)
              have e3 : (upd (upd (upd G6 q1 (.lst (ps.take (k + 1)))) q2 (.lst [V.ref st])) q3 (.lst (ps.take (k + 1) ++ [V.ref st]))) q3 = some (.lst (ps.take (k + 1) ++ [V.ref st])) := upd_same
              have q3L : q3 ≠ L0 := fun e => by
                obtain ⟨yL, eL⟩ := R6.d.cell.list
                have := (z1.trans z2) _ _ eL
                rw [← e, w3] at this
                cases this
              generalize upd (upd (upd G6 q1 (.lst (ps.take (k + 1)))) q2 (.lst [V.ref st])) q3 (.lst (ps.take (k + 1) ++ [V.ref st])) = G7 at z3 e3 ⊢
              clear z1 z2 w1 w2 w3
              refine ⟨_, rfl, _, rfl, _, rfl, dn, dvs, rfl, SqL.of (z3 _ _ edv), fun q4 w4 => ?_⟩
              rw [cut_to (by omega)]
              have z4 := same_new (o := .lst (dvs.take k)) w4
              refine ⟨_, rfl, by show 1 ≤ sizeLine; decide, fun q5 w5 => ?_⟩
              have z5 := same_new (o := .lst [V.ref T1]) w5
              refine ⟨q4, q5, _, _, rfl, rfl, z5 _ _ upd_same, upd_same, by show (dvs.take k).length + 1 ≤ sizeLine; rw [sizeLine_eq, List.length_take]; omega, fun q6 w6 => ⟨_, _, rfl, ?_⟩⟩
              have z6 := (z4.trans z5).trans (same_new (o := .lst (dvs.take k ++ [V.ref T1])) w6)
              have e6 : (upd (upd (upd G7 q4 (.lst (dvs.take k))) q5 (.lst [V.ref T1])) q6 (.lst (dvs.take k ++ [V.ref T1]))) q6 = some (.lst (dvs.take k ++ [V.ref T1])) := upd_same
              have q6L : q6 ≠ L0 := fun e => by
                obtain ⟨yL, eL⟩ := R6.d.cell.list
                have := (z3.trans (z4.trans z5)) _ _ eL
                rw [← e, w6] at this
                cases this
              generalize upd (upd (upd G7 q4 (.lst (dvs.take k))) q5 (.lst [V.ref T1])) q6 (.lst (dvs.take k ++ [V.ref T1])) = G8 at z6 e6 ⊢
              clear z4 z5 w4 w5 w6
              have z8 := z3.trans z6
              have R8 := R6.same z8
              refine ⟨_, rfl, _, _, rfl, rfl, nm_of (hnx _ _ ⟨q3, q6, ops.take k ++ [op], k + 1, _, _, _, rfl, ⟨R8.t, R8.d, R8.l, R8.s, R8.v, ⟨_, e6, ?_⟩, ⟨_, z6 _ _ e3, ?_⟩, R8.n1, q6L, q3L⟩, ?_, ?_, ?_⟩)⟩
              · refine paired_snoc (paired_imp (fun _ _ r => r.same z8) (paired_take k hdv)) ⟨T1, rfl, ?_⟩
                rw [← (owE_eq ho).1]
                exact sqT_same hO6 z8
              · rw [← sts_new hk]
                refine paired_snoc (paired_imp (fun _ _ r => let ⟨z, r1, r2⟩ := r; ⟨z, r1, z8 _ _ r2⟩) (paired_take (k + 1) hps)) ⟨st, rfl, ?_⟩
                rw [z8 _ _ est6]
                unfold nextC
                rw [ho]
              · exact okOps_snoc (okOps_take k ok) (by rw [← stp_curr hk]; exact (owE_eq ho).2)
              · rw [List.length_append, List.length_take]; show k + 1 ≤ min k ops.length + 1; omega
              · rw [List.length_append, List.length_take]; show min k ops.length + 1 ≤ j + 1; omega
            | inr e =>
              obtain ⟨ae, xe, re, ev, hTe⟩ := isErr_inr dp6 ho
              rw [stpW_err ho] at hL5
              have R6 := (R4.ins b5 hL5).same s6'
              refine ⟨_, rfl, v, rfl, .inr ⟨ae, xe, re, ev, hTe, fun G7 s7' => ⟨_, rfl, iteF ?_⟩⟩⟩
              exact hnx _ _ ⟨pa, dn, ops, k, _, _, _, rfl, R6.same s7', ok, hk, by omega⟩
      case key =>
        clear R1 ok hk hoj p
        rintro σ G7 ⟨pa, dn, ops, k, s9, s10, s11, rfl, R7, ok, hk, hoj⟩
        have p := stp_live (xs := xs) hk (by omega) hxl
        obtain ⟨ps, eps, hps⟩ := R7.w
        obtain ⟨vz, hvz, sp, rfl, hsp⟩ := paired_at hps (sts_at (xs := xs) hk)
        refine ⟨_, rfl, _, rfl, _, rfl, pa, ps, ((k : Nat) : Int), _, rfl, rfl, SqL.of eps, atI_nat hvz, q, xs, _, k, _, rfl, R7.v, p, sp, rfl, hsp, fun G8 s8' => ⟨_, rfl, iteF ?_⟩⟩
        have R8 := R7.same s8'
        obtain ⟨dx, t, stq, o, k1, k2, us2, ws2, hX⟩ := id R8.v
        obtain ⟨dvs, edv, hdv⟩ := R8.o
        have ldv := paired_len hdv
        refine ⟨_, rfl, q, dx, _, rfl, hX.at_, q, xs, _, k, _, rfl, R8.v, p, rfl, fun a9 G9 os s9' n9 e9 hP9 => ?_⟩
        refine ⟨_, rfl, _, rfl, _, rfl, dn, dvs, rfl, SqL.of (s9' _ _ edv), fun q4 w4 => ?_⟩
        rw [cut_to (by omega)]
        have z4 := same_new (o := .lst (dvs.take k)) w4
        refine ⟨_, _, opsD (ops.take k), rfl, .lst (SqL.of (z4 _ _ e9)) (opsD_all (paired_imp (fun _ _ r => r.same z4) (hist_ops hP9))), .lst (SqL.of upd_same) (opsD_all (paired_imp (fun _ _ r => r.same (s9'.trans z4)) (paired_take k hdv))), opsD_lk (by rw [List.length_take]; omega), fun Ga sa => ⟨_, rfl, iteF ?_⟩⟩
        exact ⟨pa, dn, ops, k, _, _, _, _, _, rfl, R8.same ((s9'.trans z4).trans sa), ok, hk, hoj⟩
    · rintro σ G ⟨pa, dn, ops, k, s7, s8, s9, s10, s11, rfl, RG, ok, hk, hoj⟩
      have hlo : ops.length ≤ 16 := by omega
      -- all undone
      refine ⟨_, rfl, _, rfl, by omega, by omega, fun D0 nD0 => ?_⟩
      rw [show ((k : Nat) : Int).toNat = k by omega]
      obtain ⟨dxq, fsq, eq0⟩ := RG.v.ref
      have D0q : D0 ≠ q := fun e => by rw [e, eq0] at nD0; cases nD0
      refine lc_it (walk_range (lo := 0) (n := k)) (fun i G' => But q G G' ∧ LiveAt K G' q D xs (stp xs ops) (k - i) ∧ G' D0 = some (.lst (List.replicate i (V.bl true)))) ⟨Same.but (same_new nD0) q, RG.v.same (same_new nD0), upd_same⟩ (fun _ _ _ _ => True.intro) ?_ ?_
      · rintro i x G1 G2 hi ⟨b1, hL1, e1⟩ ⟨rfl, hxx⟩
        obtain ⟨dx, t, stq, o, k1, k2, us2, ws2, hX⟩ := id hL1
        refine ⟨rfl, _, rfl, q, dx, _, rfl, hX.at_, rfl, q, xs, _, k - i, _, rfl, hL1, stp_live (by omega) (by omega) hxl, rfl, fun e => absurd e (by omega), fun hpos G3 b3 hL3 => ?_⟩
        have e3 := b3 _ _ D0q e1
        refine ⟨_, e3, by rw [List.length_replicate, sizeLine_eq]; omega, fun b o ne e => ?_, ?_, ?_⟩
        · rw [upd_ne (ne_of_none e nD0)]
          exact b3 _ _ ne (b1 _ _ ne e)
        · have := hL3.lst e3 (but_upd (o := .lst (List.replicate i (V.bl true) ++ [V.bl true])))
          rw [show k - (i + 1) = k - i - 1 by omega]
          exact this
        · rw [upd_same, List.replicate_succ', ]
      · rintro G1 ⟨b1, hL1, e1⟩
        rw [Nat.sub_self] at hL1
        have R1 := RG.ins b1 hL1
        have p0 := stp_live (xs := xs) (k := 0) (ops := ops) (Nat.zero_le _) (by omega) hxl
        obtain ⟨ps, eps, hps⟩ := R1.w
        obtain ⟨vz, hvz, sp, rfl, hsp⟩ := paired_at hps (sts_at (xs := xs) (ops := ops) (k := 0) (Nat.zero_le _))
        have hfl : (List.replicate k (V.bl true)).all flatV = true := by rw [List.all_eq_true]; intro v hv; rw [List.eq_of_mem_replicate hv]; rfl
        have hin : inV (.bl false) (List.replicate k (V.bl true)) = false := by
          unfold inV
          rw [List.any_eq_false]
          intro v hv
          rw [List.eq_of_mem_replicate hv]
          simp [eqV]
        refine ⟨_, rfl, _, rfl, pa, ps, ((0 : Nat) : Int), _, rfl, rfl, SqL.of eps, atI_nat hvz, q, xs, _, 0, _, rfl, R1.v, p0, sp, rfl, hsp, fun G2 s2 => ⟨_, rfl, iteF ?_⟩⟩
        refine ⟨_, rfl, D0, _, rfl, .inl (SqL.of (s2 _ _ e1)), rfl, hfl, _, rfl, ?_⟩
        rw [if_neg Bool.false_ne_true, hin]
        refine iteF ?_
        have R2 := R1.same s2
        obtain ⟨dx, t, stq, o, k1, k2, us2, ws2, hX⟩ := id R2.v
        refine ⟨_, rfl, q, dx, _, rfl, hX.at_, rfl, q, xs, _, 0, _, rfl, R2.v, p0, rfl, fun _ => ⟨_, rfl, iteF ?_⟩, fun h => absurd h (by omega)⟩
        clear hX R1 RG b1 hL1 e1 eps hps hvz hsp s2 eq0 D0q nD0
        -- all done again
        refine ⟨_, rfl, _, rfl, by omega, by omega, fun D1 nD1 => ?_⟩
        rw [show ((k : Nat) : Int).toNat = k by omega]
        obtain ⟨dxq, fsq, eq2⟩ := R2.v.ref
        have D1q : D1 ≠ q := fun e => by rw [e, eq2] at nD1; cases nD1
        refine lc_it (walk_range (lo := 0) (n := k)) (fun i G' => But q G2 G' ∧ LiveAt K G' q D xs (stp xs ops) i ∧ G' D1 = some (.lst (List.replicate i (V.bl true)))) ⟨Same.but (same_new nD1) q, R2.v.same (same_new nD1), upd_same⟩ (fun _ _ _ _ => True.intro) ?_ ?_
        · rintro i x G3 G4 hi ⟨b3, hL3, e3⟩ ⟨rfl, hxx⟩
          obtain ⟨dx, t, stq, o, k1, k2, us2, ws2, hX⟩ := id hL3
          have hsl := stp_len (xs := xs) ops
          refine ⟨rfl, _, rfl, q, dx, _, rfl, hX.at_, rfl, q, xs, _, i, _, rfl, hL3, stp_live (by omega) (by omega) hxl, rfl, fun e => absurd e (by omega), fun hpos G5 b5 hL5 => ?_⟩
          have e5 := b5 _ _ D1q e3
          refine ⟨_, e5, by rw [List.length_replicate, sizeLine_eq]; omega, fun b o ne e => ?_, hL5.lst e5 (but_upd (o := .lst (List.replicate i (V.bl true) ++ [V.bl true]))), ?_⟩
          · rw [upd_ne (ne_of_none e nD1)]
            exact b5 _ _ ne (b3 _ _ ne e)
          · rw [upd_same, List.replicate_succ']
        · rintro G3 ⟨b3, hL3, e3⟩
          have R3 := R2.ins b3 hL3
          have p := stp_live (xs := xs) hk (by omega) hxl
          obtain ⟨ps, eps, hps⟩ := R3.w
          obtain ⟨vz, hvz, sp, rfl, hsp⟩ := paired_at hps (sts_at (xs := xs) hk)
          refine ⟨_, rfl, _, rfl, _, rfl, pa, ps, ((k : Nat) : Int), _, rfl, rfl, SqL.of eps, atI_nat hvz, q, xs, _, k, _, rfl, R3.v, p, sp, rfl, hsp, fun G4 s4 => ⟨_, rfl, iteF ?_⟩⟩
          refine ⟨_, rfl, D1, _, rfl, .inl (SqL.of (s4 _ _ e3)), rfl, hfl, _, rfl, ?_⟩
          rw [if_neg Bool.false_ne_true, hin]
          refine iteF ?_
          have R4 := R3.same s4
          have eps4 := s4 _ _ eps
          have hsp4 := s4 _ _ hsp
          clear R2 R3 b3 hL3 e3 eps hps hsp s4 eq2 D1q nD1
          -- once more, from the start
          obtain ⟨dvs, edv, hdv⟩ := R4.o
          have ldv := paired_len hdv
          refine ⟨rfl, _, rfl, sl, us, xs, rfl, SqL.of R4.l, R4.s, hw, hxl, fun z G5 s5 nz Rz => ?_⟩
          refine ⟨_, rfl, _, rfl, _, rfl, dn, dvs, rfl, SqL.of (s5 _ _ edv), fun q4 w4 => ?_⟩
          rw [cut_to (by omega)]
          have z4 := same_new (o := .lst (dvs.take k)) w4
          have s6 := s5.trans z4
          refine ⟨z, q4, xs, _, (ops.take k).map owOf, ops.take k, rfl, Rz.same z4, hxl, SqL.of upd_same, ?_, by rw [List.length_map, List.length_take]; omega, runW_of (okOps_take k ok), fun qb G7 s7' nq hLb => nm_of ?_⟩
          · refine paired_map (paired_imp (fun v op r => ?_) (paired_take k hdv))
            obtain ⟨b, rfl, h⟩ : ∃ b : Addr, v = .ref b ∧ SqT K _ b (opV op) := r
            exact ⟨b, rfl, by rw [owOf_v]; exact sqT_same h s6, owOf_plain op⟩
          have s47 := s6.trans s7'
          have R7 := R4.same s47
          have pb := stp_live (xs := xs) (k := (ops.take k).length) (ops := ops.take k) (Nat.le_refl _) (by rw [List.length_take]; omega) hxl
          have ecb : curr (stp xs (ops.take k)) (ops.take k).length = curr (stp xs ops) k := by rw [stp_last, stp_curr hk]
          refine ⟨_, rfl, _, rfl, _, rfl, pa, ps, ((k : Nat) : Int), _, rfl, rfl, SqL.of (s47 _ _ eps4), atI_nat hvz, qb, xs, _, (ops.take k).length, _, rfl, hLb, pb, sp, rfl, by rw [ecb]; exact s47 _ _ hsp4, fun G8 s8 => ⟨true, rfl, iteT ?_⟩⟩
          have hLb8 := hLb.same s8
          have R8 := R7.same s8
          obtain ⟨dx1, t1, stq1, o1', k11, k21, us21, ws21, hX1⟩ := id hLb8
          obtain ⟨dx, t, stq, o, k1, k2, us2, ws2, hX⟩ := id R8.v
          refine ⟨_, rfl, qb, dx1, _, rfl, hX1.at_, qb, xs, _, _, _, rfl, hLb8, pb, rfl, fun a9 G9 os s9' n9 e9 hP9 => ?_⟩
          refine ⟨_, rfl, q, dx, _, rfl, s9' _ _ hX.at_, q, xs, _, k, _, rfl, R8.v.same s9', p, rfl, fun aA GA osA sA' nA eA hPA => ?_⟩
          have h9 := paired_imp (fun _ _ r => r.same sA') (hist_ops hP9)
          rw [List.take_length] at h9
          refine ⟨opsD (ops.take k), opsD (ops.take k), .lst (SqL.of (sA' _ _ e9)) (opsD_all h9), .lst (SqL.of eA) (opsD_all (hist_ops hPA)), opsD_shaped _, opsD_shaped _, ?_⟩
          rw [SeqAt.eqv_refl _ (SeqAt.canLay_of_shaped (opsD_shaped (ops.take k)))]
          exact k0 _
end
theorem all_mk {l : PySem.W.OpenLaw} {w : World} {K : PySem.W.Frag} {h : Heap} {mg : Str → Option Value} {fa C cl Pt f_ini f_len f_add p_get f_get D f_lin f_lco f_lha f_lln p_lst f_lst p_lly f_lly p_lhi f_lhi f_lap f_lpu f_lli f_ltk f_lun f_lre f_num f_cst f_csi f_bes f_fel f_iss f_iop f_swi f_mar f_exe f_pus f_lif f_tkn f_dic f_nex f_lik f_pic f_tol f_sto f_mad f_tic f_lst2 f_aft f_dee f_act f_ier f_sta f_law xe xc0 xc1 xc2 xc3 xc4 xc5 xc6 xc7 xc8 xc9 xc10 f_i3 g_i3 e_i3 f_i4 g_i4 e_i4 : Addr} (X : K.In h) (G : h.Ns mainGlobals mg) (hfa : mg "law" = some (.ref fa)) (own : LamX.OwnTab K fa h)
    {od_ini an_ini od_len an_len od_add an_add od_get an_get od_lin an_lin od_lco an_lco od_lha an_lha od_lln an_lln od_lst an_lst od_lly an_lly od_lhi an_lhi od_lap an_lap od_lpu an_lpu od_lli an_lli od_ltk an_ltk od_lun an_lun od_lre an_lre od_num an_num od_cst an_cst od_csi an_csi od_bes an_bes od_fel an_fel od_iss an_iss od_iop an_iop od_swi an_swi od_mar an_mar od_exe an_exe od_pus an_pus od_lif an_lif od_tkn an_tkn od_dic an_dic od_nex an_nex od_lik an_lik od_pic an_pic od_tol an_tol od_sto an_sto od_mad an_mad od_tic an_tic od_lst2 an_lst2 od_aft an_aft od_dee an_dee od_act an_act od_ier an_ier od_sta an_sta od_law an_law ddC : Option Addr} {sl_ini sl_len sl_add sl_get sl_lin sl_lco sl_lha sl_lln sl_lst sl_lly sl_lhi sl_lap sl_lpu sl_lli sl_ltk sl_lun sl_lre sl_num sl_cst sl_csi sl_bes sl_fel sl_iss sl_iop sl_swi sl_mar sl_exe sl_pus sl_lif sl_tkn sl_dic sl_nex sl_lik sl_pic sl_tol sl_sto sl_mad sl_tic sl_lst2 sl_aft sl_dee sl_act sl_ier sl_sta sl_law : Array (Option Value)} {oc_ini kV_ini dc_ini pm_ini cd_ini ct_ini oc_len kV_len dc_len pm_len cd_len ct_len oc_add kV_add dc_add pm_add cd_add ct_add oc_get kV_get dc_get pm_get cd_get ct_get oc_lin kV_lin dc_lin pm_lin cd_lin ct_lin oc_lco kV_lco dc_lco pm_lco cd_lco ct_lco oc_lha kV_lha dc_lha pm_lha cd_lha ct_lha oc_lln kV_lln dc_lln pm_lln cd_lln ct_lln oc_lst kV_lst dc_lst pm_lst cd_lst ct_lst oc_lly kV_lly dc_lly pm_lly cd_lly ct_lly oc_lhi kV_lhi dc_lhi pm_lhi cd_lhi ct_lhi oc_lap kV_lap dc_lap pm_lap cd_lap ct_lap oc_lpu kV_lpu dc_lpu pm_lpu cd_lpu ct_lpu oc_lli kV_lli dc_lli pm_lli cd_lli ct_lli oc_ltk kV_ltk dc_ltk pm_ltk cd_ltk ct_ltk oc_lun kV_lun dc_lun pm_lun cd_lun ct_lun oc_lre kV_lre dc_lre pm_lre cd_lre ct_lre oc_num kV_num dc_num pm_num cd_num ct_num oc_cst kV_cst dc_cst pm_cst cd_cst ct_cst oc_csi kV_csi dc_csi pm_csi cd_csi ct_csi oc_bes kV_bes dc_bes pm_bes cd_bes ct_bes oc_fel kV_fel dc_fel pm_fel cd_fel ct_fel oc_iss kV_iss dc_iss pm_iss cd_iss ct_iss oc_iop kV_iop dc_iop pm_iop cd_iop ct_iop oc_swi kV_swi dc_swi pm_swi cd_swi ct_swi oc_mar kV_mar dc_mar pm_mar cd_mar ct_mar oc_exe kV_exe dc_exe pm_exe cd_exe ct_exe oc_pus kV_pus dc_pus pm_pus cd_pus ct_pus oc_lif kV_lif dc_lif pm_lif cd_lif ct_lif oc_tkn kV_tkn dc_tkn pm_tkn cd_tkn ct_tkn oc_dic kV_dic dc_dic pm_dic cd_dic ct_dic oc_nex kV_nex dc_nex pm_nex cd_nex ct_nex oc_lik kV_lik dc_lik pm_lik cd_lik ct_lik oc_pic kV_pic dc_pic pm_pic cd_pic ct_pic oc_tol kV_tol dc_tol pm_tol cd_tol ct_tol oc_sto kV_sto dc_sto pm_sto cd_sto ct_sto oc_mad kV_mad dc_mad pm_mad cd_mad ct_mad oc_tic kV_tic dc_tic pm_tic cd_tic ct_tic oc_lst2 kV_lst2 dc_lst2 pm_lst2 cd_lst2 ct_lst2 oc_aft kV_aft dc_aft pm_aft cd_aft ct_aft oc_dee kV_dee dc_dee pm_dee cd_dee ct_dee oc_act kV_act dc_act pm_act cd_act ct_act oc_ier kV_ier dc_ier pm_ier cd_ier ct_ier oc_sta kV_sta dc_sta pm_sta cd_sta ct_sta oc_law kV_law dc_law pm_law ct_law eC : Value} {vsC : Array Value} {slC : Array (Option Value)}
    {rs_get : List Value}
    {rs_lst : List Value}
    {rs_lly : List Value}
    {rs_lhi : List Value}
    {nmc3 qc3 : Str} {Nc3 : Addr} {bsc3 bmc3 subc3 : List Value} {snc3 : List Str} {abc3 : Bool} {colc3 : Option Bool} {ddc3 : Option Addr} {m0c3 m1c3 m2c3 m3c3 m5c3 : Option Value}
    {od_i3 an_i3 : Option Addr} {sl_i3 : Array (Option Value)} {oc_i3 kV_i3 dc_i3 pm_i3 ct_i3 : Value}
    {cg_i3 : Value} {dg_i3 : Option Addr} {sg_i3 : Array (Option Value)} {ce_i3 : Value} {de_i3 : Option Addr} {vs_i3 : Array Value} {se_i3 : Array (Option Value)} {fi_i3 : Str} {tf_i3 : Tok} {cdd_i3 : ClassData}
    {nmc4 qc4 : Str} {Nc4 : Addr} {bsc4 bmc4 subc4 : List Value} {snc4 : List Str} {abc4 : Bool} {colc4 : Option Bool} {ddc4 : Option Addr} {m0c4 m1c4 m2c4 m3c4 m5c4 : Option Value}
    {od_i4 an_i4 : Option Addr} {sl_i4 : Array (Option Value)} {oc_i4 kV_i4 dc_i4 pm_i4 ct_i4 : Value}
    {cg_i4 : Value} {dg_i4 : Option Addr} {sg_i4 : Array (Option Value)} {ce_i4 : Value} {de_i4 : Option Addr} {vs_i4 : Array Value} {se_i4 : Array (Option Value)} {fi_i4 : Str} {tf_i4 : Tok} {cdd_i4 : ClassData}
    {S : Addr} {odS : Option Addr} {itS : Array Value} {nS : Nat} {slS : Array (Option Value)}
    {tP tH tM : Tok}
    {tST tLY tTA tN1 tN2 tN3 : Tok} {dA : Addr} {esA : Array DictEntry} {nA : Nat}
    {p_rep f_rep : Addr} {rs_rep : List Value} {od_rep an_rep : Option Addr} {sl_rep : Array (Option Value)} {oc_rep kV_rep dc_rep pm_rep cd_rep ct_rep : Value}
    (aC : PySem.W.nsIn K mainGlobals "Row" = some (some (.ref C)))
    (a_ini : PySem.W.findIn K (.ref C) "__init__" = some (some (.ref f_ini)))
    (i_ini : PySem.W.isFn K (.ref f_ini) = true)
    (l_ini : K.lookup f_ini = some ⟨oc_ini, od_ini, .func (PySem.W.fnOf "__init__" "Row.__init__" (defArgs s_Row_init) (defBody s_Row_init) (defScope s_Row_init) .none kV_ini dc_ini pm_ini an_ini cd_ini ct_ini), sl_ini⟩)
    (c_ini : PySem.W.codeIn K cd_ini "Row.__init__" = true)
    (k_ini : PySem.W.keepIn K (.ref f_ini) = true)
    (a_len : PySem.W.findIn K (.ref C) "__len__" = some (some (.ref f_len)))
    (i_len : PySem.W.isFn K (.ref f_len) = true)
    (l_len : K.lookup f_len = some ⟨oc_len, od_len, .func (PySem.W.fnOf "__len__" "Row.__len__" (defArgs s_Row_len) (defBody s_Row_len) (defScope s_Row_len) .none kV_len dc_len pm_len an_len cd_len ct_len), sl_len⟩)
    (c_len : PySem.W.codeIn K cd_len "Row.__len__" = true)
    (k_len : PySem.W.keepIn K (.ref f_len) = true)
    (a_add : PySem.W.findIn K (.ref C) "__add__" = some (some (.ref f_add)))
    (i_add : PySem.W.isFn K (.ref f_add) = true)
    (l_add : K.lookup f_add = some ⟨oc_add, od_add, .func (PySem.W.fnOf "__add__" "Row.__add__" (defArgs s_Row_add) (defBody s_Row_add) (defScope s_Row_add) .none kV_add dc_add pm_add an_add cd_add ct_add), sl_add⟩)
    (c_add : PySem.W.codeIn K cd_add "Row.__add__" = true)
    (k_add : PySem.W.keepIn K (.ref f_add) = true)
    (pa_get : PySem.W.findIn K (.ref C) "stones" = some (some (.ref p_get)))
    (pb_get : PySem.W.specialIn K (.ref p_get) "__get__" = some (some (.builtin "property.__get__")))
    (pc_get : PySem.W.takesIn K (.ref p_get) = some true)
    (pd_get : PySem.W.recIn K p_get "property" = some (.ref f_get :: rs_get))
    (l_get : K.lookup f_get = some ⟨oc_get, od_get, .func (PySem.W.fnOf "stones" "Row.stones" (defArgs s_Row_stones) (defBody s_Row_stones) (defScope s_Row_stones) .none kV_get dc_get pm_get an_get cd_get ct_get), sl_get⟩)
    (c_get : PySem.W.codeIn K cd_get "Row.stones" = true)
    (k_get : PySem.W.keepIn K (.ref f_get) = true)
    (aD : PySem.W.nsIn K mainGlobals "LiveRow" = some (some (.ref D)))
    (pgD : PySem.W.plainGet K D Str.empty = true)
    (hdD : PySem.W.hasDictIn K D = true)
    (poD : PySem.W.plainOver K D = true)
    (saD : PySem.W.findIn K (.ref D) "__setattr__" = some (some (.builtin "object.__setattr__")))
    (mkD : PySem.W.makesIn K D = true)
    (kcD : PySem.W.keepIn K (.ref D) = true)
    (nD0 : PySem.W.findIn K (.ref D) "_stones" = some none)
    (nD1 : PySem.W.findIn K (.ref D) "_steps" = some none)
    (nD2 : PySem.W.findIn K (.ref D) "_last_step" = some none)
    (nD3 : PySem.W.findIn K (.ref D) "_is_open" = some none)
    (nD4 : PySem.W.findIn K (.ref D) "_kept_steps" = some none)
    (nD5 : PySem.W.findIn K (.ref D) "_kept_last_step" = some none)
    (a_lin : PySem.W.findIn K (.ref D) "__init__" = some (some (.ref f_lin)))
    (i_lin : PySem.W.isFn K (.ref f_lin) = true)
    (l_lin : K.lookup f_lin = some ⟨oc_lin, od_lin, .func (PySem.W.fnOf "__init__" "LiveRow.__init__" (defArgs s_LiveRow_init) (defBody s_LiveRow_init) (defScope s_LiveRow_init) .none kV_lin dc_lin pm_lin an_lin cd_lin ct_lin), sl_lin⟩)
    (c_lin : PySem.W.codeIn K cd_lin "LiveRow.__init__" = true)
    (k_lin : PySem.W.keepIn K (.ref f_lin) = true)
    (a_lco : PySem.W.findIn K (.ref D) "_conditions" = some (some (.ref f_lco)))
    (i_lco : PySem.W.isFn K (.ref f_lco) = true)
    (l_lco : K.lookup f_lco = some ⟨oc_lco, od_lco, .func (PySem.W.fnOf "_conditions" "LiveRow._conditions" (defArgs s_LiveRow_conditions) (defBody s_LiveRow_conditions) (defScope s_LiveRow_conditions) .none kV_lco dc_lco pm_lco an_lco cd_lco ct_lco), sl_lco⟩)
    (c_lco : PySem.W.codeIn K cd_lco "LiveRow._conditions" = true)
    (k_lco : PySem.W.keepIn K (.ref f_lco) = true)
    (a_lha : PySem.W.findIn K (.ref D) "__contains__" = some (some (.ref f_lha)))
    (i_lha : PySem.W.isFn K (.ref f_lha) = true)
    (l_lha : K.lookup f_lha = some ⟨oc_lha, od_lha, .func (PySem.W.fnOf "__contains__" "LiveRow.__contains__" (defArgs s_LiveRow_contains) (defBody s_LiveRow_contains) (defScope s_LiveRow_contains) .none kV_lha dc_lha pm_lha an_lha cd_lha ct_lha), sl_lha⟩)
    (c_lha : PySem.W.codeIn K cd_lha "LiveRow.__contains__" = true)
    (k_lha : PySem.W.keepIn K (.ref f_lha) = true)
    (a_lln : PySem.W.findIn K (.ref D) "__len__" = some (some (.ref f_lln)))
    (i_lln : PySem.W.isFn K (.ref f_lln) = true)
    (l_lln : K.lookup f_lln = some ⟨oc_lln, od_lln, .func (PySem.W.fnOf "__len__" "LiveRow.__len__" (defArgs s_LiveRow_len) (defBody s_LiveRow_len) (defScope s_LiveRow_len) .none kV_lln dc_lln pm_lln an_lln cd_lln ct_lln), sl_lln⟩)
    (c_lln : PySem.W.codeIn K cd_lln "LiveRow.__len__" = true)
    (k_lln : PySem.W.keepIn K (.ref f_lln) = true)
    (pa_lst : PySem.W.findIn K (.ref D) "standing" = some (some (.ref p_lst)))
    (pb_lst : PySem.W.specialIn K (.ref p_lst) "__get__" = some (some (.builtin "property.__get__")))
    (pc_lst : PySem.W.takesIn K (.ref p_lst) = some true)
    (pd_lst : PySem.W.recIn K p_lst "property" = some (.ref f_lst :: rs_lst))
    (l_lst : K.lookup f_lst = some ⟨oc_lst, od_lst, .func (PySem.W.fnOf "standing" "LiveRow.standing" (defArgs s_LiveRow_standing) (defBody s_LiveRow_standing) (defScope s_LiveRow_standing) .none kV_lst dc_lst pm_lst an_lst cd_lst ct_lst), sl_lst⟩)
    (c_lst : PySem.W.codeIn K cd_lst "LiveRow.standing" = true)
    (k_lst : PySem.W.keepIn K (.ref f_lst) = true)
    (pa_lly : PySem.W.findIn K (.ref D) "lying" = some (some (.ref p_lly)))
    (pb_lly : PySem.W.specialIn K (.ref p_lly) "__get__" = some (some (.builtin "property.__get__")))
    (pc_lly : PySem.W.takesIn K (.ref p_lly) = some true)
    (pd_lly : PySem.W.recIn K p_lly "property" = some (.ref f_lly :: rs_lly))
    (l_lly : K.lookup f_lly = some ⟨oc_lly, od_lly, .func (PySem.W.fnOf "lying" "LiveRow.lying" (defArgs s_LiveRow_lying) (defBody s_LiveRow_lying) (defScope s_LiveRow_lying) .none kV_lly dc_lly pm_lly an_lly cd_lly ct_lly), sl_lly⟩)
    (c_lly : PySem.W.codeIn K cd_lly "LiveRow.lying" = true)
    (k_lly : PySem.W.keepIn K (.ref f_lly) = true)
    (pa_lhi : PySem.W.findIn K (.ref D) "history" = some (some (.ref p_lhi)))
    (pb_lhi : PySem.W.specialIn K (.ref p_lhi) "__get__" = some (some (.builtin "property.__get__")))
    (pc_lhi : PySem.W.takesIn K (.ref p_lhi) = some true)
    (pd_lhi : PySem.W.recIn K p_lhi "property" = some (.ref f_lhi :: rs_lhi))
    (l_lhi : K.lookup f_lhi = some ⟨oc_lhi, od_lhi, .func (PySem.W.fnOf "history" "LiveRow.history" (defArgs s_LiveRow_history) (defBody s_LiveRow_history) (defScope s_LiveRow_history) .none kV_lhi dc_lhi pm_lhi an_lhi cd_lhi ct_lhi), sl_lhi⟩)
    (c_lhi : PySem.W.codeIn K cd_lhi "LiveRow.history" = true)
    (k_lhi : PySem.W.keepIn K (.ref f_lhi) = true)
    (a_lap : PySem.W.findIn K (.ref D) "apply" = some (some (.ref f_lap)))
    (i_lap : PySem.W.isFn K (.ref f_lap) = true)
    (l_lap : K.lookup f_lap = some ⟨oc_lap, od_lap, .func (PySem.W.fnOf "apply" "LiveRow.apply" (defArgs s_LiveRow_apply) (defBody s_LiveRow_apply) (defScope s_LiveRow_apply) .none kV_lap dc_lap pm_lap an_lap cd_lap ct_lap), sl_lap⟩)
    (c_lap : PySem.W.codeIn K cd_lap "LiveRow.apply" = true)
    (k_lap : PySem.W.keepIn K (.ref f_lap) = true)
    (a_lpu : PySem.W.findIn K (.ref D) "push" = some (some (.ref f_lpu)))
    (i_lpu : PySem.W.isFn K (.ref f_lpu) = true)
    (l_lpu : K.lookup f_lpu = some ⟨oc_lpu, od_lpu, .func (PySem.W.fnOf "push" "LiveRow.push" (defArgs s_LiveRow_push) (defBody s_LiveRow_push) (defScope s_LiveRow_push) .none kV_lpu dc_lpu pm_lpu an_lpu cd_lpu ct_lpu), sl_lpu⟩)
    (c_lpu : PySem.W.codeIn K cd_lpu "LiveRow.push" = true)
    (k_lpu : PySem.W.keepIn K (.ref f_lpu) = true)
    (a_lli : PySem.W.findIn K (.ref D) "lift" = some (some (.ref f_lli)))
    (i_lli : PySem.W.isFn K (.ref f_lli) = true)
    (l_lli : K.lookup f_lli = some ⟨oc_lli, od_lli, .func (PySem.W.fnOf "lift" "LiveRow.lift" (defArgs s_LiveRow_lift) (defBody s_LiveRow_lift) (defScope s_LiveRow_lift) .none kV_lli dc_lli pm_lli an_lli cd_lli ct_lli), sl_lli⟩)
    (c_lli : PySem.W.codeIn K cd_lli "LiveRow.lift" = true)
    (k_lli : PySem.W.keepIn K (.ref f_lli) = true)
    (a_ltk : PySem.W.findIn K (.ref D) "take" = some (some (.ref f_ltk)))
    (i_ltk : PySem.W.isFn K (.ref f_ltk) = true)
    (l_ltk : K.lookup f_ltk = some ⟨oc_ltk, od_ltk, .func (PySem.W.fnOf "take" "LiveRow.take" (defArgs s_LiveRow_take) (defBody s_LiveRow_take) (defScope s_LiveRow_take) .none kV_ltk dc_ltk pm_ltk an_ltk cd_ltk ct_ltk), sl_ltk⟩)
    (c_ltk : PySem.W.codeIn K cd_ltk "LiveRow.take" = true)
    (k_ltk : PySem.W.keepIn K (.ref f_ltk) = true)
    (a_lun : PySem.W.findIn K (.ref D) "undo" = some (some (.ref f_lun)))
    (i_lun : PySem.W.isFn K (.ref f_lun) = true)
    (l_lun : K.lookup f_lun = some ⟨oc_lun, od_lun, .func (PySem.W.fnOf "undo" "LiveRow.undo" (defArgs s_LiveRow_undo) (defBody s_LiveRow_undo) (defScope s_LiveRow_undo) .none kV_lun dc_lun pm_lun an_lun cd_lun ct_lun), sl_lun⟩)
    (c_lun : PySem.W.codeIn K cd_lun "LiveRow.undo" = true)
    (k_lun : PySem.W.keepIn K (.ref f_lun) = true)
    (a_lre : PySem.W.findIn K (.ref D) "redo" = some (some (.ref f_lre)))
    (i_lre : PySem.W.isFn K (.ref f_lre) = true)
    (l_lre : K.lookup f_lre = some ⟨oc_lre, od_lre, .func (PySem.W.fnOf "redo" "LiveRow.redo" (defArgs s_LiveRow_redo) (defBody s_LiveRow_redo) (defScope s_LiveRow_redo) .none kV_lre dc_lre pm_lre an_lre cd_lre ct_lre), sl_lre⟩)
    (c_lre : PySem.W.codeIn K cd_lre "LiveRow.redo" = true)
    (k_lre : PySem.W.keepIn K (.ref f_lre) = true)
    (a_num : PySem.W.nsIn K mainGlobals "is_number" = some (some (.ref f_num)))
    (l_num : K.lookup f_num = some ⟨oc_num, od_num, .func (PySem.W.fnOf "is_number" "is_number" (defArgs s_is_number) (defBody s_is_number) (defScope s_is_number) .none kV_num dc_num pm_num an_num cd_num ct_num), sl_num⟩)
    (c_num : PySem.W.codeIn K cd_num "is_number" = true)
    (k_num : PySem.W.keepIn K (.ref f_num) = true)
    (a_cst : PySem.W.nsIn K mainGlobals "check_stone" = some (some (.ref f_cst)))
    (l_cst : K.lookup f_cst = some ⟨oc_cst, od_cst, .func (PySem.W.fnOf "check_stone" "check_stone" (defArgs s_check_stone) (defBody s_check_stone) (defScope s_check_stone) .none kV_cst dc_cst pm_cst an_cst cd_cst ct_cst), sl_cst⟩)
    (c_cst : PySem.W.codeIn K cd_cst "check_stone" = true)
    (k_cst : PySem.W.keepIn K (.ref f_cst) = true)
    (a_csi : PySem.W.nsIn K mainGlobals "check_side" = some (some (.ref f_csi)))
    (l_csi : K.lookup f_csi = some ⟨oc_csi, od_csi, .func (PySem.W.fnOf "check_side" "check_side" (defArgs s_check_side) (defBody s_check_side) (defScope s_check_side) .none kV_csi dc_csi pm_csi an_csi cd_csi ct_csi), sl_csi⟩)
    (c_csi : PySem.W.codeIn K cd_csi "check_side" = true)
    (k_csi : PySem.W.keepIn K (.ref f_csi) = true)
    (a_bes : PySem.W.nsIn K mainGlobals "stones_beside" = some (some (.ref f_bes)))
    (l_bes : K.lookup f_bes = some ⟨oc_bes, od_bes, .func (PySem.W.fnOf "stones_beside" "stones_beside" (defArgs s_stones_beside) (defBody s_stones_beside) (defScope s_stones_beside) .none kV_bes dc_bes pm_bes an_bes cd_bes ct_bes), sl_bes⟩)
    (c_bes : PySem.W.codeIn K cd_bes "stones_beside" = true)
    (k_bes : PySem.W.keepIn K (.ref f_bes) = true)
    (a_fel : PySem.W.nsIn K mainGlobals "felled_by" = some (some (.ref f_fel)))
    (l_fel : K.lookup f_fel = some ⟨oc_fel, od_fel, .func (PySem.W.fnOf "felled_by" "felled_by" (defArgs s_felled_by) (defBody s_felled_by) (defScope s_felled_by) .none kV_fel dc_fel pm_fel an_fel cd_fel ct_fel), sl_fel⟩)
    (c_fel : PySem.W.codeIn K cd_fel "felled_by" = true)
    (k_fel : PySem.W.keepIn K (.ref f_fel) = true)
    (a_iss : PySem.W.nsIn K mainGlobals "_is_stone" = some (some (.ref f_iss)))
    (l_iss : K.lookup f_iss = some ⟨oc_iss, od_iss, .func (PySem.W.fnOf "_is_stone" "_is_stone" (defArgs s_is_stone) (defBody s_is_stone) (defScope s_is_stone) .none kV_iss dc_iss pm_iss an_iss cd_iss ct_iss), sl_iss⟩)
    (c_iss : PySem.W.codeIn K cd_iss "_is_stone" = true)
    (k_iss : PySem.W.keepIn K (.ref f_iss) = true)
    (a_iop : PySem.W.nsIn K mainGlobals "_is_operation" = some (some (.ref f_iop)))
    (l_iop : K.lookup f_iop = some ⟨oc_iop, od_iop, .func (PySem.W.fnOf "_is_operation" "_is_operation" (defArgs s_is_operation) (defBody s_is_operation) (defScope s_is_operation) .none kV_iop dc_iop pm_iop an_iop cd_iop ct_iop), sl_iop⟩)
    (c_iop : PySem.W.codeIn K cd_iop "_is_operation" = true)
    (k_iop : PySem.W.keepIn K (.ref f_iop) = true)
    (a_swi : PySem.W.nsIn K mainGlobals "_stones_with" = some (some (.ref f_swi)))
    (l_swi : K.lookup f_swi = some ⟨oc_swi, od_swi, .func (PySem.W.fnOf "_stones_with" "_stones_with" (defArgs s_stones_with) (defBody s_stones_with) (defScope s_stones_with) .none kV_swi dc_swi pm_swi an_swi cd_swi ct_swi), sl_swi⟩)
    (c_swi : PySem.W.codeIn K cd_swi "_stones_with" = true)
    (k_swi : PySem.W.keepIn K (.ref f_swi) = true)
    (a_mar : PySem.W.nsIn K mainGlobals "_with_condition" = some (some (.ref f_mar)))
    (l_mar : K.lookup f_mar = some ⟨oc_mar, od_mar, .func (PySem.W.fnOf "_with_condition" "_with_condition" (defArgs s_with_condition) (defBody s_with_condition) (defScope s_with_condition) .none kV_mar dc_mar pm_mar an_mar cd_mar ct_mar), sl_mar⟩)
    (c_mar : PySem.W.codeIn K cd_mar "_with_condition" = true)
    (k_mar : PySem.W.keepIn K (.ref f_mar) = true)
    (a_exe : PySem.W.nsIn K mainGlobals "_executed" = some (some (.ref f_exe)))
    (l_exe : K.lookup f_exe = some ⟨oc_exe, od_exe, .func (PySem.W.fnOf "_executed" "_executed" (defArgs s_executed) (defBody s_executed) (defScope s_executed) .none kV_exe dc_exe pm_exe an_exe cd_exe ct_exe), sl_exe⟩)
    (c_exe : PySem.W.codeIn K cd_exe "_executed" = true)
    (k_exe : PySem.W.keepIn K (.ref f_exe) = true)
    (a_pus : PySem.W.nsIn K mainGlobals "_pushed" = some (some (.ref f_pus)))
    (l_pus : K.lookup f_pus = some ⟨oc_pus, od_pus, .func (PySem.W.fnOf "_pushed" "_pushed" (defArgs s_pushed) (defBody s_pushed) (defScope s_pushed) .none kV_pus dc_pus pm_pus an_pus cd_pus ct_pus), sl_pus⟩)
    (c_pus : PySem.W.codeIn K cd_pus "_pushed" = true)
    (k_pus : PySem.W.keepIn K (.ref f_pus) = true)
    (a_lif : PySem.W.nsIn K mainGlobals "_lifted" = some (some (.ref f_lif)))
    (l_lif : K.lookup f_lif = some ⟨oc_lif, od_lif, .func (PySem.W.fnOf "_lifted" "_lifted" (defArgs s_lifted) (defBody s_lifted) (defScope s_lifted) .none kV_lif dc_lif pm_lif an_lif cd_lif ct_lif), sl_lif⟩)
    (c_lif : PySem.W.codeIn K cd_lif "_lifted" = true)
    (k_lif : PySem.W.keepIn K (.ref f_lif) = true)
    (a_tkn : PySem.W.nsIn K mainGlobals "_taken" = some (some (.ref f_tkn)))
    (l_tkn : K.lookup f_tkn = some ⟨oc_tkn, od_tkn, .func (PySem.W.fnOf "_taken" "_taken" (defArgs s_taken) (defBody s_taken) (defScope s_taken) .none kV_tkn dc_tkn pm_tkn an_tkn cd_tkn ct_tkn), sl_tkn⟩)
    (c_tkn : PySem.W.codeIn K cd_tkn "_taken" = true)
    (k_tkn : PySem.W.keepIn K (.ref f_tkn) = true)
    (a_dic : PySem.W.nsIn K mainGlobals "_law_dice" = some (some (.ref f_dic)))
    (l_dic : K.lookup f_dic = some ⟨oc_dic, od_dic, .func (PySem.W.fnOf "_law_dice" "_law_dice" (defArgs s_law_dice) (defBody s_law_dice) (defScope s_law_dice) .none kV_dic dc_dic pm_dic an_dic cd_dic ct_dic), sl_dic⟩)
    (c_dic : PySem.W.codeIn K cd_dic "_law_dice" = true)
    (k_dic : PySem.W.keepIn K (.ref f_dic) = true)
    (a_nex : PySem.W.nsIn K mainGlobals "_law_next" = some (some (.ref f_nex)))
    (l_nex : K.lookup f_nex = some ⟨oc_nex, od_nex, .func (PySem.W.fnOf "_law_next" "_law_next" (defArgs s_law_next) (defBody s_law_next) (defScope s_law_next) .none kV_nex dc_nex pm_nex an_nex cd_nex ct_nex), sl_nex⟩)
    (c_nex : PySem.W.codeIn K cd_nex "_law_next" = true)
    (k_nex : PySem.W.keepIn K (.ref f_nex) = true)
    (a_lik : PySem.W.nsIn K mainGlobals "_law_like" = some (some (.ref f_lik)))
    (l_lik : K.lookup f_lik = some ⟨oc_lik, od_lik, .func (PySem.W.fnOf "_law_like" "_law_like" (defArgs s_law_like) (defBody s_law_like) (defScope s_law_like) .none kV_lik dc_lik pm_lik an_lik cd_lik ct_lik), sl_lik⟩)
    (c_lik : PySem.W.codeIn K cd_lik "_law_like" = true)
    (k_lik : PySem.W.keepIn K (.ref f_lik) = true)
    (a_pic : PySem.W.nsIn K mainGlobals "_law_pick" = some (some (.ref f_pic)))
    (l_pic : K.lookup f_pic = some ⟨oc_pic, od_pic, .func (PySem.W.fnOf "_law_pick" "_law_pick" (defArgs s_law_pick) (defBody s_law_pick) (defScope s_law_pick) .none kV_pic dc_pic pm_pic an_pic cd_pic ct_pic), sl_pic⟩)
    (c_pic : PySem.W.codeIn K cd_pic "_law_pick" = true)
    (k_pic : PySem.W.keepIn K (.ref f_pic) = true)
    (a_tol : PySem.W.nsIn K mainGlobals "_law_told" = some (some (.ref f_tol)))
    (l_tol : K.lookup f_tol = some ⟨oc_tol, od_tol, .func (PySem.W.fnOf "_law_told" "_law_told" (defArgs s_law_told) (defBody s_law_told) (defScope s_law_told) .none kV_tol dc_tol pm_tol an_tol cd_tol ct_tol), sl_tol⟩)
    (c_tol : PySem.W.codeIn K cd_tol "_law_told" = true)
    (k_tol : PySem.W.keepIn K (.ref f_tol) = true)
    (a_sto : PySem.W.nsIn K mainGlobals "_law_stones" = some (some (.ref f_sto)))
    (l_sto : K.lookup f_sto = some ⟨oc_sto, od_sto, .func (PySem.W.fnOf "_law_stones" "_law_stones" (defArgs s_law_stones) (defBody s_law_stones) (defScope s_law_stones) .none kV_sto dc_sto pm_sto an_sto cd_sto ct_sto), sl_sto⟩)
    (c_sto : PySem.W.codeIn K cd_sto "_law_stones" = true)
    (k_sto : PySem.W.keepIn K (.ref f_sto) = true)
    (a_mad : PySem.W.nsIn K mainGlobals "_law_made" = some (some (.ref f_mad)))
    (l_mad : K.lookup f_mad = some ⟨oc_mad, od_mad, .func (PySem.W.fnOf "_law_made" "_law_made" (defArgs s_law_made) (defBody s_law_made) (defScope s_law_made) .none kV_mad dc_mad pm_mad an_mad cd_mad ct_mad), sl_mad⟩)
    (c_mad : PySem.W.codeIn K cd_mad "_law_made" = true)
    (k_mad : PySem.W.keepIn K (.ref f_mad) = true)
    (a_tic : PySem.W.nsIn K mainGlobals "_law_ticks" = some (some (.ref f_tic)))
    (l_tic : K.lookup f_tic = some ⟨oc_tic, od_tic, .func (PySem.W.fnOf "_law_ticks" "_law_ticks" (defArgs s_law_ticks) (defBody s_law_ticks) (defScope s_law_ticks) .none kV_tic dc_tic pm_tic an_tic cd_tic ct_tic), sl_tic⟩)
    (c_tic : PySem.W.codeIn K cd_tic "_law_ticks" = true)
    (k_tic : PySem.W.keepIn K (.ref f_tic) = true)
    (a_lst2 : PySem.W.nsIn K mainGlobals "_law_is_stone" = some (some (.ref f_lst2)))
    (l_lst2 : K.lookup f_lst2 = some ⟨oc_lst2, od_lst2, .func (PySem.W.fnOf "_law_is_stone" "_law_is_stone" (defArgs s_law_is_stone) (defBody s_law_is_stone) (defScope s_law_is_stone) .none kV_lst2 dc_lst2 pm_lst2 an_lst2 cd_lst2 ct_lst2), sl_lst2⟩)
    (c_lst2 : PySem.W.codeIn K cd_lst2 "_law_is_stone" = true)
    (k_lst2 : PySem.W.keepIn K (.ref f_lst2) = true)
    (a_aft : PySem.W.nsIn K mainGlobals "_law_after" = some (some (.ref f_aft)))
    (l_aft : K.lookup f_aft = some ⟨oc_aft, od_aft, .func (PySem.W.fnOf "_law_after" "_law_after" (defArgs s_law_after) (defBody s_law_after) (defScope s_law_after) .none kV_aft dc_aft pm_aft an_aft cd_aft ct_aft), sl_aft⟩)
    (c_aft : PySem.W.codeIn K cd_aft "_law_after" = true)
    (k_aft : PySem.W.keepIn K (.ref f_aft) = true)
    (a_dee : PySem.W.nsIn K mainGlobals "_law_deed" = some (some (.ref f_dee)))
    (l_dee : K.lookup f_dee = some ⟨oc_dee, od_dee, .func (PySem.W.fnOf "_law_deed" "_law_deed" (defArgs s_law_deed) (defBody s_law_deed) (defScope s_law_deed) .none kV_dee dc_dee pm_dee an_dee cd_dee ct_dee), sl_dee⟩)
    (c_dee : PySem.W.codeIn K cd_dee "_law_deed" = true)
    (k_dee : PySem.W.keepIn K (.ref f_dee) = true)
    (a_act : PySem.W.nsIn K mainGlobals "_law_act" = some (some (.ref f_act)))
    (l_act : K.lookup f_act = some ⟨oc_act, od_act, .func (PySem.W.fnOf "_law_act" "_law_act" (defArgs s_law_act) (defBody s_law_act) (defScope s_law_act) .none kV_act dc_act pm_act an_act cd_act ct_act), sl_act⟩)
    (c_act : PySem.W.codeIn K cd_act "_law_act" = true)
    (k_act : PySem.W.keepIn K (.ref f_act) = true)
    (a_ier : PySem.W.nsIn K mainGlobals "_law_is_error" = some (some (.ref f_ier)))
    (l_ier : K.lookup f_ier = some ⟨oc_ier, od_ier, .func (PySem.W.fnOf "_law_is_error" "_law_is_error" (defArgs s_law_is_error) (defBody s_law_is_error) (defScope s_law_is_error) .none kV_ier dc_ier pm_ier an_ier cd_ier ct_ier), sl_ier⟩)
    (c_ier : PySem.W.codeIn K cd_ier "_law_is_error" = true)
    (k_ier : PySem.W.keepIn K (.ref f_ier) = true)
    (a_sta : PySem.W.nsIn K mainGlobals "_law_stands" = some (some (.ref f_sta)))
    (l_sta : K.lookup f_sta = some ⟨oc_sta, od_sta, .func (PySem.W.fnOf "_law_stands" "_law_stands" (defArgs s_law_stands) (defBody s_law_stands) (defScope s_law_stands) .none kV_sta dc_sta pm_sta an_sta cd_sta ct_sta), sl_sta⟩)
    (c_sta : PySem.W.codeIn K cd_sta "_law_stands" = true)
    (k_sta : PySem.W.keepIn K (.ref f_sta) = true)
    (a_law : PySem.W.nsIn K mainGlobals "law" = some (some (.ref f_law)))
    (l_law : K.lookup f_law = some ⟨oc_law, od_law, .func (PySem.W.fnOf "law" "law" (defArgs s_law) (defBody s_law) (defScope s_law) .none kV_law dc_law pm_law an_law (.ref cl) ct_law), sl_law⟩)
    (c_law : PySem.W.codeIn K (.ref cl) "law" = true)
    (k_law : PySem.W.keepIn K (.ref f_law) = true)
    (lc : K.lookup cl = some ⟨eC, ddC, .fields vsC, slC⟩)
    (lp : vsC[11]? = some (.ref Pt))
    (np : K.lookup Pt = none)
    (ch : PySem.W.codeHdIn K cl Pt = true)
    (z_isinstance : PySem.W.nsIn K mainGlobals "isinstance" = some none)
    (z_int : PySem.W.nsIn K mainGlobals "int" = some none)
    (z_bool : PySem.W.nsIn K mainGlobals "bool" = some none)
    (z_len : PySem.W.nsIn K mainGlobals "len" = some none)
    (z_tuple : PySem.W.nsIn K mainGlobals "tuple" = some none)
    (z_list : PySem.W.nsIn K mainGlobals "list" = some none)
    (z_range : PySem.W.nsIn K mainGlobals "range" = some none)
    (z_enumerate : PySem.W.nsIn K mainGlobals "enumerate" = some none)
    (z_abs : PySem.W.nsIn K mainGlobals "abs" = some none)
    (z_max : PySem.W.nsIn K mainGlobals "max" = some none)
    (z_min : PySem.W.nsIn K mainGlobals "min" = some none)
    (z_sorted : PySem.W.nsIn K mainGlobals "sorted" = some none)
    (z_str : PySem.W.nsIn K mainGlobals "str" = some none)
    (z_super : PySem.W.nsIn K mainGlobals "super" = some none)
    (z_VE : PySem.W.nsIn K mainGlobals "ValueError" = some none)
    (ne : PySem.W.nsIn K mainGlobals "StoneError" = some (some (.ref xe)))
    (nc0 : PySem.W.nsIn K mainGlobals "InvalidOperation" = some (some (.ref xc0)))
    (nc1 : PySem.W.nsIn K mainGlobals "DecodeError" = some (some (.ref xc1)))
    (nc2 : PySem.W.nsIn K mainGlobals "NotationError" = some (some (.ref xc2)))
    (nc3 : PySem.W.nsIn K mainGlobals "NotStanding" = some (some (.ref xc3)))
    (nc4 : PySem.W.nsIn K mainGlobals "NotLying" = some (some (.ref xc4)))
    (nc5 : PySem.W.nsIn K mainGlobals "InvalidRow" = some (some (.ref xc5)))
    (nc6 : PySem.W.nsIn K mainGlobals "UnknownStone" = some (some (.ref xc6)))
    (nc7 : PySem.W.nsIn K mainGlobals "InvalidSide" = some (some (.ref xc7)))
    (nc8 : PySem.W.nsIn K mainGlobals "InvalidNumber" = some (some (.ref xc8)))
    (nc9 : PySem.W.nsIn K mainGlobals "Contradiction" = some (some (.ref xc9)))
    (nc10 : PySem.W.nsIn K mainGlobals "InvalidCount" = some (some (.ref xc10)))
    (gac6 : PySem.W.findIn K (.ref xc6) "__getattribute__" = some (some (.builtin "BaseException.__getattribute__")))
    (ggc6 : PySem.W.findIn K (.ref xc6) "__getattr__" = some none)
    (suc6 : PySem.W.subIn K (.ref xc6) (.type "BaseException") = some true)
    (hdc6 : PySem.W.hasDictIn K xc6 = true)
    (cac6 : PySem.W.findIn K (.ref xc6) "__class__" = some (some (.builtin "object.__class__")))
    (moc6 : PySem.W.mroIn K xc6 (.type "object") = some true)
    (ixc6 : PySem.W.findIn K (.ref xc6) "index" = some none)
    (sxc6 : PySem.W.findIn K (.ref xc6) "stone" = some none)
    (sec6 : PySem.W.exmOne K (.ref xc6) (.ref xe) = some true)
    (q0c6 : PySem.W.kitOne K (.ref xc6) (.ref xc0) = some (6 == 0))
    (q1c6 : PySem.W.kitOne K (.ref xc6) (.ref xc1) = some (6 == 1))
    (q2c6 : PySem.W.kitOne K (.ref xc6) (.ref xc2) = some (6 == 2))
    (q3c6 : PySem.W.kitOne K (.ref xc6) (.ref xc3) = some (6 == 3))
    (q4c6 : PySem.W.kitOne K (.ref xc6) (.ref xc4) = some (6 == 4))
    (q5c6 : PySem.W.kitOne K (.ref xc6) (.ref xc5) = some (6 == 5))
    (q6c6 : PySem.W.kitOne K (.ref xc6) (.ref xc6) = some (6 == 6))
    (q7c6 : PySem.W.kitOne K (.ref xc6) (.ref xc7) = some (6 == 7))
    (q8c6 : PySem.W.kitOne K (.ref xc6) (.ref xc8) = some (6 == 8))
    (q9c6 : PySem.W.kitOne K (.ref xc6) (.ref xc9) = some (6 == 9))
    (q10c6 : PySem.W.kitOne K (.ref xc6) (.ref xc10) = some (6 == 10))
    (vec6 : PySem.W.kitOne K (.ref xc6) (.type "ValueError") = some true)
    (kpc6 : PySem.W.keepIn K (.ref xc6) = true)
    (tyc6 : PySem.W.typeIn K (.ref xc6) = some (.type "type"))
    (gac7 : PySem.W.findIn K (.ref xc7) "__getattribute__" = some (some (.builtin "BaseException.__getattribute__")))
    (ggc7 : PySem.W.findIn K (.ref xc7) "__getattr__" = some none)
    (suc7 : PySem.W.subIn K (.ref xc7) (.type "BaseException") = some true)
    (hdc7 : PySem.W.hasDictIn K xc7 = true)
    (cac7 : PySem.W.findIn K (.ref xc7) "__class__" = some (some (.builtin "object.__class__")))
    (moc7 : PySem.W.mroIn K xc7 (.type "object") = some true)
    (ixc7 : PySem.W.findIn K (.ref xc7) "index" = some none)
    (sxc7 : PySem.W.findIn K (.ref xc7) "stone" = some none)
    (sec7 : PySem.W.exmOne K (.ref xc7) (.ref xe) = some true)
    (q0c7 : PySem.W.kitOne K (.ref xc7) (.ref xc0) = some (7 == 0))
    (q1c7 : PySem.W.kitOne K (.ref xc7) (.ref xc1) = some (7 == 1))
    (q2c7 : PySem.W.kitOne K (.ref xc7) (.ref xc2) = some (7 == 2))
    (q3c7 : PySem.W.kitOne K (.ref xc7) (.ref xc3) = some (7 == 3))
    (q4c7 : PySem.W.kitOne K (.ref xc7) (.ref xc4) = some (7 == 4))
    (q5c7 : PySem.W.kitOne K (.ref xc7) (.ref xc5) = some (7 == 5))
    (q6c7 : PySem.W.kitOne K (.ref xc7) (.ref xc6) = some (7 == 6))
    (q7c7 : PySem.W.kitOne K (.ref xc7) (.ref xc7) = some (7 == 7))
    (q8c7 : PySem.W.kitOne K (.ref xc7) (.ref xc8) = some (7 == 8))
    (q9c7 : PySem.W.kitOne K (.ref xc7) (.ref xc9) = some (7 == 9))
    (q10c7 : PySem.W.kitOne K (.ref xc7) (.ref xc10) = some (7 == 10))
    (vec7 : PySem.W.kitOne K (.ref xc7) (.type "ValueError") = some true)
    (kpc7 : PySem.W.keepIn K (.ref xc7) = true)
    (tyc7 : PySem.W.typeIn K (.ref xc7) = some (.type "type"))
    (gac3 : PySem.W.findIn K (.ref xc3) "__getattribute__" = some (some (.builtin "BaseException.__getattribute__")))
    (ggc3 : PySem.W.findIn K (.ref xc3) "__getattr__" = some none)
    (suc3 : PySem.W.subIn K (.ref xc3) (.type "BaseException") = some true)
    (hdc3 : PySem.W.hasDictIn K xc3 = true)
    (cac3 : PySem.W.findIn K (.ref xc3) "__class__" = some (some (.builtin "object.__class__")))
    (moc3 : PySem.W.mroIn K xc3 (.type "object") = some true)
    (ixc3 : PySem.W.findIn K (.ref xc3) "index" = some none)
    (sxc3 : PySem.W.findIn K (.ref xc3) "stone" = some none)
    (sec3 : PySem.W.exmOne K (.ref xc3) (.ref xe) = some true)
    (q0c3 : PySem.W.kitOne K (.ref xc3) (.ref xc0) = some (3 == 0))
    (q1c3 : PySem.W.kitOne K (.ref xc3) (.ref xc1) = some (3 == 1))
    (q2c3 : PySem.W.kitOne K (.ref xc3) (.ref xc2) = some (3 == 2))
    (q3c3 : PySem.W.kitOne K (.ref xc3) (.ref xc3) = some (3 == 3))
    (q4c3 : PySem.W.kitOne K (.ref xc3) (.ref xc4) = some (3 == 4))
    (q5c3 : PySem.W.kitOne K (.ref xc3) (.ref xc5) = some (3 == 5))
    (q6c3 : PySem.W.kitOne K (.ref xc3) (.ref xc6) = some (3 == 6))
    (q7c3 : PySem.W.kitOne K (.ref xc3) (.ref xc7) = some (3 == 7))
    (q8c3 : PySem.W.kitOne K (.ref xc3) (.ref xc8) = some (3 == 8))
    (q9c3 : PySem.W.kitOne K (.ref xc3) (.ref xc9) = some (3 == 9))
    (q10c3 : PySem.W.kitOne K (.ref xc3) (.ref xc10) = some (3 == 10))
    (vec3 : PySem.W.kitOne K (.ref xc3) (.type "ValueError") = some true)
    (kpc3 : PySem.W.keepIn K (.ref xc3) = true)
    (tyc3 : PySem.W.typeIn K (.ref xc3) = some (.type "type"))
    (gac4 : PySem.W.findIn K (.ref xc4) "__getattribute__" = some (some (.builtin "BaseException.__getattribute__")))
    (ggc4 : PySem.W.findIn K (.ref xc4) "__getattr__" = some none)
    (suc4 : PySem.W.subIn K (.ref xc4) (.type "BaseException") = some true)
    (hdc4 : PySem.W.hasDictIn K xc4 = true)
    (cac4 : PySem.W.findIn K (.ref xc4) "__class__" = some (some (.builtin "object.__class__")))
    (moc4 : PySem.W.mroIn K xc4 (.type "object") = some true)
    (ixc4 : PySem.W.findIn K (.ref xc4) "index" = some none)
    (sxc4 : PySem.W.findIn K (.ref xc4) "stone" = some none)
    (sec4 : PySem.W.exmOne K (.ref xc4) (.ref xe) = some true)
    (q0c4 : PySem.W.kitOne K (.ref xc4) (.ref xc0) = some (4 == 0))
    (q1c4 : PySem.W.kitOne K (.ref xc4) (.ref xc1) = some (4 == 1))
    (q2c4 : PySem.W.kitOne K (.ref xc4) (.ref xc2) = some (4 == 2))
    (q3c4 : PySem.W.kitOne K (.ref xc4) (.ref xc3) = some (4 == 3))
    (q4c4 : PySem.W.kitOne K (.ref xc4) (.ref xc4) = some (4 == 4))
    (q5c4 : PySem.W.kitOne K (.ref xc4) (.ref xc5) = some (4 == 5))
    (q6c4 : PySem.W.kitOne K (.ref xc4) (.ref xc6) = some (4 == 6))
    (q7c4 : PySem.W.kitOne K (.ref xc4) (.ref xc7) = some (4 == 7))
    (q8c4 : PySem.W.kitOne K (.ref xc4) (.ref xc8) = some (4 == 8))
    (q9c4 : PySem.W.kitOne K (.ref xc4) (.ref xc9) = some (4 == 9))
    (q10c4 : PySem.W.kitOne K (.ref xc4) (.ref xc10) = some (4 == 10))
    (vec4 : PySem.W.kitOne K (.ref xc4) (.type "ValueError") = some true)
    (kpc4 : PySem.W.keepIn K (.ref xc4) = true)
    (tyc4 : PySem.W.typeIn K (.ref xc4) = some (.type "type"))
    (exc6 : PySem.W.excIn K xc6 [.type "ValueError", .type "Exception", .type "BaseException", .type "object"] "ValueError.__new__" = true)
    (exc7 : PySem.W.excIn K xc7 [.type "ValueError", .type "Exception", .type "BaseException", .type "object"] "ValueError.__new__" = true)
    (opq : PySem.W.nsIn K PySem.cStatics "thirdparty.any" = some none)
    (tps : (l.prog.main.scope.names.lookup ("super" : Str)).isSome = false)
    (xlc3 : K.lookup xc3 = some (excClassObj nmc3 qc3 xc3 Nc3 bsc3 bmc3 true snc3 subc3 abc3 colc3 ddc3 m0c3 m1c3 m2c3 m3c3 m5c3 "ValueError.__new__"))
    (xrc3 : PySem.HandSPX.refsVE bmc3 = true)
    (sac3 : PySem.W.findIn K (.ref xc3) "__setattr__" = some (some (.builtin "object.__setattr__")))
    (a_i3 : PySem.W.findIn K (.ref xc3) "__init__" = some (some (.ref f_i3)))
    (t_i3 : PySem.W.typeIn K (.ref f_i3) = some (.type "function"))
    (l_i3 : K.lookup f_i3 = some ⟨oc_i3, od_i3, .func (PySem.W.fnX "__init__" "NotStanding.__init__" (defArgs s_NotStanding_init) (defBody s_NotStanding_init) (defScope s_NotStanding_init) [("__class__", g_i3)] .none kV_i3 dc_i3 pm_i3 an_i3 (.ref e_i3) ct_i3), sl_i3⟩)
    (c_i3 : PySem.W.codeIn K (.ref e_i3) "NotStanding.__init__" = true)
    (g1_i3 : K.lookup g_i3 = some ⟨cg_i3, dg_i3, .cell (some (.ref xc3)), sg_i3⟩)
    (g2_i3 : PySem.W.clsIn K xc3 = some cdd_i3)
    (g3_i3 : PySem.W.mroIn K xc3 (.ref xc3) = some true)
    (g4_i3 : PySem.W.ks_superIn K xc3 xc3 "__init__" = some (some (.builtin "ValueError.__init__")))
    (g5_i3 : PySem.W.subIn K (.ref xc3) (.type "ValueError") = some true)
    (e1_i3 : K.lookup e_i3 = some ⟨ce_i3, de_i3, .fields vs_i3, se_i3⟩)
    (e2_i3 : vs_i3[2]? = some (.str fi_i3 tf_i3))
    (e3_i3 : ((l.prog.main.file : Str) == fi_i3) = true)
    (xlc4 : K.lookup xc4 = some (excClassObj nmc4 qc4 xc4 Nc4 bsc4 bmc4 true snc4 subc4 abc4 colc4 ddc4 m0c4 m1c4 m2c4 m3c4 m5c4 "ValueError.__new__"))
    (xrc4 : PySem.HandSPX.refsVE bmc4 = true)
    (sac4 : PySem.W.findIn K (.ref xc4) "__setattr__" = some (some (.builtin "object.__setattr__")))
    (a_i4 : PySem.W.findIn K (.ref xc4) "__init__" = some (some (.ref f_i4)))
    (t_i4 : PySem.W.typeIn K (.ref f_i4) = some (.type "function"))
    (l_i4 : K.lookup f_i4 = some ⟨oc_i4, od_i4, .func (PySem.W.fnX "__init__" "NotLying.__init__" (defArgs s_NotLying_init) (defBody s_NotLying_init) (defScope s_NotLying_init) [("__class__", g_i4)] .none kV_i4 dc_i4 pm_i4 an_i4 (.ref e_i4) ct_i4), sl_i4⟩)
    (c_i4 : PySem.W.codeIn K (.ref e_i4) "NotLying.__init__" = true)
    (g1_i4 : K.lookup g_i4 = some ⟨cg_i4, dg_i4, .cell (some (.ref xc4)), sg_i4⟩)
    (g2_i4 : PySem.W.clsIn K xc4 = some cdd_i4)
    (g3_i4 : PySem.W.mroIn K xc4 (.ref xc4) = some true)
    (g4_i4 : PySem.W.ks_superIn K xc4 xc4 "__init__" = some (some (.builtin "ValueError.__init__")))
    (g5_i4 : PySem.W.subIn K (.ref xc4) (.type "ValueError") = some true)
    (e1_i4 : K.lookup e_i4 = some ⟨ce_i4, de_i4, .fields vs_i4, se_i4⟩)
    (e2_i4 : vs_i4[2]? = some (.str fi_i4 tf_i4))
    (e3_i4 : ((l.prog.main.file : Str) == fi_i4) = true)
    (aS : PySem.W.nsIn K mainGlobals "SIDES" = some (some (.ref S)))
    (lS : K.lookup S = some ⟨.type "tuple", odS, .seq itS nS, slS⟩)
    (pS : itS.size ≤ sizeLine)
    (vS : Vals [.str "left", .str "right"] itS.toList)
    (aP : PySem.W.nsIn K mainGlobals "GREATEST_PLACE" = some (some (.int 1000000000 tP)))
    (aH : PySem.W.nsIn K mainGlobals "GREATEST_HEIGHT" = some (some (.int 1000000000 tH)))
    (pg : PySem.W.plainGet K C Str.empty = true)
    (hd : PySem.W.hasDictIn K C = true)
    (po : PySem.W.plainOver K C = true)
    (sa : PySem.W.findIn K (.ref C) "__setattr__" = some (some (.builtin "object.__setattr__")))
    (mk : PySem.W.makesIn K C = true)
    (kc : PySem.W.keepIn K (.ref C) = true)
    (nQ : PySem.W.findIn K (.ref C) "_stones" = some none)
    (mM : PySem.W.findIn K (.ref C) "MAX_STONES" = some (some (.int 40 tM)))
    (gM : PySem.W.specialIn K (.int 40 tM) "__get__" = some none)
    (sf : PySem.W.selfFirst K C = true)
    (ca : PySem.W.findIn K (.ref C) "__class__" = some (some (.builtin "object.__class__")))
    (cn : PySem.W.specialIn K (.builtin "object.__class__") "__get__" = some (some (.builtin "getset_descriptor.__get__")))
    (ct : PySem.W.takesIn K (.builtin "object.__class__") = some true)
    (cm : PySem.W.mroIn K C (.type "object") = some true)
    (gST : PySem.W.nsIn K mainGlobals "STANDING" = some (some (.str "standing" tST)))
    (gLY : PySem.W.nsIn K mainGlobals "LYING" = some (some (.str "lying" tLY)))
    (gTA : PySem.W.nsIn K mainGlobals "TAKEN" = some (some (.str "taken" tTA)))
    (gAC : PySem.W.nsIn K mainGlobals "ARGUMENT_COUNTS" = some (some (.ref dA)))
    (lAC : K.lookup dA = some ⟨.type "dict", none, .dict esA nA, #[]⟩)
    (kAC : PySem.W.KeysLit w.params esA.toList)
    (oAC : (dA == sysModules) = false)
    (e1A : PySem.W.nsIn K dA "push" = some (some (.int 2 tN1)))
    (e2A : PySem.W.nsIn K dA "lift" = some (some (.int 1 tN2)))
    (e3A : PySem.W.nsIn K dA "take" = some (some (.int 1 tN3)))
    (m1_rep : PySem.W.findCls K (.ref D) (.type "type") "replay" = some (.get (.builtin "classmethod.__get__") (.ref p_rep) .none (.ref D)))
    (m2_rep : PySem.W.recIn K p_rep "classmethod" = some (.ref f_rep :: rs_rep))
    (m3_rep : PySem.W.fnIn K f_rep = true)
    (l_rep : K.lookup f_rep = some ⟨oc_rep, od_rep, .func (PySem.W.fnOf "replay" "LiveRow.replay" (defArgs s_LiveRow_replay) (defBody s_LiveRow_replay) (defScope s_LiveRow_replay) .none kV_rep dc_rep pm_rep an_rep cd_rep ct_rep), sl_rep⟩)
    (c_rep : PySem.W.codeIn K cd_rep "LiveRow.replay" = true)
    (k_rep : PySem.W.keepIn K (.ref f_rep) = true)
    (cr1D : PySem.W.readsIn K D (.type "type") = true)
    (cr2D : PySem.W.specialIn K (.ref D) "__getattribute__" = some (some (.builtin "type.__getattribute__")))
    (bm1lap : PySem.W.specialIn K (.ref f_lap) "__get__" = some (some (.builtin "function.__get__")))
    (bm2lap : PySem.W.takesIn K (.ref f_lap) = some false)
    (bm4lap : PySem.W.fnIn K f_lap = true) :
    LamX.LawAtS l w K CX0 10 63 "_law_script" mg fa h := by
  have e := hfa.symm.trans (PySem.W.mg_of X G a_law)
  obtain rfl : f_law = fa := by cases e; rfl
  have B : Blt mg := ⟨PySem.W.mg_none_of X G z_isinstance, PySem.W.mg_none_of X G z_int, PySem.W.mg_none_of X G z_bool, PySem.W.mg_none_of X G z_len, PySem.W.mg_none_of X G z_tuple, PySem.W.mg_none_of X G z_list, PySem.W.mg_none_of X G z_range, PySem.W.mg_none_of X G z_enumerate, PySem.W.mg_none_of X G z_abs, PySem.W.mg_none_of X G z_max, PySem.W.mg_none_of X G z_min, PySem.W.mg_none_of X G z_sorted⟩
  have F_ini := fun_mk (st := s_Row_init) l_ini c_ini k_ini
  have F_len := fun_mk (st := s_Row_len) l_len c_len k_len
  have b_len := F_len.binds (ps := ["self"]) fun _ _ _ _ _ _ us hl => match us, hl with | [_], _ => rfl
  have F_add := fun_mk (st := s_Row_add) l_add c_add k_add
  have b_add := F_add.binds (ps := ["self", "other"]) fun _ _ _ _ _ _ us hl => match us, hl with | [_, _], _ => rfl
  have F_get := fun_mk (st := s_Row_stones) l_get c_get k_get
  have b_get := F_get.binds (ps := ["self"]) fun _ _ _ _ _ _ us hl => match us, hl with | [_], _ => rfl
  have P_get : PropOf K C "stones" p_get f_get := ⟨pa_get, pb_get, pc_get, ⟨rs_get, pd_get⟩⟩
  have F_lin := fun_mk (st := s_LiveRow_init) l_lin c_lin k_lin
  have b_lin := F_lin.binds (ps := ["self", "row"]) fun _ _ _ _ _ _ us hl => match us, hl with | [_, _], _ => rfl
  have F_lco := fun_mk (st := s_LiveRow_conditions) l_lco c_lco k_lco
  have b_lco := F_lco.binds (ps := ["self"]) fun _ _ _ _ _ _ us hl => match us, hl with | [_], _ => rfl
  have F_lha := fun_mk (st := s_LiveRow_contains) l_lha c_lha k_lha
  have b_lha := F_lha.binds (ps := ["self", "stone"]) fun _ _ _ _ _ _ us hl => match us, hl with | [_, _], _ => rfl
  have F_lln := fun_mk (st := s_LiveRow_len) l_lln c_lln k_lln
  have b_lln := F_lln.binds (ps := ["self"]) fun _ _ _ _ _ _ us hl => match us, hl with | [_], _ => rfl
  have F_lst := fun_mk (st := s_LiveRow_standing) l_lst c_lst k_lst
  have b_lst := F_lst.binds (ps := ["self"]) fun _ _ _ _ _ _ us hl => match us, hl with | [_], _ => rfl
  have P_lst : PropOf K D "standing" p_lst f_lst := ⟨pa_lst, pb_lst, pc_lst, ⟨rs_lst, pd_lst⟩⟩
  have F_lly := fun_mk (st := s_LiveRow_lying) l_lly c_lly k_lly
  have b_lly := F_lly.binds (ps := ["self"]) fun _ _ _ _ _ _ us hl => match us, hl with | [_], _ => rfl
  have P_lly : PropOf K D "lying" p_lly f_lly := ⟨pa_lly, pb_lly, pc_lly, ⟨rs_lly, pd_lly⟩⟩
  have F_lhi := fun_mk (st := s_LiveRow_history) l_lhi c_lhi k_lhi
  have b_lhi := F_lhi.binds (ps := ["self"]) fun _ _ _ _ _ _ us hl => match us, hl with | [_], _ => rfl
  have P_lhi : PropOf K D "history" p_lhi f_lhi := ⟨pa_lhi, pb_lhi, pc_lhi, ⟨rs_lhi, pd_lhi⟩⟩
  have F_lap := fun_mk (st := s_LiveRow_apply) l_lap c_lap k_lap
  have F_lpu := fun_mk (st := s_LiveRow_push) l_lpu c_lpu k_lpu
  have b_lpu := F_lpu.binds (ps := ["self", "stone", "side"]) fun _ _ _ _ _ _ us hl => match us, hl with | [_, _, _], _ => rfl
  have F_lli := fun_mk (st := s_LiveRow_lift) l_lli c_lli k_lli
  have b_lli := F_lli.binds (ps := ["self", "stone"]) fun _ _ _ _ _ _ us hl => match us, hl with | [_, _], _ => rfl
  have F_ltk := fun_mk (st := s_LiveRow_take) l_ltk c_ltk k_ltk
  have b_ltk := F_ltk.binds (ps := ["self", "stone"]) fun _ _ _ _ _ _ us hl => match us, hl with | [_, _], _ => rfl
  have F_lun := fun_mk (st := s_LiveRow_undo) l_lun c_lun k_lun
  have b_lun := F_lun.binds (ps := ["self"]) fun _ _ _ _ _ _ us hl => match us, hl with | [_], _ => rfl
  have F_lre := fun_mk (st := s_LiveRow_redo) l_lre c_lre k_lre
  have b_lre := F_lre.binds (ps := ["self"]) fun _ _ _ _ _ _ us hl => match us, hl with | [_], _ => rfl
  have F_num := fun_mk (st := s_is_number) l_num c_num k_num
  have D_num : DefAt K mg "is_number" s_is_number ["value", "least", "greatest"] f_num _ := ⟨F_num, PySem.W.mg_of X G a_num, F_num.binds fun _ _ _ _ _ _ us hl => match us, hl with | [_, _, _], _ => rfl⟩
  have F_cst := fun_mk (st := s_check_stone) l_cst c_cst k_cst
  have D_cst : DefAt K mg "check_stone" s_check_stone ["stone", "count"] f_cst _ := ⟨F_cst, PySem.W.mg_of X G a_cst, F_cst.binds fun _ _ _ _ _ _ us hl => match us, hl with | [_, _], _ => rfl⟩
  have F_csi := fun_mk (st := s_check_side) l_csi c_csi k_csi
  have D_csi : DefAt K mg "check_side" s_check_side ["side"] f_csi _ := ⟨F_csi, PySem.W.mg_of X G a_csi, F_csi.binds fun _ _ _ _ _ _ us hl => match us, hl with | [_], _ => rfl⟩
  have F_bes := fun_mk (st := s_stones_beside) l_bes c_bes k_bes
  have D_bes : DefAt K mg "stones_beside" s_stones_beside ["stone", "side", "count"] f_bes _ := ⟨F_bes, PySem.W.mg_of X G a_bes, F_bes.binds fun _ _ _ _ _ _ us hl => match us, hl with | [_, _, _], _ => rfl⟩
  have F_fel := fun_mk (st := s_felled_by) l_fel c_fel k_fel
  have D_fel : DefAt K mg "felled_by" s_felled_by ["stones", "standing", "stone", "side"] f_fel _ := ⟨F_fel, PySem.W.mg_of X G a_fel, F_fel.binds fun _ _ _ _ _ _ us hl => match us, hl with | [_, _, _, _], _ => rfl⟩
  have F_iss := fun_mk (st := s_is_stone) l_iss c_iss k_iss
  have D_iss : DefAt K mg "_is_stone" s_is_stone ["stone", "least_place"] f_iss _ := ⟨F_iss, PySem.W.mg_of X G a_iss, F_iss.binds fun _ _ _ _ _ _ us hl => match us, hl with | [_, _], _ => rfl⟩
  have F_iop := fun_mk (st := s_is_operation) l_iop c_iop k_iop
  have D_iop : DefAt K mg "_is_operation" s_is_operation ["value"] f_iop _ := ⟨F_iop, PySem.W.mg_of X G a_iop, F_iop.binds fun _ _ _ _ _ _ us hl => match us, hl with | [_], _ => rfl⟩
  have F_swi := fun_mk (st := s_stones_with) l_swi c_swi k_swi
  have D_swi : DefAt K mg "_stones_with" s_stones_with ["conditions", "condition"] f_swi _ := ⟨F_swi, PySem.W.mg_of X G a_swi, F_swi.binds fun _ _ _ _ _ _ us hl => match us, hl with | [_, _], _ => rfl⟩
  have F_mar := fun_mk (st := s_with_condition) l_mar c_mar k_mar
  have D_mar : DefAt K mg "_with_condition" s_with_condition ["conditions", "stones", "condition"] f_mar _ := ⟨F_mar, PySem.W.mg_of X G a_mar, F_mar.binds fun _ _ _ _ _ _ us hl => match us, hl with | [_, _, _], _ => rfl⟩
  have F_exe := fun_mk (st := s_executed) l_exe c_exe k_exe
  have D_exe : DefAt K mg "_executed" s_executed ["stones", "conditions", "operation"] f_exe _ := ⟨F_exe, PySem.W.mg_of X G a_exe, F_exe.binds fun _ _ _ _ _ _ us hl => match us, hl with | [_, _, _], _ => rfl⟩
  have F_pus := fun_mk (st := s_pushed) l_pus c_pus k_pus
  have D_pus : DefAt K mg "_pushed" s_pushed ["stones", "conditions", "stone", "side"] f_pus _ := ⟨F_pus, PySem.W.mg_of X G a_pus, F_pus.binds fun _ _ _ _ _ _ us hl => match us, hl with | [_, _, _, _], _ => rfl⟩
  have F_lif := fun_mk (st := s_lifted) l_lif c_lif k_lif
  have D_lif : DefAt K mg "_lifted" s_lifted ["conditions", "stone"] f_lif _ := ⟨F_lif, PySem.W.mg_of X G a_lif, F_lif.binds fun _ _ _ _ _ _ us hl => match us, hl with | [_, _], _ => rfl⟩
  have F_tkn := fun_mk (st := s_taken) l_tkn c_tkn k_tkn
  have D_tkn : DefAt K mg "_taken" s_taken ["conditions", "stone"] f_tkn _ := ⟨F_tkn, PySem.W.mg_of X G a_tkn, F_tkn.binds fun _ _ _ _ _ _ us hl => match us, hl with | [_, _], _ => rfl⟩
  have F_dic := fun_mk (st := s_law_dice) l_dic c_dic k_dic
  have D_dic : DefAt K mg "_law_dice" s_law_dice ["_law_script"] f_dic _ := ⟨F_dic, PySem.W.mg_of X G a_dic, F_dic.binds fun _ _ _ _ _ _ us hl => match us, hl with | [_], _ => rfl⟩
  have F_nex := fun_mk (st := s_law_next) l_nex c_nex k_nex
  have D_nex : DefAt K mg "_law_next" s_law_next ["_law_dice_here", "_law_many"] f_nex _ := ⟨F_nex, PySem.W.mg_of X G a_nex, F_nex.binds fun _ _ _ _ _ _ us hl => match us, hl with | [_, _], _ => rfl⟩
  have F_lik := fun_mk (st := s_law_like) l_lik c_lik k_lik
  have D_lik : DefAt K mg "_law_like" s_law_like ["_law_found", "_law_due"] f_lik _ := ⟨F_lik, PySem.W.mg_of X G a_lik, F_lik.binds fun _ _ _ _ _ _ us hl => match us, hl with | [_, _], _ => rfl⟩
  have F_pic := fun_mk (st := s_law_pick) l_pic c_pic k_pic
  have D_pic : DefAt K mg "_law_pick" s_law_pick ["_law_d", "_law_some"] f_pic _ := ⟨F_pic, PySem.W.mg_of X G a_pic, F_pic.binds fun _ _ _ _ _ _ us hl => match us, hl with | [_, _], _ => rfl⟩
  have F_tol := fun_mk (st := s_law_told) l_tol c_tol k_tol
  have D_tol : DefAt K mg "_law_told" s_law_told ["_law_work"] f_tol _ := ⟨F_tol, PySem.W.mg_of X G a_tol, F_tol.binds fun _ _ _ _ _ _ us hl => match us, hl with | [_], _ => rfl⟩
  have F_sto := fun_mk (st := s_law_stones) l_sto c_sto k_sto
  have D_sto : DefAt K mg "_law_stones" s_law_stones ["_law_d", "_law_most"] f_sto _ := ⟨F_sto, PySem.W.mg_of X G a_sto, F_sto.binds fun _ _ _ _ _ _ us hl => match us, hl with | [_, _], _ => rfl⟩
  have F_mad := fun_mk (st := s_law_made) l_mad c_mad k_mad
  have D_mad : DefAt K mg "_law_made" s_law_made ["_law_stones_here"] f_mad _ := ⟨F_mad, PySem.W.mg_of X G a_mad, F_mad.binds fun _ _ _ _ _ _ us hl => match us, hl with | [_], _ => rfl⟩
  have F_tic := fun_mk (st := s_law_ticks) l_tic c_tic k_tic
  have D_tic : DefAt K mg "_law_ticks" s_law_ticks ["_law_stones_here", "_law_up", "_law_stone", "_law_side"] f_tic _ := ⟨F_tic, PySem.W.mg_of X G a_tic, F_tic.binds fun _ _ _ _ _ _ us hl => match us, hl with | [_, _, _, _], _ => rfl⟩
  have F_lst2 := fun_mk (st := s_law_is_stone) l_lst2 c_lst2 k_lst2
  have D_lst2 : DefAt K mg "_law_is_stone" s_law_is_stone ["_law_value", "_law_size"] f_lst2 _ := ⟨F_lst2, PySem.W.mg_of X G a_lst2, F_lst2.binds fun _ _ _ _ _ _ us hl => match us, hl with | [_, _], _ => rfl⟩
  have F_aft := fun_mk (st := s_law_after) l_aft c_aft k_aft
  have D_aft : DefAt K mg "_law_after" s_law_after ["_law_stones_here", "_law_states", "_law_operation"] f_aft _ := ⟨F_aft, PySem.W.mg_of X G a_aft, F_aft.binds fun _ _ _ _ _ _ us hl => match us, hl with | [_, _, _], _ => rfl⟩
  have F_dee := fun_mk (st := s_law_deed) l_dee c_dee k_dee
  have D_dee : DefAt K mg "_law_deed" s_law_deed ["_law_d", "_law_size", "_law_odd"] f_dee _ := ⟨F_dee, PySem.W.mg_of X G a_dee, F_dee.binds fun _ _ _ _ _ _ us hl => match us, hl with | [_, _, _], _ => rfl⟩
  have F_act := fun_mk (st := s_law_act) l_act c_act k_act
  have D_act : DefAt K mg "_law_act" s_law_act ["_law_live", "_law_operation"] f_act _ := ⟨F_act, PySem.W.mg_of X G a_act, F_act.binds fun _ _ _ _ _ _ us hl => match us, hl with | [_, _], _ => rfl⟩
  have F_ier := fun_mk (st := s_law_is_error) l_ier c_ier k_ier
  have D_ier : DefAt K mg "_law_is_error" s_law_is_error ["_law_due"] f_ier _ := ⟨F_ier, PySem.W.mg_of X G a_ier, F_ier.binds fun _ _ _ _ _ _ us hl => match us, hl with | [_], _ => rfl⟩
  have F_sta := fun_mk (st := s_law_stands) l_sta c_sta k_sta
  have D_sta : DefAt K mg "_law_stands" s_law_stands ["_law_live", "_law_states"] f_sta _ := ⟨F_sta, PySem.W.mg_of X G a_sta, F_sta.binds fun _ _ _ _ _ _ us hl => match us, hl with | [_, _], _ => rfl⟩
  have L : Lims mg := ⟨⟨tP, PySem.W.mg_of X G aP⟩, ⟨tH, PySem.W.mg_of X G aH⟩⟩
  have R : RowC K mg C := ⟨⟨pg, hd, po, sa⟩, nQ, ⟨_, mM, ⟨tM, rfl⟩, gM, by decide⟩, PySem.W.mg_of X G aC, sf, ca, cn, ct, cm⟩
  have M : Mk K C f_ini := ⟨mk, a_ini, i_ini, kc⟩
  have YM : ExcMW mg ⟨xe, xc0, xc1, xc2, xc3, xc4, xc5, xc6, xc7, xc8, xc9, xc10⟩ := ⟨PySem.W.mg_of X G ne, PySem.W.mg_of X G nc0, PySem.W.mg_of X G nc1, PySem.W.mg_of X G nc2, PySem.W.mg_of X G nc3, PySem.W.mg_of X G nc4, PySem.W.mg_of X G nc5, PySem.W.mg_of X G nc6, PySem.W.mg_of X G nc7, PySem.W.mg_of X G nc8, PySem.W.mg_of X G nc9, PySem.W.mg_of X G nc10, PySem.W.mg_none_of X G z_VE⟩
  have x6 : ExcOfW K ⟨xe, xc0, xc1, xc2, xc3, xc4, xc5, xc6, xc7, xc8, xc9, xc10⟩ xc6 6 := ⟨⟨gac6, ggc6, suc6, hdc6, cac6, cn, ct, moc6⟩, ixc6, sxc6, sec6, q0c6, q1c6, q2c6, q3c6, q4c6, q5c6, q6c6, q7c6, q8c6, q9c6, q10c6, vec6⟩
  have x7 : ExcOfW K ⟨xe, xc0, xc1, xc2, xc3, xc4, xc5, xc6, xc7, xc8, xc9, xc10⟩ xc7 7 := ⟨⟨gac7, ggc7, suc7, hdc7, cac7, cn, ct, moc7⟩, ixc7, sxc7, sec7, q0c7, q1c7, q2c7, q3c7, q4c7, q5c7, q6c7, q7c7, q8c7, q9c7, q10c7, vec7⟩
  have x3 : ExcOfW K ⟨xe, xc0, xc1, xc2, xc3, xc4, xc5, xc6, xc7, xc8, xc9, xc10⟩ xc3 3 := ⟨⟨gac3, ggc3, suc3, hdc3, cac3, cn, ct, moc3⟩, ixc3, sxc3, sec3, q0c3, q1c3, q2c3, q3c3, q4c3, q5c3, q6c3, q7c3, q8c3, q9c3, q10c3, vec3⟩
  have x4 : ExcOfW K ⟨xe, xc0, xc1, xc2, xc3, xc4, xc5, xc6, xc7, xc8, xc9, xc10⟩ xc4 4 := ⟨⟨gac4, ggc4, suc4, hdc4, cac4, cn, ct, moc4⟩, ixc4, sxc4, sec4, q0c4, q1c4, q2c4, q3c4, q4c4, q5c4, q6c4, q7c4, q8c4, q9c4, q10c4, vec4⟩
  have R6 : RaiseC K mg "UnknownStone" xc6 := ⟨exc6, PySem.W.mg_of X G nc6, kpc6, suc6, tyc6⟩
  have R7 : RaiseC K mg "InvalidSide" xc7 := ⟨exc7, PySem.W.mg_of X G nc7, kpc7, suc7, tyc7⟩
  have T3 : OexC K xc3 := ⟨⟨_, _, _, _, _, _, _, _, _, _, _, _, _, _, _, xlc3, xrc3⟩, sac3, suc3, tyc3, kpc3⟩
  have S3 : SupX.SupD l.prog K g_i3 xc3 := ⟨⟨_, _, _, g1_i3⟩, ⟨_, g2_i3⟩, g3_i3, g4_i3, g5_i3, opq, tps⟩
  have T4 : OexC K xc4 := ⟨⟨_, _, _, _, _, _, _, _, _, _, _, _, _, _, _, xlc4, xrc4⟩, sac4, suc4, tyc4, kpc4⟩
  have S4 : SupX.SupD l.prog K g_i4 xc4 := ⟨⟨_, _, _, g1_i4⟩, ⟨_, g2_i4⟩, g3_i4, g4_i4, g5_i4, opq, tps⟩
  have hS : ∀ H : Hp, SqT K H S [.str "left", .str "right"] := fun H => .inr ⟨_, itS, nS, lS, rfl, rfl, pS, vS⟩
  have LM : LiveM K w mg := ⟨⟨_, PySem.W.mg_of X G gST⟩, ⟨_, PySem.W.mg_of X G gLY⟩, ⟨_, PySem.W.mg_of X G gTA⟩, PySem.W.mg_none_of X G z_str, dA, esA, nA, PySem.W.mg_of X G gAC, ⟨lAC, kAC, oAC⟩, fun o => match o with | .push _ _ => ⟨_, e1A⟩ | .lift _ => ⟨_, e2A⟩ | .take _ => ⟨_, e3A⟩⟩
  have empty := own cl Pt _ _ eC ddC vsC slC l_law rfl rfl lc lp
  have code := PySem.W.codeHd_of_K X ch
  refine ⟨PySem.W.fnOf "law" "law" (defArgs s_law) (defBody s_law) (defScope s_law) .none kV_law dc_law pm_law an_law (.ref cl) ct_law, [(cl, Pt)], spLaw K [(Pt, qL)], fun p hp => ?_, fun p hp => ?_, fun p hp => ?_, fun s v => .of_eq rfl, fun H a ns hn63 _ hT hS => ⟨a, ns, rfl, hS, hn63, fun p hp => ?_, fun _ => rfl⟩, fun base _ _ hB => ?_⟩
  · obtain rfl : p = (cl, Pt) := by simpa using hp
    exact empty
  · obtain rfl : p = (cl, Pt) := by simpa using hp
    exact np
  · obtain rfl : p = (cl, Pt) := by simpa using hp
    exact code
  · obtain rfl : p = (Pt, qL) := by simpa using hp
    exact LamX.TabS.nil (hT (cl, Pt) (by simp))
  have I3 : ExI l.prog w K mg base "NotStanding" "stone" xc3 := ⟨T3, PySem.W.mg_of X G nc3, ⟨f_i3, _, a_i3, t_i3, ok_nsInit l_i3 c_i3 S3 e1_i3 rfl e2_i3 e3_i3 (PySem.W.mg_none_of X G z_super) sxc3, .all fun us hl => match us, hl with | [_, _], _ => rfl⟩⟩
  have I4 : ExI l.prog w K mg base "NotLying" "stone" xc4 := ⟨T4, PySem.W.mg_of X G nc4, ⟨f_i4, _, a_i4, t_i4, ok_nlInit l_i4 c_i4 S4 e1_i4 rfl e2_i4 e3_i4 (PySem.W.mg_none_of X G z_super) sxc4, .all fun us hl => match us, hl with | [_, _], _ => rfl⟩⟩
  have A_num := D_num.at (ok_num (P := l.prog) (w := w) (base := base) F_num B)
  have A_cst := D_cst.at (ok_checkStoneX F_cst R6 A_num)
  have A_csi := D_csi.at (ok_checkSideX (P := l.prog) (w := w) (base := base) F_csi R7 (PySem.W.mg_of X G aS) hS)
  have A_bes := D_bes.at (ok_beside (P := l.prog) (w := w) (base := base) F_bes B)
  have A_fel := D_fel.at (ok_felled F_fel B A_bes)
  have A_iss := D_iss.at (ok_isStone F_iss B L A_num)
  have G_ini := ok_init F_ini B R A_iss
  have G_len := toR (ok_len (P := l.prog) (w := w) (base := base) F_len B R) b_len
  have O_get := ok_get (P := l.prog) (w := w) (base := base) F_get R
  have SL : Sign K C "__len__" f_len := ⟨a_len, i_len⟩
  have cL : ClsL K D := ⟨⟨pgD, hdD, poD, saD⟩, nD0, nD1, nD2, nD3, nD4, nD5⟩
  have EL : ExcL l.prog w K mg base ⟨xc6, xc7, xc3, xc4⟩ := ⟨I3, I4⟩
  have A_iop := D_iop.at (ok_isOpW (P := l.prog) (base := base) F_iop B LM)
  have A_swi := D_swi.at (ok_stonesWith (P := l.prog) (w := w) (base := base) F_swi B)
  have A_mar := D_mar.at (ok_mark (P := l.prog) (w := w) (base := base) F_mar B)
  have A_pus := D_pus.at (ok_pushedX F_pus LM EL A_csi A_fel A_mar)
  have A_lif := D_lif.at (ok_liftedX F_lif B LM EL A_swi A_mar)
  have A_tkn := D_tkn.at (ok_takenX F_tkn LM EL A_mar)
  have A_exe := D_exe.at (ok_executedX F_exe B A_cst A_pus A_lif A_tkn)
  have O_lin := ok_lInit F_lin B R cL LM SL G_len P_get O_get b_get
  have O_lco := ok_conds (P := l.prog) (w := w) (mg := mg) (base := base) F_lco cL
  have O_lha := ok_has F_lha B LM cL A_num ⟨a_lco, i_lco, k_lco⟩ O_lco b_lco
  have O_lln := ok_lLen F_lln B LM cL A_swi ⟨a_lco, i_lco, k_lco⟩ O_lco b_lco
  have O_lst := ok_standing F_lst LM cL A_swi ⟨a_lco, i_lco, k_lco⟩ O_lco b_lco
  have O_lly := ok_lying F_lly LM cL A_swi ⟨a_lco, i_lco, k_lco⟩ O_lco b_lco
  have O_lhi := ok_history (P := l.prog) (w := w) (mg := mg) (base := base) F_lhi cL
  have G_lap := ok_applyX F_lap B cL A_iop A_exe
  have O_lpu := ok_lPushX F_lpu cL ⟨a_lap, i_lap, k_lap⟩ G_lap
  have O_lli := ok_lLiftX F_lli cL ⟨a_lap, i_lap, k_lap⟩ G_lap
  have O_ltk := ok_lTakeX F_ltk cL ⟨a_lap, i_lap, k_lap⟩ G_lap
  have A_dic := D_dic.at (ok_dice (P := l.prog) (w := w) (base := base) F_dic B)
  have A_nex := D_nex.at (ok_next (P := l.prog) (w := w) (base := base) F_nex B)
  have A_lik := ok_like (P := l.prog) (w := w) (base := base) D_lik B (PySem.W.mg_none_of X G z_str) 2
  have A_pic := D_pic.at (ok_pick F_pic B A_nex)
  have A_sto := D_sto.at (ok_stones F_sto B A_nex)
  have G_add := toR (ok_add F_add B R M G_ini) b_add
  have A_mad := D_mad.at (ok_made F_mad B R M G_ini G_add ⟨a_add, i_add⟩)
  have A_tic := D_tic.at (ok_ticksW (P := l.prog) (w := w) (mg := mg) (base := base) F_tic)
  have A_ist := D_lst2.at (ok_isStoneW (P := l.prog) (w := w) (base := base) F_lst2 B)
  have A_aft := D_aft.at (ok_afterW F_aft B A_ist A_tic)
  have A_dee := D_dee.at (ok_deed F_dee B A_nex A_pic)
  have A_act := D_act.at (ok_actX F_act cL ⟨a_lpu, i_lpu, k_lpu⟩ O_lpu b_lpu ⟨a_lli, i_lli, k_lli⟩ O_lli b_lli ⟨a_ltk, i_ltk, k_ltk⟩ O_ltk b_ltk)
  have A_ier := D_ier.at (ok_isErr (P := l.prog) (w := w) (base := base) F_ier B)
  have A_sta := D_sta.at (ok_stands F_sta B cL A_lik P_lst O_lst b_lst P_lly O_lly b_lly ⟨a_lln, i_lln⟩ (toR O_lln b_lln) a_lha i_lha (toR O_lha b_lha))
  have O_lun := ok_undo (P := l.prog) (w := w) (mg := mg) (base := base) F_lun cL
  have O_lre := ok_redo (P := l.prog) (w := w) (base := base) F_lre B cL
  have F_rep := fun_mk (st := s_LiveRow_replay) l_rep c_rep k_rep
  have b_rep := F_rep.binds (ps := ["cls", "row", "operations"]) fun _ _ _ _ _ _ us hl => match us, hl with | [_, _, _], _ => rfl
  have BM : BMeth K D "apply" f_lap := ⟨⟨a_lap, i_lap, k_lap⟩, bm1lap, bm2lap, by decide, bm4lap⟩
  have G_rep := toR (ok_replay (P := l.prog) (w := w) (mg := mg) (base := base) F_rep cL ⟨mkD, a_lin, i_lin, kcD⟩ O_lin b_lin BM G_lap) b_rep
  exact ok_law B cL (PySem.W.mg_of X G aD) ⟨mkD, a_lin, i_lin, kcD⟩ O_lin b_lin P_lhi O_lhi b_lhi ⟨a_lun, i_lun, k_lun⟩ O_lun b_lun ⟨a_lre, i_lre, k_lre⟩ O_lre b_lre ⟨cr1D, cr2D⟩ ⟨m1_rep, ⟨_, m2_rep⟩, m3_rep⟩ G_rep A_dic A_nex A_sto A_mad A_dee A_aft A_lik A_ier A_sta A_act YM x6 x7 x3 x4 l_law c_law
    (PySem.W.mg_of X G a_tol) k_tol l_tol c_tol D_tol.b (hB (cl, Pt) (by simp)) (by simp) (fun p hp _ => by
      obtain rfl : p = (Pt, qL) := by simpa using hp
      rfl)
theorem walk {l : PySem.W.OpenLaw} {q : Program} {loose : List Str} {XP : (Str → Option Value) → Heap → Prop} {YP : World → Heap → Prop} {d : DefRec} {K : Params → PySem.W.Frag} (hn : l.most = some 63) (hdf : d.params.defaults = []) (hrec : ((recsOf q).any fun e => e.name == d.name) = true)
    (hY : ∀ (w : World) (h : Heap), YP w h → (K w.params).In h)
    (F : ∀ (w : World) (mg : Str → Option Value) (fa : Addr) (h : Heap), (K w.params).In h → h.Ns mainGlobals mg → mg d.name = some (.ref fa) → LamX.OwnTab (K w.params) fa h → LamX.LawAtS l w (K w.params) CX0 10 63 "_law_script" mg fa h) :
    PySem.W.WalkO q loose XP YP l.row.toRowW d [] (fun f vs => PySem.call f vs) :=
  LamX.walk_ofOwn (n := 63) (k := 10) (x := "_law_script") (CX := fun _ => CX0) hn (by decide) hdf ⟨rfl, by decide, by decide⟩ hrec hY (fun w mg fa h _ => F w mg fa h) fun _ _ _ _ _ z => z
end RD
end
open PySem PySem.W PyProof.Rows
set_option maxRecDepth 100000 in
set_option maxHeartbeats 0 in
theorem PySem.Challenge.cw_rowdominoes_k42_undo_and_redo_holds : PySem.Challenge.rw_rowdominoes_k42_undo_and_redo.Holds := by
  w_on; o_law; k_head; (case hw => w_witness2)
  k_fill
  refine RD.walk (l := PySem.Challenge.rw_rowdominoes_k42_undo_and_redo) rfl rfl ?hrec (fun w h Y => PySem.W.km_in_of Y) ?F
  case hrec => decide +kernel
  case F =>
    intro w mg fa h KX G hmg own
    refine' RD.all_mk KX G hmg own ?aC ?a_ini ?i_ini ?l_ini ?c_ini ?k_ini ?a_len ?i_len ?l_len ?c_len ?k_len ?a_add ?i_add ?l_add ?c_add ?k_add ?pa_get ?pb_get ?pc_get ?pd_get ?l_get ?c_get ?k_get ?aD ?pgD ?hdD ?poD ?saD ?mkD ?kcD ?nD0 ?nD1 ?nD2 ?nD3 ?nD4 ?nD5 ?a_lin ?i_lin ?l_lin ?c_lin ?k_lin ?a_lco ?i_lco ?l_lco ?c_lco ?k_lco ?a_lha ?i_lha ?l_lha ?c_lha ?k_lha ?a_lln ?i_lln ?l_lln ?c_lln ?k_lln ?pa_lst ?pb_lst ?pc_lst ?pd_lst ?l_lst ?c_lst ?k_lst ?pa_lly ?pb_lly ?pc_lly ?pd_lly ?l_lly ?c_lly ?k_lly ?pa_lhi ?pb_lhi ?pc_lhi ?pd_lhi ?l_lhi ?c_lhi ?k_lhi ?a_lap ?i_lap ?l_lap ?c_lap ?k_lap ?a_lpu ?i_lpu ?l_lpu ?c_lpu ?k_lpu ?a_lli ?i_lli ?l_lli ?c_lli ?k_lli ?a_ltk ?i_ltk ?l_ltk ?c_ltk ?k_ltk ?a_lun ?i_lun ?l_lun ?c_lun ?k_lun ?a_lre ?i_lre ?l_lre ?c_lre ?k_lre ?a_num ?l_num ?c_num ?k_num ?a_cst ?l_cst ?c_cst ?k_cst ?a_csi ?l_csi ?c_csi ?k_csi ?a_bes ?l_bes ?c_bes ?k_bes ?a_fel ?l_fel ?c_fel ?k_fel ?a_iss ?l_iss ?c_iss ?k_iss ?a_iop ?l_iop ?c_iop ?k_iop ?a_swi ?l_swi ?c_swi ?k_swi ?a_mar ?l_mar ?c_mar ?k_mar ?a_exe ?l_exe ?c_exe ?k_exe ?a_pus ?l_pus ?c_pus ?k_pus ?a_lif ?l_lif ?c_lif ?k_lif ?a_tkn ?l_tkn ?c_tkn ?k_tkn ?a_dic ?l_dic ?c_dic ?k_dic ?a_nex ?l_nex ?c_nex ?k_nex ?a_lik ?l_lik ?c_lik ?k_lik ?a_pic ?l_pic ?c_pic ?k_pic ?a_tol ?l_tol ?c_tol ?k_tol ?a_sto ?l_sto ?c_sto ?k_sto ?a_mad ?l_mad ?c_mad ?k_mad ?a_tic ?l_tic ?c_tic ?k_tic ?a_lst2 ?l_lst2 ?c_lst2 ?k_lst2 ?a_aft ?l_aft ?c_aft ?k_aft ?a_dee ?l_dee ?c_dee ?k_dee ?a_act ?l_act ?c_act ?k_act ?a_ier ?l_ier ?c_ier ?k_ier ?a_sta ?l_sta ?c_sta ?k_sta ?a_law ?l_law ?c_law ?k_law ?lc ?lp ?np ?ch ?z_isinstance ?z_int ?z_bool ?z_len ?z_tuple ?z_list ?z_range ?z_enumerate ?z_abs ?z_max ?z_min ?z_sorted ?z_str ?z_super ?z_VE ?ne ?nc0 ?nc1 ?nc2 ?nc3 ?nc4 ?nc5 ?nc6 ?nc7 ?nc8 ?nc9 ?nc10 ?gac6 ?ggc6 ?suc6 ?hdc6 ?cac6 ?moc6 ?ixc6 ?sxc6 ?sec6 ?q0c6 ?q1c6 ?q2c6 ?q3c6 ?q4c6 ?q5c6 ?q6c6 ?q7c6 ?q8c6 ?q9c6 ?q10c6 ?vec6 ?kpc6 ?tyc6 ?gac7 ?ggc7 ?suc7 ?hdc7 ?cac7 ?moc7 ?ixc7 ?sxc7 ?sec7 ?q0c7 ?q1c7 ?q2c7 ?q3c7 ?q4c7 ?q5c7 ?q6c7 ?q7c7 ?q8c7 ?q9c7 ?q10c7 ?vec7 ?kpc7 ?tyc7 ?gac3 ?ggc3 ?suc3 ?hdc3 ?cac3 ?moc3 ?ixc3 ?sxc3 ?sec3 ?q0c3 ?q1c3 ?q2c3 ?q3c3 ?q4c3 ?q5c3 ?q6c3 ?q7c3 ?q8c3 ?q9c3 ?q10c3 ?vec3 ?kpc3 ?tyc3 ?gac4 ?ggc4 ?suc4 ?hdc4 ?cac4 ?moc4 ?ixc4 ?sxc4 ?sec4 ?q0c4 ?q1c4 ?q2c4 ?q3c4 ?q4c4 ?q5c4 ?q6c4 ?q7c4 ?q8c4 ?q9c4 ?q10c4 ?vec4 ?kpc4 ?tyc4 ?exc6 ?exc7 ?opq ?tps ?xlc3 ?xrc3 ?sac3 ?a_i3 ?t_i3 ?l_i3 ?c_i3 ?g1_i3 ?g2_i3 ?g3_i3 ?g4_i3 ?g5_i3 ?e1_i3 ?e2_i3 ?e3_i3 ?xlc4 ?xrc4 ?sac4 ?a_i4 ?t_i4 ?l_i4 ?c_i4 ?g1_i4 ?g2_i4 ?g3_i4 ?g4_i4 ?g5_i4 ?e1_i4 ?e2_i4 ?e3_i4 ?aS ?lS ?pS ?vS ?aP ?aH ?pg ?hd ?po ?sa ?mk ?kc ?nQ ?mM ?gM ?sf ?ca ?cn ?ct ?cm ?gST ?gLY ?gTA ?gAC ?lAC ?kAC ?oAC ?e1A ?e2A ?e3A ?m1_rep ?m2_rep ?m3_rep ?l_rep ?c_rep ?k_rep ?cr1D ?cr2D ?bm1lap ?bm2lap ?bm4lap
    (case aC => k_is)
    (case a_ini => k_is)
    (case i_ini => k_is)
    (case l_ini => k_is)
    (case c_ini => k_is)
    (case k_ini => k_is)
    (case a_len => k_is)
    (case i_len => k_is)
    (case l_len => k_is)
    (case c_len => k_is)
    (case k_len => k_is)
    (case a_add => k_is)
    (case i_add => k_is)
    (case l_add => k_is)
    (case c_add => k_is)
    (case k_add => k_is)
    (case pa_get => k_is)
    (case pb_get => k_is)
    (case pc_get => k_is)
    (case pd_get => k_is)
    (case l_get => k_is)
    (case c_get => k_is)
    (case k_get => k_is)
    (case aD => k_is)
    (case pgD => k_is)
    (case hdD => k_is)
    (case poD => k_is)
    (case saD => k_is)
    (case mkD => k_is)
    (case kcD => k_is)
    (case nD0 => k_is)
    (case nD1 => k_is)
    (case nD2 => k_is)
    (case nD3 => k_is)
    (case nD4 => k_is)
    (case nD5 => k_is)
    (case a_lin => k_is)
    (case i_lin => k_is)
    (case l_lin => k_is)
    (case c_lin => k_is)
    (case k_lin => k_is)
    (case a_lco => k_is)
    (case i_lco => k_is)
    (case l_lco => k_is)
    (case c_lco => k_is)
    (case k_lco => k_is)
    (case a_lha => k_is)
    (case i_lha => k_is)
    (case l_lha => k_is)
    (case c_lha => k_is)
    (case k_lha => k_is)
    (case a_lln => k_is)
    (case i_lln => k_is)
    (case l_lln => k_is)
    (case c_lln => k_is)
    (case k_lln => k_is)
    (case pa_lst => k_is)
    (case pb_lst => k_is)
    (case pc_lst => k_is)
    (case pd_lst => k_is)
    (case l_lst => k_is)
    (case c_lst => k_is)
    (case k_lst => k_is)
    (case pa_lly => k_is)
    (case pb_lly => k_is)
    (case pc_lly => k_is)
    (case pd_lly => k_is)
    (case l_lly => k_is)
    (case c_lly => k_is)
    (case k_lly => k_is)
    (case pa_lhi => k_is)
    (case pb_lhi => k_is)
    (case pc_lhi => k_is)
    (case pd_lhi => k_is)
    (case l_lhi => k_is)
    (case c_lhi => k_is)
    (case k_lhi => k_is)
    (case a_lap => k_is)
    (case i_lap => k_is)
    (case l_lap => k_is)
    (case c_lap => k_is)
    (case k_lap => k_is)
    (case a_lpu => k_is)
    (case i_lpu => k_is)
    (case l_lpu => k_is)
    (case c_lpu => k_is)
    (case k_lpu => k_is)
    (case a_lli => k_is)
    (case i_lli => k_is)
    (case l_lli => k_is)
    (case c_lli => k_is)
    (case k_lli => k_is)
    (case a_ltk => k_is)
    (case i_ltk => k_is)
    (case l_ltk => k_is)
    (case c_ltk => k_is)
    (case k_ltk => k_is)
    (case a_lun => k_is)
    (case i_lun => k_is)
    (case l_lun => k_is)
    (case c_lun => k_is)
    (case k_lun => k_is)
    (case a_lre => k_is)
    (case i_lre => k_is)
    (case l_lre => k_is)
    (case c_lre => k_is)
    (case k_lre => k_is)
    (case a_num => k_is)
    (case l_num => k_is)
    (case c_num => k_is)
    (case k_num => k_is)
    (case a_cst => k_is)
    (case l_cst => k_is)
    (case c_cst => k_is)
    (case k_cst => k_is)
    (case a_csi => k_is)
    (case l_csi => k_is)
    (case c_csi => k_is)
    (case k_csi => k_is)
    (case a_bes => k_is)
    (case l_bes => k_is)
    (case c_bes => k_is)
    (case k_bes => k_is)
    (case a_fel => k_is)
    (case l_fel => k_is)
    (case c_fel => k_is)
    (case k_fel => k_is)
    (case a_iss => k_is)
    (case l_iss => k_is)
    (case c_iss => k_is)
    (case k_iss => k_is)
    (case a_iop => k_is)
    (case l_iop => k_is)
    (case c_iop => k_is)
    (case k_iop => k_is)
    (case a_swi => k_is)
    (case l_swi => k_is)
    (case c_swi => k_is)
    (case k_swi => k_is)
    (case a_mar => k_is)
    (case l_mar => k_is)
    (case c_mar => k_is)
    (case k_mar => k_is)
    (case a_exe => k_is)
    (case l_exe => k_is)
    (case c_exe => k_is)
    (case k_exe => k_is)
    (case a_pus => k_is)
    (case l_pus => k_is)
    (case c_pus => k_is)
    (case k_pus => k_is)
    (case a_lif => k_is)
    (case l_lif => k_is)
    (case c_lif => k_is)
    (case k_lif => k_is)
    (case a_tkn => k_is)
    (case l_tkn => k_is)
    (case c_tkn => k_is)
    (case k_tkn => k_is)
    (case a_dic => k_is)
    (case l_dic => k_is)
    (case c_dic => k_is)
    (case k_dic => k_is)
    (case a_nex => k_is)
    (case l_nex => k_is)
    (case c_nex => k_is)
    (case k_nex => k_is)
    (case a_lik => k_is)
    (case l_lik => k_is)
    (case c_lik => k_is)
    (case k_lik => k_is)
    (case a_pic => k_is)
    (case l_pic => k_is)
    (case c_pic => k_is)
    (case k_pic => k_is)
    (case a_tol => k_is)
    (case l_tol => k_is)
    (case c_tol => k_is)
    (case k_tol => k_is)
    (case a_sto => k_is)
    (case l_sto => k_is)
    (case c_sto => k_is)
    (case k_sto => k_is)
    (case a_mad => k_is)
    (case l_mad => k_is)
    (case c_mad => k_is)
    (case k_mad => k_is)
    (case a_tic => k_is)
    (case l_tic => k_is)
    (case c_tic => k_is)
    (case k_tic => k_is)
    (case a_lst2 => k_is)
    (case l_lst2 => k_is)
    (case c_lst2 => k_is)
    (case k_lst2 => k_is)
    (case a_aft => k_is)
    (case l_aft => k_is)
    (case c_aft => k_is)
    (case k_aft => k_is)
    (case a_dee => k_is)
    (case l_dee => k_is)
    (case c_dee => k_is)
    (case k_dee => k_is)
    (case a_act => k_is)
    (case l_act => k_is)
    (case c_act => k_is)
    (case k_act => k_is)
    (case a_ier => k_is)
    (case l_ier => k_is)
    (case c_ier => k_is)
    (case k_ier => k_is)
    (case a_sta => k_is)
    (case l_sta => k_is)
    (case c_sta => k_is)
    (case k_sta => k_is)
    (case a_law => k_is)
    (case l_law => k_is)
    (case c_law => k_is)
    (case k_law => k_is)
    (case lc => k_is)
    (case lp => exact rfl)
    (case np => first | exact rfl | kernel_rfl | decide +kernel)
    (case ch => first | exact rfl | kernel_rfl | decide +kernel)
    (case z_isinstance => k_is)
    (case z_int => k_is)
    (case z_bool => k_is)
    (case z_len => k_is)
    (case z_tuple => k_is)
    (case z_list => k_is)
    (case z_range => k_is)
    (case z_enumerate => k_is)
    (case z_abs => k_is)
    (case z_max => k_is)
    (case z_min => k_is)
    (case z_sorted => k_is)
    (case z_str => k_is)
    (case z_super => k_is)
    (case z_VE => k_is)
    (case ne => k_is)
    (case nc0 => k_is)
    (case nc1 => k_is)
    (case nc2 => k_is)
    (case nc3 => k_is)
    (case nc4 => k_is)
    (case nc5 => k_is)
    (case nc6 => k_is)
    (case nc7 => k_is)
    (case nc8 => k_is)
    (case nc9 => k_is)
    (case nc10 => k_is)
    (case gac6 => k_is)
    (case ggc6 => k_is)
    (case suc6 => k_is)
    (case hdc6 => k_is)
    (case cac6 => k_is)
    (case moc6 => k_is)
    (case ixc6 => k_is)
    (case sxc6 => k_is)
    (case sec6 => first | exact rfl | kernel_rfl | decide +kernel)
    (case q0c6 => first | exact rfl | kernel_rfl | decide +kernel)
    (case q1c6 => first | exact rfl | kernel_rfl | decide +kernel)
    (case q2c6 => first | exact rfl | kernel_rfl | decide +kernel)
    (case q3c6 => first | exact rfl | kernel_rfl | decide +kernel)
    (case q4c6 => first | exact rfl | kernel_rfl | decide +kernel)
    (case q5c6 => first | exact rfl | kernel_rfl | decide +kernel)
    (case q6c6 => first | exact rfl | kernel_rfl | decide +kernel)
    (case q7c6 => first | exact rfl | kernel_rfl | decide +kernel)
    (case q8c6 => first | exact rfl | kernel_rfl | decide +kernel)
    (case q9c6 => first | exact rfl | kernel_rfl | decide +kernel)
    (case q10c6 => first | exact rfl | kernel_rfl | decide +kernel)
    (case vec6 => first | exact rfl | kernel_rfl | decide +kernel)
    (case kpc6 => k_is)
    (case tyc6 => k_is)
    (case gac7 => k_is)
    (case ggc7 => k_is)
    (case suc7 => k_is)
    (case hdc7 => k_is)
    (case cac7 => k_is)
    (case moc7 => k_is)
    (case ixc7 => k_is)
    (case sxc7 => k_is)
    (case sec7 => first | exact rfl | kernel_rfl | decide +kernel)
    (case q0c7 => first | exact rfl | kernel_rfl | decide +kernel)
    (case q1c7 => first | exact rfl | kernel_rfl | decide +kernel)
    (case q2c7 => first | exact rfl | kernel_rfl | decide +kernel)
    (case q3c7 => first | exact rfl | kernel_rfl | decide +kernel)
    (case q4c7 => first | exact rfl | kernel_rfl | decide +kernel)
    (case q5c7 => first | exact rfl | kernel_rfl | decide +kernel)
    (case q6c7 => first | exact rfl | kernel_rfl | decide +kernel)
    (case q7c7 => first | exact rfl | kernel_rfl | decide +kernel)
    (case q8c7 => first | exact rfl | kernel_rfl | decide +kernel)
    (case q9c7 => first | exact rfl | kernel_rfl | decide +kernel)
    (case q10c7 => first | exact rfl | kernel_rfl | decide +kernel)
    (case vec7 => first | exact rfl | kernel_rfl | decide +kernel)
    (case kpc7 => k_is)
    (case tyc7 => k_is)
    (case gac3 => k_is)
    (case ggc3 => k_is)
    (case suc3 => k_is)
    (case hdc3 => k_is)
    (case cac3 => k_is)
    (case moc3 => k_is)
    (case ixc3 => k_is)
    (case sxc3 => k_is)
    (case sec3 => first | exact rfl | kernel_rfl | decide +kernel)
    (case q0c3 => first | exact rfl | kernel_rfl | decide +kernel)
    (case q1c3 => first | exact rfl | kernel_rfl | decide +kernel)
    (case q2c3 => first | exact rfl | kernel_rfl | decide +kernel)
    (case q3c3 => first | exact rfl | kernel_rfl | decide +kernel)
    (case q4c3 => first | exact rfl | kernel_rfl | decide +kernel)
    (case q5c3 => first | exact rfl | kernel_rfl | decide +kernel)
    (case q6c3 => first | exact rfl | kernel_rfl | decide +kernel)
    (case q7c3 => first | exact rfl | kernel_rfl | decide +kernel)
    (case q8c3 => first | exact rfl | kernel_rfl | decide +kernel)
    (case q9c3 => first | exact rfl | kernel_rfl | decide +kernel)
    (case q10c3 => first | exact rfl | kernel_rfl | decide +kernel)
    (case vec3 => first | exact rfl | kernel_rfl | decide +kernel)
    (case kpc3 => k_is)
    (case tyc3 => k_is)
    (case gac4 => k_is)
    (case ggc4 => k_is)
    (case suc4 => k_is)
    (case hdc4 => k_is)
    (case cac4 => k_is)
    (case moc4 => k_is)
    (case ixc4 => k_is)
    (case sxc4 => k_is)
    (case sec4 => first | exact rfl | kernel_rfl | decide +kernel)
    (case q0c4 => first | exact rfl | kernel_rfl | decide +kernel)
    (case q1c4 => first | exact rfl | kernel_rfl | decide +kernel)
    (case q2c4 => first | exact rfl | kernel_rfl | decide +kernel)
    (case q3c4 => first | exact rfl | kernel_rfl | decide +kernel)
    (case q4c4 => first | exact rfl | kernel_rfl | decide +kernel)
    (case q5c4 => first | exact rfl | kernel_rfl | decide +kernel)
    (case q6c4 => first | exact rfl | kernel_rfl | decide +kernel)
    (case q7c4 => first | exact rfl | kernel_rfl | decide +kernel)
    (case q8c4 => first | exact rfl | kernel_rfl | decide +kernel)
    (case q9c4 => first | exact rfl | kernel_rfl | decide +kernel)
    (case q10c4 => first | exact rfl | kernel_rfl | decide +kernel)
    (case vec4 => first | exact rfl | kernel_rfl | decide +kernel)
    (case kpc4 => k_is)
    (case tyc4 => k_is)
    (case exc6 => k_exc)
    (case exc7 => k_exc)
    (case opq => first | exact rfl | kernel_rfl | decide +kernel | k_is)
    (case tps => first | exact rfl | decide +kernel)
    (case xlc3 => k_is)
    (case xrc3 => first | exact rfl | decide +kernel)
    (case sac3 => k_is)
    (case a_i3 => k_is)
    (case t_i3 => k_is)
    (case l_i3 => k_is)
    (case c_i3 => k_is)
    (case g1_i3 => k_is)
    (case g2_i3 => k_is)
    (case g3_i3 => first | exact rfl | kernel_rfl | decide +kernel | k_is)
    (case g4_i3 => first | exact rfl | kernel_rfl | decide +kernel | k_is)
    (case g5_i3 => k_is)
    (case e1_i3 => k_is)
    (case e2_i3 => first | exact rfl | decide +kernel)
    (case e3_i3 => first | exact rfl | decide +kernel)
    (case xlc4 => k_is)
    (case xrc4 => first | exact rfl | decide +kernel)
    (case sac4 => k_is)
    (case a_i4 => k_is)
    (case t_i4 => k_is)
    (case l_i4 => k_is)
    (case c_i4 => k_is)
    (case g1_i4 => k_is)
    (case g2_i4 => k_is)
    (case g3_i4 => first | exact rfl | kernel_rfl | decide +kernel | k_is)
    (case g4_i4 => first | exact rfl | kernel_rfl | decide +kernel | k_is)
    (case g5_i4 => k_is)
    (case e1_i4 => k_is)
    (case e2_i4 => first | exact rfl | decide +kernel)
    (case e3_i4 => first | exact rfl | decide +kernel)
    (case aS => k_is)
    (case lS => k_is)
    (case pS => decide)
    (case vS => exact .cons ⟨_, rfl⟩ (.cons ⟨_, rfl⟩ .nil))
    (case aP => k_is)
    (case aH => k_is)
    (case pg => k_is)
    (case hd => k_is)
    (case po => k_is)
    (case sa => k_is)
    (case mk => k_is)
    (case kc => k_is)
    (case nQ => k_is)
    (case mM => k_is)
    (case gM => k_is)
    (case sf => k_is)
    (case ca => k_is)
    (case cn => k_is)
    (case ct => k_is)
    (case cm => k_is)
    (case gST => k_is)
    (case gLY => k_is)
    (case gTA => k_is)
    (case gAC => k_is)
    (case lAC => k_is)
    (case kAC => k_keys)
    (case oAC => decide)
    (case e1A => k_is)
    (case e2A => k_is)
    (case e3A => k_is)
    (case m1_rep => k_is)
    (case m2_rep => k_is)
    (case m3_rep => k_is)
    (case l_rep => k_is)
    (case c_rep => k_is)
    (case k_rep => k_is)
    (case cr1D => k_is)
    (case cr2D => k_is)
    (case bm1lap => k_is)
    (case bm2lap => k_is)
    (case bm4lap => k_is)
#print axioms PySem.Challenge.cw_rowdominoes_k42_undo_and_redo_holds
